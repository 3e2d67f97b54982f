/- One box against one box. No statement is proved here. -/
import Derived.Test.YtcfmjpnffembpaaGreatZU10
namespace Go.Proofs.YtcfmjpnffembpaaGreat
open Go.ChangeShapes Go.WideShapes Go.ChangeAt Go.RowKit
open List renaming drop → ka3, drop_zero → kc9, getD → ka1, length → ka0, length_append → ka6, length_cons → kb0, length_drop → kb3, length_map → kc5, length_nil → kb1, length_replicate → kb4, length_reverse → kc0, length_set → kb8, length_take → kb2, take → ka5, take_of_length_le → kb7
open Nat renaming le_of_ble_eq_true → ka4, mul_one → kc6, not_lt_zero → kd5
set_option linter.unusedVariables false
set_option linter.unusedSimpArgs false
set_option maxHeartbeats 4000000
set_option maxRecDepth 100000
theorem iY {p : Prop} (h : p := by first | omega | (simp only [qC, qB, ka6, kb0, kb1, kb2, kb3] <;> omega)) : p := h
theorem eL {p : Prop} (h : p := by first | omega | (simp only [qC, qB, qQ, ka6, kb0, kb1, kb2, kb3, kb4, kb8, kc5, kc0, kc6] <;> omega) | rfl) : p := h
abbrev dT (xs : List Bx) : BC := .ds [iD (kQ xs 0), D.sl (dI .i64 (kZ xs 0)) (kX xs 0), D.sl (kI (kL xs 0)) (ka0 (kL xs 0)), D.sl (dI .i64 (qA xs 0)) (k8 xs 0)]
theorem u83 (xs : List Bx) (n : Nat) (hn : ka0 xs = n) (hq : n = 1) (hW : BsW xs) (hv : cQ xs = true) : Fun 15 [.c (.d (D.sl (kE xs) n))] (kH []) 0 (.tup [.c (.d (D.sl (kE (b7 xs)) (ka0 (b7 xs)))), iE 0]) (kH []) 0 := by
 refine Fun.mk (n := 54) Tryz.func15 rfl rfl (ka4 rfl) ?_
 intro cx hcx
 refine kK [.no, .no] True [(0, kG (kE xs) n)] [] 0 trivial ?_
 refine AW.seq ?_
 have hx1 : cQ xs = true := hv
 refine kO [.no, .call [] (bV true) [] 0 [] none, .no] (Fun 19 [.c (.d (D.sl (kE xs) n))] (kH []) 0 (bV true) (kH []) 0) [(0, kG (kE xs) n), (12, bV false)] (by have h0 := (eI xs n zo zo (qD : BsW xs)); rw [hx1] at h0; exact h0) ?_
 refine q8 ?_
 refine kO [.no] True [(0, kG (kE xs) n), (4, nV)] trivial ?_
 refine AW.seq ?_
 refine kO [.no, .no, .no] True [(0, kG (kE xs) n), (4, nV), (13, kG (kE xs) n), (14, uV n), (15, iV 0)] trivial ?_
 refine AW.block ?_
 refine AW.rounds 2 ?_
 refine AWr.s ?_
 refine kK [.b true] (((0 : Int) < (n : Int))) [(0, kG (kE xs) n), (4, nV), (13, kG (kE xs) n), (14, uV n), (15, iV 0), (16, bV true)] [] 0 zo ?_
 refine AW.seq ?_
 refine vB ?_
 refine AW.seq ?_
 refine AW.block ?_
 obtain ⟨hx2, hx3, hx4, hx5, hx6⟩ := BsW.at (qD : BsW xs) (0)
 refine kK [.no, .n 0, .ds [iD (kQ xs 0), dl (kZ xs 0) (kX xs 0), D.sl (kI (kL xs 0)) (ka0 (kL xs 0)), dl (qA xs 0) (k8 xs 0)], .no, .no, .no] ((kN 0) ∧ ((0 : Nat) < n) ∧ (ka5 4 (ka3 0 (kE xs)) = [iD (kQ xs 0), dl (kZ xs 0) (kX xs 0), D.sl (kI (kL xs 0)) (ka0 (kL xs 0)), dl (qA xs 0) (k8 xs 0)]) ∧ (([iD (kQ xs 0), dl (kZ xs 0) (kX xs 0), D.sl (kI (kL xs 0)) (ka0 (kL xs 0)), dl (qA xs 0) (k8 xs 0)] : List D).length = 4)) [(0, kG (kE xs) n), (4, nV), (5, iV 0), (6, rV 0 0), (13, kG (kE xs) n), (14, uV n), (15, iV 0)] [(0, some (59, (dT xs)))] 1 ⟨rfl, zo, (yV (i := 0) iY), rfl⟩ ?_
 refine kO [.no] True [(0, kG (kE xs) n), (4, nV), (5, iV 0), (6, rV 0 0), (7, bV true), (13, kG (kE xs) n), (14, uV n), (15, iV 0)] trivial ?_
 refine AW.seq ?_
 refine kO [.no, .no, .no] True [(0, kG (kE xs) n), (4, nV), (5, iV 0), (6, rV 0 0), (7, bV true), (13, kG (kE xs) n), (14, uV n), (15, iV 0), (20, kG (kE xs) n), (21, uV n), (22, iV 0)] trivial ?_
 refine AW.block ?_
 refine AW.rounds 2 ?_
 refine AWr.s ?_
 refine kK [.b true] (((0 : Int) < (n : Int))) [(0, kG (kE xs) n), (4, nV), (5, iV 0), (6, rV 0 0), (7, bV true), (13, kG (kE xs) n), (14, uV n), (15, iV 0), (20, kG (kE xs) n), (21, uV n), (22, iV 0), (23, bV true)] [(0, some (59, (dT xs)))] 1 zo ?_
 refine AW.seq ?_
 refine vB ?_
 refine AW.seq ?_
 refine AW.block ?_
 refine kK [.no, .n 0, .ds [iD (kQ xs 0), dl (kZ xs 0) (kX xs 0), D.sl (kI (kL xs 0)) (ka0 (kL xs 0)), dl (qA xs 0) (k8 xs 0)], .no, .no, .no] ((kN 0) ∧ ((0 : Nat) < n) ∧ (ka5 4 (ka3 0 (kE xs)) = [iD (kQ xs 0), dl (kZ xs 0) (kX xs 0), D.sl (kI (kL xs 0)) (ka0 (kL xs 0)), dl (qA xs 0) (k8 xs 0)]) ∧ (([iD (kQ xs 0), dl (kZ xs 0) (kX xs 0), D.sl (kI (kL xs 0)) (ka0 (kL xs 0)), dl (qA xs 0) (k8 xs 0)] : List D).length = 4)) [(0, kG (kE xs) n), (4, nV), (5, iV 0), (6, rV 0 0), (7, bV true), (8, iV 0), (9, rV 1 0), (13, kG (kE xs) n), (14, uV n), (15, iV 0), (20, kG (kE xs) n), (21, uV n), (22, iV 0)] [(0, some (59, (dT xs))), (1, some (59, (dT xs)))] 2 ⟨rfl, zo, (yV (i := 0) iY), rfl⟩ ?_
 refine kK (.no :: .no :: .b false :: qE 4 []) (¬ ((0 : Int) ≠ 0)) [(0, kG (kE xs) n), (4, nV), (5, iV 0), (6, rV 0 0), (7, bV true), (13, kG (kE xs) n), (14, uV n), (15, iV 0), (20, kG (kE xs) n), (21, uV n), (22, iV 0), (45, bV false)] [(0, some (59, (dT xs)))] 2 zo ?_
 refine q8 ?_
 refine uT [.w, .no] ((-9223372036854775808) ≤ (1 : Int) ∧ (1 : Int) ≤ 9223372036854775807) [(0, kG (kE xs) n), (4, nV), (5, iV 0), (6, rV 0 0), (7, bV true), (13, kG (kE xs) n), (14, uV n), (15, iV 0), (20, kG (kE xs) n), (21, uV n), (22, iV 1)] ⟨by omega, by omega⟩ ?_
 refine AWr.s ?_
 refine kK [.b false] (¬ ((1 : Int) < (n : Int))) [(0, kG (kE xs) n), (4, nV), (5, iV 0), (6, rV 0 0), (7, bV true), (13, kG (kE xs) n), (14, uV n), (15, iV 0), (20, kG (kE xs) n), (21, uV n), (22, iV 1), (23, bV false)] [(0, some (59, (dT xs)))] 2 zo ?_
 refine AW.seq ?_
 refine zf ?_
 refine AW.exit ?_
 refine kK [.no] True [(0, kG (kE xs) n), (4, nV), (6, rV 0 0), (13, kG (kE xs) n), (14, uV n), (15, iV 0), (47, bV true)] [(0, some (59, (dT xs)))] 2 trivial ?_
 refine zt ?_
 refine aH [.no, .no, .no, .ap none 1 [iD (kQ xs 0), dl (kZ xs 0) (kX xs 0), D.sl (kI (kL xs 0)) (ka0 (kL xs 0)), dl (qA xs 0) (k8 xs 0)], .no] (([iD (kQ xs 0), dl (kZ xs 0) (kX xs 0), D.sl (kI (kL xs 0)) (ka0 (kL xs 0)), dl (qA xs 0) (k8 xs 0)].length = 1 * 4) ∧ ((1 : Nat) * 80 ≤ 140737488355328) ∧ (kJ 1) ∧ (kM [iD (kQ xs 0), dl (kZ xs 0) (kX xs 0), D.sl (kI (kL xs 0)) (ka0 (kL xs 0)), dl (qA xs 0) (k8 xs 0)])) [(0, kG (kE xs) n), (4, oV 3 0 1 4), (13, kG (kE xs) n), (14, uV n), (15, iV 0)] [(3, some (59, (dT xs)))] 4 ⟨eL, zo, rfl, rfl⟩ ?_
 refine uT [.w, .no] ((-9223372036854775808) ≤ (1 : Int) ∧ (1 : Int) ≤ 9223372036854775807) [(0, kG (kE xs) n), (4, oV 3 0 1 4), (13, kG (kE xs) n), (14, uV n), (15, iV 1)] ⟨by omega, by omega⟩ ?_
 refine AWr.s ?_
 refine kK [.b false] (¬ ((1 : Int) < (n : Int))) [(0, kG (kE xs) n), (4, oV 3 0 1 4), (13, kG (kE xs) n), (14, uV n), (15, iV 1), (16, bV false)] [(3, some (59, (dT xs)))] 4 zo ?_
 refine AW.seq ?_
 refine zf ?_
 refine AW.exit ?_
 refine kK [.no, .no, .no] True [(2, oV 3 0 1 4), (3, iV 0)] [(3, some (59, (dT xs)))] 4 trivial ?_
 refine AW.freeze 3 (l' := [(2, kG [iD (kQ xs 0), dl (kZ xs 0) (kX xs 0), D.sl (kI (kL xs 0)) (ka0 (kL xs 0)), dl (qA xs 0) (k8 xs 0)] 1), (3, iV 0)]) (g' := []) rfl (FzS.cons rfl (.e (.c (@FzC.own 3 ([iD (kQ xs 0), dl (kZ xs 0) (kX xs 0), D.sl (kI (kL xs 0)) (ka0 (kL xs 0)), dl (qA xs 0) (k8 xs 0)] : List D) 0 (1 : Nat) 4 true ([iD (kQ xs 0), dl (kZ xs 0) (kX xs 0), D.sl (kI (kL xs 0)) (ka0 (kL xs 0)), dl (qA xs 0) (k8 xs 0)] : List D) (by rw [kc9, kb7 (by first | omega | (simp only [qC, qB, qQ, ka6, kb0, kb1, kb2, kb3, kb4, kb8, kc5, kc0, kc6] <;> omega))]) eL))) (FzS.cons rfl (.same _) FzS.nil)) FzG.nil ?_
 obtain ⟨hz1, hz2⟩ := u5x (show ka0 xs = 1 by omega) hv
 refine AW.ret ?_
 exact kA (.inr rfl) [] (P := (((kE (b7 xs)) : List D) = [iD (kQ xs 0), dl (kZ xs 0) (kX xs 0), D.sl (kI (kL xs 0)) (ka0 (kL xs 0)), dl (qA xs 0) (k8 xs 0)]) ∧ (((ka0 (b7 xs)) : Nat) = 1) ∧ (kN 0)) zk ⟨(by first | rfl | (rw [hz1]; rfl) | (rw [hz1]; done) | (rw [hz2]; done) | exact hz2 | exact hz2.symm | omega), (by first | rfl | (rw [hz1]; rfl) | (rw [hz1]; done) | (rw [hz2]; done) | exact hz2 | exact hz2.symm | omega), rfl⟩
theorem u84 (xs : List Bx) (n : Nat) (hn : ka0 xs = n) (hq : n = 0) (hW : BsW xs) : Fun 15 [.c (.d (D.sl (kE xs) n))] (kH []) 0 (.tup [.c (.d (D.sl (kE (b7 xs)) (ka0 (b7 xs)))), iE 0]) (kH []) 0 := by
 refine Fun.mk (n := 54) Tryz.func15 rfl rfl (ka4 rfl) ?_
 intro cx hcx
 refine kK [.no, .no] True [(0, kG (kE xs) n)] [] 0 trivial ?_
 refine AW.seq ?_
 have hx1 : cQ xs = true := u5k zo
 refine kO [.no, .call [] (bV true) [] 0 [] none, .no] (Fun 19 [.c (.d (D.sl (kE xs) n))] (kH []) 0 (bV true) (kH []) 0) [(0, kG (kE xs) n), (12, bV false)] (by have h0 := (eI xs n zo zo (qD : BsW xs)); rw [hx1] at h0; exact h0) ?_
 refine q8 ?_
 refine kO [.no] True [(0, kG (kE xs) n), (4, nV)] trivial ?_
 refine AW.seq ?_
 refine kO [.no, .no, .no] True [(0, kG (kE xs) n), (4, nV), (13, kG (kE xs) n), (14, uV n), (15, iV 0)] trivial ?_
 refine AW.block ?_
 refine AW.rounds 2 ?_
 refine AWr.s ?_
 refine kK [.b false] (¬ ((0 : Int) < (n : Int))) [(0, kG (kE xs) n), (4, nV), (13, kG (kE xs) n), (14, uV n), (15, iV 0), (16, bV false)] [] 0 zo ?_
 refine AW.seq ?_
 refine zf ?_
 refine AW.exit ?_
 refine kK [.no, .no, .no] True [(2, nV), (3, iV 0)] [] 0 trivial ?_
 obtain ⟨hz1, hz2⟩ := u5y (show ka0 xs = 0 by omega)
 refine bG (l' := [(2, kG ([] : List D) 0), (3, iV 0)]) (g' := []) (NlS.cons rfl (.e (.c .nil)) (NlS.cons rfl (.same _) NlS.nil)) NlG.nil ?_
 refine AW.ret ?_
 exact kA (.inr rfl) [] (P := (((kE (b7 xs)) : List D) = ([] : List D)) ∧ (((ka0 (b7 xs)) : Nat) = 0) ∧ (kN 0)) zk ⟨(by first | rfl | (rw [hz1]; rfl) | (rw [hz1]; done) | (rw [hz2]; done) | exact hz2 | exact hz2.symm | omega), (by first | rfl | (rw [hz1]; rfl) | (rw [hz1]; done) | (rw [hz2]; done) | exact hz2 | exact hz2.symm | omega), rfl⟩
theorem iX {p : Prop} (h : p := by first | omega | assumption | simp) : p := h
theorem qS {p : Prop} (h : p := by first | omega | with_reducible assumption | (simp only [qC, qB, ka6, kb0, kb1, kb2, kb3, kb4, kb8] <;> omega) | rfl | assumption) : p := h
theorem s9 {p : Prop} (h : p := by first | rfl | omega | assumption | (simp; done) | (simp; omega)) : p := h
theorem oI {p : Prop} (h : p := by first | exact decide_eq_true (v1w (by omega)) | exact decide_eq_false (by rw [v1x (by omega)]; decide)) : p := h
abbrev bS : BC := .ds [iD 0, D.lit (.slice none 0 0), D.lit (.slice none 0 0), D.lit (.slice none 0 0)]
abbrev bQ (k : Int) (r : List Int) (rn : Nat) (m : List (List Int)) (c : Nat) (s : List Int) (sn : Nat) : BC := .ds [iD k, D.sl (dI .i64 r) rn, D.sl (kI m) c, D.sl (dI .i64 s) sn]
abbrev cB (k2 : Int) (r2 : List Int) (rn2 : Nat) (m2 : List (List Int)) (c2 : Nat) (s2 : List Int) (sn2 : Nat) : BC := .ds [iD k2, D.sl (dI .i64 r2) rn2, D.sl (kI m2) c2, D.sl (dI .i64 s2) sn2]
abbrev mB (k : Int) (k2 : Int) (r : List Int) (rn : Nat) (r2 : List Int) (rn2 : Nat) (o : List (List Int)) (q : Nat) (s : List Int) (sn : Nat) (s2 : List Int) (sn2 : Nat) : BC := .ds [iD (qK k k2), D.sl (dI .i64 (jR (kC r rn) (kC r2 rn2))) (aW (kC r rn) (kC r2 rn2)), D.sl (kI o) q, D.sl (dI .i64 (jR (kC s sn) (kC s2 sn2))) (aW (kC s sn) (kC s2 sn2))]
abbrev tR (k : Int) (k2 : Int) (r : List Int) (rn : Nat) (q : Nat) (s : List Int) (sn : Nat) : BC := .cs [iC (qK k k2), .d (D.sl (dI .i64 r) rn), .own 5 0 q 1 true, .d (D.sl (dI .i64 s) sn)]
theorem u0x (k : Int) (r : List Int) (rn : Nat) (m : List (List Int)) (c : Nat) (s : List Int) (sn : Nat) (k2 : Int) (r2 : List Int) (rn2 : Nat) (m2 : List (List Int)) (c2 : Nat) (s2 : List Int) (sn2 : Nat) (hr : ka0 r = rn * 2) (hs : ka0 s = sn * 2) (hc : ka0 m = c) (h1 : rn ≤ 1000000) (h2 : sn ≤ 1000000) (h3 : c ≤ 1000000) (hW : MsW m) (hr2 : ka0 r2 = rn2 * 2) (hs2 : ka0 s2 = sn2 * 2) (hc2 : ka0 m2 = c2) (h12 : rn2 ≤ 1000000) (h22 : sn2 ≤ 1000000) (h32 : c2 ≤ 1000000) (hW2 : MsW m2) (f1 : rn ≤ 5) (f2 : sn ≤ 5) (f3 : rn2 ≤ 5) (f4 : sn2 ≤ 5) : Fun 89 [.agg [iC k, .d (D.sl (dI .i64 r) rn), .d (D.sl (kI m) c), .d (D.sl (dI .i64 s) sn)], .agg [iC k2, .d (D.sl (dI .i64 r2) rn2), .d (D.sl (kI m2) c2), .d (D.sl (dI .i64 s2) sn2)], iE 15] (kH []) 0 (.tup [.agg [iC (qK k k2), .d (D.sl (dI .i64 (jR (kC r rn) (kC r2 rn2))) (aW (kC r rn) (kC r2 rn2))), .d (D.sl (kI (uJ m m2 c)) (ka0 (uJ m m2 c))), .d (D.sl (dI .i64 (jR (kC s sn) (kC s2 sn2))) (aW (kC s sn) (kC s2 sn2)))], .c (.d (D.lit (.bool (decide (zP (qK k k2) (ka0 (uJ m m2 c)) (aW (kC r rn) (kC r2 rn2)) (aW (kC s sn) (kC s2 sn2)) = 1))))), .c (.d (D.lit (.bool false)))]) (kH []) 0 := by
 refine Fun.mk (n := 106) Tryz.func89 rfl rfl (ka4 rfl) ?_
 intro cx hcx
 refine kK (qE 5 []) True [(2, iV 15), (3, rV 0 0), (4, rV 1 0), (6, rV 2 0)] [(0, some (59, (bQ k r rn m c s sn))), (1, some (59, (cB k2 r2 rn2 m2 c2 s2 sn2))), (2, some (59, bS))] 3 trivial ?_
 refine kK [.no, .no, .no] True [(2, iV 15), (3, rV 0 0), (4, rV 1 0), (6, rV 2 0), (9, rV 3 0)] [(0, some (59, (bQ k r rn m c s sn))), (1, some (59, (cB k2 r2 rn2 m2 c2 s2 sn2))), (2, some (59, bS)), (3, some (59, (bQ k r rn m c s sn)))] 4 trivial ?_
 refine AW.seq ?_
 refine kO [.no, .i 1, .b true] ((qG .and .i64 15 1 = 1) ∧ (((1 : Int) ≠ 0))) [(2, iV 15), (3, rV 0 0), (4, rV 1 0), (6, rV 2 0), (9, rV 3 0), (16, bV true)] ⟨(by decide), zo⟩ ?_
 refine zt ?_
 refine aH (qE 4 [.i (qK k k2), .no, .no]) (qG .and .i64 k k2 = (qK k k2)) [(2, iV 15), (3, rV 0 0), (4, rV 1 0), (6, rV 2 0), (9, rV 3 0)] [(0, some (59, (bQ k r rn m c s sn))), (1, some (59, (cB k2 r2 rn2 m2 c2 s2 sn2))), (2, some (59, bS)), (3, some (59, .ds [iD (qK k k2), dl r rn, D.sl (kI m) c, dl s sn]))] 4 rfl ?_
 refine AW.seq ?_
 refine kO [.no, .i 4, .b true] ((qG .and .i64 15 4 = 4) ∧ (((4 : Int) ≠ 0))) [(2, iV 15), (3, rV 0 0), (4, rV 1 0), (6, rV 2 0), (9, rV 3 0), (25, bV true)] ⟨(by decide), zo⟩ ?_
 refine zt ?_
 refine kK [.no, .no] True [(2, iV 15), (3, rV 0 0), (4, rV 1 0), (6, rV 2 0), (9, rV 3 0)] [(0, some (59, (bQ k r rn m c s sn))), (1, some (59, (cB k2 r2 rn2 m2 c2 s2 sn2))), (2, some (59, bS)), (3, some (59, .ds [iD (qK k k2), dl r rn, qT, dl s sn]))] 4 trivial ?_
 refine kO (qE 4 []) True [(2, iV 15), (3, rV 0 0), (4, rV 1 0), (6, rV 2 0), (9, rV 3 0), (28, kG (kI m) c), (29, uV c), (30, iV 0)] trivial ?_
 refine AW.block ?_
 refine s8 3 2 1 23 (cs' := [iC (qK k k2), .d (dl r rn), .own 4 0 0 1 true, .d (dl s sn)]) rfl rfl rfl ?_
 refine kY 0 hcx (fun (x : {x : Nat × Nat × List (List Int) // match x with | (z, q, o) => (z ≤ c ∧ q ≤ z) ∧ (uJ m m2 z = o) ∧ (ka0 o = q) ∧ (MsW o)}) => match x with | ⟨(z, q, o), _⟩ => (⟨[(2, iV 15), (3, rV 0 0), (4, rV 1 0), (6, rV 2 0), (9, rV 3 0), (28, kG (kI m) c), (29, uV c), (30, uV z)], [(0, some (59, (bQ k r rn m c s sn))), (1, some (59, (cB k2 r2 rn2 m2 c2 s2 sn2))), (2, some (59, bS)), (3, some (59, (tR k k2 r rn q s sn))), (5, some (23, .ds (kI o)))], 6⟩ : ES)) (fun x => match x with | ⟨(z, q, o), _⟩ => c - z) ⟨((0 : Nat), (0 : Nat), (([] : List (List Int)) : List (List Int))), ⟨iX, rfl, rfl, MsW.nil⟩⟩ [(5, 4)] (P := (kN 15) ∧ (kJ 0) ∧ (kJ 0) ∧ (kJ 0) ∧ (kJ 0) ∧ (kM (kI m)) ∧ (kJ c) ∧ (kN (c : Int)) ∧ (kN 0) ∧ (kM [iD k, dl r rn, D.sl (kI m) c, dl s sn]) ∧ (kM [iD k2, dl r2 rn2, D.sl (kI m2) c2, dl s2 sn2]) ∧ (kM [iD 0, qT, qT, qT]) ∧ (kN (qK k k2)) ∧ (kM (dI .i64 r)) ∧ (kJ rn) ∧ (kJ 0) ∧ (kJ 0) ∧ (kM (dI .i64 s)) ∧ (kJ sn) ∧ (((kI ([] : List (List Int))) : List D) = ([] : List D))) zk ⟨rfl, rfl, rfl, rfl, rfl, rfl, rfl, rfl, rfl, rfl, rfl, rfl, rfl, rfl, rfl, rfl, rfl, rfl, rfl, (by first | rfl | with_reducible assumption)⟩ ?_
 rintro ⟨⟨z, q, o⟩, hinv0⟩
 obtain ⟨hz, ho, hq, hO⟩ : (z ≤ c ∧ q ≤ z) ∧ (uJ m m2 z = o) ∧ (ka0 o = q) ∧ (MsW o) := hinv0
 refine qR (l := [(2, iV 15), (3, rV 0 0), (4, rV 1 0), (6, rV 2 0), (9, rV 3 0), (28, kG (kI m) c), (29, uV c), (30, uV z)]) (g := [(0, some (59, (bQ k r rn m c s sn))), (1, some (59, (cB k2 r2 rn2 m2 c2 s2 sn2))), (2, some (59, bS)), (3, some (59, (tR k k2 r rn q s sn))), (5, some (23, .ds (kI o)))]) (nx := 6) rfl rfl rfl ?_
 by_cases hx1 : (((z : Nat) : Int) < ((c : Nat) : Int))
 ·refine kK [.b true] (((z : Int) < (c : Int))) [(2, iV 15), (3, rV 0 0), (4, rV 1 0), (6, rV 2 0), (9, rV 3 0), (28, kG (kI m) c), (29, uV c), (30, uV z), (31, bV true)] [(0, some (59, (bQ k r rn m c s sn))), (1, some (59, (cB k2 r2 rn2 m2 c2 s2 sn2))), (2, some (59, bS)), (3, some (59, (tR k k2 r rn q s sn))), (5, some (23, .ds (kI o)))] 6 zo ?_
  refine AW.seq ?_
  refine vB ?_
  refine AW.seq ?_
  refine AW.block ?_
  have hx2 : ((ka0 (ka1 m z ([] : List Int))) ≤ 1000000) := MsW.at (qD : MsW m) _
  refine kO [.n z, .d (dl (ka1 m z ([] : List Int)) (ka0 (ka1 m z ([] : List Int)))), .no] ((kN (z : Int)) ∧ (z < c) ∧ ((ka3 z (kI m))[0]? = some (dl (ka1 m z ([] : List Int)) (ka0 (ka1 m z ([] : List Int)))))) [(2, iV 15), (3, rV 0 0), (4, rV 1 0), (6, rV 2 0), (9, rV 3 0), (11, sV .i64 (ka1 m z ([] : List Int)) (ka0 (ka1 m z ([] : List Int)))), (28, kG (kI m) c), (29, uV c), (30, uV z)] ⟨rfl, zo, (vQ _ _ iY)⟩ ?_
  rcases Bool.eq_false_or_eq_true (gI m2 (ka1 m z ([] : List Int))) with hx3 | hx3
  ·refine kO [.no, .no, .no, .call [] (bV true) [] 0 [] none] (Fun 83 [.c (.d (D.sl (kI m2) c2)), .c (.d (dl (ka1 m z ([] : List Int)) (ka0 (ka1 m z ([] : List Int)))))] (kH []) 0 (bV true) (kH []) 0) [(2, iV 15), (3, rV 0 0), (4, rV 1 0), (6, rV 2 0), (9, rV 3 0), (11, sV .i64 (ka1 m z ([] : List Int)) (ka0 (ka1 m z ([] : List Int)))), (28, kG (kI m) c), (29, uV c), (30, uV z), (37, bV true)] (by have h0 := (xO m2 c2 (ka1 m z ([] : List Int)) (ka0 (ka1 m z ([] : List Int))) zo rfl zo qS (qD : MsW m2)); rw [hx3] at h0; exact h0) ?_
   refine zt ?_
   refine aH (qE 4 [.ap none (q + 1) (kI (o ++ ([(ka1 m z ([] : List Int))] : List (List Int)))), .no, .no]) (([dl (ka1 m z ([] : List Int)) (ka0 (ka1 m z ([] : List Int)))].length = 1 * 1) ∧ (((kI o) : List D).length = q * 1) ∧ ((q + 1) * 24 ≤ 140737488355328) ∧ (q + 1 = (q + 1)) ∧ (((kI o) : List D) ++ [dl (ka1 m z ([] : List Int)) (ka0 (ka1 m z ([] : List Int)))] = (kI (o ++ ([(ka1 m z ([] : List Int))] : List (List Int)))))) [(2, iV 15), (3, rV 0 0), (4, rV 1 0), (6, rV 2 0), (9, rV 3 0), (28, kG (kI m) c), (29, uV c), (30, uV z)] [(0, some (59, (bQ k r rn m c s sn))), (1, some (59, (cB k2 r2 rn2 m2 c2 s2 sn2))), (2, some (59, bS)), (3, some (59, .cs [iC (qK k k2), .d (dl r rn), .own 7 0 (q + 1) 1 true, .d (dl s sn)])), (7, some (23, .ds (kI (o ++ ([(ka1 m z ([] : List Int))] : List (List Int))))))] 8 ⟨eL, eL, zo, zo, (bU o (ka1 m z ([] : List Int)) (ka0 (ka1 m z ([] : List Int))) (by first | rfl | omega))⟩ ?_
   refine uT [.w, .no] ((-9223372036854775808) ≤ ((z : Int) + 1) ∧ ((z : Int) + 1) ≤ 9223372036854775807) [(2, iV 15), (3, rV 0 0), (4, rV 1 0), (6, rV 2 0), (9, rV 3 0), (28, kG (kI m) c), (29, uV c), (30, iV (↑z + 1))] ⟨by omega, by omega⟩ ?_
   exact kW ⟨(((z + 1) : Nat), ((q + 1) : Nat), ((o ++ ([(ka1 m z ([] : List Int))] : List (List Int))) : List (List Int))), ⟨iX, (by first | exact k48 ho (by assumption) | exact k49 ho (by assumption)), (by first | omega | (simp only [qC, qB, ka6, kb0, kb1] <;> omega)), (by first | assumption | exact MsW.snoc (by assumption) zo)⟩⟩ [(5, 7)] (P := (kN 15) ∧ (kJ 0) ∧ (kJ 0) ∧ (kJ 0) ∧ (kJ 0) ∧ (kM (kI m)) ∧ (kJ c) ∧ (kN (c : Int)) ∧ (((((z + 1) : Nat) : Int) : Int) = ((z : Int) + 1)) ∧ (kM [iD k, dl r rn, D.sl (kI m) c, dl s sn]) ∧ (kM [iD k2, dl r2 rn2, D.sl (kI m2) c2, dl s2 sn2]) ∧ (kM [iD 0, qT, qT, qT]) ∧ (kN (qK k k2)) ∧ (kM (dI .i64 r)) ∧ (kJ rn) ∧ (kJ 0) ∧ (kJ (q + 1)) ∧ (kM (dI .i64 s)) ∧ (kJ sn) ∧ (kM (kI (o ++ ([(ka1 m z ([] : List Int))] : List (List Int)))))) zk ⟨rfl, rfl, rfl, rfl, rfl, rfl, rfl, rfl, s9, rfl, rfl, rfl, rfl, rfl, rfl, rfl, rfl, rfl, rfl, rfl⟩ (show c - (z + 1) < c - z from (by first | omega | (show _ < _; simp; omega)))
  ·refine kO [.no, .no, .no, .call [] (bV false) [] 0 [] none] (Fun 83 [.c (.d (D.sl (kI m2) c2)), .c (.d (dl (ka1 m z ([] : List Int)) (ka0 (ka1 m z ([] : List Int)))))] (kH []) 0 (bV false) (kH []) 0) [(2, iV 15), (3, rV 0 0), (4, rV 1 0), (6, rV 2 0), (9, rV 3 0), (11, sV .i64 (ka1 m z ([] : List Int)) (ka0 (ka1 m z ([] : List Int)))), (28, kG (kI m) c), (29, uV c), (30, uV z), (37, bV false)] (by have h0 := (xO m2 c2 (ka1 m z ([] : List Int)) (ka0 (ka1 m z ([] : List Int))) zo rfl zo qS (qD : MsW m2)); rw [hx3] at h0; exact h0) ?_
   refine q8 ?_
   refine uT [.w, .no] ((-9223372036854775808) ≤ ((z : Int) + 1) ∧ ((z : Int) + 1) ≤ 9223372036854775807) [(2, iV 15), (3, rV 0 0), (4, rV 1 0), (6, rV 2 0), (9, rV 3 0), (28, kG (kI m) c), (29, uV c), (30, iV (↑z + 1))] ⟨by omega, by omega⟩ ?_
   exact kW ⟨(((z + 1) : Nat), (q : Nat), (o : List (List Int))), ⟨iX, (by first | exact k48 ho (by assumption) | exact k49 ho (by assumption)), (by first | omega | (simp only [qC, qB, ka6, kb0, kb1] <;> omega)), (by first | assumption | exact MsW.snoc (by assumption) zo)⟩⟩ [] (P := (kN 15) ∧ (kJ 0) ∧ (kJ 0) ∧ (kJ 0) ∧ (kJ 0) ∧ (kM (kI m)) ∧ (kJ c) ∧ (kN (c : Int)) ∧ (((((z + 1) : Nat) : Int) : Int) = ((z : Int) + 1)) ∧ (kM [iD k, dl r rn, D.sl (kI m) c, dl s sn]) ∧ (kM [iD k2, dl r2 rn2, D.sl (kI m2) c2, dl s2 sn2]) ∧ (kM [iD 0, qT, qT, qT]) ∧ (kN (qK k k2)) ∧ (kM (dI .i64 r)) ∧ (kJ rn) ∧ (kJ 0) ∧ (kJ q) ∧ (kM (dI .i64 s)) ∧ (kJ sn) ∧ (kM (kI o))) zk ⟨rfl, rfl, rfl, rfl, rfl, rfl, rfl, rfl, s9, rfl, rfl, rfl, rfl, rfl, rfl, rfl, rfl, rfl, rfl, rfl⟩ (show c - (z + 1) < c - z from (by first | omega | (show _ < _; simp; omega)))
 ·refine kK [.b false] (¬ ((z : Int) < (c : Int))) [(2, iV 15), (3, rV 0 0), (4, rV 1 0), (6, rV 2 0), (9, rV 3 0), (28, kG (kI m) c), (29, uV c), (30, uV z), (31, bV false)] [(0, some (59, (bQ k r rn m c s sn))), (1, some (59, (cB k2 r2 rn2 m2 c2 s2 sn2))), (2, some (59, bS)), (3, some (59, (tR k k2 r rn q s sn))), (5, some (23, .ds (kI o)))] 6 zo ?_
  refine AW.seq ?_
  refine zf ?_
  refine AW.exit ?_
  refine AW.freeze 5 (l' := [(2, iV 15), (3, rV 0 0), (4, rV 1 0), (6, rV 2 0), (9, rV 3 0), (28, kG (kI m) c), (29, uV c), (30, uV z), (31, bV false)]) (g' := [(0, some (59, (bQ k r rn m c s sn))), (1, some (59, (cB k2 r2 rn2 m2 c2 s2 sn2))), (2, some (59, bS)), (3, some (59, .ds [iD (qK k k2), dl r rn, D.sl (kI o) q, dl s sn]))]) rfl (FzS.cons rfl (.same _) (FzS.cons rfl (.same _) (FzS.cons rfl (.same _) (FzS.cons rfl (.same _) (FzS.cons rfl (.same _) (FzS.cons rfl (.same _) (FzS.cons rfl (.same _) (FzS.cons rfl (.same _) (FzS.cons rfl (.same _) FzS.nil))))))))) (qO rfl rfl (qO rfl rfl (qO rfl rfl (FzG.to (bc := .cs [iC (qK k k2), .d (dl r rn), .own 5 0 q 1 true, .d (dl s sn)]) rfl (by rfl) (FzL.cons (.same _) (FzL.cons (.same _) (FzL.cons (@FzC.own 5 ((kI o) : List D) 0 q 1 true ((kI o) : List D) (by rw [kc9, kc6, kb7 (by first | omega | (simp only [qC, qB, qQ, ka6, kb0, kb1, kb2, kb3, kb4, kb8, kc5, kc0, kc6] <;> omega))]) eL) (FzL.cons (.same _) FzL.nil)))) FzG.nil)))) ?_
  have hz1 : uJ m m2 c = o := by have h9 := ho; rw [show z = c by omega] at h9; exact h9
  have hz2 : ka0 (uJ m m2 c) = q := by rw [hz1]; exact hq
  refine kK [.no] True [(2, iV 15), (3, rV 0 0), (4, rV 1 0), (6, rV 2 0), (9, rV 3 0), (12, bV false)] [(0, some (59, (bQ k r rn m c s sn))), (1, some (59, (cB k2 r2 rn2 m2 c2 s2 sn2))), (2, some (59, bS)), (3, some (59, .ds [iD (qK k k2), dl r rn, D.sl (kI o) q, dl s sn]))] 6 trivial ?_
  refine AW.seq ?_
  refine kO [.no, .i 2, .b true] ((qG .and .i64 15 2 = 2) ∧ (((2 : Int) ≠ 0))) [(2, iV 15), (3, rV 0 0), (4, rV 1 0), (6, rV 2 0), (9, rV 3 0), (12, bV false), (47, bV true)] ⟨(by decide), zo⟩ ?_
  refine zt ?_
  have hx4 : kP r rn ≤ rn ∧ kP r2 rn2 ≤ rn2 := ⟨aN.2, aN.2⟩
  have hx5 : ((ka0 (jR (kC r rn) (kC r2 rn2))) = ((aW (kC r rn) (kC r2 rn2)) * 2)) := jQ _ _
  have hx6 : ((aW (kC r rn) (kC r2 rn2)) ≤ ((kP r rn) + (kP r2 rn2))) := u0o (kU (zo)) (kU (zo)) (uG (zo)) (uG (zo))
  have hx7 : ((kP r rn) ≤ 64) := aN.1
  have hx8 : ((kP r2 rn2) ≤ 64) := aN.1
  refine kK (qE 4 [.call [] (sV .i64 (jR (kC r rn) (kC r2 rn2)) (aW (kC r rn) (kC r2 rn2))) [] 0 [] none, .no, .no, .no]) _ [(2, iV 15), (3, rV 0 0), (4, rV 1 0), (6, rV 2 0), (9, rV 3 0), (12, bV false)] [(0, some (59, (bQ k r rn m c s sn))), (1, some (59, (cB k2 r2 rn2 m2 c2 s2 sn2))), (2, some (59, bS)), (3, some (59, .ds [iD (qK k k2), dl (jR (kC r rn) (kC r2 rn2)) (aW (kC r rn) (kC r2 rn2)), D.sl (kI o) q, dl s sn]))] 6 (u55 r r2 rn rn2 zo zo zo zo) ?_
  refine uT (qE 6 [.b false, .no, .no]) (¬ ((64 : Int) < (aW (kC r rn) (kC r2 rn2) : Int))) [(2, iV 15), (3, rV 0 0), (4, rV 1 0), (6, rV 2 0), (9, rV 3 0), (12, bV false)] zo ?_
  refine AW.seq ?_
  refine kO [.no, .i 8, .b true] ((qG .and .i64 15 8 = 8) ∧ (((8 : Int) ≠ 0))) [(3, rV 0 0), (4, rV 1 0), (6, rV 2 0), (9, rV 3 0), (12, bV false), (65, bV true)] ⟨(by decide), zo⟩ ?_
  refine zt ?_
  have hx9 : kP s sn ≤ sn ∧ kP s2 sn2 ≤ sn2 := ⟨aN.2, aN.2⟩
  have hx10 : ((ka0 (jR (kC s sn) (kC s2 sn2))) = ((aW (kC s sn) (kC s2 sn2)) * 2)) := jQ _ _
  have hx11 : ((aW (kC s sn) (kC s2 sn2)) ≤ ((kP s sn) + (kP s2 sn2))) := u0o (kU (zo)) (kU (zo)) (uG (zo)) (uG (zo))
  have hx12 : ((kP s sn) ≤ 64) := aN.1
  have hx13 : ((kP s2 sn2) ≤ 64) := aN.1
  refine kK (qE 4 [.call [] (sV .i64 (jR (kC s sn) (kC s2 sn2)) (aW (kC s sn) (kC s2 sn2))) [] 0 [] none, .no, .no, .no]) _ [(6, rV 2 0), (9, rV 3 0), (12, bV false)] [(2, some (59, bS)), (3, some (59, (mB k k2 r rn r2 rn2 o q s sn s2 sn2)))] 6 (u55 s s2 sn sn2 zo zo zo zo) ?_
  refine uT (qE 6 [.b false, .no, .no]) (¬ ((64 : Int) < (aW (kC s sn) (kC s2 sn2) : Int))) [(6, rV 2 0), (9, rV 3 0), (12, bV false)] zo ?_
  by_cases hx14 : ((qK k k2) ≠ 0)
  ·by_cases hx15 : ((0 : Int) < ((q : Nat) : Int))
   ·by_cases hx16 : ((0 : Int) < (((aW (kC r rn) (kC r2 rn2)) : Nat) : Int))
    ·by_cases hx17 : ((0 : Int) < (((aW (kC s sn) (kC s2 sn2)) : Nat) : Int))
     ·refine kK (.no :: .no :: .no :: .b true :: qE 4 (.b true :: qE 6 (.b true :: qE 6 (.b true :: qE 5 [])))) ((((qK k k2) ≠ 0)) ∧ (((0 : Int) < (q : Int))) ∧ (((0 : Int) < (aW (kC r rn) (kC r2 rn2) : Int))) ∧ (((0 : Int) < (aW (kC s sn) (kC s2 sn2) : Int)))) [(6, rV 2 0), (7, bV true), (8, bV false)] [(2, some (59, (mB k k2 r rn r2 rn2 o q s sn s2 sn2)))] 6 ⟨zo, zo, zo, zo⟩ ?_
      refine AW.ret ?_
      exact kA (.inr rfl) [] (P := (kN (qK k k2)) ∧ (kM (dI .i64 (jR (kC r rn) (kC r2 rn2)))) ∧ (kJ (aW (kC r rn) (kC r2 rn2))) ∧ (((kI (uJ m m2 c)) : List D) = (kI o)) ∧ (((ka0 (uJ m m2 c)) : Nat) = q) ∧ (kM (dI .i64 (jR (kC s sn) (kC s2 sn2)))) ∧ (kJ (aW (kC s sn) (kC s2 sn2))) ∧ ((decide (zP (qK k k2) (ka0 (uJ m m2 c)) (aW (kC r rn) (kC r2 rn2)) (aW (kC s sn) (kC s2 sn2)) = 1)) = true) ∧ (false = false)) zk ⟨rfl, rfl, rfl, (by first | rfl | exact hz2 | (rw [hz1]; done) | (rw [hz1]; rfl) | (rw [hz1]; omega) | omega), (by first | rfl | exact hz2 | (rw [hz1]; done) | (rw [hz1]; rfl) | (rw [hz1]; omega) | omega), rfl, rfl, oI, rfl⟩
     ·refine kK (.no :: .no :: .no :: .b true :: qE 4 (.b true :: qE 6 (.b true :: qE 6 (.b false :: qE 5 [])))) ((((qK k k2) ≠ 0)) ∧ (((0 : Int) < (q : Int))) ∧ (((0 : Int) < (aW (kC r rn) (kC r2 rn2) : Int))) ∧ (¬ ((0 : Int) < (aW (kC s sn) (kC s2 sn2) : Int)))) [(6, rV 2 0), (7, bV false), (8, bV false)] [(2, some (59, (mB k k2 r rn r2 rn2 o q s sn s2 sn2)))] 6 ⟨zo, zo, zo, zo⟩ ?_
      refine AW.ret ?_
      exact kA (.inr rfl) [] (P := (kN (qK k k2)) ∧ (kM (dI .i64 (jR (kC r rn) (kC r2 rn2)))) ∧ (kJ (aW (kC r rn) (kC r2 rn2))) ∧ (((kI (uJ m m2 c)) : List D) = (kI o)) ∧ (((ka0 (uJ m m2 c)) : Nat) = q) ∧ (kM (dI .i64 (jR (kC s sn) (kC s2 sn2)))) ∧ (kJ (aW (kC s sn) (kC s2 sn2))) ∧ ((decide (zP (qK k k2) (ka0 (uJ m m2 c)) (aW (kC r rn) (kC r2 rn2)) (aW (kC s sn) (kC s2 sn2)) = 1)) = false) ∧ (false = false)) zk ⟨rfl, rfl, rfl, (by first | rfl | exact hz2 | (rw [hz1]; done) | (rw [hz1]; rfl) | (rw [hz1]; omega) | omega), (by first | rfl | exact hz2 | (rw [hz1]; done) | (rw [hz1]; rfl) | (rw [hz1]; omega) | omega), rfl, rfl, oI, rfl⟩
    ·refine kK (.no :: .no :: .no :: .b true :: qE 4 (.b true :: qE 6 (.b false :: qE 7 []))) ((((qK k k2) ≠ 0)) ∧ (((0 : Int) < (q : Int))) ∧ (¬ ((0 : Int) < (aW (kC r rn) (kC r2 rn2) : Int)))) [(6, rV 2 0), (7, bV false), (8, bV false)] [(2, some (59, (mB k k2 r rn r2 rn2 o q s sn s2 sn2)))] 6 ⟨zo, zo, zo⟩ ?_
     refine AW.ret ?_
     exact kA (.inr rfl) [] (P := (kN (qK k k2)) ∧ (kM (dI .i64 (jR (kC r rn) (kC r2 rn2)))) ∧ (kJ (aW (kC r rn) (kC r2 rn2))) ∧ (((kI (uJ m m2 c)) : List D) = (kI o)) ∧ (((ka0 (uJ m m2 c)) : Nat) = q) ∧ (kM (dI .i64 (jR (kC s sn) (kC s2 sn2)))) ∧ (kJ (aW (kC s sn) (kC s2 sn2))) ∧ ((decide (zP (qK k k2) (ka0 (uJ m m2 c)) (aW (kC r rn) (kC r2 rn2)) (aW (kC s sn) (kC s2 sn2)) = 1)) = false) ∧ (false = false)) zk ⟨rfl, rfl, rfl, (by first | rfl | exact hz2 | (rw [hz1]; done) | (rw [hz1]; rfl) | (rw [hz1]; omega) | omega), (by first | rfl | exact hz2 | (rw [hz1]; done) | (rw [hz1]; rfl) | (rw [hz1]; omega) | omega), rfl, rfl, oI, rfl⟩
   ·refine kK (.no :: .no :: .no :: .b true :: qE 4 (.b false :: qE 9 [])) ((((qK k k2) ≠ 0)) ∧ (¬ ((0 : Int) < (q : Int)))) [(6, rV 2 0), (7, bV false), (8, bV false)] [(2, some (59, (mB k k2 r rn r2 rn2 o q s sn s2 sn2)))] 6 ⟨zo, zo⟩ ?_
    refine AW.ret ?_
    exact kA (.inr rfl) [] (P := (kN (qK k k2)) ∧ (kM (dI .i64 (jR (kC r rn) (kC r2 rn2)))) ∧ (kJ (aW (kC r rn) (kC r2 rn2))) ∧ (((kI (uJ m m2 c)) : List D) = (kI o)) ∧ (((ka0 (uJ m m2 c)) : Nat) = q) ∧ (kM (dI .i64 (jR (kC s sn) (kC s2 sn2)))) ∧ (kJ (aW (kC s sn) (kC s2 sn2))) ∧ ((decide (zP (qK k k2) (ka0 (uJ m m2 c)) (aW (kC r rn) (kC r2 rn2)) (aW (kC s sn) (kC s2 sn2)) = 1)) = false) ∧ (false = false)) zk ⟨rfl, rfl, rfl, (by first | rfl | exact hz2 | (rw [hz1]; done) | (rw [hz1]; rfl) | (rw [hz1]; omega) | omega), (by first | rfl | exact hz2 | (rw [hz1]; done) | (rw [hz1]; rfl) | (rw [hz1]; omega) | omega), rfl, rfl, oI, rfl⟩
  ·refine kK (.no :: .no :: .no :: .b false :: qE 10 []) (¬ ((qK k k2) ≠ 0)) [(6, rV 2 0), (7, bV false), (8, bV false)] [(2, some (59, (mB k k2 r rn r2 rn2 o q s sn s2 sn2)))] 6 zo ?_
   refine AW.ret ?_
   exact kA (.inr rfl) [] (P := (kN (qK k k2)) ∧ (kM (dI .i64 (jR (kC r rn) (kC r2 rn2)))) ∧ (kJ (aW (kC r rn) (kC r2 rn2))) ∧ (((kI (uJ m m2 c)) : List D) = (kI o)) ∧ (((ka0 (uJ m m2 c)) : Nat) = q) ∧ (kM (dI .i64 (jR (kC s sn) (kC s2 sn2)))) ∧ (kJ (aW (kC s sn) (kC s2 sn2))) ∧ ((decide (zP (qK k k2) (ka0 (uJ m m2 c)) (aW (kC r rn) (kC r2 rn2)) (aW (kC s sn) (kC s2 sn2)) = 1)) = false) ∧ (false = false)) zk ⟨rfl, rfl, rfl, (by first | rfl | exact hz2 | (rw [hz1]; done) | (rw [hz1]; rfl) | (rw [hz1]; omega) | omega), (by first | rfl | exact hz2 | (rw [hz1]; done) | (rw [hz1]; rfl) | (rw [hz1]; omega) | omega), rfl, rfl, oI, rfl⟩
abbrev aJ (xs : List Bx) (ys : List Bx) := jR (kC (kZ xs 0) (kX xs 0)) (kC (kZ ys 0) (kX ys 0))
abbrev yJ (xs : List Bx) (ys : List Bx) := aW (kC (kZ xs 0) (kX xs 0)) (kC (kZ ys 0) (kX ys 0))
abbrev uB (xs : List Bx) (ys : List Bx) := uJ (kL xs 0) (kL ys 0) (ka0 (kL xs 0))
abbrev aI (xs : List Bx) (ys : List Bx) := jR (kC (qA xs 0) (k8 xs 0)) (kC (qA ys 0) (k8 ys 0))
abbrev yI (xs : List Bx) (ys : List Bx) := aW (kC (qA xs 0) (k8 xs 0)) (kC (qA ys 0) (k8 ys 0))
abbrev cS (xs : List Bx) (ys : List Bx) := u7 (qK (kQ xs 0) (kQ ys 0)) (aJ xs ys) (yJ xs ys) (uB xs ys) (aI xs ys) (yI xs ys)
abbrev eZ (xs : List Bx) : BC := .ds [iD (kQ xs 0), D.sl (dI .i64 (kZ xs 0)) (kX xs 0), D.sl (kI (kL xs 0)) (ka0 (kL xs 0)), D.sl (dI .i64 (qA xs 0)) (k8 xs 0)]
abbrev mA (xs : List Bx) (ys : List Bx) : BC := .ds [iD (qK (kQ xs 0) (kQ ys 0)), D.sl (dI .i64 (aJ xs ys)) (yJ xs ys), D.sl (kI (uB xs ys)) (ka0 (uB xs ys)), D.sl (dI .i64 (aI xs ys)) (yI xs ys)]
theorem u85 (xs ys : List Bx) (n m : Nat) (hn : ka0 xs = n) (hm : ka0 ys = m) (h1 : n = 1) (h2 : m = 1) (hV : BsV xs) (hU : BsV ys) (hF : BsF xs) (hG : BsF ys) (hW : BsW xs) (hX : BsW ys) : Fun 44 [.c (.d (D.sl (kE xs) n)), .c (.d (D.sl (kE ys) m)), iE 15] (kH []) 0 (.tup [.c (.d (D.sl (kE (j4 xs ys)) (ka0 (j4 xs ys)))), iE 0]) (kH []) 0 := by
 refine Fun.mk (n := 54) Tryz.func44 rfl rfl (ka4 rfl) ?_
 intro cx hcx
 refine kK [.no, .no] True [(0, kG (kE xs) n), (1, kG (kE ys) m), (2, iV 15)] [] 0 trivial ?_
 refine kO [.no] True [(0, kG (kE xs) n), (1, kG (kE ys) m), (2, iV 15), (8, nV)] trivial ?_
 refine AW.seq ?_
 refine kO [.no, .no, .no] True [(1, kG (kE ys) m), (2, iV 15), (8, nV), (16, kG (kE xs) n), (17, uV n), (18, iV 0)] trivial ?_
 refine AW.block ?_
 refine AW.rounds 2 ?_
 refine AWr.s ?_
 refine kK [.b true] (((0 : Int) < (n : Int))) [(1, kG (kE ys) m), (2, iV 15), (8, nV), (16, kG (kE xs) n), (17, uV n), (18, iV 0), (19, bV true)] [] 0 zo ?_
 refine AW.seq ?_
 refine vB ?_
 refine AW.seq ?_
 refine AW.block ?_
 obtain ⟨hx1, hx2, hx3, hx4, hx5⟩ := BsW.at (qD : BsW xs) (0)
 refine kK [.n 0, .ds [iD (kQ xs 0), dl (kZ xs 0) (kX xs 0), D.sl (kI (kL xs 0)) (ka0 (kL xs 0)), dl (qA xs 0) (k8 xs 0)], .no, .no] ((kN 0) ∧ ((0 : Nat) < n) ∧ (ka5 4 (ka3 0 (kE xs)) = [iD (kQ xs 0), dl (kZ xs 0) (kX xs 0), D.sl (kI (kL xs 0)) (ka0 (kL xs 0)), dl (qA xs 0) (k8 xs 0)]) ∧ (([iD (kQ xs 0), dl (kZ xs 0) (kX xs 0), D.sl (kI (kL xs 0)) (ka0 (kL xs 0)), dl (qA xs 0) (k8 xs 0)] : List D).length = 4)) [(1, kG (kE ys) m), (2, iV 15), (8, nV), (10, rV 0 0), (16, kG (kE xs) n), (17, uV n), (18, iV 0)] [(0, some (59, (eZ xs)))] 1 ⟨rfl, zo, (yV (i := 0) iY), rfl⟩ ?_
 refine kO [.no, .no, .no] True [(1, kG (kE ys) m), (2, iV 15), (8, nV), (10, rV 0 0), (16, kG (kE xs) n), (17, uV n), (18, iV 0), (22, kG (kE ys) m), (23, uV m), (24, iV 0)] trivial ?_
 refine AW.block ?_
 refine AW.rounds 2 ?_
 refine AWr.s ?_
 refine kK [.b true] (((0 : Int) < (m : Int))) [(1, kG (kE ys) m), (2, iV 15), (8, nV), (10, rV 0 0), (16, kG (kE xs) n), (17, uV n), (18, iV 0), (22, kG (kE ys) m), (23, uV m), (24, iV 0), (25, bV true)] [(0, some (59, (eZ xs)))] 1 zo ?_
 refine AW.seq ?_
 refine vB ?_
 refine AW.seq ?_
 refine AW.block ?_
 obtain ⟨hx6, hx7, hx8, hx9, hx10⟩ := BsW.at (qD : BsW ys) (0)
 refine kK [.n 0, .ds [iD (kQ ys 0), dl (kZ ys 0) (kX ys 0), D.sl (kI (kL ys 0)) (ka0 (kL ys 0)), dl (qA ys 0) (k8 ys 0)], .no, .no] ((kN 0) ∧ ((0 : Nat) < m) ∧ (ka5 4 (ka3 0 (kE ys)) = [iD (kQ ys 0), dl (kZ ys 0) (kX ys 0), D.sl (kI (kL ys 0)) (ka0 (kL ys 0)), dl (qA ys 0) (k8 ys 0)]) ∧ (([iD (kQ ys 0), dl (kZ ys 0) (kX ys 0), D.sl (kI (kL ys 0)) (ka0 (kL ys 0)), dl (qA ys 0) (k8 ys 0)] : List D).length = 4)) [(1, kG (kE ys) m), (2, iV 15), (8, nV), (10, rV 0 0), (12, rV 1 0), (16, kG (kE xs) n), (17, uV n), (18, iV 0), (22, kG (kE ys) m), (23, uV m), (24, iV 0)] [(0, some (59, (eZ xs))), (1, some (59, .ds [iD (kQ ys 0), dl (kZ ys 0) (kX ys 0), D.sl (kI (kL ys 0)) (ka0 (kL ys 0)), dl (qA ys 0) (k8 ys 0)]))] 2 ⟨rfl, zo, (yV (i := 0) iY), rfl⟩ ?_
 rcases Bool.eq_false_or_eq_true (decide (zP (qK (kQ xs 0) (kQ ys 0)) (ka0 (uB xs ys)) (yJ xs ys) (yI xs ys) = 1)) with hx14 | hx14
 ·have hx15 : ((zP (qK (kQ xs 0) (kQ ys 0)) (ka0 (uB xs ys)) (yJ xs ys) (yI xs ys)) = 1) := of_decide_eq_true hx14
  have hx16 : kX xs 0 ≤ 5 ∧ k8 xs 0 ≤ 5 := hF.at zo
  have hx17 : kX ys 0 ≤ 5 ∧ k8 ys 0 ≤ 5 := hG.at zo
  have hx18 : zP (qK (kQ xs 0) (kQ ys 0)) (ka0 (uB xs ys)) (yJ xs ys) (yI xs ys) ≤ 1 := (show r9 xs ys ≤ 1 from r8 xs ys)
  have hx19 : ((ka0 (uB xs ys)) ≤ (ka0 (kL xs 0))) := bT (kL xs 0) (kL ys 0) (ka0 (kL xs 0))
  have hx20 : ((ka0 (aJ xs ys)) = ((yJ xs ys) * 2)) := jQ _ _
  have hx21 : ((yJ xs ys) ≤ 1000000) := xM (qS) (qS)
  have hx22 : ((ka0 (aI xs ys)) = ((yI xs ys) * 2)) := jQ _ _
  have hx23 : ((yI xs ys) ≤ 1000000) := xM (qS) (qS)
  have hx24 : (MsW (uB xs ys)) := nE ((BsW.ms (qD : BsW xs) _)) _ _
  refine kK (.no :: .no :: .no :: .call [] (.tup [.agg [iC (qK (kQ xs 0) (kQ ys 0)), .d (dl (aJ xs ys) (yJ xs ys)), .d (D.sl (kI (uB xs ys)) (ka0 (uB xs ys))), .d (dl (aI xs ys) (yI xs ys))], .c (.d (D.lit (.bool true))), .c (.d (D.lit (.bool false)))]) [] 0 [] none :: qE 8 []) (Fun 89 [.agg [iC (kQ xs 0), .d (dl (kZ xs 0) (kX xs 0)), .d (D.sl (kI (kL xs 0)) (ka0 (kL xs 0))), .d (dl (qA xs 0) (k8 xs 0))], .agg [iC (kQ ys 0), .d (dl (kZ ys 0) (kX ys 0)), .d (D.sl (kI (kL ys 0)) (ka0 (kL ys 0))), .d (dl (qA ys 0) (k8 ys 0))], iE 15] (kH []) 0 (.tup [.agg [iC (qK (kQ xs 0) (kQ ys 0)), .d (dl (aJ xs ys) (yJ xs ys)), .d (D.sl (kI (uB xs ys)) (ka0 (uB xs ys))), .d (dl (aI xs ys) (yI xs ys))], .c (.d (D.lit (.bool true))), .c (.d (D.lit (.bool false)))]) (kH []) 0) [(1, kG (kE ys) m), (2, iV 15), (8, nV), (10, rV 0 0), (13, rV 2 0), (14, bV true), (15, bV false), (16, kG (kE xs) n), (17, uV n), (18, iV 0), (22, kG (kE ys) m), (23, uV m), (24, iV 0)] [(0, some (59, (eZ xs))), (2, some (59, (mA xs ys)))] 3 (by have h0 := (u0x (kQ xs 0) (kZ xs 0) (kX xs 0) (kL xs 0) (ka0 (kL xs 0)) (qA xs 0) (k8 xs 0) (kQ ys 0) (kZ ys 0) (kX ys 0) (kL ys 0) (ka0 (kL ys 0)) (qA ys 0) (k8 ys 0) qS qS rfl qS qS qS (BsW.ms (qD : BsW xs) _) qS qS rfl qS qS qS (BsW.ms (qD : BsW ys) _) qS qS qS qS); rw [hx14] at h0; exact h0) ?_
  refine AW.seq ?_
  refine kO [.no, .no] True [(1, kG (kE ys) m), (2, iV 15), (8, nV), (10, rV 0 0), (13, rV 2 0), (15, bV false), (16, kG (kE xs) n), (17, uV n), (18, iV 0), (22, kG (kE ys) m), (23, uV m), (24, iV 0), (37, bV false)] trivial ?_
  refine q8 ?_
  refine AW.seq ?_
  refine kO (qE 4 [.b false, .no]) (¬ ((64 : Int) ≤ 0)) [(1, kG (kE ys) m), (2, iV 15), (8, nV), (10, rV 0 0), (13, rV 2 0), (16, kG (kE xs) n), (17, uV n), (18, iV 0), (22, kG (kE ys) m), (23, uV m), (24, iV 0), (43, bV false)] zo ?_
  refine q8 ?_
  refine aH [.no, .no, .no, .ap none 1 [iD (qK (kQ xs 0) (kQ ys 0)), dl (aJ xs ys) (yJ xs ys), D.sl (kI (uB xs ys)) (ka0 (uB xs ys)), dl (aI xs ys) (yI xs ys)], .no] (([iD (qK (kQ xs 0) (kQ ys 0)), dl (aJ xs ys) (yJ xs ys), D.sl (kI (uB xs ys)) (ka0 (uB xs ys)), dl (aI xs ys) (yI xs ys)].length = 1 * 4) ∧ ((1 : Nat) * 80 ≤ 140737488355328) ∧ (kJ 1) ∧ (kM [iD (qK (kQ xs 0) (kQ ys 0)), dl (aJ xs ys) (yJ xs ys), D.sl (kI (uB xs ys)) (ka0 (uB xs ys)), dl (aI xs ys) (yI xs ys)])) [(1, kG (kE ys) m), (2, iV 15), (8, oV 4 0 1 4), (10, rV 0 0), (16, kG (kE xs) n), (17, uV n), (18, iV 0), (22, kG (kE ys) m), (23, uV m), (24, iV 0)] [(0, some (59, (eZ xs))), (4, some (59, (mA xs ys)))] 5 ⟨eL, zo, rfl, rfl⟩ ?_
  refine uT [.w, .no] ((-9223372036854775808) ≤ (1 : Int) ∧ (1 : Int) ≤ 9223372036854775807) [(1, kG (kE ys) m), (2, iV 15), (8, oV 4 0 1 4), (10, rV 0 0), (16, kG (kE xs) n), (17, uV n), (18, iV 0), (22, kG (kE ys) m), (23, uV m), (24, iV 1)] ⟨by omega, by omega⟩ ?_
  refine AWr.s ?_
  refine kK [.b false] (¬ ((1 : Int) < (m : Int))) [(1, kG (kE ys) m), (2, iV 15), (8, oV 4 0 1 4), (10, rV 0 0), (16, kG (kE xs) n), (17, uV n), (18, iV 0), (22, kG (kE ys) m), (23, uV m), (24, iV 1), (25, bV false)] [(0, some (59, (eZ xs))), (4, some (59, (mA xs ys)))] 5 zo ?_
  refine AW.seq ?_
  refine zf ?_
  refine AW.exit ?_
  refine aH [.w, .no] ((-9223372036854775808) ≤ (1 : Int) ∧ (1 : Int) ≤ 9223372036854775807) [(1, kG (kE ys) m), (2, iV 15), (8, oV 4 0 1 4), (16, kG (kE xs) n), (17, uV n), (18, iV 1)] [(4, some (59, (mA xs ys)))] 5 ⟨by omega, by omega⟩ ?_
  refine AWr.s ?_
  refine kK [.b false] (¬ ((1 : Int) < (n : Int))) [(1, kG (kE ys) m), (2, iV 15), (8, oV 4 0 1 4), (16, kG (kE xs) n), (17, uV n), (18, iV 1), (19, bV false)] [(4, some (59, (mA xs ys)))] 5 zo ?_
  refine AW.seq ?_
  refine zf ?_
  refine AW.exit ?_
  refine AW.freeze 4 (l' := [(1, kG (kE ys) m), (2, iV 15), (8, kG [iD (qK (kQ xs 0) (kQ ys 0)), dl (aJ xs ys) (yJ xs ys), D.sl (kI (uB xs ys)) (ka0 (uB xs ys)), dl (aI xs ys) (yI xs ys)] 1), (16, kG (kE xs) n), (17, uV n), (18, iV 1), (19, bV false)]) (g' := []) rfl (FzS.cons rfl (.same _) (FzS.cons rfl (.same _) (FzS.cons rfl (.e (.c (@FzC.own 4 ([iD (qK (kQ xs 0) (kQ ys 0)), dl (aJ xs ys) (yJ xs ys), D.sl (kI (uB xs ys)) (ka0 (uB xs ys)), dl (aI xs ys) (yI xs ys)] : List D) 0 (1 : Nat) 4 true ([iD (qK (kQ xs 0) (kQ ys 0)), dl (aJ xs ys) (yJ xs ys), D.sl (kI (uB xs ys)) (ka0 (uB xs ys)), dl (aI xs ys) (yI xs ys)] : List D) (by rw [kc9, kb7 (by first | omega | (simp only [qC, qB, qQ, ka6, kb0, kb1, kb2, kb3, kb4, kb8, kc5, kc0, kc6] <;> omega))]) eL))) (FzS.cons rfl (.same _) (FzS.cons rfl (.same _) (FzS.cons rfl (.same _) (FzS.cons rfl (.same _) FzS.nil))))))) FzG.nil ?_
  obtain ⟨hz1, hz2, hz3, hz4, hz5⟩ := u9b (by first | rfl | omega) (by first | rfl | omega) hV hU hF hG (show r9 xs ys = 1 by assumption)
  have hx25 : BsW ([u7 (qK (kQ xs 0) (kQ ys 0)) (aJ xs ys) (yJ xs ys) (uB xs ys) (aI xs ys) (yI xs ys)] : List Bx) := hz4
  have hx26 : cQ ([(cS xs ys)] : List Bx) = true := hz5
  refine kK (.no :: .call [] (.tup [.c (.d (D.sl (kE (b7 ([(cS xs ys)] : List Bx))) (ka0 (b7 ([(cS xs ys)] : List Bx))))), iE 0]) [] 0 [] (some [.c (.d (D.sl (kE ([(cS xs ys)] : List Bx)) 1))]) :: qE 4 []) ((((kE ([(cS xs ys)] : List Bx)) : List D) = [iD (qK (kQ xs 0) (kQ ys 0)), dl (aJ xs ys) (yJ xs ys), D.sl (kI (uB xs ys)) (ka0 (uB xs ys)), dl (aI xs ys) (yI xs ys)]) ∧ (kJ 1) ∧ (_)) [(6, kG (kE (b7 ([(cS xs ys)] : List Bx))) (ka0 (b7 ([(cS xs ys)] : List Bx)))), (7, iV 0)] [] 5 ⟨rfl, rfl, (u83 ([(cS xs ys)] : List Bx) 1 qS rfl (qD : BsW ([(cS xs ys)] : List Bx)) hx26)⟩ ?_
  refine AW.ret ?_
  exact kA (.inr rfl) [] (P := (((kE (j4 xs ys)) : List D) = (kE (b7 ([(cS xs ys)] : List Bx)))) ∧ (((ka0 (j4 xs ys)) : Nat) = (ka0 (b7 ([(cS xs ys)] : List Bx)))) ∧ (kN 0)) zk ⟨(by first | rfl | exact hz2 | exact hz2.symm | (rw [hz1]; done) | (rw [hz1]; rfl) | (rw [← hz1]; rfl) | omega), (by first | rfl | exact hz2 | exact hz2.symm | (rw [hz1]; done) | (rw [hz1]; rfl) | (rw [← hz1]; rfl) | omega), rfl⟩
 ·have hx27 : ¬ ((zP (qK (kQ xs 0) (kQ ys 0)) (ka0 (uB xs ys)) (yJ xs ys) (yI xs ys)) = 1) := of_decide_eq_false hx14
  have hx28 : kX xs 0 ≤ 5 ∧ k8 xs 0 ≤ 5 := hF.at zo
  have hx29 : kX ys 0 ≤ 5 ∧ k8 ys 0 ≤ 5 := hG.at zo
  have hx30 : zP (qK (kQ xs 0) (kQ ys 0)) (ka0 (uB xs ys)) (yJ xs ys) (yI xs ys) ≤ 1 := (show r9 xs ys ≤ 1 from r8 xs ys)
  have hx31 : ((ka0 (uB xs ys)) ≤ (ka0 (kL xs 0))) := bT (kL xs 0) (kL ys 0) (ka0 (kL xs 0))
  have hx32 : ((ka0 (aJ xs ys)) = ((yJ xs ys) * 2)) := jQ _ _
  have hx33 : ((yJ xs ys) ≤ 1000000) := xM (qS) (qS)
  have hx34 : ((ka0 (aI xs ys)) = ((yI xs ys) * 2)) := jQ _ _
  have hx35 : ((yI xs ys) ≤ 1000000) := xM (qS) (qS)
  have hx36 : (MsW (uB xs ys)) := nE ((BsW.ms (qD : BsW xs) _)) _ _
  refine kK (.no :: .no :: .no :: .call [] (.tup [.agg [iC (qK (kQ xs 0) (kQ ys 0)), .d (dl (aJ xs ys) (yJ xs ys)), .d (D.sl (kI (uB xs ys)) (ka0 (uB xs ys))), .d (dl (aI xs ys) (yI xs ys))], .c (.d (D.lit (.bool false))), .c (.d (D.lit (.bool false)))]) [] 0 [] none :: qE 8 []) (Fun 89 [.agg [iC (kQ xs 0), .d (dl (kZ xs 0) (kX xs 0)), .d (D.sl (kI (kL xs 0)) (ka0 (kL xs 0))), .d (dl (qA xs 0) (k8 xs 0))], .agg [iC (kQ ys 0), .d (dl (kZ ys 0) (kX ys 0)), .d (D.sl (kI (kL ys 0)) (ka0 (kL ys 0))), .d (dl (qA ys 0) (k8 ys 0))], iE 15] (kH []) 0 (.tup [.agg [iC (qK (kQ xs 0) (kQ ys 0)), .d (dl (aJ xs ys) (yJ xs ys)), .d (D.sl (kI (uB xs ys)) (ka0 (uB xs ys))), .d (dl (aI xs ys) (yI xs ys))], .c (.d (D.lit (.bool false))), .c (.d (D.lit (.bool false)))]) (kH []) 0) [(1, kG (kE ys) m), (2, iV 15), (8, nV), (10, rV 0 0), (13, rV 2 0), (14, bV false), (15, bV false), (16, kG (kE xs) n), (17, uV n), (18, iV 0), (22, kG (kE ys) m), (23, uV m), (24, iV 0)] [(0, some (59, (eZ xs))), (2, some (59, (mA xs ys)))] 3 (by have h0 := (u0x (kQ xs 0) (kZ xs 0) (kX xs 0) (kL xs 0) (ka0 (kL xs 0)) (qA xs 0) (k8 xs 0) (kQ ys 0) (kZ ys 0) (kX ys 0) (kL ys 0) (ka0 (kL ys 0)) (qA ys 0) (k8 ys 0) qS qS rfl qS qS qS (BsW.ms (qD : BsW xs) _) qS qS rfl qS qS qS (BsW.ms (qD : BsW ys) _) qS qS qS qS); rw [hx14] at h0; exact h0) ?_
  refine AW.seq ?_
  refine kO [.no, .no] True [(1, kG (kE ys) m), (2, iV 15), (8, nV), (10, rV 0 0), (13, rV 2 0), (15, bV false), (16, kG (kE xs) n), (17, uV n), (18, iV 0), (22, kG (kE ys) m), (23, uV m), (24, iV 0), (37, bV true)] trivial ?_
  refine zt ?_
  refine AW.exit ?_
  refine aH [.w, .no] ((-9223372036854775808) ≤ (1 : Int) ∧ (1 : Int) ≤ 9223372036854775807) [(1, kG (kE ys) m), (2, iV 15), (8, nV), (10, rV 0 0), (16, kG (kE xs) n), (17, uV n), (18, iV 0), (22, kG (kE ys) m), (23, uV m), (24, iV 1)] [(0, some (59, (eZ xs)))] 3 ⟨by omega, by omega⟩ ?_
  refine AWr.s ?_
  refine kK [.b false] (¬ ((1 : Int) < (m : Int))) [(1, kG (kE ys) m), (2, iV 15), (8, nV), (10, rV 0 0), (16, kG (kE xs) n), (17, uV n), (18, iV 0), (22, kG (kE ys) m), (23, uV m), (24, iV 1), (25, bV false)] [(0, some (59, (eZ xs)))] 3 zo ?_
  refine AW.seq ?_
  refine zf ?_
  refine AW.exit ?_
  refine aH [.w, .no] ((-9223372036854775808) ≤ (1 : Int) ∧ (1 : Int) ≤ 9223372036854775807) [(1, kG (kE ys) m), (2, iV 15), (8, nV), (16, kG (kE xs) n), (17, uV n), (18, iV 1)] [] 3 ⟨by omega, by omega⟩ ?_
  refine AWr.s ?_
  refine kK [.b false] (¬ ((1 : Int) < (n : Int))) [(1, kG (kE ys) m), (2, iV 15), (8, nV), (16, kG (kE xs) n), (17, uV n), (18, iV 1), (19, bV false)] [] 3 zo ?_
  refine AW.seq ?_
  refine zf ?_
  refine AW.exit ?_
  refine kK (.no :: .call [] (.tup [.c (.d (D.sl (kE (b7 ([] : List Bx))) (ka0 (b7 ([] : List Bx))))), iE 0]) [] 0 [] (some [.c (.d (D.sl (kE ([] : List Bx)) 0))]) :: qE 4 []) ((((kE ([] : List Bx)) : List D) = ([] : List D)) ∧ (kJ 0) ∧ (_)) [(6, kG (kE (b7 ([] : List Bx))) (ka0 (b7 ([] : List Bx)))), (7, iV 0)] [] 3 ⟨rfl, rfl, (u84 ([] : List Bx) 0 qS rfl (BsW.nil))⟩ ?_
  have hz1 : j4 xs ys = b7 [] := (u9c (show r9 xs ys = 0 by have h9 := r8 xs ys; have h8 : ¬ r9 xs ys = 1 := (by assumption); omega)).trans u8z.1.symm
  refine AW.ret ?_
  exact kA (.inr rfl) [] (P := (((kE (j4 xs ys)) : List D) = (kE (b7 ([] : List Bx)))) ∧ (((ka0 (j4 xs ys)) : Nat) = (ka0 (b7 ([] : List Bx)))) ∧ (kN 0)) zk ⟨(by first | rfl | exact hz2 | exact hz2.symm | (rw [hz1]; done) | (rw [hz1]; rfl) | (rw [← hz1]; rfl) | omega), (by first | rfl | exact hz2 | exact hz2.symm | (rw [hz1]; done) | (rw [hz1]; rfl) | (rw [← hz1]; rfl) | omega), rfl⟩
theorem u86 (xs ys : List Bx) (n m : Nat) (hn : ka0 xs = n) (hm : ka0 ys = m) (h1 : n = 1) (h2 : m = 1) (hV : BsV xs) (hU : BsV ys) (hF : BsF xs) (hG : BsF ys) (hW : BsW xs) (hX : BsW ys) : Fun 17 [.c (.d (D.sl (kE xs) n)), .c (.d (D.sl (kE ys) m))] (kH []) 0 (.tup [.c (.d (D.sl (kE (j4 xs ys)) (ka0 (j4 xs ys)))), iE 0]) (kH []) 0 := by
 refine Fun.mk (n := 19) Tryz.func17 rfl rfl (ka4 rfl) ?_
 intro cx hcx
 refine kK [.no, .no] True [(0, kG (kE xs) n), (1, kG (kE ys) m)] [] 0 trivial ?_
 refine AW.seq ?_
 have hx1 : cQ xs = true := hV.vb zo
 have hx2 : cQ ys = true := hU.vb zo
 refine kO [.no, .call [] (bV true) [] 0 [] none, .no, .no, .no, .call [] (bV true) [] 0 [] none, .no, .no] ((Fun 19 [.c (.d (D.sl (kE xs) n))] (kH []) 0 (bV true) (kH []) 0) ∧ (Fun 19 [.c (.d (D.sl (kE ys) m))] (kH []) 0 (bV true) (kH []) 0)) [(0, kG (kE xs) n), (1, kG (kE ys) m), (13, bV false)] ⟨(by have h0 := (eI xs n zo zo (qD : BsW xs)); rw [hx1] at h0; exact h0), (by have h0 := (eI ys m zo zo (qD : BsW ys)); rw [hx2] at h0; exact h0)⟩ ?_
 refine q8 ?_
 have hx3 : ((ka0 (j4 xs ys)) = (r9 xs ys)) := k6o (by first | rfl | omega) (by first | rfl | omega) (qD : BsV xs) (qD : BsV ys) (qD : BsF xs) (qD : BsF ys)
 have hx4 : ((r9 xs ys) ≤ 1) := r8 xs ys
 refine kO (.no :: .no :: .call [] (.tup [.c (.d (D.sl (kE (j4 xs ys)) (ka0 (j4 xs ys)))), iE 0]) [] 0 [] none :: qE 4 []) _ [(4, kG (kE (j4 xs ys)) (ka0 (j4 xs ys))), (5, iV 0)] (u85 xs ys n m zo zo zo zo (qD : BsV xs) (qD : BsV ys) (qD : BsF xs) (qD : BsF ys) (qD : BsW xs) (qD : BsW ys)) ?_
 refine AW.ret ?_
 exact kA (.inr rfl) [] (P := (kM (kE (j4 xs ys))) ∧ (kJ (ka0 (j4 xs ys))) ∧ (kN 0)) zk ⟨rfl, rfl, rfl⟩
abbrev y8 (d : Int) (xs : List Bx) (i : Nat) (bs : List Bx) (j : Nat) := u7 (zK d (kQ xs i) (kQ bs j)) (zL d 2 (kZ xs i) (kZ bs j)) (zN d 2 (kX xs i) (kX bs j)) (zM d 4 (kL xs i) (kL bs j)) (zL d 8 (qA xs i) (qA bs j)) (zN d 8 (k8 xs i) (k8 bs j))
abbrev y7 (xs : List Bx) (i : Nat) := u7 (kQ xs i) (kZ xs i) (kX xs i) (kL xs i) (qA xs i) (k8 xs i)
abbrev yC (xs : List Bx) (i : Nat) : BC := .ds [iD (kQ xs i), D.sl (dI .i64 (kZ xs i)) (kX xs i), D.sl (kI (kL xs i)) (ka0 (kL xs i)), D.sl (dI .i64 (qA xs i)) (k8 xs i)]
abbrev k1q (d : Int) (xs : List Bx) (i : Nat) (bs : List Bx) (j : Nat) : BC := .ds [iD (zK d (kQ xs i) (kQ bs j)), D.sl (dI .i64 (zL d 2 (kZ xs i) (kZ bs j))) (zN d 2 (kX xs i) (kX bs j)), D.sl (kI (zM d 4 (kL xs i) (kL bs j))) (ka0 (zM d 4 (kL xs i) (kL bs j))), D.sl (dI .i64 (qA bs j)) (k8 bs j)]
abbrev tQ (bs : List Bx) (j : Nat) : BC := .ds [iD (kQ bs j), D.sl (dI .i64 (kZ bs j)) (kX bs j), D.sl (kI (kL bs j)) (ka0 (kL bs j)), D.sl (dI .i64 (qA bs j)) (k8 bs j)]
abbrev k1p (d : Int) (xs : List Bx) (i : Nat) (bs : List Bx) (j : Nat) : BC := .ds [iD (zK d (kQ xs i) (kQ bs j)), D.sl (dI .i64 (zL d 2 (kZ xs i) (kZ bs j))) (zN d 2 (kX xs i) (kX bs j)), D.sl (kI (kL bs j)) (ka0 (kL bs j)), D.sl (dI .i64 (qA bs j)) (k8 bs j)]
abbrev k1o (d : Int) (xs : List Bx) (i : Nat) (bs : List Bx) (j : Nat) : BC := .ds [iD (zK d (kQ xs i) (kQ bs j)), D.sl (dI .i64 (kZ bs j)) (kX bs j), D.sl (kI (kL bs j)) (ka0 (kL bs j)), D.sl (dI .i64 (qA bs j)) (k8 bs j)]
theorem lP (xs bs : List Bx) (n m : Nat) (d : Int) (hn : ka0 xs = n) (hm : ka0 bs = m) (h1 : n ≤ 5) (h2 : m ≤ 5) (hV : BsV xs) (hU : BsV bs) (hF : BsF xs) (hG : BsF bs) (hW : BsW xs) (hX : BsW bs) : Fun 33 [.c (.d (D.sl (kE xs) n)), .c (.d (D.sl (kE bs) m)), iE d] (kH []) 0 (uP (D.lit (.bool (apB xs bs d)))) (kH []) 0 := by
 refine Fun.mk (n := 68) Tryz.func33 rfl rfl (ka4 rfl) ?_
 intro cx hcx
 refine kK [.no] True [(0, kG (kE xs) n), (1, kG (kE bs) m), (2, iV d)] [] 0 trivial ?_
 refine AW.seq ?_
 refine kO [.no, .no, .no] True [(1, kG (kE bs) m), (2, iV d), (14, kG (kE xs) n), (15, uV n), (16, iV 0)] trivial ?_
 refine AW.block ?_
 refine kY 0 hcx (fun (x : {x : Nat // match x with | i => (i ≤ n) ∧ (∀ i9, i9 < i → ∀ j9, j9 < m → smZ xs bs d i9 j9 = 0)}) => match x with | ⟨i, _⟩ => (⟨[(1, kG (kE bs) m), (2, iV d), (14, kG (kE xs) n), (15, uV n), (16, uV i)], [], 0⟩ : ES)) (fun x => match x with | ⟨i, _⟩ => n - i) ⟨(0 : Nat), ⟨iX, (fun i9 h9 => absurd h9 (kd5 i9))⟩⟩ [] (P := (kM (kE bs)) ∧ (kJ m) ∧ (kN d) ∧ (kM (kE xs)) ∧ (kJ n) ∧ (kN (n : Int)) ∧ (kN 0)) zk ⟨rfl, rfl, rfl, rfl, rfl, rfl, rfl⟩ ?_
 rintro ⟨i, hinv0⟩
 obtain ⟨hi, ha⟩ : (i ≤ n) ∧ (∀ i9, i9 < i → ∀ j9, j9 < m → smZ xs bs d i9 j9 = 0) := hinv0
 refine qR (l := [(1, kG (kE bs) m), (2, iV d), (14, kG (kE xs) n), (15, uV n), (16, uV i)]) (g := []) (nx := 0) rfl rfl rfl ?_
 by_cases hx1 : (((i : Nat) : Int) < ((n : Nat) : Int))
 ·refine kK [.b true] (((i : Int) < (n : Int))) [(1, kG (kE bs) m), (2, iV d), (14, kG (kE xs) n), (15, uV n), (16, uV i), (17, bV true)] [] 0 zo ?_
  refine AW.seq ?_
  refine vB ?_
  refine AW.seq ?_
  refine AW.block ?_
  obtain ⟨hx2, hx3, hx4, hx5, hx6⟩ := BsW.at (qD : BsW xs) (i)
  refine kK [.n i, .ds [iD (kQ xs i), dl (kZ xs i) (kX xs i), D.sl (kI (kL xs i)) (ka0 (kL xs i)), dl (qA xs i) (k8 xs i)], .no, .no] ((kN (i : Int)) ∧ (i < n) ∧ (ka5 4 (ka3 (i * 4) (kE xs)) = [iD (kQ xs i), dl (kZ xs i) (kX xs i), D.sl (kI (kL xs i)) (ka0 (kL xs i)), dl (qA xs i) (k8 xs i)]) ∧ (([iD (kQ xs i), dl (kZ xs i) (kX xs i), D.sl (kI (kL xs i)) (ka0 (kL xs i)), dl (qA xs i) (k8 xs i)] : List D).length = 4)) [(1, kG (kE bs) m), (2, iV d), (8, rV 0 0), (14, kG (kE xs) n), (15, uV n), (16, uV i)] [(0, some (59, (yC xs i)))] 1 ⟨rfl, zo, (yV iY), rfl⟩ ?_
  refine kO [.no, .no, .no] True [(1, kG (kE bs) m), (2, iV d), (8, rV 0 0), (14, kG (kE xs) n), (15, uV n), (16, uV i), (20, kG (kE bs) m), (21, uV m), (22, iV 0)] trivial ?_
  refine AW.block ?_
  refine kY 0 hcx (fun (x : {x : Nat // match x with | j => (j ≤ m) ∧ (∀ j9, j9 < j → smZ xs bs d i j9 = 0)}) => match x with | ⟨j, _⟩ => (⟨[(1, kG (kE bs) m), (2, iV d), (8, rV 0 0), (14, kG (kE xs) n), (15, uV n), (16, uV i), (20, kG (kE bs) m), (21, uV m), (22, uV j)], [(0, some (59, (yC xs i)))], 1⟩ : ES)) (fun x => match x with | ⟨j, _⟩ => m - j) ⟨(0 : Nat), ⟨iX, (fun j9 h9 => absurd h9 (kd5 j9))⟩⟩ [] (P := (kM (kE bs)) ∧ (kJ m) ∧ (kN d) ∧ (kJ 0) ∧ (kM (kE xs)) ∧ (kJ n) ∧ (kN (n : Int)) ∧ (kN (i : Int)) ∧ (kM (kE bs)) ∧ (kJ m) ∧ (kN (m : Int)) ∧ (kN 0) ∧ (kM [iD (kQ xs i), dl (kZ xs i) (kX xs i), D.sl (kI (kL xs i)) (ka0 (kL xs i)), dl (qA xs i) (k8 xs i)])) zk ⟨rfl, rfl, rfl, rfl, rfl, rfl, rfl, rfl, rfl, rfl, rfl, rfl, rfl⟩ ?_
  rintro ⟨j, hinv1⟩
  obtain ⟨hj, hb⟩ : (j ≤ m) ∧ (∀ j9, j9 < j → smZ xs bs d i j9 = 0) := hinv1
  refine qR (l := [(1, kG (kE bs) m), (2, iV d), (8, rV 0 0), (14, kG (kE xs) n), (15, uV n), (16, uV i), (20, kG (kE bs) m), (21, uV m), (22, uV j)]) (g := [(0, some (59, (yC xs i)))]) (nx := 1) rfl rfl rfl ?_
  by_cases hx7 : (((j : Nat) : Int) < ((m : Nat) : Int))
  ·refine kK [.b true] (((j : Int) < (m : Int))) [(1, kG (kE bs) m), (2, iV d), (8, rV 0 0), (14, kG (kE xs) n), (15, uV n), (16, uV i), (20, kG (kE bs) m), (21, uV m), (22, uV j), (23, bV true)] [(0, some (59, (yC xs i)))] 1 zo ?_
   refine AW.seq ?_
   refine vB ?_
   refine AW.seq ?_
   refine AW.block ?_
   obtain ⟨hx8, hx9, hx10, hx11, hx12⟩ := BsW.at (qD : BsW bs) (j)
   refine kK [.n j, .ds [iD (kQ bs j), dl (kZ bs j) (kX bs j), D.sl (kI (kL bs j)) (ka0 (kL bs j)), dl (qA bs j) (k8 bs j)], .no, .no] ((kN (j : Int)) ∧ (j < m) ∧ (ka5 4 (ka3 (j * 4) (kE bs)) = [iD (kQ bs j), dl (kZ bs j) (kX bs j), D.sl (kI (kL bs j)) (ka0 (kL bs j)), dl (qA bs j) (k8 bs j)]) ∧ (([iD (kQ bs j), dl (kZ bs j) (kX bs j), D.sl (kI (kL bs j)) (ka0 (kL bs j)), dl (qA bs j) (k8 bs j)] : List D).length = 4)) [(1, kG (kE bs) m), (2, iV d), (8, rV 0 0), (10, rV 1 0), (14, kG (kE xs) n), (15, uV n), (16, uV i), (20, kG (kE bs) m), (21, uV m), (22, uV j)] [(0, some (59, (yC xs i))), (1, some (59, (tQ bs j)))] 2 ⟨rfl, zo, (yV iY), rfl⟩ ?_
   refine kK [.no, .no, .no] True [(1, kG (kE bs) m), (2, iV d), (8, rV 0 0), (11, rV 2 0), (14, kG (kE xs) n), (15, uV n), (16, uV i), (20, kG (kE bs) m), (21, uV m), (22, uV j)] [(0, some (59, (yC xs i))), (2, some (59, (tQ bs j)))] 3 trivial ?_
   refine dN hcx [(1, kG (kE bs) m), (2, iV d), (8, rV 0 0), (11, rV 2 0), (14, kG (kE xs) n), (15, uV n), (16, uV i), (20, kG (kE bs) m), (21, uV m), (22, uV j)] [(0, some (59, (yC xs i))), (2, some (59, (k1o d xs i bs j)))] 3 ?_ ?_
   ·by_cases hx13 : ((qK d 1) = 0)
    ·refine kK [.no, .i (qK d 1), .b true] ((qG .and .i64 d 1 = (qK d 1)) ∧ (((qK d 1) = 0))) [(1, kG (kE bs) m), (2, iV d), (8, rV 0 0), (11, rV 2 0), (14, kG (kE xs) n), (15, uV n), (16, uV i), (20, kG (kE bs) m), (21, uV m), (22, uV j), (29, bV true)] [(0, some (59, (yC xs i))), (2, some (59, (tQ bs j)))] 3 ⟨rfl, zo⟩ ?_
     refine zt ?_
     refine aH (qE 4 []) True [(1, kG (kE bs) m), (2, iV d), (8, rV 0 0), (11, rV 2 0), (14, kG (kE xs) n), (15, uV n), (16, uV i), (20, kG (kE bs) m), (21, uV m), (22, uV j)] [(0, some (59, (yC xs i))), (2, some (59, .ds [iD (kQ xs i), dl (kZ bs j) (kX bs j), D.sl (kI (kL bs j)) (ka0 (kL bs j)), dl (qA bs j) (k8 bs j)]))] 3 trivial ?_
     exact kW () [] (P := (kM (kE bs)) ∧ (kJ m) ∧ (kN d) ∧ (kJ 0) ∧ (kJ 0) ∧ (kM (kE xs)) ∧ (kJ n) ∧ (kN (n : Int)) ∧ (kN (i : Int)) ∧ (kM (kE bs)) ∧ (kJ m) ∧ (kN (m : Int)) ∧ (kN (j : Int)) ∧ (kM [iD (kQ xs i), dl (kZ xs i) (kX xs i), D.sl (kI (kL xs i)) (ka0 (kL xs i)), dl (qA xs i) (k8 xs i)]) ∧ (([iD (zK d (kQ xs i) (kQ bs j)), dl (kZ bs j) (kX bs j), D.sl (kI (kL bs j)) (ka0 (kL bs j)), dl (qA bs j) (k8 bs j)] : List D) = [iD (kQ xs i), dl (kZ bs j) (kX bs j), D.sl (kI (kL bs j)) (ka0 (kL bs j)), dl (qA bs j) (k8 bs j)])) zk ⟨rfl, rfl, rfl, rfl, rfl, rfl, rfl, rfl, rfl, rfl, rfl, rfl, rfl, rfl, (by first | rfl | (rw [u8g (d := d) (by omega)]) | (rw [u8f (d := d) (by omega)]))⟩ True.intro
    ·refine kK [.no, .i (qK d 1), .b false] ((qG .and .i64 d 1 = (qK d 1)) ∧ (¬ ((qK d 1) = 0))) [(1, kG (kE bs) m), (2, iV d), (8, rV 0 0), (11, rV 2 0), (14, kG (kE xs) n), (15, uV n), (16, uV i), (20, kG (kE bs) m), (21, uV m), (22, uV j), (29, bV false)] [(0, some (59, (yC xs i))), (2, some (59, (tQ bs j)))] 3 ⟨rfl, zo⟩ ?_
     refine q8 ?_
     exact kW () [] (P := (kM (kE bs)) ∧ (kJ m) ∧ (kN d) ∧ (kJ 0) ∧ (kJ 0) ∧ (kM (kE xs)) ∧ (kJ n) ∧ (kN (n : Int)) ∧ (kN (i : Int)) ∧ (kM (kE bs)) ∧ (kJ m) ∧ (kN (m : Int)) ∧ (kN (j : Int)) ∧ (kM [iD (kQ xs i), dl (kZ xs i) (kX xs i), D.sl (kI (kL xs i)) (ka0 (kL xs i)), dl (qA xs i) (k8 xs i)]) ∧ (([iD (zK d (kQ xs i) (kQ bs j)), dl (kZ bs j) (kX bs j), D.sl (kI (kL bs j)) (ka0 (kL bs j)), dl (qA bs j) (k8 bs j)] : List D) = [iD (kQ bs j), dl (kZ bs j) (kX bs j), D.sl (kI (kL bs j)) (ka0 (kL bs j)), dl (qA bs j) (k8 bs j)])) zk ⟨rfl, rfl, rfl, rfl, rfl, rfl, rfl, rfl, rfl, rfl, rfl, rfl, rfl, rfl, (by first | rfl | (rw [u8g (d := d) (by omega)]) | (rw [u8f (d := d) (by omega)]))⟩ True.intro
   ·refine dN hcx [(1, kG (kE bs) m), (2, iV d), (8, rV 0 0), (11, rV 2 0), (14, kG (kE xs) n), (15, uV n), (16, uV i), (20, kG (kE bs) m), (21, uV m), (22, uV j)] [(0, some (59, (yC xs i))), (2, some (59, (k1p d xs i bs j)))] 3 ?_ ?_
    ·by_cases hx14 : ((qK d 2) = 0)
     ·refine kK [.no, .i (qK d 2), .b true] ((qG .and .i64 d 2 = (qK d 2)) ∧ (((qK d 2) = 0))) [(1, kG (kE bs) m), (2, iV d), (8, rV 0 0), (11, rV 2 0), (14, kG (kE xs) n), (15, uV n), (16, uV i), (20, kG (kE bs) m), (21, uV m), (22, uV j), (35, bV true)] [(0, some (59, (yC xs i))), (2, some (59, (k1o d xs i bs j)))] 3 ⟨rfl, zo⟩ ?_
      refine zt ?_
      refine aH (qE 4 []) True [(1, kG (kE bs) m), (2, iV d), (8, rV 0 0), (11, rV 2 0), (14, kG (kE xs) n), (15, uV n), (16, uV i), (20, kG (kE bs) m), (21, uV m), (22, uV j)] [(0, some (59, (yC xs i))), (2, some (59, .ds [iD (zK d (kQ xs i) (kQ bs j)), dl (kZ xs i) (kX xs i), D.sl (kI (kL bs j)) (ka0 (kL bs j)), dl (qA bs j) (k8 bs j)]))] 3 trivial ?_
      exact kW () [] (P := (kM (kE bs)) ∧ (kJ m) ∧ (kN d) ∧ (kJ 0) ∧ (kJ 0) ∧ (kM (kE xs)) ∧ (kJ n) ∧ (kN (n : Int)) ∧ (kN (i : Int)) ∧ (kM (kE bs)) ∧ (kJ m) ∧ (kN (m : Int)) ∧ (kN (j : Int)) ∧ (kM [iD (kQ xs i), dl (kZ xs i) (kX xs i), D.sl (kI (kL xs i)) (ka0 (kL xs i)), dl (qA xs i) (k8 xs i)]) ∧ (([iD (zK d (kQ xs i) (kQ bs j)), dl (zL d 2 (kZ xs i) (kZ bs j)) (zN d 2 (kX xs i) (kX bs j)), D.sl (kI (kL bs j)) (ka0 (kL bs j)), dl (qA bs j) (k8 bs j)] : List D) = [iD (zK d (kQ xs i) (kQ bs j)), dl (kZ xs i) (kX xs i), D.sl (kI (kL bs j)) (ka0 (kL bs j)), dl (qA bs j) (k8 bs j)])) zk ⟨rfl, rfl, rfl, rfl, rfl, rfl, rfl, rfl, rfl, rfl, rfl, rfl, rfl, rfl, (by first | rfl | (rw [u1g (d := d) (b := 2) (by omega), u1e (d := d) (b := 2) (by omega)]) | (rw [u1f (d := d) (b := 2) (by omega), u1d (d := d) (b := 2) (by omega)]))⟩ True.intro
     ·refine kK [.no, .i (qK d 2), .b false] ((qG .and .i64 d 2 = (qK d 2)) ∧ (¬ ((qK d 2) = 0))) [(1, kG (kE bs) m), (2, iV d), (8, rV 0 0), (11, rV 2 0), (14, kG (kE xs) n), (15, uV n), (16, uV i), (20, kG (kE bs) m), (21, uV m), (22, uV j), (35, bV false)] [(0, some (59, (yC xs i))), (2, some (59, (k1o d xs i bs j)))] 3 ⟨rfl, zo⟩ ?_
      refine q8 ?_
      exact kW () [] (P := (kM (kE bs)) ∧ (kJ m) ∧ (kN d) ∧ (kJ 0) ∧ (kJ 0) ∧ (kM (kE xs)) ∧ (kJ n) ∧ (kN (n : Int)) ∧ (kN (i : Int)) ∧ (kM (kE bs)) ∧ (kJ m) ∧ (kN (m : Int)) ∧ (kN (j : Int)) ∧ (kM [iD (kQ xs i), dl (kZ xs i) (kX xs i), D.sl (kI (kL xs i)) (ka0 (kL xs i)), dl (qA xs i) (k8 xs i)]) ∧ (([iD (zK d (kQ xs i) (kQ bs j)), dl (zL d 2 (kZ xs i) (kZ bs j)) (zN d 2 (kX xs i) (kX bs j)), D.sl (kI (kL bs j)) (ka0 (kL bs j)), dl (qA bs j) (k8 bs j)] : List D) = [iD (zK d (kQ xs i) (kQ bs j)), dl (kZ bs j) (kX bs j), D.sl (kI (kL bs j)) (ka0 (kL bs j)), dl (qA bs j) (k8 bs j)])) zk ⟨rfl, rfl, rfl, rfl, rfl, rfl, rfl, rfl, rfl, rfl, rfl, rfl, rfl, rfl, (by first | rfl | (rw [u1g (d := d) (b := 2) (by omega), u1e (d := d) (b := 2) (by omega)]) | (rw [u1f (d := d) (b := 2) (by omega), u1d (d := d) (b := 2) (by omega)]))⟩ True.intro
    ·refine dN hcx [(1, kG (kE bs) m), (2, iV d), (8, rV 0 0), (11, rV 2 0), (14, kG (kE xs) n), (15, uV n), (16, uV i), (20, kG (kE bs) m), (21, uV m), (22, uV j)] [(0, some (59, (yC xs i))), (2, some (59, (k1q d xs i bs j)))] 3 ?_ ?_
     ·by_cases hx15 : ((qK d 4) = 0)
      ·refine kK [.no, .i (qK d 4), .b true] ((qG .and .i64 d 4 = (qK d 4)) ∧ (((qK d 4) = 0))) [(1, kG (kE bs) m), (2, iV d), (8, rV 0 0), (11, rV 2 0), (14, kG (kE xs) n), (15, uV n), (16, uV i), (20, kG (kE bs) m), (21, uV m), (22, uV j), (41, bV true)] [(0, some (59, (yC xs i))), (2, some (59, (k1p d xs i bs j)))] 3 ⟨rfl, zo⟩ ?_
       refine zt ?_
       refine aH (qE 4 []) True [(1, kG (kE bs) m), (2, iV d), (8, rV 0 0), (11, rV 2 0), (14, kG (kE xs) n), (15, uV n), (16, uV i), (20, kG (kE bs) m), (21, uV m), (22, uV j)] [(0, some (59, (yC xs i))), (2, some (59, .ds [iD (zK d (kQ xs i) (kQ bs j)), dl (zL d 2 (kZ xs i) (kZ bs j)) (zN d 2 (kX xs i) (kX bs j)), D.sl (kI (kL xs i)) (ka0 (kL xs i)), dl (qA bs j) (k8 bs j)]))] 3 trivial ?_
       exact kW () [] (P := (kM (kE bs)) ∧ (kJ m) ∧ (kN d) ∧ (kJ 0) ∧ (kJ 0) ∧ (kM (kE xs)) ∧ (kJ n) ∧ (kN (n : Int)) ∧ (kN (i : Int)) ∧ (kM (kE bs)) ∧ (kJ m) ∧ (kN (m : Int)) ∧ (kN (j : Int)) ∧ (kM [iD (kQ xs i), dl (kZ xs i) (kX xs i), D.sl (kI (kL xs i)) (ka0 (kL xs i)), dl (qA xs i) (k8 xs i)]) ∧ (([iD (zK d (kQ xs i) (kQ bs j)), dl (zL d 2 (kZ xs i) (kZ bs j)) (zN d 2 (kX xs i) (kX bs j)), D.sl (kI (zM d 4 (kL xs i) (kL bs j))) (ka0 (zM d 4 (kL xs i) (kL bs j))), dl (qA bs j) (k8 bs j)] : List D) = [iD (zK d (kQ xs i) (kQ bs j)), dl (zL d 2 (kZ xs i) (kZ bs j)) (zN d 2 (kX xs i) (kX bs j)), D.sl (kI (kL xs i)) (ka0 (kL xs i)), dl (qA bs j) (k8 bs j)])) zk ⟨rfl, rfl, rfl, rfl, rfl, rfl, rfl, rfl, rfl, rfl, rfl, rfl, rfl, rfl, (by first | rfl | (rw [u8e (d := d) (b := 4) (by omega)]) | (rw [u8d (d := d) (b := 4) (by omega)]))⟩ True.intro
      ·refine kK [.no, .i (qK d 4), .b false] ((qG .and .i64 d 4 = (qK d 4)) ∧ (¬ ((qK d 4) = 0))) [(1, kG (kE bs) m), (2, iV d), (8, rV 0 0), (11, rV 2 0), (14, kG (kE xs) n), (15, uV n), (16, uV i), (20, kG (kE bs) m), (21, uV m), (22, uV j), (41, bV false)] [(0, some (59, (yC xs i))), (2, some (59, (k1p d xs i bs j)))] 3 ⟨rfl, zo⟩ ?_
       refine q8 ?_
       exact kW () [] (P := (kM (kE bs)) ∧ (kJ m) ∧ (kN d) ∧ (kJ 0) ∧ (kJ 0) ∧ (kM (kE xs)) ∧ (kJ n) ∧ (kN (n : Int)) ∧ (kN (i : Int)) ∧ (kM (kE bs)) ∧ (kJ m) ∧ (kN (m : Int)) ∧ (kN (j : Int)) ∧ (kM [iD (kQ xs i), dl (kZ xs i) (kX xs i), D.sl (kI (kL xs i)) (ka0 (kL xs i)), dl (qA xs i) (k8 xs i)]) ∧ (([iD (zK d (kQ xs i) (kQ bs j)), dl (zL d 2 (kZ xs i) (kZ bs j)) (zN d 2 (kX xs i) (kX bs j)), D.sl (kI (zM d 4 (kL xs i) (kL bs j))) (ka0 (zM d 4 (kL xs i) (kL bs j))), dl (qA bs j) (k8 bs j)] : List D) = [iD (zK d (kQ xs i) (kQ bs j)), dl (zL d 2 (kZ xs i) (kZ bs j)) (zN d 2 (kX xs i) (kX bs j)), D.sl (kI (kL bs j)) (ka0 (kL bs j)), dl (qA bs j) (k8 bs j)])) zk ⟨rfl, rfl, rfl, rfl, rfl, rfl, rfl, rfl, rfl, rfl, rfl, rfl, rfl, rfl, (by first | rfl | (rw [u8e (d := d) (b := 4) (by omega)]) | (rw [u8d (d := d) (b := 4) (by omega)]))⟩ True.intro
     ·refine dN hcx [(1, kG (kE bs) m), (2, iV d), (8, rV 0 0), (11, rV 2 0), (14, kG (kE xs) n), (15, uV n), (16, uV i), (20, kG (kE bs) m), (21, uV m), (22, uV j)] [(0, some (59, (yC xs i))), (2, some (59, .ds [iD (zK d (kQ xs i) (kQ bs j)), dl (zL d 2 (kZ xs i) (kZ bs j)) (zN d 2 (kX xs i) (kX bs j)), D.sl (kI (zM d 4 (kL xs i) (kL bs j))) (ka0 (zM d 4 (kL xs i) (kL bs j))), dl (zL d 8 (qA xs i) (qA bs j)) (zN d 8 (k8 xs i) (k8 bs j))]))] 3 ?_ ?_
      ·by_cases hx16 : ((qK d 8) = 0)
       ·refine kK [.no, .i (qK d 8), .b true] ((qG .and .i64 d 8 = (qK d 8)) ∧ (((qK d 8) = 0))) [(1, kG (kE bs) m), (2, iV d), (8, rV 0 0), (11, rV 2 0), (14, kG (kE xs) n), (15, uV n), (16, uV i), (20, kG (kE bs) m), (21, uV m), (22, uV j), (47, bV true)] [(0, some (59, (yC xs i))), (2, some (59, (k1q d xs i bs j)))] 3 ⟨rfl, zo⟩ ?_
        refine zt ?_
        refine aH (qE 4 []) True [(1, kG (kE bs) m), (2, iV d), (8, rV 0 0), (11, rV 2 0), (14, kG (kE xs) n), (15, uV n), (16, uV i), (20, kG (kE bs) m), (21, uV m), (22, uV j)] [(0, some (59, (yC xs i))), (2, some (59, .ds [iD (zK d (kQ xs i) (kQ bs j)), dl (zL d 2 (kZ xs i) (kZ bs j)) (zN d 2 (kX xs i) (kX bs j)), D.sl (kI (zM d 4 (kL xs i) (kL bs j))) (ka0 (zM d 4 (kL xs i) (kL bs j))), dl (qA xs i) (k8 xs i)]))] 3 trivial ?_
        exact kW () [] (P := (kM (kE bs)) ∧ (kJ m) ∧ (kN d) ∧ (kJ 0) ∧ (kJ 0) ∧ (kM (kE xs)) ∧ (kJ n) ∧ (kN (n : Int)) ∧ (kN (i : Int)) ∧ (kM (kE bs)) ∧ (kJ m) ∧ (kN (m : Int)) ∧ (kN (j : Int)) ∧ (kM [iD (kQ xs i), dl (kZ xs i) (kX xs i), D.sl (kI (kL xs i)) (ka0 (kL xs i)), dl (qA xs i) (k8 xs i)]) ∧ (([iD (zK d (kQ xs i) (kQ bs j)), dl (zL d 2 (kZ xs i) (kZ bs j)) (zN d 2 (kX xs i) (kX bs j)), D.sl (kI (zM d 4 (kL xs i) (kL bs j))) (ka0 (zM d 4 (kL xs i) (kL bs j))), dl (zL d 8 (qA xs i) (qA bs j)) (zN d 8 (k8 xs i) (k8 bs j))] : List D) = [iD (zK d (kQ xs i) (kQ bs j)), dl (zL d 2 (kZ xs i) (kZ bs j)) (zN d 2 (kX xs i) (kX bs j)), D.sl (kI (zM d 4 (kL xs i) (kL bs j))) (ka0 (zM d 4 (kL xs i) (kL bs j))), dl (qA xs i) (k8 xs i)])) zk ⟨rfl, rfl, rfl, rfl, rfl, rfl, rfl, rfl, rfl, rfl, rfl, rfl, rfl, rfl, (by first | rfl | (rw [u1g (d := d) (b := 8) (by omega), u1e (d := d) (b := 8) (by omega)]) | (rw [u1f (d := d) (b := 8) (by omega), u1d (d := d) (b := 8) (by omega)]))⟩ True.intro
       ·refine kK [.no, .i (qK d 8), .b false] ((qG .and .i64 d 8 = (qK d 8)) ∧ (¬ ((qK d 8) = 0))) [(1, kG (kE bs) m), (2, iV d), (8, rV 0 0), (11, rV 2 0), (14, kG (kE xs) n), (15, uV n), (16, uV i), (20, kG (kE bs) m), (21, uV m), (22, uV j), (47, bV false)] [(0, some (59, (yC xs i))), (2, some (59, (k1q d xs i bs j)))] 3 ⟨rfl, zo⟩ ?_
        refine q8 ?_
        exact kW () [] (P := (kM (kE bs)) ∧ (kJ m) ∧ (kN d) ∧ (kJ 0) ∧ (kJ 0) ∧ (kM (kE xs)) ∧ (kJ n) ∧ (kN (n : Int)) ∧ (kN (i : Int)) ∧ (kM (kE bs)) ∧ (kJ m) ∧ (kN (m : Int)) ∧ (kN (j : Int)) ∧ (kM [iD (kQ xs i), dl (kZ xs i) (kX xs i), D.sl (kI (kL xs i)) (ka0 (kL xs i)), dl (qA xs i) (k8 xs i)]) ∧ (([iD (zK d (kQ xs i) (kQ bs j)), dl (zL d 2 (kZ xs i) (kZ bs j)) (zN d 2 (kX xs i) (kX bs j)), D.sl (kI (zM d 4 (kL xs i) (kL bs j))) (ka0 (zM d 4 (kL xs i) (kL bs j))), dl (zL d 8 (qA xs i) (qA bs j)) (zN d 8 (k8 xs i) (k8 bs j))] : List D) = [iD (zK d (kQ xs i) (kQ bs j)), dl (zL d 2 (kZ xs i) (kZ bs j)) (zN d 2 (kX xs i) (kX bs j)), D.sl (kI (zM d 4 (kL xs i) (kL bs j))) (ka0 (zM d 4 (kL xs i) (kL bs j))), dl (qA bs j) (k8 bs j)])) zk ⟨rfl, rfl, rfl, rfl, rfl, rfl, rfl, rfl, rfl, rfl, rfl, rfl, rfl, rfl, (by first | rfl | (rw [u1g (d := d) (b := 8) (by omega), u1e (d := d) (b := 8) (by omega)]) | (rw [u1f (d := d) (b := 8) (by omega), u1d (d := d) (b := 8) (by omega)]))⟩ True.intro
      ·have hx17 : BsV ([u7 (kQ xs i) (kZ xs i) (kX xs i) (kL xs i) (qA xs i) (k8 xs i)] : List Bx) := BsV.one (hV.box zo)
       have hx18 : BsV ([u7 (zK d (kQ xs i) (kQ bs j)) (zL d 2 (kZ xs i) (kZ bs j)) (zN d 2 (kX xs i) (kX bs j)) (zM d 4 (kL xs i) (kL bs j)) (zL d 8 (qA xs i) (qA bs j)) (zN d 8 (k8 xs i) (k8 bs j))] : List Bx) := BsV.one (z_V d hV hU hF hG (i := i) (j := j) zo zo).1
       have hx19 : BsF ([u7 (kQ xs i) (kZ xs i) (kX xs i) (kL xs i) (qA xs i) (k8 xs i)] : List Bx) := BsF.one (hF.box zo)
       have hx20 : BsF ([u7 (zK d (kQ xs i) (kQ bs j)) (zL d 2 (kZ xs i) (kZ bs j)) (zN d 2 (kX xs i) (kX bs j)) (zM d 4 (kL xs i) (kL bs j)) (zL d 8 (qA xs i) (qA bs j)) (zN d 8 (k8 xs i) (k8 bs j))] : List Bx) := BsF.one (z_V d hV hU hF hG (i := i) (j := j) zo zo).2
       have hx21 : BsW ([u7 (kQ xs i) (kZ xs i) (kX xs i) (kL xs i) (qA xs i) (k8 xs i)] : List Bx) := BsW.one (hW.box i)
       have hx22 : BsW ([u7 (zK d (kQ xs i) (kQ bs j)) (zL d 2 (kZ xs i) (kZ bs j)) (zN d 2 (kX xs i) (kX bs j)) (zM d 4 (kL xs i) (kL bs j)) (zL d 8 (qA xs i) (qA bs j)) (zN d 8 (k8 xs i) (k8 bs j))] : List Bx) := BsW.one (z_V d hV hU hF hG (i := i) (j := j) zo zo).1.1
       have hsz : smZ xs bs d i j = r9 ([(y7 xs i)] : List Bx) ([(y8 d xs i bs j)] : List Bx) := rfl
       have hx23 : ((ka0 (j4 ([(y7 xs i)] : List Bx) ([(y8 d xs i bs j)] : List Bx))) = (r9 ([(y7 xs i)] : List Bx) ([(y8 d xs i bs j)] : List Bx))) := k6o (by first | rfl | omega) (by first | rfl | omega) (qD : BsV ([(y7 xs i)] : List Bx)) (qD : BsV ([(y8 d xs i bs j)] : List Bx)) (qD : BsF ([(y7 xs i)] : List Bx)) (qD : BsF ([(y8 d xs i bs j)] : List Bx))
       have hx24 : ((r9 ([(y7 xs i)] : List Bx) ([(y8 d xs i bs j)] : List Bx)) ≤ 1) := r8 ([(y7 xs i)] : List Bx) ([(y8 d xs i bs j)] : List Bx)
       refine kK (.no :: (.fz (.no)) :: .no :: (.fz (.no)) :: .call [] (.tup [.c (.d (D.sl (kE (j4 ([(y7 xs i)] : List Bx) ([(y8 d xs i bs j)] : List Bx))) (ka0 (j4 ([(y7 xs i)] : List Bx) ([(y8 d xs i bs j)] : List Bx))))), iE 0]) [] 0 [] (some [.c (.d (D.sl (kE ([(y7 xs i)] : List Bx)) 1)), .c (.d (D.sl (kE ([(y8 d xs i bs j)] : List Bx)) 1))]) :: qE 5 []) ((([iD (kQ xs i), dl (kZ xs i) (kX xs i), D.sl (kI (kL xs i)) (ka0 (kL xs i)), dl (qA xs i) (k8 xs i)] : List D).length = 1 * 4) ∧ (([iD (zK d (kQ xs i) (kQ bs j)), dl (zL d 2 (kZ xs i) (kZ bs j)) (zN d 2 (kX xs i) (kX bs j)), D.sl (kI (zM d 4 (kL xs i) (kL bs j))) (ka0 (zM d 4 (kL xs i) (kL bs j))), dl (zL d 8 (qA xs i) (qA bs j)) (zN d 8 (k8 xs i) (k8 bs j))] : List D).length = 1 * 4) ∧ (((kE ([(y7 xs i)] : List Bx)) : List D) = [iD (kQ xs i), dl (kZ xs i) (kX xs i), D.sl (kI (kL xs i)) (ka0 (kL xs i)), dl (qA xs i) (k8 xs i)]) ∧ (kJ 1) ∧ (((kE ([(y8 d xs i bs j)] : List Bx)) : List D) = [iD (zK d (kQ xs i) (kQ bs j)), dl (zL d 2 (kZ xs i) (kZ bs j)) (zN d 2 (kX xs i) (kX bs j)), D.sl (kI (zM d 4 (kL xs i) (kL bs j))) (ka0 (zM d 4 (kL xs i) (kL bs j))), dl (zL d 8 (qA xs i) (qA bs j)) (zN d 8 (k8 xs i) (k8 bs j))]) ∧ (kJ 1) ∧ (_)) [(1, kG (kE bs) m), (2, iV d), (8, rV 0 0), (12, kG (kE (j4 ([(y7 xs i)] : List Bx) ([(y8 d xs i bs j)] : List Bx))) (ka0 (j4 ([(y7 xs i)] : List Bx) ([(y8 d xs i bs j)] : List Bx)))), (13, iV 0), (14, kG (kE xs) n), (15, uV n), (16, uV i), (20, kG (kE bs) m), (21, uV m), (22, uV j)] [(0, some (59, (yC xs i)))] 5 ⟨eL, eL, rfl, rfl, rfl, rfl, (u86 ([(y7 xs i)] : List Bx) ([(y8 d xs i bs j)] : List Bx) 1 1 qS qS rfl rfl (qD : BsV ([(y7 xs i)] : List Bx)) (qD : BsV ([(y8 d xs i bs j)] : List Bx)) (qD : BsF ([(y7 xs i)] : List Bx)) (qD : BsF ([(y8 d xs i bs j)] : List Bx)) (qD : BsW ([(y7 xs i)] : List Bx)) (qD : BsW ([(y8 d xs i bs j)] : List Bx)))⟩ ?_
       by_cases hx25 : ((0 : Int) < (((ka0 (j4 ([(y7 xs i)] : List Bx) ([(y8 d xs i bs j)] : List Bx))) : Nat) : Int))
       ·refine kO [.no, .b false, .no, .no, .no, .b true, .no] ((¬ ((0 : Int) ≠ 0)) ∧ (((0 : Int) < (((ka0 (j4 ([(y7 xs i)] : List Bx) ([(y8 d xs i bs j)] : List Bx))) : Nat) : Int)))) [(1, kG (kE bs) m), (2, iV d), (8, rV 0 0), (14, kG (kE xs) n), (15, uV n), (16, uV i), (20, kG (kE bs) m), (21, uV m), (22, uV j), (65, bV true)] ⟨zo, zo⟩ ?_
        refine zt ?_
        refine kK [.no] True [(6, bV false)] [] 5 trivial ?_
        refine AW.ret ?_
        exact kA (.inr rfl) [] (P := ((apB xs bs d) = false)) zk (by first | exact v17 hn hm (i := i) (j := j) zo zo zo | exact v16 hn hm (fun i9 h9 => ha i9 zo))
       ·refine kO [.no, .b false, .no, .no, .no, .b false, .no] ((¬ ((0 : Int) ≠ 0)) ∧ (¬ ((0 : Int) < (((ka0 (j4 ([(y7 xs i)] : List Bx) ([(y8 d xs i bs j)] : List Bx))) : Nat) : Int)))) [(1, kG (kE bs) m), (2, iV d), (8, rV 0 0), (14, kG (kE xs) n), (15, uV n), (16, uV i), (20, kG (kE bs) m), (21, uV m), (22, uV j), (65, bV false)] ⟨zo, zo⟩ ?_
        refine q8 ?_
        refine uT [.w, .no] ((-9223372036854775808) ≤ ((j : Int) + 1) ∧ ((j : Int) + 1) ≤ 9223372036854775807) [(1, kG (kE bs) m), (2, iV d), (8, rV 0 0), (14, kG (kE xs) n), (15, uV n), (16, uV i), (20, kG (kE bs) m), (21, uV m), (22, iV (↑j + 1))] ⟨by omega, by omega⟩ ?_
        exact kW ⟨((j + 1) : Nat), ⟨iX, (fun j9 h9 => (Nat.lt_succ_iff_lt_or_eq.1 h9).elim (hb j9) (fun e9 => by subst e9; exact (show smZ xs bs d _ _ = 0 by omega)))⟩⟩ [] (P := (kM (kE bs)) ∧ (kJ m) ∧ (kN d) ∧ (kJ 0) ∧ (kM (kE xs)) ∧ (kJ n) ∧ (kN (n : Int)) ∧ (kN (i : Int)) ∧ (kM (kE bs)) ∧ (kJ m) ∧ (kN (m : Int)) ∧ (((((j + 1) : Nat) : Int) : Int) = ((j : Int) + 1)) ∧ (kM [iD (kQ xs i), dl (kZ xs i) (kX xs i), D.sl (kI (kL xs i)) (ka0 (kL xs i)), dl (qA xs i) (k8 xs i)])) zk ⟨rfl, rfl, rfl, rfl, rfl, rfl, rfl, rfl, rfl, rfl, rfl, s9, rfl⟩ (show m - (j + 1) < m - j from (by first | omega | (show _ < _; simp; omega)))
  ·refine kK [.b false] (¬ ((j : Int) < (m : Int))) [(1, kG (kE bs) m), (2, iV d), (8, rV 0 0), (14, kG (kE xs) n), (15, uV n), (16, uV i), (20, kG (kE bs) m), (21, uV m), (22, uV j), (23, bV false)] [(0, some (59, (yC xs i)))] 1 zo ?_
   refine AW.seq ?_
   refine zf ?_
   refine AW.exit ?_
   refine aH [.w, .no] ((-9223372036854775808) ≤ ((i : Int) + 1) ∧ ((i : Int) + 1) ≤ 9223372036854775807) [(1, kG (kE bs) m), (2, iV d), (14, kG (kE xs) n), (15, uV n), (16, iV (↑i + 1))] [] 1 ⟨by omega, by omega⟩ ?_
   exact kW ⟨((i + 1) : Nat), ⟨iX, (fun i9 h9 => (Nat.lt_succ_iff_lt_or_eq.1 h9).elim (ha i9) (fun e9 => by subst e9; exact fun j9 h8 => hb j9 zo))⟩⟩ [] (P := (kM (kE bs)) ∧ (kJ m) ∧ (kN d) ∧ (kM (kE xs)) ∧ (kJ n) ∧ (kN (n : Int)) ∧ (((((i + 1) : Nat) : Int) : Int) = ((i : Int) + 1))) zk ⟨rfl, rfl, rfl, rfl, rfl, rfl, s9⟩ (show n - (i + 1) < n - i from (by first | omega | (show _ < _; simp; omega)))
 ·refine kK [.b false] (¬ ((i : Int) < (n : Int))) [(1, kG (kE bs) m), (2, iV d), (14, kG (kE xs) n), (15, uV n), (16, uV i), (17, bV false)] [] 0 zo ?_
  refine AW.seq ?_
  refine zf ?_
  refine AW.exit ?_
  refine kK [.no] True [(6, bV true)] [] 0 trivial ?_
  refine AW.ret ?_
  exact kA (.inr rfl) [] (P := ((apB xs bs d) = true)) zk (by first | exact v17 hn hm (i := i) (j := j) zo zo zo | exact v16 hn hm (fun i9 h9 => ha i9 zo))
end Go.Proofs.YtcfmjpnffembpaaGreat
