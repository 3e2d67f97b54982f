/- Merged texts. -/
import Derived.Test.YtbicifcgghmhaaaGreatZL12F
import Derived.Test.YtbicifcgghmhaaaGreatZL12E
namespace Go.Proofs.YtbicifcgghmhaaaGreat
open Go.ChangeShapes Go.WideShapes Go.ChangeAt Go.RowKit
set_option linter.unusedVariables false
set_option linter.unusedSimpArgs false
set_option maxHeartbeats 4000000
set_option maxRecDepth 100000
theorem u8f (ps : List Pt) (hn : List.length ps = 2) (hW : PsW ps) (hz : uK ps = 13) : Fun 20 [.c (.d (D.sl (qH ps) 2)), .agg [iC 0, iC 0, .d (D.lit (.slice none 0 0)), iC 0]] (kF []) 0 (.tup [.c (.d (D.lit (.slice none 0 0))), .agg [iC (cK ps), iC (cL ps)], iE 13]) (kF []) 0 := by
 refine Fun.mk (n := 68) Tryz.func20 rfl rfl (Nat.le_of_ble_eq_true rfl) ?_
 intro cx hcx
 refine kH (qD 4 []) True [(0, qB (qH ps) 2), (3, rV 0 0), (5, rV 1 0)] [(0, some (42, .ds [iD 0, iD 0, qJ, iD 0])), (1, some (32, .ds [iD 0, iD 0]))] 2 trivial ?_
 refine kH (.no :: .call [] (.tup [.c (.d (D.sl (v8 (uL ps)) (List.length (uL ps)))), .agg [iC (cK ps), iC (cL ps)], iE (uK ps)]) [] 0 [] none :: qD 8 []) _ [(0, qB (qH ps) 2), (3, rV 0 0), (5, rV 1 0), (7, qB (v8 (uL ps)) (List.length (uL ps))), (8, rV 2 0), (9, iV (uK ps))] [(0, some (42, .ds [iD 0, iD 0, qJ, iD 0])), (1, some (32, .ds [iD 0, iD 0])), (2, some (32, .ds [iD (cK ps), iD (cL ps)]))] 3 (k2t ps 2 zo zo (qC : PsW ps)) ?_
 refine AW.seq ?_
 refine kQ [.no, .b true] (((uK ps) ≠ 0)) [(0, qB (qH ps) 2), (3, rV 0 0), (5, rV 1 0), (7, qB (v8 (uL ps)) (List.length (uL ps))), (8, rV 2 0), (9, iV (uK ps)), (21, bV true)] zo ?_
 refine zt ?_
 refine kH (qD 5 []) True [(4, nV), (5, rV 1 0), (6, iV (uK ps))] [(1, some (32, .ds [iD (cK ps), iD (cL ps)]))] 3 trivial ?_
 refine AW.ret ?_
 exact kA (.inr rfl) [] (P := ((.slice none 0 0 : Value) = .slice none 0 0) ∧ (kM (cK ps)) ∧ (kM (cL ps)) ∧ ((13 : Int) = (uK ps))) zk ⟨rfl, rfl, rfl, zo⟩
theorem u8e (ka ra za kb rb zb : Int) (ma mb : List Int) (na nb : Nat) (d : Int) (ha : List.length ma = na) (hb : List.length mb = nb) (h1 : na ≤ 1000000) (h2 : nb ≤ 1000000) (d1 : qG d 1 = 0) (d2 : ¬ qG d 2 = 0) (d4 : qG d 4 = 0) (d8 : qG d 8 = 0) (e1 : ka = kb) (e2 : aI ma mb = true) (e3 : za = zb) : Fun 51 [.agg [iC ka, iC ra, .d (D.sl (dI .i64 ma) na), iC za], .agg [iC kb, iC rb, .d (D.sl (dI .i64 mb) nb), iC zb], iE d] (kF []) 0 (bV true) (kF []) 0 := by
 refine Fun.mk (n := 59) Tryz.func51 rfl rfl (Nat.le_of_ble_eq_true rfl) ?_
 intro cx hcx
 refine kH [.no, .no, .no] True [(2, iV d), (3, rV 0 0), (4, rV 1 0)] [(0, some (42, .ds [iD ka, iD ra, dl ma na, iD za])), (1, some (42, .ds [iD kb, iD rb, dl mb nb, iD zb]))] 2 trivial ?_
 refine kH (.no :: .i (qG d 1) :: .b false :: qD 7 (.b true :: .no :: .no :: .no :: .i (qG d 2) :: .b true :: qD 5 (.i (qG d 4) :: .b false :: qD 7 (.call [] (bV true) [] 0 [] none :: qD 4 (.i (qG d 8) :: .b false :: qD 5 [.b true, .no, .no, .no]))))) ((qE .and .i64 d 1 = (qG d 1)) ∧ (¬ ((qG d 1) ≠ 0)) ∧ ((ka = kb)) ∧ (qE .and .i64 d 2 = (qG d 2)) ∧ (((qG d 2) ≠ 0)) ∧ (qE .and .i64 d 4 = (qG d 4)) ∧ (¬ ((qG d 4) ≠ 0)) ∧ (Fun 52 [.c (.d (dl ma na)), .c (.d (dl mb nb))] (kF []) 0 (bV true) (kF []) 0) ∧ (qE .and .i64 d 8 = (qG d 8)) ∧ (¬ ((qG d 8) ≠ 0)) ∧ ((za = zb))) [(6, bV true)] [] 2 ⟨rfl, zo, zo, rfl, zo, rfl, zo, (by have h0 := (s6 ma mb na nb zo zo zo zo); rw [e2] at h0; exact h0), rfl, zo, zo⟩ ?_
 refine AW.ret ?_
 exact kA (.inr rfl) [] (P := (true = true)) zk rfl
theorem u8d (ps : List Pt) (cs : List Co) (m : Nat) (hn : List.length ps = 2) (hW : PsW ps) (hm : List.length cs = m) (hm2 : m = 2) (hC : ChW cs) (hv : cM ps = true) (hx : wV (kK (qF ps 0)) (bD cs 0) (aV cs 0) (u7 cs 0) (bC cs 0) = true) (hy : wV (kK (qF ps 1)) (bD cs 1) (aV cs 1) (u7 cs 1) (bC cs 1) = true) (d1 : qG (q6 ps 0) 1 = 0) (d2 : ¬ qG (q6 ps 0) 2 = 0) (d4 : qG (q6 ps 0) 4 = 0) (d8 : qG (q6 ps 0) 8 = 0) (e1 : bD cs 0 = bD cs 1) (e2 : aI (u7 cs 0) (u7 cs 1) = true) (e3 : bC cs 0 = bC cs 1) : Fun 23 [.c (.d (D.sl (qH ps) 2)), .c (.d (D.sl (uI 0 cs) m))] (kF []) 0 (bV true) (kF []) 0 := by
 refine Fun.mk (n := 55) Tryz.func23 rfl rfl (Nat.le_of_ble_eq_true rfl) ?_
 intro cx hcx
 refine kH [.no] True [(0, qB (qH ps) 2), (1, qB (uI 0 cs) m)] [] 0 trivial ?_
 refine AW.seq ?_
 refine kQ (.no :: .call [] (bV true) [] 0 [] none :: qD 6 [.b false, .no]) ((Fun 16 [.c (.d (D.sl (qH ps) 2))] (kF []) 0 (bV true) (kF []) 0) ∧ (¬ ((m : Int) ≠ 2))) [(0, qB (qH ps) 2), (1, qB (uI 0 cs) m), (17, bV false)] ⟨(by have h0 := (lR ps 2 zo zo (qC : PsW ps)); rw [hv] at h0; exact h0), zo⟩ ?_
 refine uP ?_
 refine kQ [.no] True [(0, qB (qH ps) 2), (1, qB (uI 0 cs) m), (5, .e (.c (.fn 51 [])))] trivial ?_
 refine AW.seq ?_
 refine kQ [.no, .no, .no] True [(0, qB (qH ps) 2), (1, qB (uI 0 cs) m), (5, .e (.c (.fn 51 []))), (18, qB (uI 0 cs) m), (19, uV m), (20, iV 0)] trivial ?_
 refine AW.block ?_
 refine AW.rounds 3 ?_
 refine AWr.s ?_
 refine kH [.b true] (((0 : Int) < (m : Int))) [(0, qB (qH ps) 2), (1, qB (uI 0 cs) m), (5, .e (.c (.fn 51 []))), (18, qB (uI 0 cs) m), (19, uV m), (20, iV 0), (21, bV true)] [] 0 zo ?_
 refine AW.seq ?_
 refine vI ?_
 refine AW.seq ?_
 refine AW.block ?_
 have hx1 : ((List.length (u7 cs 0)) ≤ 1000000) := (ChW.get (qC : ChW cs) (0))
 refine kH [.no, .n 0, .ds [iD (bD cs 0), iD (aV cs 0), dl (u7 cs 0) (List.length (u7 cs 0)), iD (bC cs 0)], .no, .no, .no] ((kM 0) ∧ ((0 : Nat) < m) ∧ (List.take 4 (List.drop 0 (uI 0 cs)) = [iD (bD cs 0), iD (aV cs 0), dl (u7 cs 0) (List.length (u7 cs 0)), iD (bC cs 0)]) ∧ (([iD (bD cs 0), iD (aV cs 0), dl (u7 cs 0) (List.length (u7 cs 0)), iD (bC cs 0)] : List D).length = 4)) [(0, qB (qH ps) 2), (1, qB (uI 0 cs) m), (5, .e (.c (.fn 51 []))), (6, iV 0), (7, rV 0 0), (18, qB (uI 0 cs) m), (19, uV m), (20, iV 0)] [(0, some (42, .ds [iD (bD cs 0), iD (aV cs 0), dl (u7 cs 0) (List.length (u7 cs 0)), iD (bC cs 0)]))] 1 ⟨rfl, zo, (o5 (i := 0) zo), rfl⟩ ?_
 have hx2 : ((List.length (qF ps 0)) ≤ 1000) := (PsW.get (qC : PsW ps) (0)).2
 refine kH [.no, .no, .n 0, .no, .d (D.sl (kP (qF ps 0)) (List.length (qF ps 0))), .no, .call [] (bV true) [] 0 [] none, .no, .no, .no, .b false, .no, .no, .no] ((kM 0) ∧ ((0 : Nat) < 2) ∧ ((List.drop 0 (List.drop 0 (qH ps)))[0]? = some (D.sl (kP (qF ps 0)) (List.length (qF ps 0)))) ∧ (Fun 53 [.c (.d (D.sl (kP (qF ps 0)) (List.length (qF ps 0)))), .agg [iC (bD cs 0), iC (aV cs 0), .d (dl (u7 cs 0) (List.length (u7 cs 0))), iC (bC cs 0)]] (kF []) 0 (bV true) (kF []) 0) ∧ (¬ ((0 : Int) < 0))) [(0, qB (qH ps) 2), (1, qB (uI 0 cs) m), (5, .e (.c (.fn 51 []))), (18, qB (uI 0 cs) m), (19, uV m), (20, iV 0), (53, bV false)] [] 1 ⟨rfl, zo, (by (rw [List.drop_drop]; exact (zV (i := 0) zo))), (by have h0 := (u5m (qF ps 0) (List.length (qF ps 0)) (bD cs 0) (aV cs 0) (u7 cs 0) (List.length (u7 cs 0)) (bC cs 0) rfl zo (PsW.get (qC : PsW ps) _).1 rfl zo); rw [hx] at h0; exact h0), zo⟩ ?_
 refine uP ?_
 refine u2 [.w, .no] (uZ (1 : Int)) [(0, qB (qH ps) 2), (1, qB (uI 0 cs) m), (5, .e (.c (.fn 51 []))), (18, qB (uI 0 cs) m), (19, uV m), (20, iV 1)] ⟨by omega, by omega⟩ ?_
 refine AWr.s ?_
 refine kH [.b true] (((1 : Int) < (m : Int))) [(0, qB (qH ps) 2), (1, qB (uI 0 cs) m), (5, .e (.c (.fn 51 []))), (18, qB (uI 0 cs) m), (19, uV m), (20, iV 1), (21, bV true)] [] 1 zo ?_
 refine AW.seq ?_
 refine vI ?_
 refine AW.seq ?_
 refine AW.block ?_
 have hx3 : ((List.length (u7 cs 1)) ≤ 1000000) := (ChW.get (qC : ChW cs) (1))
 refine kH [.no, .n 1, .ds [iD (bD cs 1), iD (aV cs 1), dl (u7 cs 1) (List.length (u7 cs 1)), iD (bC cs 1)], .no, .no, .no] ((kM 1) ∧ ((1 : Nat) < m) ∧ (List.take 4 (List.drop 4 (uI 0 cs)) = [iD (bD cs 1), iD (aV cs 1), dl (u7 cs 1) (List.length (u7 cs 1)), iD (bC cs 1)]) ∧ (([iD (bD cs 1), iD (aV cs 1), dl (u7 cs 1) (List.length (u7 cs 1)), iD (bC cs 1)] : List D).length = 4)) [(0, qB (qH ps) 2), (1, qB (uI 0 cs) m), (5, .e (.c (.fn 51 []))), (6, iV 1), (7, rV 1 0), (18, qB (uI 0 cs) m), (19, uV m), (20, iV 1)] [(1, some (42, .ds [iD (bD cs 1), iD (aV cs 1), dl (u7 cs 1) (List.length (u7 cs 1)), iD (bC cs 1)]))] 2 ⟨rfl, zo, (o5 (i := 1) zo), rfl⟩ ?_
 have hx4 : ((List.length (qF ps 1)) ≤ 1000) := (PsW.get (qC : PsW ps) (1)).2
 refine kH [.no, .no, .n 1, .no, .d (D.sl (kP (qF ps 1)) (List.length (qF ps 1))), .no, .call [] (bV true) [] 0 [] none, .no, .no, .no, .b true, .no, .no, .no, .no, .w, .n 0, .ds [iD (bD cs 0), iD (aV cs 0), dl (u7 cs 0) (List.length (u7 cs 0)), iD (bC cs 0)], .no, .no, .no, .w, .n 0, .no, .d (iD (q6 ps 0)), .call [] (bV true) [] 0 [] none, .no, .no, .no] ((kM 1) ∧ ((1 : Nat) < 2) ∧ ((List.drop 0 (List.drop 2 (qH ps)))[0]? = some (D.sl (kP (qF ps 1)) (List.length (qF ps 1)))) ∧ (Fun 53 [.c (.d (D.sl (kP (qF ps 1)) (List.length (qF ps 1)))), .agg [iC (bD cs 1), iC (aV cs 1), .d (dl (u7 cs 1) (List.length (u7 cs 1))), iC (bC cs 1)]] (kF []) 0 (bV true) (kF []) 0) ∧ (((0 : Int) < 1)) ∧ (uZ (0 : Int)) ∧ (kM 0) ∧ ((0 : Nat) < m) ∧ (List.take 4 (List.drop 0 (uI 0 cs)) = [iD (bD cs 0), iD (aV cs 0), dl (u7 cs 0) (List.length (u7 cs 0)), iD (bC cs 0)]) ∧ (([iD (bD cs 0), iD (aV cs 0), dl (u7 cs 0) (List.length (u7 cs 0)), iD (bC cs 0)] : List D).length = 4) ∧ (uZ (0 : Int)) ∧ (kM 0) ∧ ((0 : Nat) < 2) ∧ ((List.drop 1 (List.drop 0 (qH ps)))[0]? = some (iD (q6 ps 0))) ∧ (_)) [(0, qB (qH ps) 2), (1, qB (uI 0 cs) m), (5, .e (.c (.fn 51 []))), (18, qB (uI 0 cs) m), (19, uV m), (20, iV 1), (53, bV false)] [] 2 ⟨rfl, zo, (by (rw [List.drop_drop]; exact (zV (i := 1) zo))), (by have h0 := (u5m (qF ps 1) (List.length (qF ps 1)) (bD cs 1) (aV cs 1) (u7 cs 1) (List.length (u7 cs 1)) (bC cs 1) rfl zo (PsW.get (qC : PsW ps) _).1 rfl zo); rw [hy] at h0; exact h0), zo, ⟨by omega, by omega⟩, rfl, zo, (o5 (i := 0) zo), rfl, ⟨by omega, by omega⟩, rfl, zo, (by (rw [List.drop_drop]; exact (u0p (i := 0) zo))), (u8e (bD cs 0) (aV cs 0) (bC cs 0) (bD cs 1) (aV cs 1) (bC cs 1) (u7 cs 0) (u7 cs 1) (List.length (u7 cs 0)) (List.length (u7 cs 1)) (q6 ps 0) rfl rfl zo zo zo zo zo zo zo zo zo)⟩ ?_
 refine uP ?_
 refine u2 [.w, .no] (uZ (2 : Int)) [(0, qB (qH ps) 2), (1, qB (uI 0 cs) m), (5, .e (.c (.fn 51 []))), (18, qB (uI 0 cs) m), (19, uV m), (20, iV 2)] ⟨by omega, by omega⟩ ?_
 refine AWr.s ?_
 refine kH [.b false] (¬ ((2 : Int) < (m : Int))) [(0, qB (qH ps) 2), (1, qB (uI 0 cs) m), (5, .e (.c (.fn 51 []))), (18, qB (uI 0 cs) m), (19, uV m), (20, iV 2), (21, bV false)] [] 2 zo ?_
 refine AW.seq ?_
 refine zf ?_
 refine AW.exit ?_
 refine kH [.no] True [(4, bV true)] [] 2 trivial ?_
 refine AW.ret ?_
 exact kA (.inr rfl) [] (P := (true = true)) zk rfl
end Go.Proofs.YtbicifcgghmhaaaGreat
namespace Go.Proofs.YtbicifcgghmhaaaGreat
open Go.ChangeShapes Go.WideShapes Go.ChangeAt Go.RowKit
set_option linter.unusedVariables false
set_option linter.unusedSimpArgs false
set_option maxHeartbeats 4000000
set_option maxRecDepth 100000
abbrev mC : List Pt := ([u0 ([kE 4 ([44100, 44100] : List Int) 1 ([([3] : List Int)] : List (List Int)) ([64, 64] : List Int) 1] : List Bx) 0, u0 ([kE 4 ([48000, 48000] : List Int) 1 ([([3] : List Int)] : List (List Int)) ([64, 64] : List Int) 1] : List Bx) 0] : List Pt)
abbrev vA : List Pt := ([u0 ([kE 4 ([44100, 44100] : List Int) 1 ([([3] : List Int)] : List (List Int)) ([64, 64] : List Int) 1] : List Bx) 2, u0 ([kE 4 ([48000, 48000] : List Int) 1 ([([3] : List Int)] : List (List Int)) ([64, 64] : List Int) 1] : List Bx) 0] : List Pt)
abbrev q7 := ([([3] : List Int)] : List (List Int))
theorem zB {p : Prop} (h : p := by rw [List.drop_zero, List.take_of_length_le (by (simp only [qA, k9, qS, qY, q5, vG, y4, vU, qP, List.length_append, List.length_cons, List.length_nil, List.length_take, List.length_drop, List.length_replicate, List.length_set, List.length_map, List.length_reverse, Nat.mul_one] <;> omega))]) : p := h
theorem pF {p : Prop} (h : p := by (simp only [qA, k9, qS, qY, q5, vG, y4, vU, qP, List.length_append, List.length_cons, List.length_nil, List.length_take, List.length_drop, List.length_replicate, List.length_set, List.length_map, List.length_reverse, Nat.mul_one] <;> omega)) : p := h
theorem u88   : Fun 10 [] (kF []) 0 (bV true) (kF []) 0 := by
 refine Fun.mk (n := 73) Tryz.func10 rfl rfl (Nat.le_of_ble_eq_true rfl) ?_
 intro cx hcx
 refine kH [.no] True [] [] 0 trivial ?_
 refine kH (.call [] (.e (.agg [iC 4, .d (dl ([44100, 44100] : List Int) 1), .d (D.sl (kI q7) 1), .d (dl ([64, 64] : List Int) 1)])) [] 0 [] none :: .no :: .no :: .call [] (.e (.agg [iC 4, .d (dl ([48000, 48000] : List Int) 1), .d (D.sl (kI q7) 1), .d (dl ([64, 64] : List Int) 1)])) [] 0 [] none :: qD 4 []) ((_) ∧ (_)) [(1, oV 2 0 2 2)] [(0, some (63, .ds [iD 4, dl ([44100, 44100] : List Int) 1, D.sl (kI q7) 1, dl ([64, 64] : List Int) 1])), (1, some (63, .ds [iD 4, dl ([48000, 48000] : List Int) 1, D.sl (kI q7) 1, dl ([64, 64] : List Int) 1])), (2, some (47, .cs [.own 0 0 1 4 true, iC 0, .own 1 0 1 4 true, iC 0]))] 3 ⟨(u57 44100), (u57 48000)⟩ ?_
 refine AW.freeze 0 (l' := [(1, oV 2 0 2 2)]) (g' := [(1, some (63, .ds [iD 4, dl ([48000, 48000] : List Int) 1, D.sl (kI q7) 1, dl ([64, 64] : List Int) 1])), (2, some (47, .cs [.d (D.sl [iD 4, dl ([44100, 44100] : List Int) 1, D.sl (kI q7) 1, dl ([64, 64] : List Int) 1] 1), iC 0, .own 1 0 1 4 true, iC 0]))]) rfl (FzS.cons rfl (.same _) FzS.nil) (u1 rfl rfl (FzG.to (bc := .cs [.own 0 0 1 4 true, iC 0, .own 1 0 1 4 true, iC 0]) rfl (by rfl) (FzL.cons (@FzC.own 0 ([iD 4, dl ([44100, 44100] : List Int) 1, D.sl (kI q7) 1, dl ([64, 64] : List Int) 1] : List D) 0 (1 : Nat) 4 true ([iD 4, dl ([44100, 44100] : List Int) 1, D.sl (kI q7) 1, dl ([64, 64] : List Int) 1] : List D) zB pF) (FzL.cons (.same _) (FzL.cons (.same _) (FzL.cons (.same _) FzL.nil)))) FzG.nil)) ?_
 refine AW.freeze 1 (l' := [(1, oV 2 0 2 2)]) (g' := [(2, some (47, .ds [D.sl [iD 4, dl ([44100, 44100] : List Int) 1, D.sl (kI q7) 1, dl ([64, 64] : List Int) 1] 1, iD 0, D.sl [iD 4, dl ([48000, 48000] : List Int) 1, D.sl (kI q7) 1, dl ([64, 64] : List Int) 1] 1, iD 0]))]) rfl (FzS.cons rfl (.same _) FzS.nil) (FzG.to (bc := .cs [.d (D.sl [iD 4, dl ([44100, 44100] : List Int) 1, D.sl (kI q7) 1, dl ([64, 64] : List Int) 1] 1), iC 0, .own 1 0 1 4 true, iC 0]) rfl (by rfl) (FzL.cons (.same _) (FzL.cons (.same _) (FzL.cons (@FzC.own 1 ([iD 4, dl ([48000, 48000] : List Int) 1, D.sl (kI q7) 1, dl ([64, 64] : List Int) 1] : List D) 0 (1 : Nat) 4 true ([iD 4, dl ([48000, 48000] : List Int) 1, D.sl (kI q7) 1, dl ([64, 64] : List Int) 1] : List D) zB pF) (FzL.cons (.same _) FzL.nil)))) FzG.nil) ?_
 have hx1 : PsW mC := (u3l (u2q 44100) (u2q 48000))
 have hx2 : List.length mC = 2 := rfl
 have hx3 : uK mC = 13 := (by decide +kernel)
 have hx4 : cK mC = 1 := (by decide +kernel)
 have hx5 : cL mC = 2 := (by decide +kernel)
 refine kH (.no :: .no :: .call [] (.tup [.c (.d (qJ)), .agg [iC (cK mC), iC (cL mC)], iE 13]) [] 0 [none, some [D.lit (.bool true)]] (some [.c (.d (D.sl (qH mC) 2)), .agg [iC 0, iC 0, .d (qJ), iC 0]]) :: qD 8 []) (([D.sl [iD 4, dl ([44100, 44100] : List Int) 1, D.sl (kI q7) 1, dl ([64, 64] : List Int) 1] 1, iD 0, D.sl [iD 4, dl ([48000, 48000] : List Int) 1, D.sl (kI q7) 1, dl ([64, 64] : List Int) 1] 1, iD 0].length = 2 * 2) ∧ (bI (.tup [.c (.d (qJ)), .agg [iC (cK mC), iC (cL mC)], iE 13]) = true) ∧ (((qH mC) : List D) = [D.sl [iD 4, dl ([44100, 44100] : List Int) 1, D.sl (kI q7) 1, dl ([64, 64] : List Int) 1] 1, iD 0, D.sl [iD 4, dl ([48000, 48000] : List Int) 1, D.sl (kI q7) 1, dl ([64, 64] : List Int) 1] 1, iD 0]) ∧ (kG 2) ∧ (kM 0) ∧ (kM 0) ∧ ((.slice none 0 0 : Value) = .slice none 0 0) ∧ (kM 0) ∧ (_)) [(1, oV 2 0 2 2), (3, rV 3 0), (4, iV 13)] [(2, some (47, .ds [D.sl [iD 4, dl ([44100, 44100] : List Int) 1, D.sl (kI q7) 1, dl ([64, 64] : List Int) 1] 1, iD 0, D.sl [iD 4, dl ([48000, 48000] : List Int) 1, D.sl (kI q7) 1, dl ([64, 64] : List Int) 1] 1, iD 0])), (3, some (32, .ds [iD (cK mC), iD (cL mC)]))] 4 ⟨pF, rfl, (by rfl), rfl, rfl, rfl, rfl, rfl, (u8f mC zo (qC : PsW mC) zo)⟩ ?_
 refine kH [.no, .n2 0 0, .no, .no] ((kM 0) ∧ ((0 : Nat) < 2) ∧ ((0 : Nat) + 0 * 2 = 0)) [(1, oV 2 0 2 2), (3, rV 3 0), (4, iV 13)] [(2, some (47, .ds [D.sl [iD 4, dl ([44100, 44100] : List Int) 1, D.sl (kI q7) 1, dl ([64, 64] : List Int) 1] 1, iD 2, D.sl [iD 4, dl ([48000, 48000] : List Int) 1, D.sl (kI q7) 1, dl ([64, 64] : List Int) 1] 1, iD 0])), (3, some (32, .ds [iD (cK mC), iD (cL mC)]))] 4 ⟨rfl, zo, zo⟩ ?_
 refine AW.freeze 2 (l' := [(1, qB [D.sl [iD 4, dl ([44100, 44100] : List Int) 1, D.sl (kI q7) 1, dl ([64, 64] : List Int) 1] 1, iD 2, D.sl [iD 4, dl ([48000, 48000] : List Int) 1, D.sl (kI q7) 1, dl ([64, 64] : List Int) 1] 1, iD 0] 2), (3, rV 3 0), (4, iV 13)]) (g' := [(3, some (32, .ds [iD (cK mC), iD (cL mC)]))]) rfl (FzS.cons rfl (.e (.c (@FzC.own 2 ([D.sl [iD 4, dl ([44100, 44100] : List Int) 1, D.sl (kI q7) 1, dl ([64, 64] : List Int) 1] 1, iD 2, D.sl [iD 4, dl ([48000, 48000] : List Int) 1, D.sl (kI q7) 1, dl ([64, 64] : List Int) 1] 1, iD 0] : List D) 0 (2 : Nat) 2 true ([D.sl [iD 4, dl ([44100, 44100] : List Int) 1, D.sl (kI q7) 1, dl ([64, 64] : List Int) 1] 1, iD 2, D.sl [iD 4, dl ([48000, 48000] : List Int) 1, D.sl (kI q7) 1, dl ([64, 64] : List Int) 1] 1, iD 0] : List D) zB pF))) (FzS.cons rfl (.same _) (FzS.cons rfl (.same _) FzS.nil))) (u1 rfl rfl FzG.nil) ?_
 have hx6 : PsW vA := (u3l (u2q 44100) (u2q 48000))
 have hx7 : List.length vA = 2 := rfl
 have hx8 : uK vA = 0 := (by decide +kernel)
 have hx9 : cK vA = 0 ∧ cL vA = 0 := (by decide +kernel)
 have hx10 : List.length (uF vA 2 0 0 ([] : List Int) 0) = 2 := (by decide +kernel)
 have hx11 : aV (uF vA 2 0 0 ([] : List Int) 0) 0 = 44100 := (by decide +kernel)
 have hx12 : aV (uF vA 2 0 0 ([] : List Int) 0) 1 = 48000 := (by decide +kernel)
 have hx13 : cM vA = true := (by decide +kernel)
 have hx14 : wV (kK (qF vA 0)) (bD (uF vA 2 0 0 ([] : List Int) 0) 0) (aV (uF vA 2 0 0 ([] : List Int) 0) 0) (u7 (uF vA 2 0 0 ([] : List Int) 0) 0) (bC (uF vA 2 0 0 ([] : List Int) 0) 0) = true := (by decide +kernel)
 have hx15 : wV (kK (qF vA 1)) (bD (uF vA 2 0 0 ([] : List Int) 0) 1) (aV (uF vA 2 0 0 ([] : List Int) 0) 1) (u7 (uF vA 2 0 0 ([] : List Int) 0) 1) (bC (uF vA 2 0 0 ([] : List Int) 0) 1) = true := (by decide +kernel)
 have hx16 : aI (u7 (uF vA 2 0 0 ([] : List Int) 0) 0) (u7 (uF vA 2 0 0 ([] : List Int) 0) 1) = true := (by decide +kernel)
 have hx17 : qG (q6 vA 0) 1 = 0 := (by decide +kernel)
 have hx18 : ¬ qG (q6 vA 0) 2 = 0 := (by decide +kernel)
 have hx19 : qG (q6 vA 0) 4 = 0 := (by decide +kernel)
 have hx20 : qG (q6 vA 0) 8 = 0 := (by decide +kernel)
 have hx21 : bD (uF vA 2 0 0 ([] : List Int) 0) 0 = bD (uF vA 2 0 0 ([] : List Int) 0) 1 := (by decide +kernel)
 have hx22 : bC (uF vA 2 0 0 ([] : List Int) 0) 0 = bC (uF vA 2 0 0 ([] : List Int) 0) 1 := (by decide +kernel)
 have hx23 : (ChW (uF vA 2 0 0 ([] : List Int) 0)) := (u4q (qC : PsW vA) (zo) (zo) (by decide))
 refine kH (.no :: .no :: .call [] (.tup [.c (.d (D.sl (uI 0 (uF vA 2 0 0 ([] : List Int) 0)) (List.length (uF vA 2 0 0 ([] : List Int) 0)))), .agg [iC (cK vA), iC (cL vA)], iE (uK vA)]) [] 0 [] (some [.c (.d (D.sl (qH vA) 2)), .agg [iC 0, iC 0, .d (dl ([] : List Int) 0), iC 0]]) :: qD 8 []) ((((qH vA) : List D) = [D.sl [iD 4, dl ([44100, 44100] : List Int) 1, D.sl (kI q7) 1, dl ([64, 64] : List Int) 1] 1, iD 2, D.sl [iD 4, dl ([48000, 48000] : List Int) 1, D.sl (kI q7) 1, dl ([64, 64] : List Int) 1] 1, iD 0]) ∧ (kG 2) ∧ (kM 0) ∧ (kM 0) ∧ (((dI .i64 ([] : List Int)) : List D) = ([] : List D)) ∧ (kG 0) ∧ (kM 0) ∧ (_)) [(1, qB [D.sl [iD 4, dl ([44100, 44100] : List Int) 1, D.sl (kI q7) 1, dl ([64, 64] : List Int) 1] 1, iD 2, D.sl [iD 4, dl ([48000, 48000] : List Int) 1, D.sl (kI q7) 1, dl ([64, 64] : List Int) 1] 1, iD 0] 2), (3, rV 3 0), (4, iV 13), (5, qB (uI 0 (uF vA 2 0 0 ([] : List Int) 0)) (List.length (uF vA 2 0 0 ([] : List Int) 0))), (7, iV (uK vA))] [(3, some (32, .ds [iD (cK mC), iD (cL mC)]))] 5 ⟨(by rfl), rfl, rfl, rfl, rfl, rfl, rfl, (u5h vA 2 0 0 ([] : List Int) 0 0 zo zo (qC : PsW vA) (by (simp only [qA, k9, qS, qY, q5, vG, y4, vU, List.length_append, List.length_cons, List.length_nil, List.length_take, List.length_drop, List.length_replicate, List.length_set] <;> omega)) zo zo zo (by decide +kernel))⟩ ?_
 have hx24 : ((List.length (u7 (uF vA 2 0 0 ([] : List Int) 0) 0)) ≤ 1000000) := (ChW.get (qC : ChW (uF vA 2 0 0 ([] : List Int) 0)) (0))
 have hx25 : ((List.length (u7 (uF vA 2 0 0 ([] : List Int) 0) 1)) ≤ 1000000) := (ChW.get (qC : ChW (uF vA 2 0 0 ([] : List Int) 0)) (1))
 refine kH [.no, .b true, .no, .no, .no, .b true, .no, .no, .no, .b true, .no, .no, .no, .no, .b true, .no, .no, .no, .n 0, .no, .no, .d (iD (aV (uF vA 2 0 0 ([] : List Int) 0) 0)), .b true, .no, .no, .no, .n 1, .no, .no, .d (iD (aV (uF vA 2 0 0 ([] : List Int) 0) 1)), .b true, .no, .no, .no, .no, .call [] (bV true) [] 0 [] (some [.c (.d (D.sl (qH vA) 2)), .c (.d (D.sl (uI 0 (uF vA 2 0 0 ([] : List Int) 0)) (List.length (uF vA 2 0 0 ([] : List Int) 0))))]), .no, .no, .no, .call [] (bV true) [] 0 [] (some [.c (.d (D.sl (qH vA) 2))]), .no, .no] (((kM 13)) ∧ ((((cK mC) = 1) ∧ ((cL mC) = 2))) ∧ (((uK vA) = 0)) ∧ (((((List.length (uF vA 2 0 0 ([] : List Int) 0)) : Nat) : Int) = 2)) ∧ (kM 0) ∧ ((0 : Nat) < (List.length (uF vA 2 0 0 ([] : List Int) 0))) ∧ ((List.drop 1 (List.drop 0 (List.drop 0 (uI 0 (uF vA 2 0 0 ([] : List Int) 0)))))[0]? = some (iD (aV (uF vA 2 0 0 ([] : List Int) 0) 0))) ∧ (((aV (uF vA 2 0 0 ([] : List Int) 0) 0) = 44100)) ∧ (kM 1) ∧ ((1 : Nat) < (List.length (uF vA 2 0 0 ([] : List Int) 0))) ∧ ((List.drop 1 (List.drop 0 (List.drop 4 (uI 0 (uF vA 2 0 0 ([] : List Int) 0)))))[0]? = some (iD (aV (uF vA 2 0 0 ([] : List Int) 0) 1))) ∧ (((aV (uF vA 2 0 0 ([] : List Int) 0) 1) = 48000)) ∧ (((qH vA) : List D) = [D.sl [iD 4, dl ([44100, 44100] : List Int) 1, D.sl (kI q7) 1, dl ([64, 64] : List Int) 1] 1, iD 2, D.sl [iD 4, dl ([48000, 48000] : List Int) 1, D.sl (kI q7) 1, dl ([64, 64] : List Int) 1] 1, iD 0]) ∧ (kG 2) ∧ (kJ (uI 0 (uF vA 2 0 0 ([] : List Int) 0))) ∧ (kG (List.length (uF vA 2 0 0 ([] : List Int) 0))) ∧ (_) ∧ (((qH vA) : List D) = [D.sl [iD 4, dl ([44100, 44100] : List Int) 1, D.sl (kI q7) 1, dl ([64, 64] : List Int) 1] 1, iD 2, D.sl [iD 4, dl ([48000, 48000] : List Int) 1, D.sl (kI q7) 1, dl ([64, 64] : List Int) 1] 1, iD 0]) ∧ (kG 2) ∧ (Fun 16 [.c (.d (D.sl (qH vA) 2))] (kF []) 0 (bV true) (kF []) 0)) [(0, bV true)] [] 5 ⟨zo, ⟨zo, zo⟩, zo, zo, rfl, zo, (by exact (u4n (i := 0) zo)), zo, rfl, zo, (by (simp only [List.drop_drop]; exact (u4n (i := 1) zo))), zo, (by rfl), rfl, rfl, rfl, (u8d vA (uF vA 2 0 0 ([] : List Int) 0) (List.length (uF vA 2 0 0 ([] : List Int) 0)) zo (qC : PsW vA) rfl zo (qC : ChW (uF vA 2 0 0 ([] : List Int) 0)) hx13 hx14 hx15 zo zo zo zo zo hx16 zo), (by rfl), rfl, (by have h0 := (lR vA 2 zo zo (qC : PsW vA)); rw [hx13] at h0; exact h0)⟩ ?_
 refine AW.ret ?_
 exact kA (.inr rfl) [] (P := (true = true)) zk rfl
end Go.Proofs.YtbicifcgghmhaaaGreat
