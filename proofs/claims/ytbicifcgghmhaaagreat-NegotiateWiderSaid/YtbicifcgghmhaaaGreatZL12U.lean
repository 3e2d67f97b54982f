/- Merged texts. -/
import Derived.Test.YtbicifcgghmhaaaGreatZL12F
import Derived.Test.YtbicifcgghmhaaaGreatZL12E
namespace Go.Proofs.YtbicifcgghmhaaaGreat
open Go.ChangeShapes Go.WideShapes Go.ChangeAt Go.RowKit
set_option linter.unusedVariables false
set_option linter.unusedSimpArgs false
set_option maxHeartbeats 4000000
set_option maxRecDepth 100000
theorem u9e (ps : List Pt) (hn : List.length ps = 2) (hW : PsW ps) (hz : uX ps = 13) : Fun 20 [.c (.d (D.sl (qN ps) 2)), .agg [iC 0, iC 0, .d (D.lit (.slice none 0 0)), iC 0]] (kF []) 0 (.tup [.c (.d (D.lit (.slice none 0 0))), .agg [iC (aY ps), iC (aZ ps)], iE 13]) (kF []) 0 := by
 refine Fun.mk (n := 68) Tryz.func20 rfl rfl (Nat.le_of_ble_eq_true rfl) ?_
 intro cx hcx
 refine kH (qE 4 []) True [(0, qC (qN ps) 2), (3, rV 0 0), (5, rV 1 0)] [(0, some (42, .ds [iD 0, iD 0, qI, iD 0])), (1, some (32, .ds [iD 0, iD 0]))] 2 trivial ?_
 refine kH (.no :: .call [] (.tup [.c (.d (D.sl (aF (uN ps)) (List.length (uN ps)))), .agg [iC (aY ps), iC (aZ ps)], iE (uX ps)]) [] 0 [] none :: qE 8 []) _ [(0, qC (qN ps) 2), (3, rV 0 0), (5, rV 1 0), (7, qC (aF (uN ps)) (List.length (uN ps))), (8, rV 2 0), (9, iV (uX ps))] [(0, some (42, .ds [iD 0, iD 0, qI, iD 0])), (1, some (32, .ds [iD 0, iD 0])), (2, some (32, .ds [iD (aY ps), iD (aZ ps)]))] 3 (u18 ps 2 zo zo (qD : PsW ps)) ?_
 refine AW.seq ?_
 refine kS [.no, .b true] (((uX ps) ≠ 0)) [(0, qC (qN ps) 2), (3, rV 0 0), (5, rV 1 0), (7, qC (aF (uN ps)) (List.length (uN ps))), (8, rV 2 0), (9, iV (uX ps)), (21, bV true)] zo ?_
 refine zt ?_
 refine kH (qE 5 []) True [(4, nV), (5, rV 1 0), (6, iV (uX ps))] [(1, some (32, .ds [iD (aY ps), iD (aZ ps)]))] 3 trivial ?_
 refine AW.ret ?_
 exact kA (.inr rfl) [] (P := ((.slice none 0 0 : Value) = .slice none 0 0) ∧ (kM (aY ps)) ∧ (kM (aZ ps)) ∧ ((13 : Int) = (uX ps))) zk ⟨rfl, rfl, rfl, zo⟩
theorem u9d (ka ra za kb rb zb : Int) (ma mb : List Int) (na nb : Nat) (d : Int) (ha : List.length ma = na) (hb : List.length mb = nb) (h1 : na ≤ 1000000) (h2 : nb ≤ 1000000) (d1 : qG d 1 = 0) (d2 : ¬ qG d 2 = 0) (d4 : qG d 4 = 0) (d8 : qG d 8 = 0) (e1 : ka = kb) (e2 : aJ ma mb = true) (e3 : za = zb) : Fun 51 [.agg [iC ka, iC ra, .d (D.sl (dI .i64 ma) na), iC za], .agg [iC kb, iC rb, .d (D.sl (dI .i64 mb) nb), iC zb], iE d] (kF []) 0 (bV true) (kF []) 0 := by
 refine Fun.mk (n := 59) Tryz.func51 rfl rfl (Nat.le_of_ble_eq_true rfl) ?_
 intro cx hcx
 refine kH [.no, .no, .no] True [(2, iV d), (3, rV 0 0), (4, rV 1 0)] [(0, some (42, .ds [iD ka, iD ra, dl ma na, iD za])), (1, some (42, .ds [iD kb, iD rb, dl mb nb, iD zb]))] 2 trivial ?_
 refine kH (.no :: .i (qG d 1) :: .b false :: qE 7 (.b true :: .no :: .no :: .no :: .i (qG d 2) :: .b true :: qE 5 (.i (qG d 4) :: .b false :: qE 7 (.call [] (bV true) [] 0 [] none :: qE 4 (.i (qG d 8) :: .b false :: qE 5 [.b true, .no, .no, .no]))))) ((qF .and .i64 d 1 = (qG d 1)) ∧ (¬ ((qG d 1) ≠ 0)) ∧ ((ka = kb)) ∧ (qF .and .i64 d 2 = (qG d 2)) ∧ (((qG d 2) ≠ 0)) ∧ (qF .and .i64 d 4 = (qG d 4)) ∧ (¬ ((qG d 4) ≠ 0)) ∧ (Fun 52 [.c (.d (dl ma na)), .c (.d (dl mb nb))] (kF []) 0 (bV true) (kF []) 0) ∧ (qF .and .i64 d 8 = (qG d 8)) ∧ (¬ ((qG d 8) ≠ 0)) ∧ ((za = zb))) [(6, bV true)] [] 2 ⟨rfl, zo, zo, rfl, zo, rfl, zo, (by have h0 := (tN ma mb na nb zo zo zo zo); rw [e2] at h0; exact h0), rfl, zo, zo⟩ ?_
 refine AW.ret ?_
 exact kA (.inr rfl) [] (P := (true = true)) zk rfl
theorem u9c (ps : List Pt) (cs : List Co) (m : Nat) (hn : List.length ps = 2) (hW : PsW ps) (hm : List.length cs = m) (hm2 : m = 2) (hC : ChW cs) (hv : cS ps = true) (hx : xH (kK (kR ps 0)) (aB cs 0) (vS cs 0) (uJ cs 0) (aA cs 0) = true) (hy : xH (kK (kR ps 1)) (aB cs 1) (vS cs 1) (uJ cs 1) (aA cs 1) = true) (d1 : qG (uG ps 0) 1 = 0) (d2 : ¬ qG (uG ps 0) 2 = 0) (d4 : qG (uG ps 0) 4 = 0) (d8 : qG (uG ps 0) 8 = 0) (e1 : aB cs 0 = aB cs 1) (e2 : aJ (uJ cs 0) (uJ cs 1) = true) (e3 : aA cs 0 = aA cs 1) : Fun 23 [.c (.d (D.sl (qN ps) 2)), .c (.d (D.sl (qT 0 cs) m))] (kF []) 0 (bV true) (kF []) 0 := by
 refine Fun.mk (n := 55) Tryz.func23 rfl rfl (Nat.le_of_ble_eq_true rfl) ?_
 intro cx hcx
 refine kH [.no] True [(0, qC (qN ps) 2), (1, qC (qT 0 cs) m)] [] 0 trivial ?_
 refine AW.seq ?_
 refine kS (.no :: .call [] (bV true) [] 0 [] none :: qE 6 [.b false, .no]) ((Fun 16 [.c (.d (D.sl (qN ps) 2))] (kF []) 0 (bV true) (kF []) 0) ∧ (¬ ((m : Int) ≠ 2))) [(0, qC (qN ps) 2), (1, qC (qT 0 cs) m), (17, bV false)] ⟨(by have h0 := (l9 ps 2 zo zo (qD : PsW ps)); rw [hv] at h0; exact h0), zo⟩ ?_
 refine uO ?_
 refine kS [.no] True [(0, qC (qN ps) 2), (1, qC (qT 0 cs) m), (5, .e (.c (.fn 51 [])))] trivial ?_
 refine AW.seq ?_
 refine kS [.no, .no, .no] True [(0, qC (qN ps) 2), (1, qC (qT 0 cs) m), (5, .e (.c (.fn 51 []))), (18, qC (qT 0 cs) m), (19, uV m), (20, iV 0)] trivial ?_
 refine AW.block ?_
 refine AW.rounds 3 ?_
 refine AWr.s ?_
 refine kH [.b true] (((0 : Int) < (m : Int))) [(0, qC (qN ps) 2), (1, qC (qT 0 cs) m), (5, .e (.c (.fn 51 []))), (18, qC (qT 0 cs) m), (19, uV m), (20, iV 0), (21, bV true)] [] 0 zo ?_
 refine AW.seq ?_
 refine vL ?_
 refine AW.seq ?_
 refine AW.block ?_
 have hx1 : ((List.length (uJ cs 0)) ≤ 1000000) := (ChW.get (qD : ChW cs) (0))
 refine kH [.no, .n 0, .ds [iD (aB cs 0), iD (vS cs 0), dl (uJ cs 0) (List.length (uJ cs 0)), iD (aA cs 0)], .no, .no, .no] ((kM 0) ∧ ((0 : Nat) < m) ∧ (List.take 4 (List.drop 0 (qT 0 cs)) = [iD (aB cs 0), iD (vS cs 0), dl (uJ cs 0) (List.length (uJ cs 0)), iD (aA cs 0)]) ∧ (([iD (aB cs 0), iD (vS cs 0), dl (uJ cs 0) (List.length (uJ cs 0)), iD (aA cs 0)] : List D).length = 4)) [(0, qC (qN ps) 2), (1, qC (qT 0 cs) m), (5, .e (.c (.fn 51 []))), (6, iV 0), (7, rV 0 0), (18, qC (qT 0 cs) m), (19, uV m), (20, iV 0)] [(0, some (42, .ds [iD (aB cs 0), iD (vS cs 0), dl (uJ cs 0) (List.length (uJ cs 0)), iD (aA cs 0)]))] 1 ⟨rfl, zo, (lF (i := 0) zo), rfl⟩ ?_
 have hx2 : ((List.length (kR ps 0)) ≤ 1000) := (PsW.get (qD : PsW ps) (0)).2
 refine kH [.no, .no, .n 0, .no, .d (D.sl (kN (kR ps 0)) (List.length (kR ps 0))), .no, .call [] (bV true) [] 0 [] none, .no, .no, .no, .b false, .no, .no, .no] ((kM 0) ∧ ((0 : Nat) < 2) ∧ ((List.drop 0 (List.drop 0 (qN ps)))[0]? = some (D.sl (kN (kR ps 0)) (List.length (kR ps 0)))) ∧ (Fun 53 [.c (.d (D.sl (kN (kR ps 0)) (List.length (kR ps 0)))), .agg [iC (aB cs 0), iC (vS cs 0), .d (dl (uJ cs 0) (List.length (uJ cs 0))), iC (aA cs 0)]] (kF []) 0 (bV true) (kF []) 0) ∧ (¬ ((0 : Int) < 0))) [(0, qC (qN ps) 2), (1, qC (qT 0 cs) m), (5, .e (.c (.fn 51 []))), (18, qC (qT 0 cs) m), (19, uV m), (20, iV 0), (53, bV false)] [] 1 ⟨rfl, zo, (by (rw [List.drop_drop]; exact (wE (i := 0) zo))), (by have h0 := (u6o (kR ps 0) (List.length (kR ps 0)) (aB cs 0) (vS cs 0) (uJ cs 0) (List.length (uJ cs 0)) (aA cs 0) rfl zo (PsW.get (qD : PsW ps) _).1 rfl zo); rw [hx] at h0; exact h0), zo⟩ ?_
 refine uO ?_
 refine yA [.w, .no] (u3 (1 : Int)) [(0, qC (qN ps) 2), (1, qC (qT 0 cs) m), (5, .e (.c (.fn 51 []))), (18, qC (qT 0 cs) m), (19, uV m), (20, iV 1)] ⟨by omega, by omega⟩ ?_
 refine AWr.s ?_
 refine kH [.b true] (((1 : Int) < (m : Int))) [(0, qC (qN ps) 2), (1, qC (qT 0 cs) m), (5, .e (.c (.fn 51 []))), (18, qC (qT 0 cs) m), (19, uV m), (20, iV 1), (21, bV true)] [] 1 zo ?_
 refine AW.seq ?_
 refine vL ?_
 refine AW.seq ?_
 refine AW.block ?_
 have hx3 : ((List.length (uJ cs 1)) ≤ 1000000) := (ChW.get (qD : ChW cs) (1))
 refine kH [.no, .n 1, .ds [iD (aB cs 1), iD (vS cs 1), dl (uJ cs 1) (List.length (uJ cs 1)), iD (aA cs 1)], .no, .no, .no] ((kM 1) ∧ ((1 : Nat) < m) ∧ (List.take 4 (List.drop 4 (qT 0 cs)) = [iD (aB cs 1), iD (vS cs 1), dl (uJ cs 1) (List.length (uJ cs 1)), iD (aA cs 1)]) ∧ (([iD (aB cs 1), iD (vS cs 1), dl (uJ cs 1) (List.length (uJ cs 1)), iD (aA cs 1)] : List D).length = 4)) [(0, qC (qN ps) 2), (1, qC (qT 0 cs) m), (5, .e (.c (.fn 51 []))), (6, iV 1), (7, rV 1 0), (18, qC (qT 0 cs) m), (19, uV m), (20, iV 1)] [(1, some (42, .ds [iD (aB cs 1), iD (vS cs 1), dl (uJ cs 1) (List.length (uJ cs 1)), iD (aA cs 1)]))] 2 ⟨rfl, zo, (lF (i := 1) zo), rfl⟩ ?_
 have hx4 : ((List.length (kR ps 1)) ≤ 1000) := (PsW.get (qD : PsW ps) (1)).2
 refine kH [.no, .no, .n 1, .no, .d (D.sl (kN (kR ps 1)) (List.length (kR ps 1))), .no, .call [] (bV true) [] 0 [] none, .no, .no, .no, .b true, .no, .no, .no, .no, .w, .n 0, .ds [iD (aB cs 0), iD (vS cs 0), dl (uJ cs 0) (List.length (uJ cs 0)), iD (aA cs 0)], .no, .no, .no, .w, .n 0, .no, .d (iD (uG ps 0)), .call [] (bV true) [] 0 [] none, .no, .no, .no] ((kM 1) ∧ ((1 : Nat) < 2) ∧ ((List.drop 0 (List.drop 2 (qN ps)))[0]? = some (D.sl (kN (kR ps 1)) (List.length (kR ps 1)))) ∧ (Fun 53 [.c (.d (D.sl (kN (kR ps 1)) (List.length (kR ps 1)))), .agg [iC (aB cs 1), iC (vS cs 1), .d (dl (uJ cs 1) (List.length (uJ cs 1))), iC (aA cs 1)]] (kF []) 0 (bV true) (kF []) 0) ∧ (((0 : Int) < 1)) ∧ (u3 (0 : Int)) ∧ (kM 0) ∧ ((0 : Nat) < m) ∧ (List.take 4 (List.drop 0 (qT 0 cs)) = [iD (aB cs 0), iD (vS cs 0), dl (uJ cs 0) (List.length (uJ cs 0)), iD (aA cs 0)]) ∧ (([iD (aB cs 0), iD (vS cs 0), dl (uJ cs 0) (List.length (uJ cs 0)), iD (aA cs 0)] : List D).length = 4) ∧ (u3 (0 : Int)) ∧ (kM 0) ∧ ((0 : Nat) < 2) ∧ ((List.drop 1 (List.drop 0 (qN ps)))[0]? = some (iD (uG ps 0))) ∧ (_)) [(0, qC (qN ps) 2), (1, qC (qT 0 cs) m), (5, .e (.c (.fn 51 []))), (18, qC (qT 0 cs) m), (19, uV m), (20, iV 1), (53, bV false)] [] 2 ⟨rfl, zo, (by (rw [List.drop_drop]; exact (wE (i := 1) zo))), (by have h0 := (u6o (kR ps 1) (List.length (kR ps 1)) (aB cs 1) (vS cs 1) (uJ cs 1) (List.length (uJ cs 1)) (aA cs 1) rfl zo (PsW.get (qD : PsW ps) _).1 rfl zo); rw [hy] at h0; exact h0), zo, ⟨by omega, by omega⟩, rfl, zo, (lF (i := 0) zo), rfl, ⟨by omega, by omega⟩, rfl, zo, (by (rw [List.drop_drop]; exact (u7g (i := 0) zo))), (u9d (aB cs 0) (vS cs 0) (aA cs 0) (aB cs 1) (vS cs 1) (aA cs 1) (uJ cs 0) (uJ cs 1) (List.length (uJ cs 0)) (List.length (uJ cs 1)) (uG ps 0) rfl rfl zo zo zo zo zo zo zo zo zo)⟩ ?_
 refine uO ?_
 refine yA [.w, .no] (u3 (2 : Int)) [(0, qC (qN ps) 2), (1, qC (qT 0 cs) m), (5, .e (.c (.fn 51 []))), (18, qC (qT 0 cs) m), (19, uV m), (20, iV 2)] ⟨by omega, by omega⟩ ?_
 refine AWr.s ?_
 refine kH [.b false] (¬ ((2 : Int) < (m : Int))) [(0, qC (qN ps) 2), (1, qC (qT 0 cs) m), (5, .e (.c (.fn 51 []))), (18, qC (qT 0 cs) m), (19, uV m), (20, iV 2), (21, bV false)] [] 2 zo ?_
 refine AW.seq ?_
 refine zf ?_
 refine AW.exit ?_
 refine kH [.no] True [(4, bV true)] [] 2 trivial ?_
 refine AW.ret ?_
 exact kA (.inr rfl) [] (P := (true = true)) zk rfl
end Go.Proofs.YtbicifcgghmhaaaGreat
namespace Go.Proofs.YtbicifcgghmhaaaGreat
open Go.ChangeShapes Go.WideShapes Go.ChangeAt Go.RowKit
set_option linter.unusedVariables false
set_option linter.unusedSimpArgs false
set_option maxHeartbeats 4000000
set_option maxRecDepth 100000
abbrev mV : List Pt := ([dW ([kE 4 ([44100, 44100] : List Int) 1 ([([3] : List Int)] : List (List Int)) ([64, 64] : List Int) 1] : List Bx) 0, dW ([kE 4 ([48000, 48000] : List Int) 1 ([([3] : List Int)] : List (List Int)) ([64, 64] : List Int) 1] : List Bx) 0] : List Pt)
abbrev vE : List Pt := ([dW ([kE 4 ([44100, 44100] : List Int) 1 ([([3] : List Int)] : List (List Int)) ([64, 64] : List Int) 1] : List Bx) 2, dW ([kE 4 ([48000, 48000] : List Int) 1 ([([3] : List Int)] : List (List Int)) ([64, 64] : List Int) 1] : List Bx) 0] : List Pt)
abbrev q7 := ([([3] : List Int)] : List (List Int))
theorem zT {p : Prop} (h : p := by rw [List.drop_zero, List.take_of_length_le (by (simp only [qB, qA, qS, qV, q6, y4, yK, vK, qQ, List.length_append, List.length_cons, List.length_nil, List.length_take, List.length_drop, List.length_replicate, List.length_set, List.length_map, List.length_reverse, Nat.mul_one] <;> omega))]) : p := h
theorem p8 {p : Prop} (h : p := by (simp only [qB, qA, qS, qV, q6, y4, yK, vK, qQ, List.length_append, List.length_cons, List.length_nil, List.length_take, List.length_drop, List.length_replicate, List.length_set, List.length_map, List.length_reverse, Nat.mul_one] <;> omega)) : p := h
theorem u97   : Fun 10 [] (kF []) 0 (bV true) (kF []) 0 := by
 refine Fun.mk (n := 73) Tryz.func10 rfl rfl (Nat.le_of_ble_eq_true rfl) ?_
 intro cx hcx
 refine kH [.no] True [] [] 0 trivial ?_
 refine kH (.call [] (.e (.agg [iC 4, .d (dl ([44100, 44100] : List Int) 1), .d (D.sl (kI q7) 1), .d (dl ([64, 64] : List Int) 1)])) [] 0 [] none :: .no :: .no :: .call [] (.e (.agg [iC 4, .d (dl ([48000, 48000] : List Int) 1), .d (D.sl (kI q7) 1), .d (dl ([64, 64] : List Int) 1)])) [] 0 [] none :: qE 4 []) ((_) ∧ (_)) [(1, oV 2 0 2 2)] [(0, some (63, .ds [iD 4, dl ([44100, 44100] : List Int) 1, D.sl (kI q7) 1, dl ([64, 64] : List Int) 1])), (1, some (63, .ds [iD 4, dl ([48000, 48000] : List Int) 1, D.sl (kI q7) 1, dl ([64, 64] : List Int) 1])), (2, some (47, .cs [.own 0 0 1 4 true, iC 0, .own 1 0 1 4 true, iC 0]))] 3 ⟨(u6a 44100), (u6a 48000)⟩ ?_
 refine AW.freeze 0 (l' := [(1, oV 2 0 2 2)]) (g' := [(1, some (63, .ds [iD 4, dl ([48000, 48000] : List Int) 1, D.sl (kI q7) 1, dl ([64, 64] : List Int) 1])), (2, some (47, .cs [.d (D.sl [iD 4, dl ([44100, 44100] : List Int) 1, D.sl (kI q7) 1, dl ([64, 64] : List Int) 1] 1), iC 0, .own 1 0 1 4 true, iC 0]))]) rfl (FzS.cons rfl (.same _) FzS.nil) (uI rfl rfl (FzG.to (bc := .cs [.own 0 0 1 4 true, iC 0, .own 1 0 1 4 true, iC 0]) rfl (by rfl) (FzL.cons (@FzC.own 0 ([iD 4, dl ([44100, 44100] : List Int) 1, D.sl (kI q7) 1, dl ([64, 64] : List Int) 1] : List D) 0 (1 : Nat) 4 true ([iD 4, dl ([44100, 44100] : List Int) 1, D.sl (kI q7) 1, dl ([64, 64] : List Int) 1] : List D) zT p8) (FzL.cons (.same _) (FzL.cons (.same _) (FzL.cons (.same _) FzL.nil)))) FzG.nil)) ?_
 refine AW.freeze 1 (l' := [(1, oV 2 0 2 2)]) (g' := [(2, some (47, .ds [D.sl [iD 4, dl ([44100, 44100] : List Int) 1, D.sl (kI q7) 1, dl ([64, 64] : List Int) 1] 1, iD 0, D.sl [iD 4, dl ([48000, 48000] : List Int) 1, D.sl (kI q7) 1, dl ([64, 64] : List Int) 1] 1, iD 0]))]) rfl (FzS.cons rfl (.same _) FzS.nil) (FzG.to (bc := .cs [.d (D.sl [iD 4, dl ([44100, 44100] : List Int) 1, D.sl (kI q7) 1, dl ([64, 64] : List Int) 1] 1), iC 0, .own 1 0 1 4 true, iC 0]) rfl (by rfl) (FzL.cons (.same _) (FzL.cons (.same _) (FzL.cons (@FzC.own 1 ([iD 4, dl ([48000, 48000] : List Int) 1, D.sl (kI q7) 1, dl ([64, 64] : List Int) 1] : List D) 0 (1 : Nat) 4 true ([iD 4, dl ([48000, 48000] : List Int) 1, D.sl (kI q7) 1, dl ([64, 64] : List Int) 1] : List D) zT p8) (FzL.cons (.same _) FzL.nil)))) FzG.nil) ?_
 have hx1 : PsW mV := (u4q (u3s 44100) (u3s 48000))
 have hx2 : List.length mV = 2 := rfl
 have hx3 : uX mV = 13 := (by decide +kernel)
 have hx4 : aY mV = 1 := (by decide +kernel)
 have hx5 : aZ mV = 2 := (by decide +kernel)
 refine kH (.no :: .no :: .call [] (.tup [.c (.d (qI)), .agg [iC (aY mV), iC (aZ mV)], iE 13]) [] 0 [none, some [D.lit (.bool true)]] (some [.c (.d (D.sl (qN mV) 2)), .agg [iC 0, iC 0, .d (qI), iC 0]]) :: qE 8 []) (([D.sl [iD 4, dl ([44100, 44100] : List Int) 1, D.sl (kI q7) 1, dl ([64, 64] : List Int) 1] 1, iD 0, D.sl [iD 4, dl ([48000, 48000] : List Int) 1, D.sl (kI q7) 1, dl ([64, 64] : List Int) 1] 1, iD 0].length = 2 * 2) ∧ (bN (.tup [.c (.d (qI)), .agg [iC (aY mV), iC (aZ mV)], iE 13]) = true) ∧ (((qN mV) : List D) = [D.sl [iD 4, dl ([44100, 44100] : List Int) 1, D.sl (kI q7) 1, dl ([64, 64] : List Int) 1] 1, iD 0, D.sl [iD 4, dl ([48000, 48000] : List Int) 1, D.sl (kI q7) 1, dl ([64, 64] : List Int) 1] 1, iD 0]) ∧ (kG 2) ∧ (kM 0) ∧ (kM 0) ∧ ((.slice none 0 0 : Value) = .slice none 0 0) ∧ (kM 0) ∧ (_)) [(1, oV 2 0 2 2), (3, rV 3 0), (4, iV 13)] [(2, some (47, .ds [D.sl [iD 4, dl ([44100, 44100] : List Int) 1, D.sl (kI q7) 1, dl ([64, 64] : List Int) 1] 1, iD 0, D.sl [iD 4, dl ([48000, 48000] : List Int) 1, D.sl (kI q7) 1, dl ([64, 64] : List Int) 1] 1, iD 0])), (3, some (32, .ds [iD (aY mV), iD (aZ mV)]))] 4 ⟨p8, rfl, (by rfl), rfl, rfl, rfl, rfl, rfl, (u9e mV zo (qD : PsW mV) zo)⟩ ?_
 refine kH [.no, .n2 0 0, .no, .no] ((kM 0) ∧ ((0 : Nat) < 2) ∧ ((0 : Nat) + 0 * 2 = 0)) [(1, oV 2 0 2 2), (3, rV 3 0), (4, iV 13)] [(2, some (47, .ds [D.sl [iD 4, dl ([44100, 44100] : List Int) 1, D.sl (kI q7) 1, dl ([64, 64] : List Int) 1] 1, iD 2, D.sl [iD 4, dl ([48000, 48000] : List Int) 1, D.sl (kI q7) 1, dl ([64, 64] : List Int) 1] 1, iD 0])), (3, some (32, .ds [iD (aY mV), iD (aZ mV)]))] 4 ⟨rfl, zo, zo⟩ ?_
 refine AW.freeze 2 (l' := [(1, qC [D.sl [iD 4, dl ([44100, 44100] : List Int) 1, D.sl (kI q7) 1, dl ([64, 64] : List Int) 1] 1, iD 2, D.sl [iD 4, dl ([48000, 48000] : List Int) 1, D.sl (kI q7) 1, dl ([64, 64] : List Int) 1] 1, iD 0] 2), (3, rV 3 0), (4, iV 13)]) (g' := [(3, some (32, .ds [iD (aY mV), iD (aZ mV)]))]) rfl (FzS.cons rfl (.e (.c (@FzC.own 2 ([D.sl [iD 4, dl ([44100, 44100] : List Int) 1, D.sl (kI q7) 1, dl ([64, 64] : List Int) 1] 1, iD 2, D.sl [iD 4, dl ([48000, 48000] : List Int) 1, D.sl (kI q7) 1, dl ([64, 64] : List Int) 1] 1, iD 0] : List D) 0 (2 : Nat) 2 true ([D.sl [iD 4, dl ([44100, 44100] : List Int) 1, D.sl (kI q7) 1, dl ([64, 64] : List Int) 1] 1, iD 2, D.sl [iD 4, dl ([48000, 48000] : List Int) 1, D.sl (kI q7) 1, dl ([64, 64] : List Int) 1] 1, iD 0] : List D) zT p8))) (FzS.cons rfl (.same _) (FzS.cons rfl (.same _) FzS.nil))) (uI rfl rfl FzG.nil) ?_
 have hx6 : PsW vE := (u4q (u3s 44100) (u3s 48000))
 have hx7 : List.length vE = 2 := rfl
 have hx8 : uX vE = 0 := (by decide +kernel)
 have hx9 : aY vE = 0 ∧ aZ vE = 0 := (by decide +kernel)
 have hx10 : List.length (u0 vE 2 0 0 ([] : List Int) 0) = 2 := (by decide +kernel)
 have hx11 : vS (u0 vE 2 0 0 ([] : List Int) 0) 0 = 44100 := (by decide +kernel)
 have hx12 : vS (u0 vE 2 0 0 ([] : List Int) 0) 1 = 48000 := (by decide +kernel)
 have hx13 : cS vE = true := (by decide +kernel)
 have hx14 : xH (kK (kR vE 0)) (aB (u0 vE 2 0 0 ([] : List Int) 0) 0) (vS (u0 vE 2 0 0 ([] : List Int) 0) 0) (uJ (u0 vE 2 0 0 ([] : List Int) 0) 0) (aA (u0 vE 2 0 0 ([] : List Int) 0) 0) = true := (by decide +kernel)
 have hx15 : xH (kK (kR vE 1)) (aB (u0 vE 2 0 0 ([] : List Int) 0) 1) (vS (u0 vE 2 0 0 ([] : List Int) 0) 1) (uJ (u0 vE 2 0 0 ([] : List Int) 0) 1) (aA (u0 vE 2 0 0 ([] : List Int) 0) 1) = true := (by decide +kernel)
 have hx16 : aJ (uJ (u0 vE 2 0 0 ([] : List Int) 0) 0) (uJ (u0 vE 2 0 0 ([] : List Int) 0) 1) = true := (by decide +kernel)
 have hx17 : qG (uG vE 0) 1 = 0 := (by decide +kernel)
 have hx18 : ¬ qG (uG vE 0) 2 = 0 := (by decide +kernel)
 have hx19 : qG (uG vE 0) 4 = 0 := (by decide +kernel)
 have hx20 : qG (uG vE 0) 8 = 0 := (by decide +kernel)
 have hx21 : aB (u0 vE 2 0 0 ([] : List Int) 0) 0 = aB (u0 vE 2 0 0 ([] : List Int) 0) 1 := (by decide +kernel)
 have hx22 : aA (u0 vE 2 0 0 ([] : List Int) 0) 0 = aA (u0 vE 2 0 0 ([] : List Int) 0) 1 := (by decide +kernel)
 have hx23 : (ChW (u0 vE 2 0 0 ([] : List Int) 0)) := (u02 (qD : PsW vE) (zo) (zo) (by decide))
 refine kH (.no :: .no :: .call [] (.tup [.c (.d (D.sl (qT 0 (u0 vE 2 0 0 ([] : List Int) 0)) (List.length (u0 vE 2 0 0 ([] : List Int) 0)))), .agg [iC (aY vE), iC (aZ vE)], iE (uX vE)]) [] 0 [] (some [.c (.d (D.sl (qN vE) 2)), .agg [iC 0, iC 0, .d (dl ([] : List Int) 0), iC 0]]) :: qE 8 []) ((((qN vE) : List D) = [D.sl [iD 4, dl ([44100, 44100] : List Int) 1, D.sl (kI q7) 1, dl ([64, 64] : List Int) 1] 1, iD 2, D.sl [iD 4, dl ([48000, 48000] : List Int) 1, D.sl (kI q7) 1, dl ([64, 64] : List Int) 1] 1, iD 0]) ∧ (kG 2) ∧ (kM 0) ∧ (kM 0) ∧ (((dI .i64 ([] : List Int)) : List D) = ([] : List D)) ∧ (kG 0) ∧ (kM 0) ∧ (_)) [(1, qC [D.sl [iD 4, dl ([44100, 44100] : List Int) 1, D.sl (kI q7) 1, dl ([64, 64] : List Int) 1] 1, iD 2, D.sl [iD 4, dl ([48000, 48000] : List Int) 1, D.sl (kI q7) 1, dl ([64, 64] : List Int) 1] 1, iD 0] 2), (3, rV 3 0), (4, iV 13), (5, qC (qT 0 (u0 vE 2 0 0 ([] : List Int) 0)) (List.length (u0 vE 2 0 0 ([] : List Int) 0))), (7, iV (uX vE))] [(3, some (32, .ds [iD (aY mV), iD (aZ mV)]))] 5 ⟨(by rfl), rfl, rfl, rfl, rfl, rfl, rfl, (u1a vE 2 0 0 ([] : List Int) 0 0 zo zo (qD : PsW vE) (by (simp only [qB, qA, qS, qV, q6, y4, yK, vK, List.length_append, List.length_cons, List.length_nil, List.length_take, List.length_drop, List.length_replicate, List.length_set] <;> omega)) zo zo zo (by decide +kernel))⟩ ?_
 have hx24 : ((List.length (uJ (u0 vE 2 0 0 ([] : List Int) 0) 0)) ≤ 1000000) := (ChW.get (qD : ChW (u0 vE 2 0 0 ([] : List Int) 0)) (0))
 have hx25 : ((List.length (uJ (u0 vE 2 0 0 ([] : List Int) 0) 1)) ≤ 1000000) := (ChW.get (qD : ChW (u0 vE 2 0 0 ([] : List Int) 0)) (1))
 refine kH [.no, .b true, .no, .no, .no, .b true, .no, .no, .no, .b true, .no, .no, .no, .no, .b true, .no, .no, .no, .n 0, .no, .no, .d (iD (vS (u0 vE 2 0 0 ([] : List Int) 0) 0)), .b true, .no, .no, .no, .n 1, .no, .no, .d (iD (vS (u0 vE 2 0 0 ([] : List Int) 0) 1)), .b true, .no, .no, .no, .no, .call [] (bV true) [] 0 [] (some [.c (.d (D.sl (qN vE) 2)), .c (.d (D.sl (qT 0 (u0 vE 2 0 0 ([] : List Int) 0)) (List.length (u0 vE 2 0 0 ([] : List Int) 0))))]), .no, .no, .no, .call [] (bV true) [] 0 [] (some [.c (.d (D.sl (qN vE) 2))]), .no, .no] (((kM 13)) ∧ ((((aY mV) = 1) ∧ ((aZ mV) = 2))) ∧ (((uX vE) = 0)) ∧ (((((List.length (u0 vE 2 0 0 ([] : List Int) 0)) : Nat) : Int) = 2)) ∧ (kM 0) ∧ ((0 : Nat) < (List.length (u0 vE 2 0 0 ([] : List Int) 0))) ∧ ((List.drop 1 (List.drop 0 (List.drop 0 (qT 0 (u0 vE 2 0 0 ([] : List Int) 0)))))[0]? = some (iD (vS (u0 vE 2 0 0 ([] : List Int) 0) 0))) ∧ (((vS (u0 vE 2 0 0 ([] : List Int) 0) 0) = 44100)) ∧ (kM 1) ∧ ((1 : Nat) < (List.length (u0 vE 2 0 0 ([] : List Int) 0))) ∧ ((List.drop 1 (List.drop 0 (List.drop 4 (qT 0 (u0 vE 2 0 0 ([] : List Int) 0)))))[0]? = some (iD (vS (u0 vE 2 0 0 ([] : List Int) 0) 1))) ∧ (((vS (u0 vE 2 0 0 ([] : List Int) 0) 1) = 48000)) ∧ (((qN vE) : List D) = [D.sl [iD 4, dl ([44100, 44100] : List Int) 1, D.sl (kI q7) 1, dl ([64, 64] : List Int) 1] 1, iD 2, D.sl [iD 4, dl ([48000, 48000] : List Int) 1, D.sl (kI q7) 1, dl ([64, 64] : List Int) 1] 1, iD 0]) ∧ (kG 2) ∧ (kJ (qT 0 (u0 vE 2 0 0 ([] : List Int) 0))) ∧ (kG (List.length (u0 vE 2 0 0 ([] : List Int) 0))) ∧ (_) ∧ (((qN vE) : List D) = [D.sl [iD 4, dl ([44100, 44100] : List Int) 1, D.sl (kI q7) 1, dl ([64, 64] : List Int) 1] 1, iD 2, D.sl [iD 4, dl ([48000, 48000] : List Int) 1, D.sl (kI q7) 1, dl ([64, 64] : List Int) 1] 1, iD 0]) ∧ (kG 2) ∧ (Fun 16 [.c (.d (D.sl (qN vE) 2))] (kF []) 0 (bV true) (kF []) 0)) [(0, bV true)] [] 5 ⟨zo, ⟨zo, zo⟩, zo, zo, rfl, zo, (by exact (u5t (i := 0) zo)), zo, rfl, zo, (by (simp only [List.drop_drop]; exact (u5t (i := 1) zo))), zo, (by rfl), rfl, rfl, rfl, (u9c vE (u0 vE 2 0 0 ([] : List Int) 0) (List.length (u0 vE 2 0 0 ([] : List Int) 0)) zo (qD : PsW vE) rfl zo (qD : ChW (u0 vE 2 0 0 ([] : List Int) 0)) hx13 hx14 hx15 zo zo zo zo zo hx16 zo), (by rfl), rfl, (by have h0 := (l9 vE 2 zo zo (qD : PsW vE)); rw [hx13] at h0; exact h0)⟩ ?_
 refine AW.ret ?_
 exact kA (.inr rfl) [] (P := (true = true)) zk rfl
end Go.Proofs.YtbicifcgghmhaaaGreat
