/- What is blamed; forward. No statement is proved here. -/
import Derived.Test.YtbicifcgghmhaaaGreatZL12B
namespace Go.Proofs.YtbicifcgghmhaaaGreat
open Go.ChangeShapes Go.WideShapes Go.ChangeAt Go.RowKit
open Bool renaming eq_false_or_eq_true → ka9
open List renaming drop → ka3, drop_drop → ke4, drop_zero → kd3, getD → ka1, length → ka0, length_append → ka8, length_cons → kb0, length_drop → kb6, length_map → kc3, length_nil → kb2, length_replicate → kb5, length_reverse → kc0, length_set → kc1, length_take → kb4, take_of_length_le → kb7
open Nat renaming le_of_ble_eq_true → ka4, mul_one → kc6
set_option linter.unusedVariables false
set_option linter.unusedSimpArgs false
set_option maxHeartbeats 4000000
set_option maxRecDepth 100000
theorem yG {p : Prop} (h : p := by (simp only [qB, qA, qS, qV, q6, qQ, ka8, kb0, kb2, kb4, kb6, kb5, kc1, kc3, kc0, kc6] <;> omega)) : p := h
theorem v7 {p : Prop} (h : p := by (simp only [qB, qA, qS, qV, q6, ka8, kb0, kb2, kb4, kb6, kb5, kc1] <;> omega)) : p := h
abbrev uZ (k : Int) (r : List Int) (rn : Nat) (m : List (List Int)) (c : Nat) (s : List Int) (sn : Nat) : BC := .ds [iD k, D.sl (dI .i64 r) rn, D.sl (kI m) c, D.sl (dI .i64 s) sn]
abbrev uY (k2 : Int) (r2 : List Int) (rn2 : Nat) (m2 : List (List Int)) (c2 : Nat) (s2 : List Int) (sn2 : Nat) : BC := .ds [iD k2, D.sl (dI .i64 r2) rn2, D.sl (kI m2) c2, D.sl (dI .i64 s2) sn2]
theorem u9b (k : Int) (r : List Int) (rn : Nat) (m : List (List Int)) (c : Nat) (s : List Int) (sn : Nat) (k2 : Int) (r2 : List Int) (rn2 : Nat) (m2 : List (List Int)) (c2 : Nat) (s2 : List Int) (sn2 : Nat) (d : Int) (hr : ka0 r = rn * 2) (hs : ka0 s = sn * 2) (hc : ka0 m = c) (h1 : rn ≤ 1000000) (h2 : sn ≤ 1000000) (h3 : c ≤ 1000000) (hW : MsW m) (hr2 : ka0 r2 = rn2 * 2) (hs2 : ka0 s2 = sn2 * 2) (hc2 : ka0 m2 = c2) (h12 : rn2 ≤ 1000000) (h22 : sn2 ≤ 1000000) (h32 : c2 ≤ 1000000) (hW2 : MsW m2) : Fun 64 [.agg [iC k, .d (D.sl (dI .i64 r) rn), .d (D.sl (kI m) c), .d (D.sl (dI .i64 s) sn)], .agg [iC k2, .d (D.sl (dI .i64 r2) rn2), .d (D.sl (kI m2) c2), .d (D.sl (dI .i64 s2) sn2)], iE d] (kF []) 0 (iV (aO d k r rn m s sn k2 r2 rn2 m2 s2 sn2 4)) (kF []) 0 := by
 have hwa : BsW ([kE k r rn m s sn] : List Bx) := k14 hr hs h1 h2 hc h3 hW
 have hw14 : BsW ([kE (zK 14 k2 k) (zL 14 2 r2 r) (zN 14 2 rn2 rn) (zM 14 4 m2 m) (zL 14 8 s2 s) (zN 14 8 sn2 sn)] : List Bx) := k14 (aI hr2 hr) (aI hs2 hs) (dE h12 h1) (dE h22 h2) rfl (f8 hc2 hc h32 h3) (n6 hW2 hW)
 have hw13 : BsW ([kE (zK 13 k2 k) (zL 13 2 r2 r) (zN 13 2 rn2 rn) (zM 13 4 m2 m) (zL 13 8 s2 s) (zN 13 8 sn2 sn)] : List Bx) := k14 (aI hr2 hr) (aI hs2 hs) (dE h12 h1) (dE h22 h2) rfl (f8 hc2 hc h32 h3) (n6 hW2 hW)
 have hw11 : BsW ([kE (zK 11 k2 k) (zL 11 2 r2 r) (zN 11 2 rn2 rn) (zM 11 4 m2 m) (zL 11 8 s2 s) (zN 11 8 sn2 sn)] : List Bx) := k14 (aI hr2 hr) (aI hs2 hs) (dE h12 h1) (dE h22 h2) rfl (f8 hc2 hc h32 h3) (n6 hW2 hW)
 have hw7 : BsW ([kE (zK 7 k2 k) (zL 7 2 r2 r) (zN 7 2 rn2 rn) (zM 7 4 m2 m) (zL 7 8 s2 s) (zN 7 8 sn2 sn)] : List Bx) := k14 (aI hr2 hr) (aI hs2 hs) (dE h12 h1) (dE h22 h2) rfl (f8 hc2 hc h32 h3) (n6 hW2 hW)
 refine Fun.mk (n := 30) Tryz.func64 rfl rfl (ka4 rfl) ?_
 intro cx hcx
 refine kH [.no, .no, .no] True [(2, iV d), (3, rV 0 0), (4, rV 1 0)] [(0, some (63, (uZ k r rn m c s sn))), (1, some (63, (uY k2 r2 rn2 m2 c2 s2 sn2)))] 2 trivial ?_
 refine kS [.no, .no] True [(3, rV 0 0), (4, rV 1 0), (7, iV d)] trivial ?_
 refine AW.seq ?_
 refine kS [.no] True [(3, rV 0 0), (4, rV 1 0), (7, iV d), (8, iV 1)] trivial ?_
 refine AW.block ?_
 refine AW.rounds 5 ?_
 refine AWr.s ?_
 refine AW.seq ?_
 refine kH [.no, .b true] (((1 : Int) < 15)) [(3, rV 0 0), (4, rV 1 0), (7, iV d), (8, iV 1), (12, bV true)] [(0, some (63, (uZ k r rn m c s sn))), (1, some (63, (uY k2 r2 rn2 m2 c2 s2 sn2)))] 2 zo ?_
 refine vL ?_
 refine vZ hcx [(3, rV 0 0), (4, rV 1 0), (7, iV (aO d k r rn m s sn k2 r2 rn2 m2 s2 sn2 1)), (8, iV 1)] [(0, some (63, (uZ k r rn m c s sn))), (1, some (63, (uY k2 r2 rn2 m2 c2 s2 sn2)))] 5 ?_ ?_
 ·refine AW.block ?_
  have hx1 : ((ka0 (zL 14 2 r2 r)) = ((zN 14 2 rn2 rn) * 2)) := aI (zo) (zo)
  have hx2 : ((zN 14 2 rn2 rn) ≤ 1000000) := dE (zo) (zo)
  have hx3 : ((ka0 (zL 14 8 s2 s)) = ((zN 14 8 sn2 sn) * 2)) := aI (zo) (zo)
  have hx4 : ((zN 14 8 sn2 sn) ≤ 1000000) := dE (zo) (zo)
  have hx5 : ((ka0 (zM 14 4 m2 m)) ≤ 1000000) := f8 (zo) (zo) (zo) (zo)
  have hx6 : (MsW (zM 14 4 m2 m)) := n6 (qD : MsW m2) (qD : MsW m)
  refine kH [.no, .no, .no, .i 14, .call [] (.e (.agg [iC (zK 14 k2 k), .d (dl (zL 14 2 r2 r) (zN 14 2 rn2 rn)), .d (D.sl (kI (zM 14 4 m2 m)) (ka0 (zM 14 4 m2 m))), .d (dl (zL 14 8 s2 s) (zN 14 8 sn2 sn))])) [] 0 [] none, .no, .no] ((qF .andNot .i64 15 1 = 14) ∧ (_)) [(3, rV 0 0), (4, rV 1 0), (7, iV d), (8, iV 1), (9, rV 2 0)] [(0, some (63, (uZ k r rn m c s sn))), (1, some (63, (uY k2 r2 rn2 m2 c2 s2 sn2))), (2, some (63, .ds [iD (zK 14 k2 k), dl (zL 14 2 r2 r) (zN 14 2 rn2 rn), D.sl (kI (zM 14 4 m2 m)) (ka0 (zM 14 4 m2 m)), dl (zL 14 8 s2 s) (zN 14 8 sn2 sn)]))] 3 ⟨(by decide), (nT k2 r2 rn2 m2 c2 s2 sn2 k r rn m c s sn 14 zo zo zo zo zo zo (qD : MsW m2) zo zo zo zo zo zo (qD : MsW m))⟩ ?_
  by_cases hx8 : ((vR ([(kE k r rn m s sn)] : List Bx) ([(kE (zK 14 k2 k) (zL 14 2 r2 r) (zN 14 2 rn2 rn) (zM 14 4 m2 m) (zL 14 8 s2 s) (zN 14 8 sn2 sn))] : List Bx)) = 0)
  ·have hx9 : (((0 : Int) ≤ (vR ([(kE k r rn m s sn)] : List Bx) ([(kE (zK 14 k2 k) (zL 14 2 r2 r) (zN 14 2 rn2 rn) (zM 14 4 m2 m) (zL 14 8 s2 s) (zN 14 8 sn2 sn))] : List Bx))) ∧ ((vR ([(kE k r rn m s sn)] : List Bx) ([(kE (zK 14 k2 k) (zL 14 2 r2 r) (zN 14 2 rn2 rn) (zM 14 4 m2 m) (zL 14 8 s2 s) (zN 14 8 sn2 sn))] : List Bx)) ≤ 15)) := cY ([(kE k r rn m s sn)] : List Bx) ([(kE (zK 14 k2 k) (zL 14 2 r2 r) (zN 14 2 rn2 rn) (zM 14 4 m2 m) (zL 14 8 s2 s) (zN 14 8 sn2 sn))] : List Bx)
   refine kH (qE 4 [.call [] (iV (vR ([(kE k r rn m s sn)] : List Bx) ([(kE (zK 14 k2 k) (zL 14 2 r2 r) (zN 14 2 rn2 rn) (zM 14 4 m2 m) (zL 14 8 s2 s) (zN 14 8 sn2 sn))] : List Bx))) [] 0 [none, none] (some [.c (.d (D.sl (kN ([(kE k r rn m s sn)] : List Bx)) 1)), .c (.d (D.sl (kN ([(kE (zK 14 k2 k) (zL 14 2 r2 r) (zN 14 2 rn2 rn) (zM 14 4 m2 m) (zL 14 8 s2 s) (zN 14 8 sn2 sn))] : List Bx)) 1))]), .b true]) (([iD k, dl r rn, D.sl (kI m) c, dl s sn].length = 1 * 4) ∧ ([iD (zK 14 k2 k), dl (zL 14 2 r2 r) (zN 14 2 rn2 rn), D.sl (kI (zM 14 4 m2 m)) (ka0 (zM 14 4 m2 m)), dl (zL 14 8 s2 s) (zN 14 8 sn2 sn)].length = 1 * 4) ∧ (bN (iV (vR ([(kE k r rn m s sn)] : List Bx) ([(kE (zK 14 k2 k) (zL 14 2 r2 r) (zN 14 2 rn2 rn) (zM 14 4 m2 m) (zL 14 8 s2 s) (zN 14 8 sn2 sn))] : List Bx))) = true) ∧ (((kN ([(kE k r rn m s sn)] : List Bx)) : List D) = [iD k, dl r rn, D.sl (kI m) c, dl s sn]) ∧ (kG 1) ∧ (((kN ([(kE (zK 14 k2 k) (zL 14 2 r2 r) (zN 14 2 rn2 rn) (zM 14 4 m2 m) (zL 14 8 s2 s) (zN 14 8 sn2 sn))] : List Bx)) : List D) = [iD (zK 14 k2 k), dl (zL 14 2 r2 r) (zN 14 2 rn2 rn), D.sl (kI (zM 14 4 m2 m)) (ka0 (zM 14 4 m2 m)), dl (zL 14 8 s2 s) (zN 14 8 sn2 sn)]) ∧ (kG 1) ∧ (_) ∧ (((vR ([(kE k r rn m s sn)] : List Bx) ([(kE (zK 14 k2 k) (zL 14 2 r2 r) (zN 14 2 rn2 rn) (zM 14 4 m2 m) (zL 14 8 s2 s) (zN 14 8 sn2 sn))] : List Bx)) = 0))) [(3, rV 0 0), (4, rV 1 0), (7, iV d), (8, iV 1), (25, bV true)] [(0, some (63, (uZ k r rn m c s sn))), (1, some (63, (uY k2 r2 rn2 m2 c2 s2 sn2)))] 5 ⟨yG, yG, rfl, (by (subst hc; rfl)), rfl, (by rfl), rfl, (cZ ([(kE k r rn m s sn)] : List Bx) ([(kE (zK 14 k2 k) (zL 14 2 r2 r) (zN 14 2 rn2 rn) (zM 14 4 m2 m) (zL 14 8 s2 s) (zN 14 8 sn2 sn))] : List Bx) 1 1 v7 v7 zo zo (qD : BsW ([(kE k r rn m s sn)] : List Bx)) (qD : BsW ([(kE (zK 14 k2 k) (zL 14 2 r2 r) (zN 14 2 rn2 rn) (zM 14 4 m2 m) (zL 14 8 s2 s) (zN 14 8 sn2 sn))] : List Bx))), zo⟩ ?_
   refine zt ?_
   refine yA [.no, .no, .i (f5 d 1), .no] (qF .or .i64 d 1 = (f5 d 1)) [(3, rV 0 0), (4, rV 1 0), (7, iV (f5 d 1)), (8, iV 1)] rfl ?_
   exact kW () [] (P := (kG 0) ∧ (kG 0) ∧ (((aO d k r rn m s sn k2 r2 rn2 m2 s2 sn2 1) : Int) = (f5 d 1)) ∧ (kM 1) ∧ (kJ [iD k, dl r rn, D.sl (kI m) c, dl s sn]) ∧ (kJ [iD k2, dl r2 rn2, D.sl (kI m2) c2, dl s2 sn2])) zk ⟨rfl, rfl, (by exact (u1w (by assumption)).symm), rfl, rfl, rfl⟩ True.intro
  ·have hx10 : (((0 : Int) ≤ (vR ([(kE k r rn m s sn)] : List Bx) ([(kE (zK 14 k2 k) (zL 14 2 r2 r) (zN 14 2 rn2 rn) (zM 14 4 m2 m) (zL 14 8 s2 s) (zN 14 8 sn2 sn))] : List Bx))) ∧ ((vR ([(kE k r rn m s sn)] : List Bx) ([(kE (zK 14 k2 k) (zL 14 2 r2 r) (zN 14 2 rn2 rn) (zM 14 4 m2 m) (zL 14 8 s2 s) (zN 14 8 sn2 sn))] : List Bx)) ≤ 15)) := cY ([(kE k r rn m s sn)] : List Bx) ([(kE (zK 14 k2 k) (zL 14 2 r2 r) (zN 14 2 rn2 rn) (zM 14 4 m2 m) (zL 14 8 s2 s) (zN 14 8 sn2 sn))] : List Bx)
   refine kH (qE 4 [.call [] (iV (vR ([(kE k r rn m s sn)] : List Bx) ([(kE (zK 14 k2 k) (zL 14 2 r2 r) (zN 14 2 rn2 rn) (zM 14 4 m2 m) (zL 14 8 s2 s) (zN 14 8 sn2 sn))] : List Bx))) [] 0 [none, none] (some [.c (.d (D.sl (kN ([(kE k r rn m s sn)] : List Bx)) 1)), .c (.d (D.sl (kN ([(kE (zK 14 k2 k) (zL 14 2 r2 r) (zN 14 2 rn2 rn) (zM 14 4 m2 m) (zL 14 8 s2 s) (zN 14 8 sn2 sn))] : List Bx)) 1))]), .b false]) (([iD k, dl r rn, D.sl (kI m) c, dl s sn].length = 1 * 4) ∧ ([iD (zK 14 k2 k), dl (zL 14 2 r2 r) (zN 14 2 rn2 rn), D.sl (kI (zM 14 4 m2 m)) (ka0 (zM 14 4 m2 m)), dl (zL 14 8 s2 s) (zN 14 8 sn2 sn)].length = 1 * 4) ∧ (bN (iV (vR ([(kE k r rn m s sn)] : List Bx) ([(kE (zK 14 k2 k) (zL 14 2 r2 r) (zN 14 2 rn2 rn) (zM 14 4 m2 m) (zL 14 8 s2 s) (zN 14 8 sn2 sn))] : List Bx))) = true) ∧ (((kN ([(kE k r rn m s sn)] : List Bx)) : List D) = [iD k, dl r rn, D.sl (kI m) c, dl s sn]) ∧ (kG 1) ∧ (((kN ([(kE (zK 14 k2 k) (zL 14 2 r2 r) (zN 14 2 rn2 rn) (zM 14 4 m2 m) (zL 14 8 s2 s) (zN 14 8 sn2 sn))] : List Bx)) : List D) = [iD (zK 14 k2 k), dl (zL 14 2 r2 r) (zN 14 2 rn2 rn), D.sl (kI (zM 14 4 m2 m)) (ka0 (zM 14 4 m2 m)), dl (zL 14 8 s2 s) (zN 14 8 sn2 sn)]) ∧ (kG 1) ∧ (_) ∧ (¬ ((vR ([(kE k r rn m s sn)] : List Bx) ([(kE (zK 14 k2 k) (zL 14 2 r2 r) (zN 14 2 rn2 rn) (zM 14 4 m2 m) (zL 14 8 s2 s) (zN 14 8 sn2 sn))] : List Bx)) = 0))) [(3, rV 0 0), (4, rV 1 0), (7, iV d), (8, iV 1), (25, bV false)] [(0, some (63, (uZ k r rn m c s sn))), (1, some (63, (uY k2 r2 rn2 m2 c2 s2 sn2)))] 5 ⟨yG, yG, rfl, (by (subst hc; rfl)), rfl, (by rfl), rfl, (cZ ([(kE k r rn m s sn)] : List Bx) ([(kE (zK 14 k2 k) (zL 14 2 r2 r) (zN 14 2 rn2 rn) (zM 14 4 m2 m) (zL 14 8 s2 s) (zN 14 8 sn2 sn))] : List Bx) 1 1 v7 v7 zo zo (qD : BsW ([(kE k r rn m s sn)] : List Bx)) (qD : BsW ([(kE (zK 14 k2 k) (zL 14 2 r2 r) (zN 14 2 rn2 rn) (zM 14 4 m2 m) (zL 14 8 s2 s) (zN 14 8 sn2 sn))] : List Bx))), zo⟩ ?_
   refine uO ?_
   exact kW () [] (P := (kG 0) ∧ (kG 0) ∧ (((aO d k r rn m s sn k2 r2 rn2 m2 s2 sn2 1) : Int) = d) ∧ (kM 1) ∧ (kJ [iD k, dl r rn, D.sl (kI m) c, dl s sn]) ∧ (kJ [iD k2, dl r2 rn2, D.sl (kI m2) c2, dl s2 sn2])) zk ⟨rfl, rfl, (by exact (u1x (by assumption)).symm), rfl, rfl, rfl⟩ True.intro
 ·refine aC [.no, .w, .no] (u3 (2 : Int)) [(3, rV 0 0), (4, rV 1 0), (7, iV (aO d k r rn m s sn k2 r2 rn2 m2 s2 sn2 1)), (8, iV 2)] [(0, some (63, (uZ k r rn m c s sn))), (1, some (63, (uY k2 r2 rn2 m2 c2 s2 sn2)))] 5 ⟨by omega, by omega⟩ ?_
  refine AWr.s ?_
  refine AW.seq ?_
  refine kH [.no, .b true] (((2 : Int) < 15)) [(3, rV 0 0), (4, rV 1 0), (7, iV (aO d k r rn m s sn k2 r2 rn2 m2 s2 sn2 1)), (8, iV 2), (12, bV true)] [(0, some (63, (uZ k r rn m c s sn))), (1, some (63, (uY k2 r2 rn2 m2 c2 s2 sn2)))] 5 zo ?_
  refine vL ?_
  refine vZ hcx [(3, rV 0 0), (4, rV 1 0), (7, iV (aO d k r rn m s sn k2 r2 rn2 m2 s2 sn2 2)), (8, iV 2)] [(0, some (63, (uZ k r rn m c s sn))), (1, some (63, (uY k2 r2 rn2 m2 c2 s2 sn2)))] 8 ?_ ?_
  ·refine AW.block ?_
   have hx11 : ((ka0 (zL 13 2 r2 r)) = ((zN 13 2 rn2 rn) * 2)) := aI (zo) (zo)
   have hx12 : ((zN 13 2 rn2 rn) ≤ 1000000) := dE (zo) (zo)
   have hx13 : ((ka0 (zL 13 8 s2 s)) = ((zN 13 8 sn2 sn) * 2)) := aI (zo) (zo)
   have hx14 : ((zN 13 8 sn2 sn) ≤ 1000000) := dE (zo) (zo)
   have hx15 : ((ka0 (zM 13 4 m2 m)) ≤ 1000000) := f8 (zo) (zo) (zo) (zo)
   have hx16 : (MsW (zM 13 4 m2 m)) := n6 (qD : MsW m2) (qD : MsW m)
   refine kH [.no, .no, .no, .i 13, .call [] (.e (.agg [iC (zK 13 k2 k), .d (dl (zL 13 2 r2 r) (zN 13 2 rn2 rn)), .d (D.sl (kI (zM 13 4 m2 m)) (ka0 (zM 13 4 m2 m))), .d (dl (zL 13 8 s2 s) (zN 13 8 sn2 sn))])) [] 0 [] none, .no, .no] ((qF .andNot .i64 15 2 = 13) ∧ (_)) [(3, rV 0 0), (4, rV 1 0), (7, iV (aO d k r rn m s sn k2 r2 rn2 m2 s2 sn2 1)), (8, iV 2), (9, rV 5 0)] [(0, some (63, (uZ k r rn m c s sn))), (1, some (63, (uY k2 r2 rn2 m2 c2 s2 sn2))), (5, some (63, .ds [iD (zK 13 k2 k), dl (zL 13 2 r2 r) (zN 13 2 rn2 rn), D.sl (kI (zM 13 4 m2 m)) (ka0 (zM 13 4 m2 m)), dl (zL 13 8 s2 s) (zN 13 8 sn2 sn)]))] 6 ⟨(by decide), (nT k2 r2 rn2 m2 c2 s2 sn2 k r rn m c s sn 13 zo zo zo zo zo zo (qD : MsW m2) zo zo zo zo zo zo (qD : MsW m))⟩ ?_
   by_cases hx18 : ((vR ([(kE k r rn m s sn)] : List Bx) ([(kE (zK 13 k2 k) (zL 13 2 r2 r) (zN 13 2 rn2 rn) (zM 13 4 m2 m) (zL 13 8 s2 s) (zN 13 8 sn2 sn))] : List Bx)) = 0)
   ·have hx19 : (((0 : Int) ≤ (vR ([(kE k r rn m s sn)] : List Bx) ([(kE (zK 13 k2 k) (zL 13 2 r2 r) (zN 13 2 rn2 rn) (zM 13 4 m2 m) (zL 13 8 s2 s) (zN 13 8 sn2 sn))] : List Bx))) ∧ ((vR ([(kE k r rn m s sn)] : List Bx) ([(kE (zK 13 k2 k) (zL 13 2 r2 r) (zN 13 2 rn2 rn) (zM 13 4 m2 m) (zL 13 8 s2 s) (zN 13 8 sn2 sn))] : List Bx)) ≤ 15)) := cY ([(kE k r rn m s sn)] : List Bx) ([(kE (zK 13 k2 k) (zL 13 2 r2 r) (zN 13 2 rn2 rn) (zM 13 4 m2 m) (zL 13 8 s2 s) (zN 13 8 sn2 sn))] : List Bx)
    refine kH (qE 4 [.call [] (iV (vR ([(kE k r rn m s sn)] : List Bx) ([(kE (zK 13 k2 k) (zL 13 2 r2 r) (zN 13 2 rn2 rn) (zM 13 4 m2 m) (zL 13 8 s2 s) (zN 13 8 sn2 sn))] : List Bx))) [] 0 [none, none] (some [.c (.d (D.sl (kN ([(kE k r rn m s sn)] : List Bx)) 1)), .c (.d (D.sl (kN ([(kE (zK 13 k2 k) (zL 13 2 r2 r) (zN 13 2 rn2 rn) (zM 13 4 m2 m) (zL 13 8 s2 s) (zN 13 8 sn2 sn))] : List Bx)) 1))]), .b true]) (([iD k, dl r rn, D.sl (kI m) c, dl s sn].length = 1 * 4) ∧ ([iD (zK 13 k2 k), dl (zL 13 2 r2 r) (zN 13 2 rn2 rn), D.sl (kI (zM 13 4 m2 m)) (ka0 (zM 13 4 m2 m)), dl (zL 13 8 s2 s) (zN 13 8 sn2 sn)].length = 1 * 4) ∧ (bN (iV (vR ([(kE k r rn m s sn)] : List Bx) ([(kE (zK 13 k2 k) (zL 13 2 r2 r) (zN 13 2 rn2 rn) (zM 13 4 m2 m) (zL 13 8 s2 s) (zN 13 8 sn2 sn))] : List Bx))) = true) ∧ (((kN ([(kE k r rn m s sn)] : List Bx)) : List D) = [iD k, dl r rn, D.sl (kI m) c, dl s sn]) ∧ (kG 1) ∧ (((kN ([(kE (zK 13 k2 k) (zL 13 2 r2 r) (zN 13 2 rn2 rn) (zM 13 4 m2 m) (zL 13 8 s2 s) (zN 13 8 sn2 sn))] : List Bx)) : List D) = [iD (zK 13 k2 k), dl (zL 13 2 r2 r) (zN 13 2 rn2 rn), D.sl (kI (zM 13 4 m2 m)) (ka0 (zM 13 4 m2 m)), dl (zL 13 8 s2 s) (zN 13 8 sn2 sn)]) ∧ (kG 1) ∧ (_) ∧ (((vR ([(kE k r rn m s sn)] : List Bx) ([(kE (zK 13 k2 k) (zL 13 2 r2 r) (zN 13 2 rn2 rn) (zM 13 4 m2 m) (zL 13 8 s2 s) (zN 13 8 sn2 sn))] : List Bx)) = 0))) [(3, rV 0 0), (4, rV 1 0), (7, iV (aO d k r rn m s sn k2 r2 rn2 m2 s2 sn2 1)), (8, iV 2), (25, bV true)] [(0, some (63, (uZ k r rn m c s sn))), (1, some (63, (uY k2 r2 rn2 m2 c2 s2 sn2)))] 8 ⟨yG, yG, rfl, (by (subst hc; rfl)), rfl, (by rfl), rfl, (cZ ([(kE k r rn m s sn)] : List Bx) ([(kE (zK 13 k2 k) (zL 13 2 r2 r) (zN 13 2 rn2 rn) (zM 13 4 m2 m) (zL 13 8 s2 s) (zN 13 8 sn2 sn))] : List Bx) 1 1 v7 v7 zo zo (qD : BsW ([(kE k r rn m s sn)] : List Bx)) (qD : BsW ([(kE (zK 13 k2 k) (zL 13 2 r2 r) (zN 13 2 rn2 rn) (zM 13 4 m2 m) (zL 13 8 s2 s) (zN 13 8 sn2 sn))] : List Bx))), zo⟩ ?_
    refine zt ?_
    refine yA [.no, .no, .i (f5 (aO d k r rn m s sn k2 r2 rn2 m2 s2 sn2 1) 2), .no] (qF .or .i64 (aO d k r rn m s sn k2 r2 rn2 m2 s2 sn2 1) 2 = (f5 (aO d k r rn m s sn k2 r2 rn2 m2 s2 sn2 1) 2)) [(3, rV 0 0), (4, rV 1 0), (7, iV (f5 (aO d k r rn m s sn k2 r2 rn2 m2 s2 sn2 1) 2)), (8, iV 2)] rfl ?_
    exact kW () [] (P := (kG 0) ∧ (kG 0) ∧ (((aO d k r rn m s sn k2 r2 rn2 m2 s2 sn2 2) : Int) = (f5 (aO d k r rn m s sn k2 r2 rn2 m2 s2 sn2 1) 2)) ∧ (kM 2) ∧ (kJ [iD k, dl r rn, D.sl (kI m) c, dl s sn]) ∧ (kJ [iD k2, dl r2 rn2, D.sl (kI m2) c2, dl s2 sn2])) zk ⟨rfl, rfl, (by exact (u1w (by assumption)).symm), rfl, rfl, rfl⟩ True.intro
   ·have hx20 : (((0 : Int) ≤ (vR ([(kE k r rn m s sn)] : List Bx) ([(kE (zK 13 k2 k) (zL 13 2 r2 r) (zN 13 2 rn2 rn) (zM 13 4 m2 m) (zL 13 8 s2 s) (zN 13 8 sn2 sn))] : List Bx))) ∧ ((vR ([(kE k r rn m s sn)] : List Bx) ([(kE (zK 13 k2 k) (zL 13 2 r2 r) (zN 13 2 rn2 rn) (zM 13 4 m2 m) (zL 13 8 s2 s) (zN 13 8 sn2 sn))] : List Bx)) ≤ 15)) := cY ([(kE k r rn m s sn)] : List Bx) ([(kE (zK 13 k2 k) (zL 13 2 r2 r) (zN 13 2 rn2 rn) (zM 13 4 m2 m) (zL 13 8 s2 s) (zN 13 8 sn2 sn))] : List Bx)
    refine kH (qE 4 [.call [] (iV (vR ([(kE k r rn m s sn)] : List Bx) ([(kE (zK 13 k2 k) (zL 13 2 r2 r) (zN 13 2 rn2 rn) (zM 13 4 m2 m) (zL 13 8 s2 s) (zN 13 8 sn2 sn))] : List Bx))) [] 0 [none, none] (some [.c (.d (D.sl (kN ([(kE k r rn m s sn)] : List Bx)) 1)), .c (.d (D.sl (kN ([(kE (zK 13 k2 k) (zL 13 2 r2 r) (zN 13 2 rn2 rn) (zM 13 4 m2 m) (zL 13 8 s2 s) (zN 13 8 sn2 sn))] : List Bx)) 1))]), .b false]) (([iD k, dl r rn, D.sl (kI m) c, dl s sn].length = 1 * 4) ∧ ([iD (zK 13 k2 k), dl (zL 13 2 r2 r) (zN 13 2 rn2 rn), D.sl (kI (zM 13 4 m2 m)) (ka0 (zM 13 4 m2 m)), dl (zL 13 8 s2 s) (zN 13 8 sn2 sn)].length = 1 * 4) ∧ (bN (iV (vR ([(kE k r rn m s sn)] : List Bx) ([(kE (zK 13 k2 k) (zL 13 2 r2 r) (zN 13 2 rn2 rn) (zM 13 4 m2 m) (zL 13 8 s2 s) (zN 13 8 sn2 sn))] : List Bx))) = true) ∧ (((kN ([(kE k r rn m s sn)] : List Bx)) : List D) = [iD k, dl r rn, D.sl (kI m) c, dl s sn]) ∧ (kG 1) ∧ (((kN ([(kE (zK 13 k2 k) (zL 13 2 r2 r) (zN 13 2 rn2 rn) (zM 13 4 m2 m) (zL 13 8 s2 s) (zN 13 8 sn2 sn))] : List Bx)) : List D) = [iD (zK 13 k2 k), dl (zL 13 2 r2 r) (zN 13 2 rn2 rn), D.sl (kI (zM 13 4 m2 m)) (ka0 (zM 13 4 m2 m)), dl (zL 13 8 s2 s) (zN 13 8 sn2 sn)]) ∧ (kG 1) ∧ (_) ∧ (¬ ((vR ([(kE k r rn m s sn)] : List Bx) ([(kE (zK 13 k2 k) (zL 13 2 r2 r) (zN 13 2 rn2 rn) (zM 13 4 m2 m) (zL 13 8 s2 s) (zN 13 8 sn2 sn))] : List Bx)) = 0))) [(3, rV 0 0), (4, rV 1 0), (7, iV (aO d k r rn m s sn k2 r2 rn2 m2 s2 sn2 1)), (8, iV 2), (25, bV false)] [(0, some (63, (uZ k r rn m c s sn))), (1, some (63, (uY k2 r2 rn2 m2 c2 s2 sn2)))] 8 ⟨yG, yG, rfl, (by (subst hc; rfl)), rfl, (by rfl), rfl, (cZ ([(kE k r rn m s sn)] : List Bx) ([(kE (zK 13 k2 k) (zL 13 2 r2 r) (zN 13 2 rn2 rn) (zM 13 4 m2 m) (zL 13 8 s2 s) (zN 13 8 sn2 sn))] : List Bx) 1 1 v7 v7 zo zo (qD : BsW ([(kE k r rn m s sn)] : List Bx)) (qD : BsW ([(kE (zK 13 k2 k) (zL 13 2 r2 r) (zN 13 2 rn2 rn) (zM 13 4 m2 m) (zL 13 8 s2 s) (zN 13 8 sn2 sn))] : List Bx))), zo⟩ ?_
    refine uO ?_
    exact kW () [] (P := (kG 0) ∧ (kG 0) ∧ (((aO d k r rn m s sn k2 r2 rn2 m2 s2 sn2 2) : Int) = (aO d k r rn m s sn k2 r2 rn2 m2 s2 sn2 1)) ∧ (kM 2) ∧ (kJ [iD k, dl r rn, D.sl (kI m) c, dl s sn]) ∧ (kJ [iD k2, dl r2 rn2, D.sl (kI m2) c2, dl s2 sn2])) zk ⟨rfl, rfl, (by exact (u1x (by assumption)).symm), rfl, rfl, rfl⟩ True.intro
  ·refine aC [.no, .w, .no] (u3 (4 : Int)) [(3, rV 0 0), (4, rV 1 0), (7, iV (aO d k r rn m s sn k2 r2 rn2 m2 s2 sn2 2)), (8, iV 4)] [(0, some (63, (uZ k r rn m c s sn))), (1, some (63, (uY k2 r2 rn2 m2 c2 s2 sn2)))] 8 ⟨by omega, by omega⟩ ?_
   refine AWr.s ?_
   refine AW.seq ?_
   refine kH [.no, .b true] (((4 : Int) < 15)) [(3, rV 0 0), (4, rV 1 0), (7, iV (aO d k r rn m s sn k2 r2 rn2 m2 s2 sn2 2)), (8, iV 4), (12, bV true)] [(0, some (63, (uZ k r rn m c s sn))), (1, some (63, (uY k2 r2 rn2 m2 c2 s2 sn2)))] 8 zo ?_
   refine vL ?_
   refine vZ hcx [(3, rV 0 0), (4, rV 1 0), (7, iV (aO d k r rn m s sn k2 r2 rn2 m2 s2 sn2 3)), (8, iV 4)] [(0, some (63, (uZ k r rn m c s sn))), (1, some (63, (uY k2 r2 rn2 m2 c2 s2 sn2)))] 11 ?_ ?_
   ·refine AW.block ?_
    have hx21 : ((ka0 (zL 11 2 r2 r)) = ((zN 11 2 rn2 rn) * 2)) := aI (zo) (zo)
    have hx22 : ((zN 11 2 rn2 rn) ≤ 1000000) := dE (zo) (zo)
    have hx23 : ((ka0 (zL 11 8 s2 s)) = ((zN 11 8 sn2 sn) * 2)) := aI (zo) (zo)
    have hx24 : ((zN 11 8 sn2 sn) ≤ 1000000) := dE (zo) (zo)
    have hx25 : ((ka0 (zM 11 4 m2 m)) ≤ 1000000) := f8 (zo) (zo) (zo) (zo)
    have hx26 : (MsW (zM 11 4 m2 m)) := n6 (qD : MsW m2) (qD : MsW m)
    refine kH [.no, .no, .no, .i 11, .call [] (.e (.agg [iC (zK 11 k2 k), .d (dl (zL 11 2 r2 r) (zN 11 2 rn2 rn)), .d (D.sl (kI (zM 11 4 m2 m)) (ka0 (zM 11 4 m2 m))), .d (dl (zL 11 8 s2 s) (zN 11 8 sn2 sn))])) [] 0 [] none, .no, .no] ((qF .andNot .i64 15 4 = 11) ∧ (_)) [(3, rV 0 0), (4, rV 1 0), (7, iV (aO d k r rn m s sn k2 r2 rn2 m2 s2 sn2 2)), (8, iV 4), (9, rV 8 0)] [(0, some (63, (uZ k r rn m c s sn))), (1, some (63, (uY k2 r2 rn2 m2 c2 s2 sn2))), (8, some (63, .ds [iD (zK 11 k2 k), dl (zL 11 2 r2 r) (zN 11 2 rn2 rn), D.sl (kI (zM 11 4 m2 m)) (ka0 (zM 11 4 m2 m)), dl (zL 11 8 s2 s) (zN 11 8 sn2 sn)]))] 9 ⟨(by decide), (nT k2 r2 rn2 m2 c2 s2 sn2 k r rn m c s sn 11 zo zo zo zo zo zo (qD : MsW m2) zo zo zo zo zo zo (qD : MsW m))⟩ ?_
    by_cases hx28 : ((vR ([(kE k r rn m s sn)] : List Bx) ([(kE (zK 11 k2 k) (zL 11 2 r2 r) (zN 11 2 rn2 rn) (zM 11 4 m2 m) (zL 11 8 s2 s) (zN 11 8 sn2 sn))] : List Bx)) = 0)
    ·have hx29 : (((0 : Int) ≤ (vR ([(kE k r rn m s sn)] : List Bx) ([(kE (zK 11 k2 k) (zL 11 2 r2 r) (zN 11 2 rn2 rn) (zM 11 4 m2 m) (zL 11 8 s2 s) (zN 11 8 sn2 sn))] : List Bx))) ∧ ((vR ([(kE k r rn m s sn)] : List Bx) ([(kE (zK 11 k2 k) (zL 11 2 r2 r) (zN 11 2 rn2 rn) (zM 11 4 m2 m) (zL 11 8 s2 s) (zN 11 8 sn2 sn))] : List Bx)) ≤ 15)) := cY ([(kE k r rn m s sn)] : List Bx) ([(kE (zK 11 k2 k) (zL 11 2 r2 r) (zN 11 2 rn2 rn) (zM 11 4 m2 m) (zL 11 8 s2 s) (zN 11 8 sn2 sn))] : List Bx)
     refine kH (qE 4 [.call [] (iV (vR ([(kE k r rn m s sn)] : List Bx) ([(kE (zK 11 k2 k) (zL 11 2 r2 r) (zN 11 2 rn2 rn) (zM 11 4 m2 m) (zL 11 8 s2 s) (zN 11 8 sn2 sn))] : List Bx))) [] 0 [none, none] (some [.c (.d (D.sl (kN ([(kE k r rn m s sn)] : List Bx)) 1)), .c (.d (D.sl (kN ([(kE (zK 11 k2 k) (zL 11 2 r2 r) (zN 11 2 rn2 rn) (zM 11 4 m2 m) (zL 11 8 s2 s) (zN 11 8 sn2 sn))] : List Bx)) 1))]), .b true]) (([iD k, dl r rn, D.sl (kI m) c, dl s sn].length = 1 * 4) ∧ ([iD (zK 11 k2 k), dl (zL 11 2 r2 r) (zN 11 2 rn2 rn), D.sl (kI (zM 11 4 m2 m)) (ka0 (zM 11 4 m2 m)), dl (zL 11 8 s2 s) (zN 11 8 sn2 sn)].length = 1 * 4) ∧ (bN (iV (vR ([(kE k r rn m s sn)] : List Bx) ([(kE (zK 11 k2 k) (zL 11 2 r2 r) (zN 11 2 rn2 rn) (zM 11 4 m2 m) (zL 11 8 s2 s) (zN 11 8 sn2 sn))] : List Bx))) = true) ∧ (((kN ([(kE k r rn m s sn)] : List Bx)) : List D) = [iD k, dl r rn, D.sl (kI m) c, dl s sn]) ∧ (kG 1) ∧ (((kN ([(kE (zK 11 k2 k) (zL 11 2 r2 r) (zN 11 2 rn2 rn) (zM 11 4 m2 m) (zL 11 8 s2 s) (zN 11 8 sn2 sn))] : List Bx)) : List D) = [iD (zK 11 k2 k), dl (zL 11 2 r2 r) (zN 11 2 rn2 rn), D.sl (kI (zM 11 4 m2 m)) (ka0 (zM 11 4 m2 m)), dl (zL 11 8 s2 s) (zN 11 8 sn2 sn)]) ∧ (kG 1) ∧ (_) ∧ (((vR ([(kE k r rn m s sn)] : List Bx) ([(kE (zK 11 k2 k) (zL 11 2 r2 r) (zN 11 2 rn2 rn) (zM 11 4 m2 m) (zL 11 8 s2 s) (zN 11 8 sn2 sn))] : List Bx)) = 0))) [(3, rV 0 0), (4, rV 1 0), (7, iV (aO d k r rn m s sn k2 r2 rn2 m2 s2 sn2 2)), (8, iV 4), (25, bV true)] [(0, some (63, (uZ k r rn m c s sn))), (1, some (63, (uY k2 r2 rn2 m2 c2 s2 sn2)))] 11 ⟨yG, yG, rfl, (by (subst hc; rfl)), rfl, (by rfl), rfl, (cZ ([(kE k r rn m s sn)] : List Bx) ([(kE (zK 11 k2 k) (zL 11 2 r2 r) (zN 11 2 rn2 rn) (zM 11 4 m2 m) (zL 11 8 s2 s) (zN 11 8 sn2 sn))] : List Bx) 1 1 v7 v7 zo zo (qD : BsW ([(kE k r rn m s sn)] : List Bx)) (qD : BsW ([(kE (zK 11 k2 k) (zL 11 2 r2 r) (zN 11 2 rn2 rn) (zM 11 4 m2 m) (zL 11 8 s2 s) (zN 11 8 sn2 sn))] : List Bx))), zo⟩ ?_
     refine zt ?_
     refine yA [.no, .no, .i (f5 (aO d k r rn m s sn k2 r2 rn2 m2 s2 sn2 2) 4), .no] (qF .or .i64 (aO d k r rn m s sn k2 r2 rn2 m2 s2 sn2 2) 4 = (f5 (aO d k r rn m s sn k2 r2 rn2 m2 s2 sn2 2) 4)) [(3, rV 0 0), (4, rV 1 0), (7, iV (f5 (aO d k r rn m s sn k2 r2 rn2 m2 s2 sn2 2) 4)), (8, iV 4)] rfl ?_
     exact kW () [] (P := (kG 0) ∧ (kG 0) ∧ (((aO d k r rn m s sn k2 r2 rn2 m2 s2 sn2 3) : Int) = (f5 (aO d k r rn m s sn k2 r2 rn2 m2 s2 sn2 2) 4)) ∧ (kM 4) ∧ (kJ [iD k, dl r rn, D.sl (kI m) c, dl s sn]) ∧ (kJ [iD k2, dl r2 rn2, D.sl (kI m2) c2, dl s2 sn2])) zk ⟨rfl, rfl, (by exact (u1w (by assumption)).symm), rfl, rfl, rfl⟩ True.intro
    ·have hx30 : (((0 : Int) ≤ (vR ([(kE k r rn m s sn)] : List Bx) ([(kE (zK 11 k2 k) (zL 11 2 r2 r) (zN 11 2 rn2 rn) (zM 11 4 m2 m) (zL 11 8 s2 s) (zN 11 8 sn2 sn))] : List Bx))) ∧ ((vR ([(kE k r rn m s sn)] : List Bx) ([(kE (zK 11 k2 k) (zL 11 2 r2 r) (zN 11 2 rn2 rn) (zM 11 4 m2 m) (zL 11 8 s2 s) (zN 11 8 sn2 sn))] : List Bx)) ≤ 15)) := cY ([(kE k r rn m s sn)] : List Bx) ([(kE (zK 11 k2 k) (zL 11 2 r2 r) (zN 11 2 rn2 rn) (zM 11 4 m2 m) (zL 11 8 s2 s) (zN 11 8 sn2 sn))] : List Bx)
     refine kH (qE 4 [.call [] (iV (vR ([(kE k r rn m s sn)] : List Bx) ([(kE (zK 11 k2 k) (zL 11 2 r2 r) (zN 11 2 rn2 rn) (zM 11 4 m2 m) (zL 11 8 s2 s) (zN 11 8 sn2 sn))] : List Bx))) [] 0 [none, none] (some [.c (.d (D.sl (kN ([(kE k r rn m s sn)] : List Bx)) 1)), .c (.d (D.sl (kN ([(kE (zK 11 k2 k) (zL 11 2 r2 r) (zN 11 2 rn2 rn) (zM 11 4 m2 m) (zL 11 8 s2 s) (zN 11 8 sn2 sn))] : List Bx)) 1))]), .b false]) (([iD k, dl r rn, D.sl (kI m) c, dl s sn].length = 1 * 4) ∧ ([iD (zK 11 k2 k), dl (zL 11 2 r2 r) (zN 11 2 rn2 rn), D.sl (kI (zM 11 4 m2 m)) (ka0 (zM 11 4 m2 m)), dl (zL 11 8 s2 s) (zN 11 8 sn2 sn)].length = 1 * 4) ∧ (bN (iV (vR ([(kE k r rn m s sn)] : List Bx) ([(kE (zK 11 k2 k) (zL 11 2 r2 r) (zN 11 2 rn2 rn) (zM 11 4 m2 m) (zL 11 8 s2 s) (zN 11 8 sn2 sn))] : List Bx))) = true) ∧ (((kN ([(kE k r rn m s sn)] : List Bx)) : List D) = [iD k, dl r rn, D.sl (kI m) c, dl s sn]) ∧ (kG 1) ∧ (((kN ([(kE (zK 11 k2 k) (zL 11 2 r2 r) (zN 11 2 rn2 rn) (zM 11 4 m2 m) (zL 11 8 s2 s) (zN 11 8 sn2 sn))] : List Bx)) : List D) = [iD (zK 11 k2 k), dl (zL 11 2 r2 r) (zN 11 2 rn2 rn), D.sl (kI (zM 11 4 m2 m)) (ka0 (zM 11 4 m2 m)), dl (zL 11 8 s2 s) (zN 11 8 sn2 sn)]) ∧ (kG 1) ∧ (_) ∧ (¬ ((vR ([(kE k r rn m s sn)] : List Bx) ([(kE (zK 11 k2 k) (zL 11 2 r2 r) (zN 11 2 rn2 rn) (zM 11 4 m2 m) (zL 11 8 s2 s) (zN 11 8 sn2 sn))] : List Bx)) = 0))) [(3, rV 0 0), (4, rV 1 0), (7, iV (aO d k r rn m s sn k2 r2 rn2 m2 s2 sn2 2)), (8, iV 4), (25, bV false)] [(0, some (63, (uZ k r rn m c s sn))), (1, some (63, (uY k2 r2 rn2 m2 c2 s2 sn2)))] 11 ⟨yG, yG, rfl, (by (subst hc; rfl)), rfl, (by rfl), rfl, (cZ ([(kE k r rn m s sn)] : List Bx) ([(kE (zK 11 k2 k) (zL 11 2 r2 r) (zN 11 2 rn2 rn) (zM 11 4 m2 m) (zL 11 8 s2 s) (zN 11 8 sn2 sn))] : List Bx) 1 1 v7 v7 zo zo (qD : BsW ([(kE k r rn m s sn)] : List Bx)) (qD : BsW ([(kE (zK 11 k2 k) (zL 11 2 r2 r) (zN 11 2 rn2 rn) (zM 11 4 m2 m) (zL 11 8 s2 s) (zN 11 8 sn2 sn))] : List Bx))), zo⟩ ?_
     refine uO ?_
     exact kW () [] (P := (kG 0) ∧ (kG 0) ∧ (((aO d k r rn m s sn k2 r2 rn2 m2 s2 sn2 3) : Int) = (aO d k r rn m s sn k2 r2 rn2 m2 s2 sn2 2)) ∧ (kM 4) ∧ (kJ [iD k, dl r rn, D.sl (kI m) c, dl s sn]) ∧ (kJ [iD k2, dl r2 rn2, D.sl (kI m2) c2, dl s2 sn2])) zk ⟨rfl, rfl, (by exact (u1x (by assumption)).symm), rfl, rfl, rfl⟩ True.intro
   ·refine aC [.no, .w, .no] (u3 (8 : Int)) [(3, rV 0 0), (4, rV 1 0), (7, iV (aO d k r rn m s sn k2 r2 rn2 m2 s2 sn2 3)), (8, iV 8)] [(0, some (63, (uZ k r rn m c s sn))), (1, some (63, (uY k2 r2 rn2 m2 c2 s2 sn2)))] 11 ⟨by omega, by omega⟩ ?_
    refine AWr.s ?_
    refine AW.seq ?_
    refine kH [.no, .b true] (((8 : Int) < 15)) [(3, rV 0 0), (4, rV 1 0), (7, iV (aO d k r rn m s sn k2 r2 rn2 m2 s2 sn2 3)), (8, iV 8), (12, bV true)] [(0, some (63, (uZ k r rn m c s sn))), (1, some (63, (uY k2 r2 rn2 m2 c2 s2 sn2)))] 11 zo ?_
    refine vL ?_
    refine vZ hcx [(3, rV 0 0), (4, rV 1 0), (7, iV (aO d k r rn m s sn k2 r2 rn2 m2 s2 sn2 4)), (8, iV 8)] [(0, some (63, (uZ k r rn m c s sn))), (1, some (63, (uY k2 r2 rn2 m2 c2 s2 sn2)))] 14 ?_ ?_
    ·refine AW.block ?_
     have hx31 : ((ka0 (zL 7 2 r2 r)) = ((zN 7 2 rn2 rn) * 2)) := aI (zo) (zo)
     have hx32 : ((zN 7 2 rn2 rn) ≤ 1000000) := dE (zo) (zo)
     have hx33 : ((ka0 (zL 7 8 s2 s)) = ((zN 7 8 sn2 sn) * 2)) := aI (zo) (zo)
     have hx34 : ((zN 7 8 sn2 sn) ≤ 1000000) := dE (zo) (zo)
     have hx35 : ((ka0 (zM 7 4 m2 m)) ≤ 1000000) := f8 (zo) (zo) (zo) (zo)
     have hx36 : (MsW (zM 7 4 m2 m)) := n6 (qD : MsW m2) (qD : MsW m)
     refine kH [.no, .no, .no, .i 7, .call [] (.e (.agg [iC (zK 7 k2 k), .d (dl (zL 7 2 r2 r) (zN 7 2 rn2 rn)), .d (D.sl (kI (zM 7 4 m2 m)) (ka0 (zM 7 4 m2 m))), .d (dl (zL 7 8 s2 s) (zN 7 8 sn2 sn))])) [] 0 [] none, .no, .no] ((qF .andNot .i64 15 8 = 7) ∧ (_)) [(3, rV 0 0), (4, rV 1 0), (7, iV (aO d k r rn m s sn k2 r2 rn2 m2 s2 sn2 3)), (8, iV 8), (9, rV 11 0)] [(0, some (63, (uZ k r rn m c s sn))), (1, some (63, (uY k2 r2 rn2 m2 c2 s2 sn2))), (11, some (63, .ds [iD (zK 7 k2 k), dl (zL 7 2 r2 r) (zN 7 2 rn2 rn), D.sl (kI (zM 7 4 m2 m)) (ka0 (zM 7 4 m2 m)), dl (zL 7 8 s2 s) (zN 7 8 sn2 sn)]))] 12 ⟨(by decide), (nT k2 r2 rn2 m2 c2 s2 sn2 k r rn m c s sn 7 zo zo zo zo zo zo (qD : MsW m2) zo zo zo zo zo zo (qD : MsW m))⟩ ?_
     by_cases hx38 : ((vR ([(kE k r rn m s sn)] : List Bx) ([(kE (zK 7 k2 k) (zL 7 2 r2 r) (zN 7 2 rn2 rn) (zM 7 4 m2 m) (zL 7 8 s2 s) (zN 7 8 sn2 sn))] : List Bx)) = 0)
     ·have hx39 : (((0 : Int) ≤ (vR ([(kE k r rn m s sn)] : List Bx) ([(kE (zK 7 k2 k) (zL 7 2 r2 r) (zN 7 2 rn2 rn) (zM 7 4 m2 m) (zL 7 8 s2 s) (zN 7 8 sn2 sn))] : List Bx))) ∧ ((vR ([(kE k r rn m s sn)] : List Bx) ([(kE (zK 7 k2 k) (zL 7 2 r2 r) (zN 7 2 rn2 rn) (zM 7 4 m2 m) (zL 7 8 s2 s) (zN 7 8 sn2 sn))] : List Bx)) ≤ 15)) := cY ([(kE k r rn m s sn)] : List Bx) ([(kE (zK 7 k2 k) (zL 7 2 r2 r) (zN 7 2 rn2 rn) (zM 7 4 m2 m) (zL 7 8 s2 s) (zN 7 8 sn2 sn))] : List Bx)
      refine kH (qE 4 [.call [] (iV (vR ([(kE k r rn m s sn)] : List Bx) ([(kE (zK 7 k2 k) (zL 7 2 r2 r) (zN 7 2 rn2 rn) (zM 7 4 m2 m) (zL 7 8 s2 s) (zN 7 8 sn2 sn))] : List Bx))) [] 0 [none, none] (some [.c (.d (D.sl (kN ([(kE k r rn m s sn)] : List Bx)) 1)), .c (.d (D.sl (kN ([(kE (zK 7 k2 k) (zL 7 2 r2 r) (zN 7 2 rn2 rn) (zM 7 4 m2 m) (zL 7 8 s2 s) (zN 7 8 sn2 sn))] : List Bx)) 1))]), .b true]) (([iD k, dl r rn, D.sl (kI m) c, dl s sn].length = 1 * 4) ∧ ([iD (zK 7 k2 k), dl (zL 7 2 r2 r) (zN 7 2 rn2 rn), D.sl (kI (zM 7 4 m2 m)) (ka0 (zM 7 4 m2 m)), dl (zL 7 8 s2 s) (zN 7 8 sn2 sn)].length = 1 * 4) ∧ (bN (iV (vR ([(kE k r rn m s sn)] : List Bx) ([(kE (zK 7 k2 k) (zL 7 2 r2 r) (zN 7 2 rn2 rn) (zM 7 4 m2 m) (zL 7 8 s2 s) (zN 7 8 sn2 sn))] : List Bx))) = true) ∧ (((kN ([(kE k r rn m s sn)] : List Bx)) : List D) = [iD k, dl r rn, D.sl (kI m) c, dl s sn]) ∧ (kG 1) ∧ (((kN ([(kE (zK 7 k2 k) (zL 7 2 r2 r) (zN 7 2 rn2 rn) (zM 7 4 m2 m) (zL 7 8 s2 s) (zN 7 8 sn2 sn))] : List Bx)) : List D) = [iD (zK 7 k2 k), dl (zL 7 2 r2 r) (zN 7 2 rn2 rn), D.sl (kI (zM 7 4 m2 m)) (ka0 (zM 7 4 m2 m)), dl (zL 7 8 s2 s) (zN 7 8 sn2 sn)]) ∧ (kG 1) ∧ (_) ∧ (((vR ([(kE k r rn m s sn)] : List Bx) ([(kE (zK 7 k2 k) (zL 7 2 r2 r) (zN 7 2 rn2 rn) (zM 7 4 m2 m) (zL 7 8 s2 s) (zN 7 8 sn2 sn))] : List Bx)) = 0))) [(3, rV 0 0), (4, rV 1 0), (7, iV (aO d k r rn m s sn k2 r2 rn2 m2 s2 sn2 3)), (8, iV 8), (25, bV true)] [(0, some (63, (uZ k r rn m c s sn))), (1, some (63, (uY k2 r2 rn2 m2 c2 s2 sn2)))] 14 ⟨yG, yG, rfl, (by (subst hc; rfl)), rfl, (by rfl), rfl, (cZ ([(kE k r rn m s sn)] : List Bx) ([(kE (zK 7 k2 k) (zL 7 2 r2 r) (zN 7 2 rn2 rn) (zM 7 4 m2 m) (zL 7 8 s2 s) (zN 7 8 sn2 sn))] : List Bx) 1 1 v7 v7 zo zo (qD : BsW ([(kE k r rn m s sn)] : List Bx)) (qD : BsW ([(kE (zK 7 k2 k) (zL 7 2 r2 r) (zN 7 2 rn2 rn) (zM 7 4 m2 m) (zL 7 8 s2 s) (zN 7 8 sn2 sn))] : List Bx))), zo⟩ ?_
      refine zt ?_
      refine yA [.no, .no, .i (f5 (aO d k r rn m s sn k2 r2 rn2 m2 s2 sn2 3) 8), .no] (qF .or .i64 (aO d k r rn m s sn k2 r2 rn2 m2 s2 sn2 3) 8 = (f5 (aO d k r rn m s sn k2 r2 rn2 m2 s2 sn2 3) 8)) [(3, rV 0 0), (4, rV 1 0), (7, iV (f5 (aO d k r rn m s sn k2 r2 rn2 m2 s2 sn2 3) 8)), (8, iV 8)] rfl ?_
      exact kW () [] (P := (kG 0) ∧ (kG 0) ∧ (((aO d k r rn m s sn k2 r2 rn2 m2 s2 sn2 4) : Int) = (f5 (aO d k r rn m s sn k2 r2 rn2 m2 s2 sn2 3) 8)) ∧ (kM 8) ∧ (kJ [iD k, dl r rn, D.sl (kI m) c, dl s sn]) ∧ (kJ [iD k2, dl r2 rn2, D.sl (kI m2) c2, dl s2 sn2])) zk ⟨rfl, rfl, (by exact (u1w (by assumption)).symm), rfl, rfl, rfl⟩ True.intro
     ·have hx40 : (((0 : Int) ≤ (vR ([(kE k r rn m s sn)] : List Bx) ([(kE (zK 7 k2 k) (zL 7 2 r2 r) (zN 7 2 rn2 rn) (zM 7 4 m2 m) (zL 7 8 s2 s) (zN 7 8 sn2 sn))] : List Bx))) ∧ ((vR ([(kE k r rn m s sn)] : List Bx) ([(kE (zK 7 k2 k) (zL 7 2 r2 r) (zN 7 2 rn2 rn) (zM 7 4 m2 m) (zL 7 8 s2 s) (zN 7 8 sn2 sn))] : List Bx)) ≤ 15)) := cY ([(kE k r rn m s sn)] : List Bx) ([(kE (zK 7 k2 k) (zL 7 2 r2 r) (zN 7 2 rn2 rn) (zM 7 4 m2 m) (zL 7 8 s2 s) (zN 7 8 sn2 sn))] : List Bx)
      refine kH (qE 4 [.call [] (iV (vR ([(kE k r rn m s sn)] : List Bx) ([(kE (zK 7 k2 k) (zL 7 2 r2 r) (zN 7 2 rn2 rn) (zM 7 4 m2 m) (zL 7 8 s2 s) (zN 7 8 sn2 sn))] : List Bx))) [] 0 [none, none] (some [.c (.d (D.sl (kN ([(kE k r rn m s sn)] : List Bx)) 1)), .c (.d (D.sl (kN ([(kE (zK 7 k2 k) (zL 7 2 r2 r) (zN 7 2 rn2 rn) (zM 7 4 m2 m) (zL 7 8 s2 s) (zN 7 8 sn2 sn))] : List Bx)) 1))]), .b false]) (([iD k, dl r rn, D.sl (kI m) c, dl s sn].length = 1 * 4) ∧ ([iD (zK 7 k2 k), dl (zL 7 2 r2 r) (zN 7 2 rn2 rn), D.sl (kI (zM 7 4 m2 m)) (ka0 (zM 7 4 m2 m)), dl (zL 7 8 s2 s) (zN 7 8 sn2 sn)].length = 1 * 4) ∧ (bN (iV (vR ([(kE k r rn m s sn)] : List Bx) ([(kE (zK 7 k2 k) (zL 7 2 r2 r) (zN 7 2 rn2 rn) (zM 7 4 m2 m) (zL 7 8 s2 s) (zN 7 8 sn2 sn))] : List Bx))) = true) ∧ (((kN ([(kE k r rn m s sn)] : List Bx)) : List D) = [iD k, dl r rn, D.sl (kI m) c, dl s sn]) ∧ (kG 1) ∧ (((kN ([(kE (zK 7 k2 k) (zL 7 2 r2 r) (zN 7 2 rn2 rn) (zM 7 4 m2 m) (zL 7 8 s2 s) (zN 7 8 sn2 sn))] : List Bx)) : List D) = [iD (zK 7 k2 k), dl (zL 7 2 r2 r) (zN 7 2 rn2 rn), D.sl (kI (zM 7 4 m2 m)) (ka0 (zM 7 4 m2 m)), dl (zL 7 8 s2 s) (zN 7 8 sn2 sn)]) ∧ (kG 1) ∧ (_) ∧ (¬ ((vR ([(kE k r rn m s sn)] : List Bx) ([(kE (zK 7 k2 k) (zL 7 2 r2 r) (zN 7 2 rn2 rn) (zM 7 4 m2 m) (zL 7 8 s2 s) (zN 7 8 sn2 sn))] : List Bx)) = 0))) [(3, rV 0 0), (4, rV 1 0), (7, iV (aO d k r rn m s sn k2 r2 rn2 m2 s2 sn2 3)), (8, iV 8), (25, bV false)] [(0, some (63, (uZ k r rn m c s sn))), (1, some (63, (uY k2 r2 rn2 m2 c2 s2 sn2)))] 14 ⟨yG, yG, rfl, (by (subst hc; rfl)), rfl, (by rfl), rfl, (cZ ([(kE k r rn m s sn)] : List Bx) ([(kE (zK 7 k2 k) (zL 7 2 r2 r) (zN 7 2 rn2 rn) (zM 7 4 m2 m) (zL 7 8 s2 s) (zN 7 8 sn2 sn))] : List Bx) 1 1 v7 v7 zo zo (qD : BsW ([(kE k r rn m s sn)] : List Bx)) (qD : BsW ([(kE (zK 7 k2 k) (zL 7 2 r2 r) (zN 7 2 rn2 rn) (zM 7 4 m2 m) (zL 7 8 s2 s) (zN 7 8 sn2 sn))] : List Bx))), zo⟩ ?_
      refine uO ?_
      exact kW () [] (P := (kG 0) ∧ (kG 0) ∧ (((aO d k r rn m s sn k2 r2 rn2 m2 s2 sn2 4) : Int) = (aO d k r rn m s sn k2 r2 rn2 m2 s2 sn2 3)) ∧ (kM 8) ∧ (kJ [iD k, dl r rn, D.sl (kI m) c, dl s sn]) ∧ (kJ [iD k2, dl r2 rn2, D.sl (kI m2) c2, dl s2 sn2])) zk ⟨rfl, rfl, (by exact (u1x (by assumption)).symm), rfl, rfl, rfl⟩ True.intro
    ·refine aC [.no, .w, .no] (u3 (16 : Int)) [(3, rV 0 0), (4, rV 1 0), (7, iV (aO d k r rn m s sn k2 r2 rn2 m2 s2 sn2 4)), (8, iV 16)] [(0, some (63, (uZ k r rn m c s sn))), (1, some (63, (uY k2 r2 rn2 m2 c2 s2 sn2)))] 14 ⟨by omega, by omega⟩ ?_
     refine AWr.s ?_
     refine AW.seq ?_
     refine kH [.no, .b false] (¬ ((16 : Int) < 15)) [(3, rV 0 0), (4, rV 1 0), (7, iV (aO d k r rn m s sn k2 r2 rn2 m2 s2 sn2 4)), (8, iV 16), (12, bV false)] [(0, some (63, (uZ k r rn m c s sn))), (1, some (63, (uY k2 r2 rn2 m2 c2 s2 sn2)))] 14 zo ?_
     refine zf ?_
     refine AW.exit ?_
     refine kH [.no, .no] True [(6, iV (aO d k r rn m s sn k2 r2 rn2 m2 s2 sn2 4))] [] 14 trivial ?_
     refine AW.ret ?_
     exact kA (.inr rfl) [] (P := (kM (aO d k r rn m s sn k2 r2 rn2 m2 s2 sn2 4))) zk rfl
theorem u6j (d s : Int)  : Fun 65 [iE d, .c (.ptr 0 0)] (kF [(0, some (3, .ds [iD s]))]) 1 (uW (D.lit (.bool (stB d s)))) (kF [(0, some (3, .ds [iD s]))]) 1 := by
 refine Fun.mk (n := 9) Tryz.func65 rfl rfl (ka4 rfl) ?_
 intro cx hcx
 refine kH [.no] True [(0, iV d), (1, rV 0 0)] [(0, some (3, .ds [iD s]))] 1 trivial ?_
 by_cases hx1 : ((qG d s) = s)
 ·refine kS [.no, .no, .i (qG d s), .no, .b true, .no] ((qF .and .i64 d s = (qG d s)) ∧ (((qG d s) = s))) [(3, bV true)] ⟨rfl, zo⟩ ?_
  refine AW.ret ?_
  exact kA (.inr rfl) [] (P := ((stB d s) = true) ∧ (kJ [iD s])) zk ⟨(by exact decide_eq_true zo), rfl⟩
 ·refine kS [.no, .no, .i (qG d s), .no, .b false, .no] ((qF .and .i64 d s = (qG d s)) ∧ (¬ ((qG d s) = s))) [(3, bV false)] ⟨rfl, zo⟩ ?_
  refine AW.ret ?_
  exact kA (.inr rfl) [] (P := ((stB d s) = false) ∧ (kJ [iD s])) zk ⟨(by exact decide_eq_false zo), rfl⟩
theorem u6h (l : List Int) (n : Nat) (s : Int) (hn : ka0 l = n) (h1 : n ≤ 1000000) : Fun 100 [.c (.d (D.sl (dI .i64 l) n)), .c (.fn 65 [(0, 0)])] (kF [(0, some (3, .ds [iD s]))]) 1 (iV (lB l s n)) (kF [(0, some (3, .ds [iD s]))]) 1 := by
 refine Fun.mk (n := 19) Tryz.func100 rfl rfl (ka4 rfl) ?_
 intro cx hcx
 refine kH [.no] True [(0, sV .i64 l n), (1, .e (.c (.fn 65 [(0, 0)])))] [(0, some (3, .ds [iD s]))] 1 trivial ?_
 refine AW.seq ?_
 refine kS [.no, .no, .no] True [(0, sV .i64 l n), (1, .e (.c (.fn 65 [(0, 0)]))), (7, uV n), (8, iV 0)] trivial ?_
 refine AW.block ?_
 refine k8 1 hcx (fun (x : {x : Nat // match x with | k => (k ≤ n) ∧ (lB l s k = -1)}) => match x with | ⟨k, _⟩ => (⟨[(0, sV .i64 l n), (1, .e (.c (.fn 65 [(0, 0)]))), (7, uV n), (8, uV k)], [(0, some (3, .ds [iD s]))], 1⟩ : ES)) (fun x => match x with | ⟨k, _⟩ => n - k) ⟨(0 : Nat), ⟨zo, rfl⟩⟩ [] (P := (kJ (dI .i64 l)) ∧ (kG n) ∧ (kM (n : Int)) ∧ (kM 0) ∧ (kJ [iD s])) zk ⟨rfl, rfl, rfl, rfl, rfl⟩ ?_
 rintro ⟨k, hinv0⟩
 obtain ⟨hk, hi⟩ : (k ≤ n) ∧ (lB l s k = -1) := hinv0
 refine qW (l := [(0, sV .i64 l n), (1, .e (.c (.fn 65 [(0, 0)]))), (7, uV n), (8, uV k)]) (g := [(0, some (3, .ds [iD s]))]) (nx := 1) rfl rfl rfl ?_
 by_cases hx1 : (((k : Nat) : Int) < ((n : Nat) : Int))
 ·refine kH [.b true] (((k : Int) < (n : Int))) [(0, sV .i64 l n), (1, .e (.c (.fn 65 [(0, 0)]))), (7, uV n), (8, uV k), (9, bV true)] [(0, some (3, .ds [iD s]))] 1 zo ?_
  refine AW.seq ?_
  refine vL ?_
  refine AW.seq ?_
  refine AW.block ?_
  refine kS [.no, .no] True [(0, sV .i64 l n), (1, .e (.c (.fn 65 [(0, 0)]))), (5, uV k), (7, uV n), (8, uV k)] trivial ?_
  rcases ka9 (stB (ka1 l k 0) s) with hx2 | hx2
  ·refine kS [.no, .no, .no, .n k, .d (D.lit (.int .i64 (ka1 l k 0))), .call [0] (bV true) [(0, some (3, .ds [iD s]))] 1 [] none] ((kM (k : Int)) ∧ (k < n) ∧ ((ka3 k (dI .i64 l))[0]? = some (D.lit (.int .i64 (ka1 l k 0)))) ∧ (Fun 65 [iE (ka1 l k 0), .c (.ptr 0 0)] (kF [(0, some (3, .ds [iD s]))]) 1 (bV true) (kF [(0, some (3, .ds [iD s]))]) 1)) [(0, sV .i64 l n), (1, .e (.c (.fn 65 [(0, 0)]))), (5, uV k), (7, uV n), (8, uV k), (16, bV true)] ⟨rfl, zo, (yF _ _ _ zo), (by have h0 := (u6j (ka1 l k 0) s); rw [hx2] at h0; exact h0)⟩ ?_
   refine zt ?_
   refine kS [.no, .no] True [(4, uV k)] trivial ?_
   refine AW.ret ?_
   exact kA (.inr rfl) [] (P := (((lB l s n) : Int) = (k : Int)) ∧ (kJ [iD s])) zk ⟨(by exact u4u hi (by assumption) zo), rfl⟩
  ·refine kS [.no, .no, .no, .n k, .d (D.lit (.int .i64 (ka1 l k 0))), .call [0] (bV false) [(0, some (3, .ds [iD s]))] 1 [] none] ((kM (k : Int)) ∧ (k < n) ∧ ((ka3 k (dI .i64 l))[0]? = some (D.lit (.int .i64 (ka1 l k 0)))) ∧ (Fun 65 [iE (ka1 l k 0), .c (.ptr 0 0)] (kF [(0, some (3, .ds [iD s]))]) 1 (bV false) (kF [(0, some (3, .ds [iD s]))]) 1)) [(0, sV .i64 l n), (1, .e (.c (.fn 65 [(0, 0)]))), (5, uV k), (7, uV n), (8, uV k), (16, bV false)] ⟨rfl, zo, (yF _ _ _ zo), (by have h0 := (u6j (ka1 l k 0) s); rw [hx2] at h0; exact h0)⟩ ?_
   refine uO ?_
   refine yA [.w, .no] (u3 ((k : Int) + 1)) [(0, sV .i64 l n), (1, .e (.c (.fn 65 [(0, 0)]))), (7, uV n), (8, iV (↑k + 1))] ⟨by omega, by omega⟩ ?_
   exact kW ⟨((k + 1) : Nat), ⟨zo, (u4t hi (by assumption))⟩⟩ [] (P := (kJ (dI .i64 l)) ∧ (kG n) ∧ (kM (n : Int)) ∧ (bU k) ∧ (kJ [iD s])) zk ⟨rfl, rfl, rfl, (by rfl), rfl⟩ (show n - (k + 1) < n - k from zo)
 ·refine kH [.b false] (¬ ((k : Int) < (n : Int))) [(0, sV .i64 l n), (1, .e (.c (.fn 65 [(0, 0)]))), (7, uV n), (8, uV k), (9, bV false)] [(0, some (3, .ds [iD s]))] 1 zo ?_
  refine AW.seq ?_
  refine zf ?_
  refine AW.exit ?_
  refine kH [.no] True [(4, iV (-1))] [(0, some (3, .ds [iD s]))] 1 trivial ?_
  refine AW.ret ?_
  exact kA (.inr rfl) [] (P := (((lB l s n) : Int) = (-1)) ∧ (kJ [iD s])) zk ⟨(by (rw [show n = k by omega]; exact hi)), rfl⟩
theorem u9f (l : List Int) (n : Nat) (s : Int) (hn : ka0 l = n) (h1 : n ≤ 1000000) : Fun 66 [.c (.d (D.sl (dI .i64 l) n)), .c (.fn 65 [(0, 0)])] (kF [(0, some (3, .ds [iD s]))]) 1 (uW (D.lit (.bool (jD l n s)))) (kF [(0, some (3, .ds [iD s]))]) 1 := by
 refine Fun.mk (n := 9) Tryz.func66 rfl rfl (ka4 rfl) ?_
 intro cx hcx
 refine kH [.no] True [(0, sV .i64 l n), (1, .e (.c (.fn 65 [(0, 0)])))] [(0, some (3, .ds [iD s]))] 1 trivial ?_
 by_cases hx1 : ((0 : Int) ≤ (lB l s n))
 ·refine kS [.no, .no, .call [0] (iV (lB l s n)) [(0, some (3, .ds [iD s]))] 1 [] none, .b true, .no] ((_) ∧ (((0 : Int) ≤ (lB l s n)))) [(4, bV true)] ⟨(u6h l n s zo zo), zo⟩ ?_
  refine AW.ret ?_
  exact kA (.inr rfl) [] (P := ((jD l n s) = true) ∧ (kJ [iD s])) zk ⟨(by exact decide_eq_true zo), rfl⟩
 ·refine kS [.no, .no, .call [0] (iV (lB l s n)) [(0, some (3, .ds [iD s]))] 1 [] none, .b false, .no] ((_) ∧ (¬ ((0 : Int) ≤ (lB l s n)))) [(4, bV false)] ⟨(u6h l n s zo zo), zo⟩ ?_
  refine AW.ret ?_
  exact kA (.inr rfl) [] (P := ((jD l n s) = false) ∧ (kJ [iD s])) zk ⟨(by exact decide_eq_false zo), rfl⟩
abbrev gK (a : List Bx) (i : Nat) : BC := .ds [iD (kQ a i), D.sl (dI .i64 (kY a i)) (kV a i), D.sl (kI (kT a i)) (ka0 (kT a i)), D.sl (dI .i64 (kX a i)) (kU a i)]
theorem u41 (a b : List Bx) (n m : Nat) (d : Int) (hn : ka0 a = n) (hm : ka0 b = m) (h1 : n ≤ 1000) (h2 : m ≤ 64) (hW : BsW a) (hV : BsW b) : Fun 34 [.c (.d (D.sl (kN a) n)), .c (.d (D.sl (kN b) m)), iE d] (kF []) 0 (iV (tB d a b)) (kF []) 0 := by
 refine Fun.mk (n := 60) Tryz.func34 rfl rfl (ka4 rfl) ?_
 intro cx hcx
 refine kH [.no] True [(0, .e (k9 a n)), (1, .e (k9 b m)), (2, iV d)] [] 0 trivial ?_
 refine AW.seq ?_
 by_cases hx1 : (((n : Nat) : Int) = 0)
 ·refine kS [.no, .no, .b true] (((n : Int) = 0)) [(0, .e (k9 a n)), (1, .e (k9 b m)), (2, iV d), (17, bV true)] zo ?_
  refine zt ?_
  refine kS [.no] True [(6, iV 15)] trivial ?_
  refine AW.ret ?_
  exact kA (.inr rfl) [] (P := (((tB d a b) : Int) = 15)) zk (by exact (v6c zo).symm)
 ·refine kS [.no, .no, .b false] (¬ ((n : Int) = 0)) [(0, .e (k9 a n)), (1, .e (k9 b m)), (2, iV d), (17, bV false)] zo ?_
  refine uO ?_
  refine kS [.no] True [(0, .e (k9 a n)), (1, .e (k9 b m)), (2, iV d), (7, nV)] trivial ?_
  refine AW.seq ?_
  refine kS [.no, .no, .no] True [(1, .e (k9 b m)), (2, iV d), (7, nV), (18, .e (k9 a n)), (19, uV n), (20, iV 0)] trivial ?_
  refine AW.block ?_
  refine AW.adoptS 7 1 3 rfl ?_
  refine k8 0 hcx (fun (x : {x : Nat × Nat × List Int // match x with | (i, q, o) => (i ≤ n) ∧ (lO d a b i = o) ∧ (ka0 o = q) ∧ (q ≤ i * 64)}) => match x with | ⟨(i, q, o), _⟩ => (⟨[(1, .e (k9 b m)), (2, iV d), (7, oV 1 0 q 1), (18, .e (k9 a n)), (19, uV n), (20, uV i)], [(1, some (3, .ds (dI .i64 o)))], 2⟩ : ES)) (fun x => match x with | ⟨(i, q, o), _⟩ => n - i) ⟨((0 : Nat), (0 : Nat), (([] : List Int) : List Int)), ⟨zo, rfl, rfl, zo⟩⟩ [(1, 0)] (P := (kJ (kN b)) ∧ (kG m) ∧ (kM d) ∧ (kG 0) ∧ (kG 0) ∧ (kJ (kN a)) ∧ (kG n) ∧ (kM (n : Int)) ∧ (kM 0) ∧ (((dI .i64 ([] : List Int)) : List D) = ([] : List D))) zk ⟨rfl, rfl, rfl, rfl, rfl, rfl, rfl, rfl, rfl, (by rfl)⟩ ?_
  rintro ⟨⟨i, q, o⟩, hinv0⟩
  obtain ⟨hi, ho, hq, hqm⟩ : (i ≤ n) ∧ (lO d a b i = o) ∧ (ka0 o = q) ∧ (q ≤ i * 64) := hinv0
  refine qW (l := [(1, .e (k9 b m)), (2, iV d), (7, oV 1 0 q 1), (18, .e (k9 a n)), (19, uV n), (20, uV i)]) (g := [(1, some (3, .ds (dI .i64 o)))]) (nx := 2) rfl rfl rfl ?_
  by_cases hx2 : (((i : Nat) : Int) < ((n : Nat) : Int))
  ·refine kH [.b true] (((i : Int) < (n : Int))) [(1, .e (k9 b m)), (2, iV d), (7, oV 1 0 q 1), (18, .e (k9 a n)), (19, uV n), (20, uV i), (21, bV true)] [(1, some (3, .ds (dI .i64 o)))] 2 zo ?_
   refine AW.seq ?_
   refine vL ?_
   refine AW.seq ?_
   refine AW.block ?_
   obtain ⟨hx3, hx4, hx5, hx6, hx7⟩ := BsW.at (qD : BsW a) (i)
   refine kH [.n i, .ds (yI a i), .no, .no] ((kM (i : Int)) ∧ (i < n) ∧ (List.take 4 (ka3 (i * 4) (kN a)) = (yI a i)) ∧ (((yI a i) : List D).length = 4)) [(1, .e (k9 b m)), (2, iV d), (7, oV 1 0 q 1), (9, rV 2 0), (18, .e (k9 a n)), (19, uV n), (20, uV i)] [(1, some (3, .ds (dI .i64 o))), (2, some (63, (gK a i)))] 3 ⟨rfl, zo, (vB zo), rfl⟩ ?_
   refine kS [.no, .no, .no] True [(1, .e (k9 b m)), (2, iV d), (7, oV 1 0 q 1), (9, rV 2 0), (18, .e (k9 a n)), (19, uV n), (20, uV i), (24, .e (k9 b m)), (25, uV m), (26, iV 0)] trivial ?_
   refine AW.block ?_
   refine k8 0 hcx (fun (x : {x : Nat × Nat × List Int // match x with | (j, p, x) => (j ≤ m) ∧ (bpJ d a b i j = x) ∧ (ka0 x = p) ∧ (p ≤ i * 64 + j)}) => match x with | ⟨(j, p, x), _⟩ => (⟨[(1, .e (k9 b m)), (2, iV d), (7, oV 3 0 p 1), (9, rV 2 0), (18, .e (k9 a n)), (19, uV n), (20, uV i), (24, .e (k9 b m)), (25, uV m), (26, uV j)], [(3, some (3, .ds (dI .i64 x))), (2, some (63, (gK a i)))], 4⟩ : ES)) (fun x => match x with | ⟨(j, p, x), _⟩ => m - j) ⟨((0 : Nat), (q : Nat), (o : List Int)), ⟨zo, (v2z ho), (by assumption), zo⟩⟩ [(3, 1)] (P := (kJ (kN b)) ∧ (kG m) ∧ (kM d) ∧ (kG 0) ∧ (kG q) ∧ (kG 0) ∧ (kJ (kN a)) ∧ (kG n) ∧ (kM (n : Int)) ∧ (kM (i : Int)) ∧ (kJ (kN b)) ∧ (kG m) ∧ (kM (m : Int)) ∧ (kM 0) ∧ (kJ (dI .i64 o)) ∧ (kJ (yI a i))) zk ⟨rfl, rfl, rfl, rfl, rfl, rfl, rfl, rfl, rfl, rfl, rfl, rfl, rfl, rfl, rfl, rfl⟩ ?_
   rintro ⟨⟨j, p, x⟩, hinv1⟩
   obtain ⟨hj, hJ, hp, hpm⟩ : (j ≤ m) ∧ (bpJ d a b i j = x) ∧ (ka0 x = p) ∧ (p ≤ i * 64 + j) := hinv1
   refine qW (l := [(1, .e (k9 b m)), (2, iV d), (7, oV 3 0 p 1), (9, rV 2 0), (18, .e (k9 a n)), (19, uV n), (20, uV i), (24, .e (k9 b m)), (25, uV m), (26, uV j)]) (g := [(3, some (3, .ds (dI .i64 x))), (2, some (63, (gK a i)))]) (nx := 4) rfl rfl rfl ?_
   by_cases hx8 : (((j : Nat) : Int) < ((m : Nat) : Int))
   ·refine kH [.b true] (((j : Int) < (m : Int))) [(1, .e (k9 b m)), (2, iV d), (7, oV 3 0 p 1), (9, rV 2 0), (18, .e (k9 a n)), (19, uV n), (20, uV i), (24, .e (k9 b m)), (25, uV m), (26, uV j), (27, bV true)] [(2, some (63, (gK a i))), (3, some (3, .ds (dI .i64 x)))] 4 zo ?_
    refine AW.seq ?_
    refine vL ?_
    refine AW.seq ?_
    refine AW.block ?_
    obtain ⟨hx9, hx10, hx11, hx12, hx13⟩ := BsW.at (qD : BsW b) (j)
    refine kH [.n j, .ds (yI b j), .no, .no] ((kM (j : Int)) ∧ (j < m) ∧ (List.take 4 (ka3 (j * 4) (kN b)) = (yI b j)) ∧ (((yI b j) : List D).length = 4)) [(1, .e (k9 b m)), (2, iV d), (7, oV 3 0 p 1), (9, rV 2 0), (11, rV 4 0), (18, .e (k9 a n)), (19, uV n), (20, uV i), (24, .e (k9 b m)), (25, uV m), (26, uV j)] [(2, some (63, (gK a i))), (3, some (3, .ds (dI .i64 x))), (4, some (63, .ds (yI b j)))] 5 ⟨rfl, zo, (vB zo), rfl⟩ ?_
    refine aC (qE 4 [.call [] (iV (aO d (kQ a i) (kY a i) (kV a i) (kT a i) (kX a i) (kU a i) (kQ b j) (kY b j) (kV b j) (kT b j) (kX b j) (kU b j) 4)) [] 0 [] none, .no, .ap none (p + 1) (dI .i64 (x ++ ([(aO d (kQ a i) (kY a i) (kV a i) (kT a i) (kX a i) (kU a i) (kQ b j) (kY b j) (kV b j) (kT b j) (kX b j) (kU b j) 4)] : List Int))), .no]) ((_) ∧ ([iD (aO d (kQ a i) (kY a i) (kV a i) (kT a i) (kX a i) (kU a i) (kQ b j) (kY b j) (kV b j) (kT b j) (kX b j) (kU b j) 4)].length = 1 * 1) ∧ (((dI .i64 x) : List D).length = p * 1) ∧ ((p + 1) * 8 ≤ 140737488355328) ∧ (p + 1 = (p + 1)) ∧ (((dI .i64 x) : List D) ++ [iD (aO d (kQ a i) (kY a i) (kV a i) (kT a i) (kX a i) (kU a i) (kQ b j) (kY b j) (kV b j) (kT b j) (kX b j) (kU b j) 4)] = (dI .i64 (x ++ ([(aO d (kQ a i) (kY a i) (kV a i) (kT a i) (kX a i) (kU a i) (kQ b j) (kY b j) (kV b j) (kT b j) (kX b j) (kU b j) 4)] : List Int))))) [(1, .e (k9 b m)), (2, iV d), (7, oV 6 0 (p + 1) 1), (9, rV 2 0), (18, .e (k9 a n)), (19, uV n), (20, uV i), (24, .e (k9 b m)), (25, uV m), (26, uV j)] [(2, some (63, (gK a i))), (6, some (3, .ds (dI .i64 (x ++ ([(aO d (kQ a i) (kY a i) (kV a i) (kT a i) (kX a i) (kU a i) (kQ b j) (kY b j) (kV b j) (kT b j) (kX b j) (kU b j) 4)] : List Int)))))] 7 ⟨(u9b (kQ a i) (kY a i) (kV a i) (kT a i) (ka0 (kT a i)) (kX a i) (kU a i) (kQ b j) (kY b j) (kV b j) (kT b j) (ka0 (kT b j)) (kX b j) (kU b j) d zo zo rfl zo zo zo (BsW.ms (qD : BsW a) _) zo zo rfl zo zo zo (BsW.ms (qD : BsW b) _)), yG, yG, zo, zo, (a8 .i64 x ([(aO d (kQ a i) (kY a i) (kV a i) (kT a i) (kX a i) (kU a i) (kQ b j) (kY b j) (kV b j) (kT b j) (kX b j) (kU b j) 4)] : List Int))⟩ ?_
    refine yA [.w, .no] (u3 ((j : Int) + 1)) [(1, .e (k9 b m)), (2, iV d), (7, oV 6 0 (p + 1) 1), (9, rV 2 0), (18, .e (k9 a n)), (19, uV n), (20, uV i), (24, .e (k9 b m)), (25, uV m), (26, iV (↑j + 1))] ⟨by omega, by omega⟩ ?_
    exact kW ⟨(((j + 1) : Nat), ((p + 1) : Nat), ((x ++ ([(aO d (kQ a i) (kY a i) (kV a i) (kT a i) (kX a i) (kU a i) (kQ b j) (kY b j) (kV b j) (kT b j) (kX b j) (kU b j) 4)] : List Int)) : List Int)), ⟨zo, (v2x hJ rfl), (by (simp only [qB, qA, qS, qV, q6, ka8, kb0, kb2] <;> omega)), zo⟩⟩ [(3, 6)] (P := (kJ (kN b)) ∧ (kG m) ∧ (kM d) ∧ (kG 0) ∧ (kG (p + 1)) ∧ (kG 0) ∧ (kJ (kN a)) ∧ (kG n) ∧ (kM (n : Int)) ∧ (kM (i : Int)) ∧ (kJ (kN b)) ∧ (kG m) ∧ (kM (m : Int)) ∧ (bU j) ∧ (kJ (dI .i64 (x ++ ([(aO d (kQ a i) (kY a i) (kV a i) (kT a i) (kX a i) (kU a i) (kQ b j) (kY b j) (kV b j) (kT b j) (kX b j) (kU b j) 4)] : List Int)))) ∧ (kJ (yI a i))) zk ⟨rfl, rfl, rfl, rfl, rfl, rfl, rfl, rfl, rfl, rfl, rfl, rfl, rfl, (by rfl), rfl, rfl⟩ (show m - (j + 1) < m - j from zo)
   ·refine kH [.b false] (¬ ((j : Int) < (m : Int))) [(1, .e (k9 b m)), (2, iV d), (7, oV 3 0 p 1), (9, rV 2 0), (18, .e (k9 a n)), (19, uV n), (20, uV i), (24, .e (k9 b m)), (25, uV m), (26, uV j), (27, bV false)] [(2, some (63, (gK a i))), (3, some (3, .ds (dI .i64 x)))] 4 zo ?_
    refine AW.seq ?_
    refine zf ?_
    refine AW.exit ?_
    refine aC [.w, .no] (u3 ((i : Int) + 1)) [(1, .e (k9 b m)), (2, iV d), (7, oV 3 0 p 1), (18, .e (k9 a n)), (19, uV n), (20, iV (↑i + 1))] [(3, some (3, .ds (dI .i64 x)))] 4 ⟨by omega, by omega⟩ ?_
    exact kW ⟨(((i + 1) : Nat), (p : Nat), (x : List Int)), ⟨zo, (v2y hJ zo), (by assumption), zo⟩⟩ [(1, 3)] (P := (kJ (kN b)) ∧ (kG m) ∧ (kM d) ∧ (kG 0) ∧ (kG p) ∧ (kJ (kN a)) ∧ (kG n) ∧ (kM (n : Int)) ∧ (bU i) ∧ (kJ (dI .i64 x))) zk ⟨rfl, rfl, rfl, rfl, rfl, rfl, rfl, rfl, (by rfl), rfl⟩ (show n - (i + 1) < n - i from zo)
  ·refine kH [.b false] (¬ ((i : Int) < (n : Int))) [(1, .e (k9 b m)), (2, iV d), (7, oV 1 0 q 1), (18, .e (k9 a n)), (19, uV n), (20, uV i), (21, bV false)] [(1, some (3, .ds (dI .i64 o)))] 2 zo ?_
   refine AW.seq ?_
   refine zf ?_
   refine AW.exit ?_
   refine AW.freeze 1 (l' := [(1, .e (k9 b m)), (2, iV d), (7, sV .i64 o q), (18, .e (k9 a n)), (19, uV n), (20, uV i), (21, bV false)]) (g' := []) rfl (FzS.cons rfl (.same _) (FzS.cons rfl (.same _) (FzS.cons rfl (.e (.c (@FzC.own 1 ((dI .i64 o) : List D) 0 q 1 true ((dI .i64 o) : List D) (by rw [kd3, kc6, kb7 (by (simp only [qB, qA, qS, qV, q6, qQ, ka8, kb0, kb2, kb4, kb6, kb5, kc1, kc3, kc0, kc6] <;> omega))]) yG))) (FzS.cons rfl (.same _) (FzS.cons rfl (.same _) (FzS.cons rfl (.same _) (FzS.cons rfl (.same _) FzS.nil))))))) FzG.nil ?_
   refine kH [.no] True [(7, sV .i64 o q), (12, iV 15)] [] 2 trivial ?_
   refine AW.seq ?_
   refine kH [.no, .no] True [(7, sV .i64 o q), (12, iV 15), (13, rV 2 0)] [(2, some (3, .ds [iD 14]))] 3 trivial ?_
   refine AW.block ?_
   refine k8 0 hcx (fun (x : {x : Nat × Int // match x with | (z, y) => (z ≤ 14 ∧ 0 ≤ y ∧ y ≤ 15) ∧ (blM o q z = y)}) => match x with | ⟨(z, y), _⟩ => (⟨[(7, sV .i64 o q), (12, iV y), (13, rV 3 0)], [(3, some (3, .ds [iD (14 - (z : Int))]))], 4⟩ : ES)) (fun x => match x with | ⟨(z, y), _⟩ => 14 - z) ⟨((0 : Nat), (15 : Int)), ⟨zo, rfl⟩⟩ [(3, 2)] (P := (kJ (dI .i64 o)) ∧ (kG q) ∧ (kM 15) ∧ (kG 0) ∧ (kJ [iD 14])) zk ⟨rfl, rfl, rfl, rfl, rfl⟩ ?_
   rintro ⟨⟨z, y⟩, hinv2⟩
   obtain ⟨hz, hy⟩ : (z ≤ 14 ∧ 0 ≤ y ∧ y ≤ 15) ∧ (blM o q z = y) := hinv2
   refine qW (l := [(7, sV .i64 o q), (12, iV y), (13, rV 3 0)]) (g := [(3, some (3, .ds [iD (14 - (z : Int))]))]) (nx := 4) rfl rfl rfl ?_
   refine AW.seq ?_
   by_cases hx14 : ((0 : Int) < (14 - ((z : Nat) : Int)))
   ·refine kH [.no, .b true] (((0 : Int) < (14 - (z : Int)))) [(7, sV .i64 o q), (12, iV y), (13, rV 3 0), (40, bV true)] [(3, some (3, .ds [iD (14 - ↑z)]))] 4 zo ?_
    refine vL ?_
    refine AW.seq ?_
    refine AW.block ?_
    refine kS [.no, .no] True [(7, sV .i64 o q), (12, iV y), (13, rV 3 0), (14, .e (.c (.fn 65 [(3, 0)])))] trivial ?_
    rcases ka9 (jD o q (14 - ((z : Nat) : Int))) with hx15 | hx15
    ·refine kS [.no, .no, .call [3] (bV true) [(0, some (3, .ds [iD (14 - (z : Int))]))] 1 [] none, .no, .no, .no] (Fun 66 [.c (.d (dl o q)), .c (.fn 65 [(0, 0)])] (kF [(0, some (3, .ds [iD (14 - (z : Int))]))]) 1 (bV true) (kF [(0, some (3, .ds [iD (14 - (z : Int))]))]) 1) [(7, sV .i64 o q), (12, iV y), (13, rV 3 0), (56, bV false)] (by have h0 := (u9f o q (14 - (z : Int)) zo zo); rw [hx15] at h0; exact h0) ?_
     refine uO ?_
     refine AW.seq ?_
     refine kH [.no] True [(7, sV .i64 o q), (12, iV y), (58, iV (14 - ↑z))] [] 4 trivial ?_
     refine aC [.no, .no] True [(7, sV .i64 o q), (12, iV y), (13, rV 4 0)] [(4, some (3, .ds [iD (14 - ↑z)]))] 5 trivial ?_
     refine aC [.no, .w, .no] (u3 ((14 - (z : Int)) - 1)) [(7, sV .i64 o q), (12, iV y), (13, rV 4 0)] [(4, some (3, .ds [iD ((14 - ↑z) - 1)]))] 5 ⟨by omega, by omega⟩ ?_
     exact kW ⟨(((z + 1) : Nat), (y : Int)), ⟨zo, (by exact v6a hy (by assumption))⟩⟩ [(3, 4)] (P := (kJ (dI .i64 o)) ∧ (kG q) ∧ (kM y) ∧ (kG 0) ∧ (([iD (14 - (((z + 1) : Nat) : Int))] : List D) = [iD ((14 - (z : Int)) - 1)])) zk ⟨rfl, rfl, rfl, rfl, (by (rw [show (14 - ((z + 1 : Nat) : Int)) = 14 - (z : Int) - 1 by omega]))⟩ (show 14 - (z + 1) < 14 - z from zo)
    ·by_cases hx16 : ((uB (14 - ((z : Nat) : Int))) ≤ (uB y))
     ·refine kS [.no, .no, .call [3] (bV false) [(0, some (3, .ds [iD (14 - (z : Int))]))] 1 [] none, .no, .no, .no, .w, .call [] (iV (uB (14 - (z : Int)))) [] 0 [] none, .no, .w, .call [] (iV (uB y)) [] 0 [] none, .b true, .no] ((Fun 66 [.c (.d (dl o q)), .c (.fn 65 [(0, 0)])] (kF [(0, some (3, .ds [iD (14 - (z : Int))]))]) 1 (bV false) (kF [(0, some (3, .ds [iD (14 - (z : Int))]))]) 1) ∧ (0 ≤ (14 - (z : Int)) ∧ (14 - (z : Int)) ≤ 18446744073709551615) ∧ (_) ∧ (0 ≤ y ∧ y ≤ 18446744073709551615) ∧ (_) ∧ (((uB (14 - (z : Int))) ≤ (uB y)))) [(7, sV .i64 o q), (12, iV y), (13, rV 3 0), (56, bV true)] ⟨(by have h0 := (u9f o q (14 - (z : Int)) zo zo); rw [hx15] at h0; exact h0), ⟨by omega, by omega⟩, (x7 (14 - (z : Int)) zo), ⟨by omega, by omega⟩, (x7 y zo), zo⟩ ?_
      refine zt ?_
      refine yA [.no, .no] True [(7, sV .i64 o q), (12, iV (14 - ↑z)), (13, rV 3 0)] trivial ?_
      refine AW.seq ?_
      refine kH [.no] True [(7, sV .i64 o q), (12, iV (14 - ↑z)), (58, iV (14 - ↑z))] [] 4 trivial ?_
      refine aC [.no, .no] True [(7, sV .i64 o q), (12, iV (14 - ↑z)), (13, rV 4 0)] [(4, some (3, .ds [iD (14 - ↑z)]))] 5 trivial ?_
      refine aC [.no, .w, .no] (u3 ((14 - (z : Int)) - 1)) [(7, sV .i64 o q), (12, iV (14 - ↑z)), (13, rV 4 0)] [(4, some (3, .ds [iD ((14 - ↑z) - 1)]))] 5 ⟨by omega, by omega⟩ ?_
      exact kW ⟨(((z + 1) : Nat), ((14 - (z : Int)) : Int)), ⟨zo, (by exact v68 hy (by assumption) zo rfl)⟩⟩ [(3, 4)] (P := (kJ (dI .i64 o)) ∧ (kG q) ∧ (kM (14 - (z : Int))) ∧ (kG 0) ∧ (([iD (14 - (((z + 1) : Nat) : Int))] : List D) = [iD ((14 - (z : Int)) - 1)])) zk ⟨rfl, rfl, rfl, rfl, (by (rw [show (14 - ((z + 1 : Nat) : Int)) = 14 - (z : Int) - 1 by omega]))⟩ (show 14 - (z + 1) < 14 - z from zo)
     ·refine kS [.no, .no, .call [3] (bV false) [(0, some (3, .ds [iD (14 - (z : Int))]))] 1 [] none, .no, .no, .no, .w, .call [] (iV (uB (14 - (z : Int)))) [] 0 [] none, .no, .w, .call [] (iV (uB y)) [] 0 [] none, .b false, .no] ((Fun 66 [.c (.d (dl o q)), .c (.fn 65 [(0, 0)])] (kF [(0, some (3, .ds [iD (14 - (z : Int))]))]) 1 (bV false) (kF [(0, some (3, .ds [iD (14 - (z : Int))]))]) 1) ∧ (0 ≤ (14 - (z : Int)) ∧ (14 - (z : Int)) ≤ 18446744073709551615) ∧ (_) ∧ (0 ≤ y ∧ y ≤ 18446744073709551615) ∧ (_) ∧ (¬ ((uB (14 - (z : Int))) ≤ (uB y)))) [(7, sV .i64 o q), (12, iV y), (13, rV 3 0), (56, bV false)] ⟨(by have h0 := (u9f o q (14 - (z : Int)) zo zo); rw [hx15] at h0; exact h0), ⟨by omega, by omega⟩, (x7 (14 - (z : Int)) zo), ⟨by omega, by omega⟩, (x7 y zo), zo⟩ ?_
      refine uO ?_
      refine AW.seq ?_
      refine kH [.no] True [(7, sV .i64 o q), (12, iV y), (58, iV (14 - ↑z))] [] 4 trivial ?_
      refine aC [.no, .no] True [(7, sV .i64 o q), (12, iV y), (13, rV 4 0)] [(4, some (3, .ds [iD (14 - ↑z)]))] 5 trivial ?_
      refine aC [.no, .w, .no] (u3 ((14 - (z : Int)) - 1)) [(7, sV .i64 o q), (12, iV y), (13, rV 4 0)] [(4, some (3, .ds [iD ((14 - ↑z) - 1)]))] 5 ⟨by omega, by omega⟩ ?_
      exact kW ⟨(((z + 1) : Nat), (y : Int)), ⟨zo, (by exact v69 hy zo)⟩⟩ [(3, 4)] (P := (kJ (dI .i64 o)) ∧ (kG q) ∧ (kM y) ∧ (kG 0) ∧ (([iD (14 - (((z + 1) : Nat) : Int))] : List D) = [iD ((14 - (z : Int)) - 1)])) zk ⟨rfl, rfl, rfl, rfl, (by (rw [show (14 - ((z + 1 : Nat) : Int)) = 14 - (z : Int) - 1 by omega]))⟩ (show 14 - (z + 1) < 14 - z from zo)
   ·refine kH [.no, .b false] (¬ ((0 : Int) < (14 - (z : Int)))) [(7, sV .i64 o q), (12, iV y), (13, rV 3 0), (40, bV false)] [(3, some (3, .ds [iD (14 - ↑z)]))] 4 zo ?_
    refine zf ?_
    refine AW.exit ?_
    refine kH [.no, .no] True [(6, iV y)] [] 4 trivial ?_
    refine AW.ret ?_
    exact kA (.inr rfl) [] (P := (((tB d a b) : Int) = y)) zk (by exact (v6b zo ho zo hq hy zo).symm)
theorem u18 (ps : List Pt) (n : Nat) (hn : ka0 ps = n) (h1 : n ≤ 1000) (hW : PsW ps) : Fun 14 [.c (.d (D.sl (qN ps) n))] (kF []) 0 (.tup [.c (.d (D.sl (aF (uN ps)) (ka0 (uN ps)))), .agg [iC (aY ps), iC (aZ ps)], iE (uX ps)]) (kF []) 0 := by
 refine Fun.mk (n := 84) Tryz.func14 rfl rfl (ka4 rfl) ?_
 intro cx hcx
 refine kH [.no, .no, .no] True [(0, qC (qN ps) n), (3, rV 0 0)] [(0, some (32, .ds [iD 0, iD 0]))] 1 trivial ?_
 refine AW.seq ?_
 rcases ka9 (cS ps) with hx1 | hx1
 ·have hcl : 1 ≤ n ∧ n ≤ 16 := by have h9 := k2u hx1; omega
  refine kS [.no, .call [] (bV true) [] 0 [] none, .no] (Fun 16 [.c (.d (D.sl (qN ps) n))] (kF []) 0 (bV true) (kF []) 0) [(0, qC (qN ps) n), (3, rV 0 0), (14, bV false)] (by have h0 := (l9 ps n zo zo (qD : PsW ps)); rw [hx1] at h0; exact h0) ?_
  refine uO ?_
  have hx2 : ((ka0 (kR ps 0)) ≤ 1000) := (PsW.get (qD : PsW ps) (0)).2
  have hx3 : ((ka0 (bD (kR ps 0))) ≤ (ka0 (kR ps 0))) := (Nat.le_trans (m7 (kR ps 0)) (Nat.le_of_eq (rfl)))
  have hx4 : (((0 : Int) ≤ (jB (kR ps 0))) ∧ ((jB (kR ps 0)) ≤ 1)) := hY (kR ps 0)
  refine kS (.no :: .n 0 :: .no :: .d (D.sl (kN (kR ps 0)) (ka0 (kR ps 0))) :: .call [] (.tup [.c (.d (D.sl (kN (bD (kR ps 0))) (ka0 (bD (kR ps 0))))), iE (jB (kR ps 0))]) [] 0 [] none :: qE 5 []) ((kM 0) ∧ ((0 : Nat) < n) ∧ ((ka3 0 (ka3 0 (qN ps)))[0]? = some (D.sl (kN (kR ps 0)) (ka0 (kR ps 0)))) ∧ (_)) [(0, qC (qN ps) n), (3, rV 0 0), (5, .e (yL (bD (kR ps 0))))] ⟨rfl, zo, (by (rw [ke4]; exact (wE (i := 0) zo))), (u10 (kR ps 0) (ka0 (kR ps 0)) rfl zo (PsW.get (qD : PsW ps) _).1)⟩ ?_
  refine AW.seq ?_
  by_cases hx5 : ((((ka0 (bD (kR ps 0))) : Nat) : Int) = 0)
  ·refine kS [.no, .no, .b true] (((ka0 (bD (kR ps 0)) : Int) = 0)) [(0, qC (qN ps) n), (3, rV 0 0), (5, .e (yL (bD (kR ps 0)))), (26, bV true)] zo ?_
   refine zt ?_
   refine kH (qE 4 []) True [(2, nV), (3, rV 0 0), (4, iV 13)] [(0, some (32, .ds [iD 0, iD 15]))] 1 trivial ?_
   obtain ⟨hz1, hz2, hz3, hz4⟩ := k7y hx1 (by assumption)
   refine y6 (l' := [(2, qC ([] : List D) 0), (3, rV 0 0), (4, iV 13)]) (g' := [(0, some (32, .ds [iD 0, iD 15]))]) (NlS.cons rfl (.e (.c .nil)) (NlS.cons rfl (.same _) (NlS.cons rfl (.same _) NlS.nil))) (fH rfl NlG.nil) ?_
   refine AW.ret ?_
   exact kA (.inr rfl) [] (P := (((aF (uN ps)) : List D) = ([] : List D)) ∧ (((ka0 (uN ps)) : Nat) = 0) ∧ (((aY ps) : Int) = 0) ∧ (((aZ ps) : Int) = 15) ∧ (((uX ps) : Int) = 13)) zk ⟨(by (rw [hz1]; rfl)), (by (rw [hz1]; rfl)), (by exact hz2), (by exact hz3), (by exact hz4)⟩
  ·refine kS [.no, .no, .b false] (¬ ((ka0 (bD (kR ps 0)) : Int) = 0)) [(0, qC (qN ps) n), (3, rV 0 0), (5, .e (yL (bD (kR ps 0)))), (26, bV false)] zo ?_
   refine uO ?_
   refine kH [.no, .no, .no] True [(0, qC (qN ps) n), (3, rV 0 0), (7, oV 1 0 1 1)] [(0, some (32, .ds [iD 0, iD 0])), (1, some (45, .ds [D.sl (kN (bD (kR ps 0))) (ka0 (bD (kR ps 0)))]))] 2 trivial ?_
   refine AW.seq ?_
   refine kS [.no] True [(0, qC (qN ps) n), (3, rV 0 0), (7, oV 1 0 1 1), (8, iV 1)] trivial ?_
   refine AW.block ?_
   refine k8 0 hcx (fun (x : {x : Nat // match x with | i => (i + 1 ≤ n) ∧ (lD ps (i + 1) = -1)}) => match x with | ⟨i, _⟩ => (⟨[(0, qC (qN ps) n), (3, rV 0 0), (7, oV 2 0 (i + 1) 1), (8, iV ((i : Int) + 1))], [(0, some (32, .ds [iD 0, iD 0])), (2, some (45, .ds (aF (gF ps (i + 1)))))], 3⟩ : ES)) (fun x => match x with | ⟨i, _⟩ => n - i) ⟨(0 : Nat), ⟨zo, (v45 (by assumption))⟩⟩ [(2, 1)] (P := (kJ (qN ps)) ∧ (kG n) ∧ (kG 0) ∧ (kG 0) ∧ (kG 1) ∧ (kM 1) ∧ (kJ [iD 0, iD 0]) ∧ (((aF (gF ps 1)) : List D) = [D.sl (kN (bD (kR ps 0))) (ka0 (bD (kR ps 0)))])) zk ⟨rfl, rfl, rfl, rfl, rfl, rfl, rfl, (by rfl)⟩ ?_
   rintro ⟨i, hinv0⟩
   obtain ⟨hi, hk⟩ : (i + 1 ≤ n) ∧ (lD ps (i + 1) = -1) := hinv0
   refine qW (l := [(0, qC (qN ps) n), (3, rV 0 0), (7, oV 2 0 (i + 1) 1), (8, iV ((i : Int) + 1))]) (g := [(0, some (32, .ds [iD 0, iD 0])), (2, some (45, .ds (aF (gF ps (i + 1)))))]) (nx := 3) rfl rfl rfl ?_
   refine AW.seq ?_
   by_cases hx6 : ((((i : Nat) : Int) + 1) < ((n : Nat) : Int))
   ·refine kH [.no, .no, .no, .b true] ((((i : Int) + 1) < (n : Int))) [(0, qC (qN ps) n), (3, rV 0 0), (7, oV 2 0 (i + 1) 1), (8, iV (↑i + 1)), (33, bV true)] [(0, some (32, .ds [iD 0, iD 0])), (2, some (45, .ds (aF (gF ps (i + 1)))))] 3 zo ?_
    refine vL ?_
    refine AW.seq ?_
    refine AW.block ?_
    have hx7 : ((ka0 (kR ps i)) ≤ 1000) := (PsW.get (qD : PsW ps) (i)).2
    refine kS [.no, .no, .w, .n ((i + 1) - 1), .no, .d (iD (uG ps i)), .no] ((u3 (((i : Int) + 1) - 1)) ∧ (((((i : Int) + 1) - 1) : Int) = ((((i + 1) - 1) : Nat) : Int)) ∧ (((i + 1) - 1) < n) ∧ ((ka3 1 (ka3 (((i + 1) - 1) * 2) (qN ps)))[0]? = some (iD (uG ps i)))) [(0, qC (qN ps) n), (3, rV 0 0), (7, oV 2 0 (i + 1) 1), (8, iV (↑i + 1)), (9, iV (uG ps i))] ⟨⟨by omega, by omega⟩, zo, zo, (by (rw [ke4]; exact (u7g (i := i) zo)))⟩ ?_
    have hx8 : ((ka0 (kR ps (i + 1))) ≤ 1000) := (PsW.get (qD : PsW ps) ((i + 1))).2
    have hx9 : ((ka0 (u1 ps i)) ≤ 64) := k7z _ _
    have hx10 : (((0 : Int) ≤ (jC (uG ps i) (kR ps (i + 1)) (u1 ps i))) ∧ ((jC (uG ps i) (kR ps (i + 1)) (u1 ps i)) ≤ 3)) := k1o (uG ps i) (kR ps (i + 1)) (u1 ps i)
    have hx11 : ((ka0 (cB (uG ps i) (kR ps (i + 1)) (u1 ps i))) ≤ 64) := k60 (uG ps i) (kR ps (i + 1)) (u1 ps i)
    refine kS [.no, .no, .n (i + 1), .no, .d (D.sl (kN (kR ps (i + 1))) (ka0 (kR ps (i + 1)))), .no, .no, .w, .n2 ((i + 1) - 1) ((i + 1) - 1), .d (D.sl (kN (u1 ps i)) (ka0 (u1 ps i))), .no, .call [] (.tup [.c (.d (D.sl (kN (cB (uG ps i) (kR ps (i + 1)) (u1 ps i))) (ka0 (cB (uG ps i) (kR ps (i + 1)) (u1 ps i))))), iE (jC (uG ps i) (kR ps (i + 1)) (u1 ps i))]) [] 0 [] none, .no, .no, .no, .no, .no] (((((i : Int) + 1) : Int) = (((i + 1) : Nat) : Int)) ∧ ((i + 1) < n) ∧ ((ka3 0 (ka3 ((i + 1) * 2) (qN ps)))[0]? = some (D.sl (kN (kR ps (i + 1))) (ka0 (kR ps (i + 1))))) ∧ (u3 (((i : Int) + 1) - 1)) ∧ (((((i : Int) + 1) - 1) : Int) = ((((i + 1) - 1) : Nat) : Int)) ∧ (((i + 1) - 1) < (i + 1)) ∧ ((0 : Nat) + ((i + 1) - 1) * 1 = ((i + 1) - 1)) ∧ ((aF (gF ps (i + 1)))[((i + 1) - 1)]? = some (D.sl (kN (u1 ps i)) (ka0 (u1 ps i)))) ∧ (_)) [(0, qC (qN ps) n), (3, rV 0 0), (7, oV 2 0 (i + 1) 1), (8, iV (↑i + 1)), (9, iV (uG ps i)), (10, .e (yL (cB (uG ps i) (kR ps (i + 1)) (u1 ps i)))), (11, iV (jC (uG ps i) (kR ps (i + 1)) (u1 ps i)))] ⟨(by rfl), zo, (by (rw [ke4]; exact (wE (i := (i + 1)) zo))), ⟨by omega, by omega⟩, zo, zo, zo, (k2i zo), (u40 (kR ps (i + 1)) (u1 ps i) (ka0 (kR ps (i + 1))) (ka0 (u1 ps i)) (uG ps i) rfl rfl zo zo (PsW.get (qD : PsW ps) _).1 (k2j (qD : PsW ps) _))⟩ ?_
    refine AW.seq ?_
    by_cases hx12 : ((jC (uG ps i) (kR ps (i + 1)) (u1 ps i)) ≠ 0)
    ·refine kS [.no, .b true] (((jC (uG ps i) (kR ps (i + 1)) (u1 ps i)) ≠ 0)) [(0, qC (qN ps) n), (3, rV 0 0), (7, oV 2 0 (i + 1) 1), (8, iV (↑i + 1)), (9, iV (uG ps i)), (10, .e (yL (cB (uG ps i) (kR ps (i + 1)) (u1 ps i)))), (11, iV (jC (uG ps i) (kR ps (i + 1)) (u1 ps i))), (58, bV true)] zo ?_
     refine zt ?_
     refine kH (qE 5 []) True [(2, nV), (3, rV 0 0), (4, iV (jC (uG ps i) (kR ps (i + 1)) (u1 ps i)))] [(0, some (32, .ds [iD 0, iD 0]))] 3 trivial ?_
     obtain ⟨hz1, hz2, hz3, hz4⟩ := u87 hx1 hk zo (by assumption) (k1o _ _ _).2
     refine y6 (l' := [(2, qC ([] : List D) 0), (3, rV 0 0), (4, iV (jC (uG ps i) (kR ps (i + 1)) (u1 ps i)))]) (g' := [(0, some (32, .ds [iD 0, iD 0]))]) (NlS.cons rfl (.e (.c .nil)) (NlS.cons rfl (.same _) (NlS.cons rfl (.same _) NlS.nil))) (fH rfl NlG.nil) ?_
     refine AW.ret ?_
     exact kA (.inr rfl) [] (P := (((aF (uN ps)) : List D) = ([] : List D)) ∧ (((ka0 (uN ps)) : Nat) = 0) ∧ (((aY ps) : Int) = 0) ∧ (((aZ ps) : Int) = 0) ∧ (((uX ps) : Int) = (jC (uG ps i) (kR ps (i + 1)) (u1 ps i)))) zk ⟨(by (rw [hz1]; rfl)), (by (rw [hz1]; rfl)), (by exact hz2), (by exact hz3), (by exact hz4)⟩
    ·refine kS [.no, .b false] (¬ ((jC (uG ps i) (kR ps (i + 1)) (u1 ps i)) ≠ 0)) [(0, qC (qN ps) n), (3, rV 0 0), (7, oV 2 0 (i + 1) 1), (8, iV (↑i + 1)), (9, iV (uG ps i)), (10, .e (yL (cB (uG ps i) (kR ps (i + 1)) (u1 ps i)))), (11, iV (jC (uG ps i) (kR ps (i + 1)) (u1 ps i))), (58, bV false)] zo ?_
     refine uO ?_
     refine AW.seq ?_
     by_cases hx13 : ((((ka0 (cB (uG ps i) (kR ps (i + 1)) (u1 ps i))) : Nat) : Int) = 0)
     ·refine kS [.no, .no, .b true] (((((ka0 (cB (uG ps i) (kR ps (i + 1)) (u1 ps i))) : Nat) : Int) = 0)) [(0, qC (qN ps) n), (3, rV 0 0), (7, oV 2 0 (i + 1) 1), (8, iV (↑i + 1)), (9, iV (uG ps i)), (10, .e (yL (cB (uG ps i) (kR ps (i + 1)) (u1 ps i)))), (63, bV true)] zo ?_
      refine zt ?_
      refine kH [.no, .no, .no, .n (i + 1), .no, .d (D.sl (kN (kR ps (i + 1))) (ka0 (kR ps (i + 1)))), .no, .no, .w, .n2 ((i + 1) - 1) ((i + 1) - 1), .d (D.sl (kN (u1 ps i)) (ka0 (u1 ps i))), .no, .call [] (iV (tB (uG ps i) (kR ps (i + 1)) (u1 ps i))) [] 0 [] none, .no, .no, .no, .no] (((((i : Int) + 1) : Int) = (((i + 1) : Nat) : Int)) ∧ ((i + 1) < n) ∧ ((ka3 0 (ka3 ((i + 1) * 2) (qN ps)))[0]? = some (D.sl (kN (kR ps (i + 1))) (ka0 (kR ps (i + 1))))) ∧ (u3 (((i : Int) + 1) - 1)) ∧ (((((i : Int) + 1) - 1) : Int) = ((((i + 1) - 1) : Nat) : Int)) ∧ (((i + 1) - 1) < (i + 1)) ∧ ((0 : Nat) + ((i + 1) - 1) * 1 = ((i + 1) - 1)) ∧ ((aF (gF ps (i + 1)))[((i + 1) - 1)]? = some (D.sl (kN (u1 ps i)) (ka0 (u1 ps i)))) ∧ (_)) [(2, nV), (3, rV 0 0), (4, iV 13)] [(0, some (32, .ds [iD (↑i + 1), iD (tB (uG ps i) (kR ps (i + 1)) (u1 ps i))]))] 3 ⟨(by rfl), zo, (by (rw [ke4]; exact (wE (i := (i + 1)) zo))), ⟨by omega, by omega⟩, zo, zo, zo, (k2i zo), (u41 (kR ps (i + 1)) (u1 ps i) (ka0 (kR ps (i + 1))) (ka0 (u1 ps i)) (uG ps i) rfl rfl zo zo (PsW.get (qD : PsW ps) _).1 (k2j (qD : PsW ps) _))⟩ ?_
      obtain ⟨hz1, hz2, hz3, hz4⟩ := k7x hx1 hk zo (by assumption) (by assumption)
      refine y6 (l' := [(2, qC ([] : List D) 0), (3, rV 0 0), (4, iV 13)]) (g' := [(0, some (32, .ds [iD ((i : Int) + 1), iD (tB (uG ps i) (kR ps (i + 1)) (u1 ps i))]))]) (NlS.cons rfl (.e (.c .nil)) (NlS.cons rfl (.same _) (NlS.cons rfl (.same _) NlS.nil))) (fH rfl NlG.nil) ?_
      refine AW.ret ?_
      exact kA (.inr rfl) [] (P := (((aF (uN ps)) : List D) = ([] : List D)) ∧ (((ka0 (uN ps)) : Nat) = 0) ∧ (((aY ps) : Int) = ((i : Int) + 1)) ∧ (((aZ ps) : Int) = (tB (uG ps i) (kR ps (i + 1)) (u1 ps i))) ∧ (((uX ps) : Int) = 13)) zk ⟨(by (rw [hz1]; rfl)), (by (rw [hz1]; rfl)), (by exact hz2), (by exact hz3), (by exact hz4)⟩
     ·refine kS [.no, .no, .b false] (¬ ((((ka0 (cB (uG ps i) (kR ps (i + 1)) (u1 ps i))) : Nat) : Int) = 0)) [(0, qC (qN ps) n), (3, rV 0 0), (7, oV 2 0 (i + 1) 1), (8, iV (↑i + 1)), (9, iV (uG ps i)), (10, .e (yL (cB (uG ps i) (kR ps (i + 1)) (u1 ps i)))), (63, bV false)] zo ?_
      refine uO ?_
      refine aC [.no, .no, .no, .ap none ((i + 1) + 1) (aF ((gF ps (i + 1)) ++ ([(cB (uG ps i) (kR ps (i + 1)) (u1 ps i))] : List (List Bx)))), .no] (([D.sl (kN (cB (uG ps i) (kR ps (i + 1)) (u1 ps i))) (ka0 (cB (uG ps i) (kR ps (i + 1)) (u1 ps i)))].length = 1 * 1) ∧ (((aF (gF ps (i + 1))) : List D).length = (i + 1) * 1) ∧ (((i + 1) + 1) * 24 ≤ 140737488355328) ∧ ((i + 1) + 1 = ((i + 1) + 1)) ∧ (((aF (gF ps (i + 1))) : List D) ++ [D.sl (kN (cB (uG ps i) (kR ps (i + 1)) (u1 ps i))) (ka0 (cB (uG ps i) (kR ps (i + 1)) (u1 ps i)))] = (aF ((gF ps (i + 1)) ++ ([(cB (uG ps i) (kR ps (i + 1)) (u1 ps i))] : List (List Bx)))))) [(0, qC (qN ps) n), (3, rV 0 0), (7, oV 4 0 ((i + 1) + 1) 1), (8, iV (↑i + 1))] [(0, some (32, .ds [iD 0, iD 0])), (4, some (45, .ds (aF ((gF ps (i + 1)) ++ ([(cB (uG ps i) (kR ps (i + 1)) (u1 ps i))] : List (List Bx))))))] 5 ⟨yG, yG, zo, zo, (u3i (gF ps (i + 1)) (cB (uG ps i) (kR ps (i + 1)) (u1 ps i)) (ka0 (cB (uG ps i) (kR ps (i + 1)) (u1 ps i))) (by rfl))⟩ ?_
      refine yA [.no, .w, .no] (u3 (((i : Int) + 1) + 1)) [(0, qC (qN ps) n), (3, rV 0 0), (7, oV 4 0 ((i + 1) + 1) 1), (8, iV ((↑i + 1) + 1))] ⟨by omega, by omega⟩ ?_
      exact kW ⟨((i + 1) : Nat), ⟨zo, (b8 hk (v44 (by assumption) (by assumption)))⟩⟩ [(2, 4)] (P := (kJ (qN ps)) ∧ (kG n) ∧ (kG 0) ∧ (kG 0) ∧ (kG ((i + 1) + 1)) ∧ ((((((i + 1) : Nat) : Int) + 1) : Int) = (((i : Int) + 1) + 1)) ∧ (kJ [iD 0, iD 0]) ∧ (((aF (gF ps ((i + 1) + 1))) : List D) = (aF ((gF ps (i + 1)) ++ ([(cB (uG ps i) (kR ps (i + 1)) (u1 ps i))] : List (List Bx)))))) zk ⟨rfl, rfl, rfl, rfl, rfl, (by rfl), rfl, (by exact congrArg aF (v2c ps _))⟩ (show n - (i + 1) < n - i from zo)
   ·refine kH [.no, .no, .no, .b false] (¬ (((i : Int) + 1) < (n : Int))) [(0, qC (qN ps) n), (3, rV 0 0), (7, oV 2 0 (i + 1) 1), (8, iV (↑i + 1)), (33, bV false)] [(0, some (32, .ds [iD 0, iD 0])), (2, some (45, .ds (aF (gF ps (i + 1)))))] 3 zo ?_
    refine zf ?_
    refine AW.exit ?_
    refine kH (qE 5 []) True [(2, oV 2 0 (i + 1) 1), (3, rV 0 0), (4, iV 0)] [(0, some (32, .ds [iD 0, iD 0])), (2, some (45, .ds (aF (gF ps (i + 1)))))] 3 trivial ?_
    obtain ⟨hz1, hz2, hz3, hz4⟩ := u53 hx1 hk zo
    refine AW.freeze 2 (l' := [(2, qC (aF (gF ps (i + 1))) (i + 1)), (3, rV 0 0), (4, iV 0)]) (g' := [(0, some (32, .ds [iD 0, iD 0]))]) rfl (FzS.cons rfl (.e (.c (@FzC.own 2 ((aF (gF ps (i + 1))) : List D) 0 (i + 1) 1 true ((aF (gF ps (i + 1))) : List D) (by rw [kd3, kc6, kb7 (by (simp only [qB, qA, qS, qV, q6, qQ, ka8, kb0, kb2, kb4, kb6, kb5, kc1, kc3, kc0, kc6] <;> omega))]) yG))) (FzS.cons rfl (.same _) (FzS.cons rfl (.same _) FzS.nil))) (uI rfl rfl FzG.nil) ?_
    have hz5 : ka0 ps = i + 1 := by omega
    refine AW.ret ?_
    exact kA (.inr rfl) [] (P := (((aF (uN ps)) : List D) = (aF (gF ps (i + 1)))) ∧ (((ka0 (uN ps)) : Nat) = (i + 1)) ∧ (((aY ps) : Int) = 0) ∧ (((aZ ps) : Int) = 0) ∧ (((uX ps) : Int) = 0)) zk ⟨(by (rw [hz1, hz5]; done)), (by (rw [hz1, hz5, q6]; done)), (by exact hz2), (by exact hz3), (by exact hz4)⟩
 ·refine kS [.no, .call [] (bV false) [] 0 [] none, .no] (Fun 16 [.c (.d (D.sl (qN ps) n))] (kF []) 0 (bV false) (kF []) 0) [(0, qC (qN ps) n), (3, rV 0 0), (14, bV true)] (by have h0 := (l9 ps n zo zo (qD : PsW ps)); rw [hx1] at h0; exact h0) ?_
  refine zt ?_
  refine kS (qE 4 []) True [(2, nV), (3, rV 0 0), (4, iV 1)] trivial ?_
  obtain ⟨hz1, hz2, hz3, hz4⟩ := u88 hx1
  refine y6 (l' := [(2, qC ([] : List D) 0), (3, rV 0 0), (4, iV 1)]) (g' := [(0, some (32, .ds [iD 0, iD 0]))]) (NlS.cons rfl (.e (.c .nil)) (NlS.cons rfl (.same _) (NlS.cons rfl (.same _) NlS.nil))) (fH rfl NlG.nil) ?_
  refine AW.ret ?_
  exact kA (.inr rfl) [] (P := (((aF (uN ps)) : List D) = ([] : List D)) ∧ (((ka0 (uN ps)) : Nat) = 0) ∧ (((aY ps) : Int) = 0) ∧ (((aZ ps) : Int) = 0) ∧ (((uX ps) : Int) = 1)) zk ⟨(by (rw [hz1]; rfl)), (by (rw [hz1]; rfl)), (by exact hz2), (by exact hz3), (by exact hz4)⟩
end Go.Proofs.YtbicifcgghmhaaaGreat
