/- What is blamed; forward. No statement is proved here. -/
import Derived.Test.YtbicifcgghmhaaaGreatZL12B
namespace Go.Proofs.YtbicifcgghmhaaaGreat
open Go.ChangeShapes Go.WideShapes Go.ChangeAt Go.RowKit
open Bool renaming eq_false_or_eq_true → ka9
open List renaming drop → ka3, drop_drop → ke4, drop_zero → kd3, getD → ka1, length → ka0, length_append → ka8, length_cons → kb0, length_drop → kb6, length_map → kc3, length_nil → kb2, length_replicate → kb5, length_reverse → kc0, length_set → kc1, length_take → kb4, take_of_length_le → kb7
open Nat renaming le_of_ble_eq_true → ka4, mul_one → kc6
set_option linter.unusedVariables false
set_option linter.unusedSimpArgs false
set_option maxHeartbeats 4000000
set_option maxRecDepth 100000
theorem yH {p : Prop} (h : p := by (simp only [qA, k9, qS, qY, q5, qP, ka8, kb0, kb2, kb4, kb6, kb5, kc1, kc3, kc0, kc6] <;> omega)) : p := h
theorem vX {p : Prop} (h : p := by (simp only [qA, k9, qS, qY, q5, ka8, kb0, kb2, kb4, kb6, kb5, kc1] <;> omega)) : p := h
abbrev uY (k : Int) (r : List Int) (rn : Nat) (m : List (List Int)) (c : Nat) (s : List Int) (sn : Nat) : BC := .ds [iD k, D.sl (dI .i64 r) rn, D.sl (kI m) c, D.sl (dI .i64 s) sn]
abbrev uX (k2 : Int) (r2 : List Int) (rn2 : Nat) (m2 : List (List Int)) (c2 : Nat) (s2 : List Int) (sn2 : Nat) : BC := .ds [iD k2, D.sl (dI .i64 r2) rn2, D.sl (kI m2) c2, D.sl (dI .i64 s2) sn2]
theorem u8c (k : Int) (r : List Int) (rn : Nat) (m : List (List Int)) (c : Nat) (s : List Int) (sn : Nat) (k2 : Int) (r2 : List Int) (rn2 : Nat) (m2 : List (List Int)) (c2 : Nat) (s2 : List Int) (sn2 : Nat) (d : Int) (hr : ka0 r = rn * 2) (hs : ka0 s = sn * 2) (hc : ka0 m = c) (h1 : rn ≤ 1000000) (h2 : sn ≤ 1000000) (h3 : c ≤ 1000000) (hW : MsW m) (hr2 : ka0 r2 = rn2 * 2) (hs2 : ka0 s2 = sn2 * 2) (hc2 : ka0 m2 = c2) (h12 : rn2 ≤ 1000000) (h22 : sn2 ≤ 1000000) (h32 : c2 ≤ 1000000) (hW2 : MsW m2) : Fun 64 [.agg [iC k, .d (D.sl (dI .i64 r) rn), .d (D.sl (kI m) c), .d (D.sl (dI .i64 s) sn)], .agg [iC k2, .d (D.sl (dI .i64 r2) rn2), .d (D.sl (kI m2) c2), .d (D.sl (dI .i64 s2) sn2)], iE d] (kF []) 0 (iV (aK d k r rn m s sn k2 r2 rn2 m2 s2 sn2 4)) (kF []) 0 := by
 have hwa : BsW ([kE k r rn m s sn] : List Bx) := k0n hr hs h1 h2 hc h3 hW
 have hw14 : BsW ([kE (zK 14 k2 k) (zL 14 2 r2 r) (zN 14 2 rn2 rn) (zM 14 4 m2 m) (zL 14 8 s2 s) (zN 14 8 sn2 sn)] : List Bx) := k0n (aE hr2 hr) (aE hs2 hs) (dB h12 h1) (dB h22 h2) rfl (fT hc2 hc h32 h3) (nG hW2 hW)
 have hw13 : BsW ([kE (zK 13 k2 k) (zL 13 2 r2 r) (zN 13 2 rn2 rn) (zM 13 4 m2 m) (zL 13 8 s2 s) (zN 13 8 sn2 sn)] : List Bx) := k0n (aE hr2 hr) (aE hs2 hs) (dB h12 h1) (dB h22 h2) rfl (fT hc2 hc h32 h3) (nG hW2 hW)
 have hw11 : BsW ([kE (zK 11 k2 k) (zL 11 2 r2 r) (zN 11 2 rn2 rn) (zM 11 4 m2 m) (zL 11 8 s2 s) (zN 11 8 sn2 sn)] : List Bx) := k0n (aE hr2 hr) (aE hs2 hs) (dB h12 h1) (dB h22 h2) rfl (fT hc2 hc h32 h3) (nG hW2 hW)
 have hw7 : BsW ([kE (zK 7 k2 k) (zL 7 2 r2 r) (zN 7 2 rn2 rn) (zM 7 4 m2 m) (zL 7 8 s2 s) (zN 7 8 sn2 sn)] : List Bx) := k0n (aE hr2 hr) (aE hs2 hs) (dB h12 h1) (dB h22 h2) rfl (fT hc2 hc h32 h3) (nG hW2 hW)
 refine Fun.mk (n := 30) Tryz.func64 rfl rfl (ka4 rfl) ?_
 intro cx hcx
 refine kH [.no, .no, .no] True [(2, iV d), (3, rV 0 0), (4, rV 1 0)] [(0, some (63, (uY k r rn m c s sn))), (1, some (63, (uX k2 r2 rn2 m2 c2 s2 sn2)))] 2 trivial ?_
 refine kQ [.no, .no] True [(3, rV 0 0), (4, rV 1 0), (7, iV d)] trivial ?_
 refine AW.seq ?_
 refine kQ [.no] True [(3, rV 0 0), (4, rV 1 0), (7, iV d), (8, iV 1)] trivial ?_
 refine AW.block ?_
 refine AW.rounds 5 ?_
 refine AWr.s ?_
 refine AW.seq ?_
 refine kH [.no, .b true] (((1 : Int) < 15)) [(3, rV 0 0), (4, rV 1 0), (7, iV d), (8, iV 1), (12, bV true)] [(0, some (63, (uY k r rn m c s sn))), (1, some (63, (uX k2 r2 rn2 m2 c2 s2 sn2)))] 2 zo ?_
 refine vI ?_
 refine vW hcx [(3, rV 0 0), (4, rV 1 0), (7, iV (aK d k r rn m s sn k2 r2 rn2 m2 s2 sn2 1)), (8, iV 1)] [(0, some (63, (uY k r rn m c s sn))), (1, some (63, (uX k2 r2 rn2 m2 c2 s2 sn2)))] 5 ?_ ?_
 ·refine AW.block ?_
  have hx1 : ((ka0 (zL 14 2 r2 r)) = ((zN 14 2 rn2 rn) * 2)) := aE (zo) (zo)
  have hx2 : ((zN 14 2 rn2 rn) ≤ 1000000) := dB (zo) (zo)
  have hx3 : ((ka0 (zL 14 8 s2 s)) = ((zN 14 8 sn2 sn) * 2)) := aE (zo) (zo)
  have hx4 : ((zN 14 8 sn2 sn) ≤ 1000000) := dB (zo) (zo)
  have hx5 : ((ka0 (zM 14 4 m2 m)) ≤ 1000000) := fT (zo) (zo) (zo) (zo)
  have hx6 : (MsW (zM 14 4 m2 m)) := nG (qC : MsW m2) (qC : MsW m)
  refine kH [.no, .no, .no, .i 14, .call [] (.e (.agg [iC (zK 14 k2 k), .d (dl (zL 14 2 r2 r) (zN 14 2 rn2 rn)), .d (D.sl (kI (zM 14 4 m2 m)) (ka0 (zM 14 4 m2 m))), .d (dl (zL 14 8 s2 s) (zN 14 8 sn2 sn))])) [] 0 [] none, .no, .no] ((qE .andNot .i64 15 1 = 14) ∧ (_)) [(3, rV 0 0), (4, rV 1 0), (7, iV d), (8, iV 1), (9, rV 2 0)] [(0, some (63, (uY k r rn m c s sn))), (1, some (63, (uX k2 r2 rn2 m2 c2 s2 sn2))), (2, some (63, .ds [iD (zK 14 k2 k), dl (zL 14 2 r2 r) (zN 14 2 rn2 rn), D.sl (kI (zM 14 4 m2 m)) (ka0 (zM 14 4 m2 m)), dl (zL 14 8 s2 s) (zN 14 8 sn2 sn)]))] 3 ⟨(by decide), (m9 k2 r2 rn2 m2 c2 s2 sn2 k r rn m c s sn 14 zo zo zo zo zo zo (qC : MsW m2) zo zo zo zo zo zo (qC : MsW m))⟩ ?_
  by_cases hx8 : ((vO ([(kE k r rn m s sn)] : List Bx) ([(kE (zK 14 k2 k) (zL 14 2 r2 r) (zN 14 2 rn2 rn) (zM 14 4 m2 m) (zL 14 8 s2 s) (zN 14 8 sn2 sn))] : List Bx)) = 0)
  ·have hx9 : (((0 : Int) ≤ (vO ([(kE k r rn m s sn)] : List Bx) ([(kE (zK 14 k2 k) (zL 14 2 r2 r) (zN 14 2 rn2 rn) (zM 14 4 m2 m) (zL 14 8 s2 s) (zN 14 8 sn2 sn))] : List Bx))) ∧ ((vO ([(kE k r rn m s sn)] : List Bx) ([(kE (zK 14 k2 k) (zL 14 2 r2 r) (zN 14 2 rn2 rn) (zM 14 4 m2 m) (zL 14 8 s2 s) (zN 14 8 sn2 sn))] : List Bx)) ≤ 15)) := cU ([(kE k r rn m s sn)] : List Bx) ([(kE (zK 14 k2 k) (zL 14 2 r2 r) (zN 14 2 rn2 rn) (zM 14 4 m2 m) (zL 14 8 s2 s) (zN 14 8 sn2 sn))] : List Bx)
   refine kH (qD 4 [.call [] (iV (vO ([(kE k r rn m s sn)] : List Bx) ([(kE (zK 14 k2 k) (zL 14 2 r2 r) (zN 14 2 rn2 rn) (zM 14 4 m2 m) (zL 14 8 s2 s) (zN 14 8 sn2 sn))] : List Bx))) [] 0 [none, none] (some [.c (.d (D.sl (kP ([(kE k r rn m s sn)] : List Bx)) 1)), .c (.d (D.sl (kP ([(kE (zK 14 k2 k) (zL 14 2 r2 r) (zN 14 2 rn2 rn) (zM 14 4 m2 m) (zL 14 8 s2 s) (zN 14 8 sn2 sn))] : List Bx)) 1))]), .b true]) (([iD k, dl r rn, D.sl (kI m) c, dl s sn].length = 1 * 4) ∧ ([iD (zK 14 k2 k), dl (zL 14 2 r2 r) (zN 14 2 rn2 rn), D.sl (kI (zM 14 4 m2 m)) (ka0 (zM 14 4 m2 m)), dl (zL 14 8 s2 s) (zN 14 8 sn2 sn)].length = 1 * 4) ∧ (bI (iV (vO ([(kE k r rn m s sn)] : List Bx) ([(kE (zK 14 k2 k) (zL 14 2 r2 r) (zN 14 2 rn2 rn) (zM 14 4 m2 m) (zL 14 8 s2 s) (zN 14 8 sn2 sn))] : List Bx))) = true) ∧ (((kP ([(kE k r rn m s sn)] : List Bx)) : List D) = [iD k, dl r rn, D.sl (kI m) c, dl s sn]) ∧ (kG 1) ∧ (((kP ([(kE (zK 14 k2 k) (zL 14 2 r2 r) (zN 14 2 rn2 rn) (zM 14 4 m2 m) (zL 14 8 s2 s) (zN 14 8 sn2 sn))] : List Bx)) : List D) = [iD (zK 14 k2 k), dl (zL 14 2 r2 r) (zN 14 2 rn2 rn), D.sl (kI (zM 14 4 m2 m)) (ka0 (zM 14 4 m2 m)), dl (zL 14 8 s2 s) (zN 14 8 sn2 sn)]) ∧ (kG 1) ∧ (_) ∧ (((vO ([(kE k r rn m s sn)] : List Bx) ([(kE (zK 14 k2 k) (zL 14 2 r2 r) (zN 14 2 rn2 rn) (zM 14 4 m2 m) (zL 14 8 s2 s) (zN 14 8 sn2 sn))] : List Bx)) = 0))) [(3, rV 0 0), (4, rV 1 0), (7, iV d), (8, iV 1), (25, bV true)] [(0, some (63, (uY k r rn m c s sn))), (1, some (63, (uX k2 r2 rn2 m2 c2 s2 sn2)))] 5 ⟨yH, yH, rfl, (by (subst hc; rfl)), rfl, (by rfl), rfl, (cV ([(kE k r rn m s sn)] : List Bx) ([(kE (zK 14 k2 k) (zL 14 2 r2 r) (zN 14 2 rn2 rn) (zM 14 4 m2 m) (zL 14 8 s2 s) (zN 14 8 sn2 sn))] : List Bx) 1 1 vX vX zo zo (qC : BsW ([(kE k r rn m s sn)] : List Bx)) (qC : BsW ([(kE (zK 14 k2 k) (zL 14 2 r2 r) (zN 14 2 rn2 rn) (zM 14 4 m2 m) (zL 14 8 s2 s) (zN 14 8 sn2 sn))] : List Bx))), zo⟩ ?_
   refine zt ?_
   refine u2 [.no, .no, .i (mL d 1), .no] (qE .or .i64 d 1 = (mL d 1)) [(3, rV 0 0), (4, rV 1 0), (7, iV (mL d 1)), (8, iV 1)] rfl ?_
   exact kV () [] (P := (kG 0) ∧ (kG 0) ∧ (((aK d k r rn m s sn k2 r2 rn2 m2 s2 sn2 1) : Int) = (mL d 1)) ∧ (kM 1) ∧ (kJ [iD k, dl r rn, D.sl (kI m) c, dl s sn]) ∧ (kJ [iD k2, dl r2 rn2, D.sl (kI m2) c2, dl s2 sn2])) zk ⟨rfl, rfl, (by exact (u0u (by assumption)).symm), rfl, rfl, rfl⟩ True.intro
  ·have hx10 : (((0 : Int) ≤ (vO ([(kE k r rn m s sn)] : List Bx) ([(kE (zK 14 k2 k) (zL 14 2 r2 r) (zN 14 2 rn2 rn) (zM 14 4 m2 m) (zL 14 8 s2 s) (zN 14 8 sn2 sn))] : List Bx))) ∧ ((vO ([(kE k r rn m s sn)] : List Bx) ([(kE (zK 14 k2 k) (zL 14 2 r2 r) (zN 14 2 rn2 rn) (zM 14 4 m2 m) (zL 14 8 s2 s) (zN 14 8 sn2 sn))] : List Bx)) ≤ 15)) := cU ([(kE k r rn m s sn)] : List Bx) ([(kE (zK 14 k2 k) (zL 14 2 r2 r) (zN 14 2 rn2 rn) (zM 14 4 m2 m) (zL 14 8 s2 s) (zN 14 8 sn2 sn))] : List Bx)
   refine kH (qD 4 [.call [] (iV (vO ([(kE k r rn m s sn)] : List Bx) ([(kE (zK 14 k2 k) (zL 14 2 r2 r) (zN 14 2 rn2 rn) (zM 14 4 m2 m) (zL 14 8 s2 s) (zN 14 8 sn2 sn))] : List Bx))) [] 0 [none, none] (some [.c (.d (D.sl (kP ([(kE k r rn m s sn)] : List Bx)) 1)), .c (.d (D.sl (kP ([(kE (zK 14 k2 k) (zL 14 2 r2 r) (zN 14 2 rn2 rn) (zM 14 4 m2 m) (zL 14 8 s2 s) (zN 14 8 sn2 sn))] : List Bx)) 1))]), .b false]) (([iD k, dl r rn, D.sl (kI m) c, dl s sn].length = 1 * 4) ∧ ([iD (zK 14 k2 k), dl (zL 14 2 r2 r) (zN 14 2 rn2 rn), D.sl (kI (zM 14 4 m2 m)) (ka0 (zM 14 4 m2 m)), dl (zL 14 8 s2 s) (zN 14 8 sn2 sn)].length = 1 * 4) ∧ (bI (iV (vO ([(kE k r rn m s sn)] : List Bx) ([(kE (zK 14 k2 k) (zL 14 2 r2 r) (zN 14 2 rn2 rn) (zM 14 4 m2 m) (zL 14 8 s2 s) (zN 14 8 sn2 sn))] : List Bx))) = true) ∧ (((kP ([(kE k r rn m s sn)] : List Bx)) : List D) = [iD k, dl r rn, D.sl (kI m) c, dl s sn]) ∧ (kG 1) ∧ (((kP ([(kE (zK 14 k2 k) (zL 14 2 r2 r) (zN 14 2 rn2 rn) (zM 14 4 m2 m) (zL 14 8 s2 s) (zN 14 8 sn2 sn))] : List Bx)) : List D) = [iD (zK 14 k2 k), dl (zL 14 2 r2 r) (zN 14 2 rn2 rn), D.sl (kI (zM 14 4 m2 m)) (ka0 (zM 14 4 m2 m)), dl (zL 14 8 s2 s) (zN 14 8 sn2 sn)]) ∧ (kG 1) ∧ (_) ∧ (¬ ((vO ([(kE k r rn m s sn)] : List Bx) ([(kE (zK 14 k2 k) (zL 14 2 r2 r) (zN 14 2 rn2 rn) (zM 14 4 m2 m) (zL 14 8 s2 s) (zN 14 8 sn2 sn))] : List Bx)) = 0))) [(3, rV 0 0), (4, rV 1 0), (7, iV d), (8, iV 1), (25, bV false)] [(0, some (63, (uY k r rn m c s sn))), (1, some (63, (uX k2 r2 rn2 m2 c2 s2 sn2)))] 5 ⟨yH, yH, rfl, (by (subst hc; rfl)), rfl, (by rfl), rfl, (cV ([(kE k r rn m s sn)] : List Bx) ([(kE (zK 14 k2 k) (zL 14 2 r2 r) (zN 14 2 rn2 rn) (zM 14 4 m2 m) (zL 14 8 s2 s) (zN 14 8 sn2 sn))] : List Bx) 1 1 vX vX zo zo (qC : BsW ([(kE k r rn m s sn)] : List Bx)) (qC : BsW ([(kE (zK 14 k2 k) (zL 14 2 r2 r) (zN 14 2 rn2 rn) (zM 14 4 m2 m) (zL 14 8 s2 s) (zN 14 8 sn2 sn))] : List Bx))), zo⟩ ?_
   refine uP ?_
   exact kV () [] (P := (kG 0) ∧ (kG 0) ∧ (((aK d k r rn m s sn k2 r2 rn2 m2 s2 sn2 1) : Int) = d) ∧ (kM 1) ∧ (kJ [iD k, dl r rn, D.sl (kI m) c, dl s sn]) ∧ (kJ [iD k2, dl r2 rn2, D.sl (kI m2) c2, dl s2 sn2])) zk ⟨rfl, rfl, (by exact (u0v (by assumption)).symm), rfl, rfl, rfl⟩ True.intro
 ·refine vY [.no, .w, .no] (uZ (2 : Int)) [(3, rV 0 0), (4, rV 1 0), (7, iV (aK d k r rn m s sn k2 r2 rn2 m2 s2 sn2 1)), (8, iV 2)] [(0, some (63, (uY k r rn m c s sn))), (1, some (63, (uX k2 r2 rn2 m2 c2 s2 sn2)))] 5 ⟨by omega, by omega⟩ ?_
  refine AWr.s ?_
  refine AW.seq ?_
  refine kH [.no, .b true] (((2 : Int) < 15)) [(3, rV 0 0), (4, rV 1 0), (7, iV (aK d k r rn m s sn k2 r2 rn2 m2 s2 sn2 1)), (8, iV 2), (12, bV true)] [(0, some (63, (uY k r rn m c s sn))), (1, some (63, (uX k2 r2 rn2 m2 c2 s2 sn2)))] 5 zo ?_
  refine vI ?_
  refine vW hcx [(3, rV 0 0), (4, rV 1 0), (7, iV (aK d k r rn m s sn k2 r2 rn2 m2 s2 sn2 2)), (8, iV 2)] [(0, some (63, (uY k r rn m c s sn))), (1, some (63, (uX k2 r2 rn2 m2 c2 s2 sn2)))] 8 ?_ ?_
  ·refine AW.block ?_
   have hx11 : ((ka0 (zL 13 2 r2 r)) = ((zN 13 2 rn2 rn) * 2)) := aE (zo) (zo)
   have hx12 : ((zN 13 2 rn2 rn) ≤ 1000000) := dB (zo) (zo)
   have hx13 : ((ka0 (zL 13 8 s2 s)) = ((zN 13 8 sn2 sn) * 2)) := aE (zo) (zo)
   have hx14 : ((zN 13 8 sn2 sn) ≤ 1000000) := dB (zo) (zo)
   have hx15 : ((ka0 (zM 13 4 m2 m)) ≤ 1000000) := fT (zo) (zo) (zo) (zo)
   have hx16 : (MsW (zM 13 4 m2 m)) := nG (qC : MsW m2) (qC : MsW m)
   refine kH [.no, .no, .no, .i 13, .call [] (.e (.agg [iC (zK 13 k2 k), .d (dl (zL 13 2 r2 r) (zN 13 2 rn2 rn)), .d (D.sl (kI (zM 13 4 m2 m)) (ka0 (zM 13 4 m2 m))), .d (dl (zL 13 8 s2 s) (zN 13 8 sn2 sn))])) [] 0 [] none, .no, .no] ((qE .andNot .i64 15 2 = 13) ∧ (_)) [(3, rV 0 0), (4, rV 1 0), (7, iV (aK d k r rn m s sn k2 r2 rn2 m2 s2 sn2 1)), (8, iV 2), (9, rV 5 0)] [(0, some (63, (uY k r rn m c s sn))), (1, some (63, (uX k2 r2 rn2 m2 c2 s2 sn2))), (5, some (63, .ds [iD (zK 13 k2 k), dl (zL 13 2 r2 r) (zN 13 2 rn2 rn), D.sl (kI (zM 13 4 m2 m)) (ka0 (zM 13 4 m2 m)), dl (zL 13 8 s2 s) (zN 13 8 sn2 sn)]))] 6 ⟨(by decide), (m9 k2 r2 rn2 m2 c2 s2 sn2 k r rn m c s sn 13 zo zo zo zo zo zo (qC : MsW m2) zo zo zo zo zo zo (qC : MsW m))⟩ ?_
   by_cases hx18 : ((vO ([(kE k r rn m s sn)] : List Bx) ([(kE (zK 13 k2 k) (zL 13 2 r2 r) (zN 13 2 rn2 rn) (zM 13 4 m2 m) (zL 13 8 s2 s) (zN 13 8 sn2 sn))] : List Bx)) = 0)
   ·have hx19 : (((0 : Int) ≤ (vO ([(kE k r rn m s sn)] : List Bx) ([(kE (zK 13 k2 k) (zL 13 2 r2 r) (zN 13 2 rn2 rn) (zM 13 4 m2 m) (zL 13 8 s2 s) (zN 13 8 sn2 sn))] : List Bx))) ∧ ((vO ([(kE k r rn m s sn)] : List Bx) ([(kE (zK 13 k2 k) (zL 13 2 r2 r) (zN 13 2 rn2 rn) (zM 13 4 m2 m) (zL 13 8 s2 s) (zN 13 8 sn2 sn))] : List Bx)) ≤ 15)) := cU ([(kE k r rn m s sn)] : List Bx) ([(kE (zK 13 k2 k) (zL 13 2 r2 r) (zN 13 2 rn2 rn) (zM 13 4 m2 m) (zL 13 8 s2 s) (zN 13 8 sn2 sn))] : List Bx)
    refine kH (qD 4 [.call [] (iV (vO ([(kE k r rn m s sn)] : List Bx) ([(kE (zK 13 k2 k) (zL 13 2 r2 r) (zN 13 2 rn2 rn) (zM 13 4 m2 m) (zL 13 8 s2 s) (zN 13 8 sn2 sn))] : List Bx))) [] 0 [none, none] (some [.c (.d (D.sl (kP ([(kE k r rn m s sn)] : List Bx)) 1)), .c (.d (D.sl (kP ([(kE (zK 13 k2 k) (zL 13 2 r2 r) (zN 13 2 rn2 rn) (zM 13 4 m2 m) (zL 13 8 s2 s) (zN 13 8 sn2 sn))] : List Bx)) 1))]), .b true]) (([iD k, dl r rn, D.sl (kI m) c, dl s sn].length = 1 * 4) ∧ ([iD (zK 13 k2 k), dl (zL 13 2 r2 r) (zN 13 2 rn2 rn), D.sl (kI (zM 13 4 m2 m)) (ka0 (zM 13 4 m2 m)), dl (zL 13 8 s2 s) (zN 13 8 sn2 sn)].length = 1 * 4) ∧ (bI (iV (vO ([(kE k r rn m s sn)] : List Bx) ([(kE (zK 13 k2 k) (zL 13 2 r2 r) (zN 13 2 rn2 rn) (zM 13 4 m2 m) (zL 13 8 s2 s) (zN 13 8 sn2 sn))] : List Bx))) = true) ∧ (((kP ([(kE k r rn m s sn)] : List Bx)) : List D) = [iD k, dl r rn, D.sl (kI m) c, dl s sn]) ∧ (kG 1) ∧ (((kP ([(kE (zK 13 k2 k) (zL 13 2 r2 r) (zN 13 2 rn2 rn) (zM 13 4 m2 m) (zL 13 8 s2 s) (zN 13 8 sn2 sn))] : List Bx)) : List D) = [iD (zK 13 k2 k), dl (zL 13 2 r2 r) (zN 13 2 rn2 rn), D.sl (kI (zM 13 4 m2 m)) (ka0 (zM 13 4 m2 m)), dl (zL 13 8 s2 s) (zN 13 8 sn2 sn)]) ∧ (kG 1) ∧ (_) ∧ (((vO ([(kE k r rn m s sn)] : List Bx) ([(kE (zK 13 k2 k) (zL 13 2 r2 r) (zN 13 2 rn2 rn) (zM 13 4 m2 m) (zL 13 8 s2 s) (zN 13 8 sn2 sn))] : List Bx)) = 0))) [(3, rV 0 0), (4, rV 1 0), (7, iV (aK d k r rn m s sn k2 r2 rn2 m2 s2 sn2 1)), (8, iV 2), (25, bV true)] [(0, some (63, (uY k r rn m c s sn))), (1, some (63, (uX k2 r2 rn2 m2 c2 s2 sn2)))] 8 ⟨yH, yH, rfl, (by (subst hc; rfl)), rfl, (by rfl), rfl, (cV ([(kE k r rn m s sn)] : List Bx) ([(kE (zK 13 k2 k) (zL 13 2 r2 r) (zN 13 2 rn2 rn) (zM 13 4 m2 m) (zL 13 8 s2 s) (zN 13 8 sn2 sn))] : List Bx) 1 1 vX vX zo zo (qC : BsW ([(kE k r rn m s sn)] : List Bx)) (qC : BsW ([(kE (zK 13 k2 k) (zL 13 2 r2 r) (zN 13 2 rn2 rn) (zM 13 4 m2 m) (zL 13 8 s2 s) (zN 13 8 sn2 sn))] : List Bx))), zo⟩ ?_
    refine zt ?_
    refine u2 [.no, .no, .i (mL (aK d k r rn m s sn k2 r2 rn2 m2 s2 sn2 1) 2), .no] (qE .or .i64 (aK d k r rn m s sn k2 r2 rn2 m2 s2 sn2 1) 2 = (mL (aK d k r rn m s sn k2 r2 rn2 m2 s2 sn2 1) 2)) [(3, rV 0 0), (4, rV 1 0), (7, iV (mL (aK d k r rn m s sn k2 r2 rn2 m2 s2 sn2 1) 2)), (8, iV 2)] rfl ?_
    exact kV () [] (P := (kG 0) ∧ (kG 0) ∧ (((aK d k r rn m s sn k2 r2 rn2 m2 s2 sn2 2) : Int) = (mL (aK d k r rn m s sn k2 r2 rn2 m2 s2 sn2 1) 2)) ∧ (kM 2) ∧ (kJ [iD k, dl r rn, D.sl (kI m) c, dl s sn]) ∧ (kJ [iD k2, dl r2 rn2, D.sl (kI m2) c2, dl s2 sn2])) zk ⟨rfl, rfl, (by exact (u0u (by assumption)).symm), rfl, rfl, rfl⟩ True.intro
   ·have hx20 : (((0 : Int) ≤ (vO ([(kE k r rn m s sn)] : List Bx) ([(kE (zK 13 k2 k) (zL 13 2 r2 r) (zN 13 2 rn2 rn) (zM 13 4 m2 m) (zL 13 8 s2 s) (zN 13 8 sn2 sn))] : List Bx))) ∧ ((vO ([(kE k r rn m s sn)] : List Bx) ([(kE (zK 13 k2 k) (zL 13 2 r2 r) (zN 13 2 rn2 rn) (zM 13 4 m2 m) (zL 13 8 s2 s) (zN 13 8 sn2 sn))] : List Bx)) ≤ 15)) := cU ([(kE k r rn m s sn)] : List Bx) ([(kE (zK 13 k2 k) (zL 13 2 r2 r) (zN 13 2 rn2 rn) (zM 13 4 m2 m) (zL 13 8 s2 s) (zN 13 8 sn2 sn))] : List Bx)
    refine kH (qD 4 [.call [] (iV (vO ([(kE k r rn m s sn)] : List Bx) ([(kE (zK 13 k2 k) (zL 13 2 r2 r) (zN 13 2 rn2 rn) (zM 13 4 m2 m) (zL 13 8 s2 s) (zN 13 8 sn2 sn))] : List Bx))) [] 0 [none, none] (some [.c (.d (D.sl (kP ([(kE k r rn m s sn)] : List Bx)) 1)), .c (.d (D.sl (kP ([(kE (zK 13 k2 k) (zL 13 2 r2 r) (zN 13 2 rn2 rn) (zM 13 4 m2 m) (zL 13 8 s2 s) (zN 13 8 sn2 sn))] : List Bx)) 1))]), .b false]) (([iD k, dl r rn, D.sl (kI m) c, dl s sn].length = 1 * 4) ∧ ([iD (zK 13 k2 k), dl (zL 13 2 r2 r) (zN 13 2 rn2 rn), D.sl (kI (zM 13 4 m2 m)) (ka0 (zM 13 4 m2 m)), dl (zL 13 8 s2 s) (zN 13 8 sn2 sn)].length = 1 * 4) ∧ (bI (iV (vO ([(kE k r rn m s sn)] : List Bx) ([(kE (zK 13 k2 k) (zL 13 2 r2 r) (zN 13 2 rn2 rn) (zM 13 4 m2 m) (zL 13 8 s2 s) (zN 13 8 sn2 sn))] : List Bx))) = true) ∧ (((kP ([(kE k r rn m s sn)] : List Bx)) : List D) = [iD k, dl r rn, D.sl (kI m) c, dl s sn]) ∧ (kG 1) ∧ (((kP ([(kE (zK 13 k2 k) (zL 13 2 r2 r) (zN 13 2 rn2 rn) (zM 13 4 m2 m) (zL 13 8 s2 s) (zN 13 8 sn2 sn))] : List Bx)) : List D) = [iD (zK 13 k2 k), dl (zL 13 2 r2 r) (zN 13 2 rn2 rn), D.sl (kI (zM 13 4 m2 m)) (ka0 (zM 13 4 m2 m)), dl (zL 13 8 s2 s) (zN 13 8 sn2 sn)]) ∧ (kG 1) ∧ (_) ∧ (¬ ((vO ([(kE k r rn m s sn)] : List Bx) ([(kE (zK 13 k2 k) (zL 13 2 r2 r) (zN 13 2 rn2 rn) (zM 13 4 m2 m) (zL 13 8 s2 s) (zN 13 8 sn2 sn))] : List Bx)) = 0))) [(3, rV 0 0), (4, rV 1 0), (7, iV (aK d k r rn m s sn k2 r2 rn2 m2 s2 sn2 1)), (8, iV 2), (25, bV false)] [(0, some (63, (uY k r rn m c s sn))), (1, some (63, (uX k2 r2 rn2 m2 c2 s2 sn2)))] 8 ⟨yH, yH, rfl, (by (subst hc; rfl)), rfl, (by rfl), rfl, (cV ([(kE k r rn m s sn)] : List Bx) ([(kE (zK 13 k2 k) (zL 13 2 r2 r) (zN 13 2 rn2 rn) (zM 13 4 m2 m) (zL 13 8 s2 s) (zN 13 8 sn2 sn))] : List Bx) 1 1 vX vX zo zo (qC : BsW ([(kE k r rn m s sn)] : List Bx)) (qC : BsW ([(kE (zK 13 k2 k) (zL 13 2 r2 r) (zN 13 2 rn2 rn) (zM 13 4 m2 m) (zL 13 8 s2 s) (zN 13 8 sn2 sn))] : List Bx))), zo⟩ ?_
    refine uP ?_
    exact kV () [] (P := (kG 0) ∧ (kG 0) ∧ (((aK d k r rn m s sn k2 r2 rn2 m2 s2 sn2 2) : Int) = (aK d k r rn m s sn k2 r2 rn2 m2 s2 sn2 1)) ∧ (kM 2) ∧ (kJ [iD k, dl r rn, D.sl (kI m) c, dl s sn]) ∧ (kJ [iD k2, dl r2 rn2, D.sl (kI m2) c2, dl s2 sn2])) zk ⟨rfl, rfl, (by exact (u0v (by assumption)).symm), rfl, rfl, rfl⟩ True.intro
  ·refine vY [.no, .w, .no] (uZ (4 : Int)) [(3, rV 0 0), (4, rV 1 0), (7, iV (aK d k r rn m s sn k2 r2 rn2 m2 s2 sn2 2)), (8, iV 4)] [(0, some (63, (uY k r rn m c s sn))), (1, some (63, (uX k2 r2 rn2 m2 c2 s2 sn2)))] 8 ⟨by omega, by omega⟩ ?_
   refine AWr.s ?_
   refine AW.seq ?_
   refine kH [.no, .b true] (((4 : Int) < 15)) [(3, rV 0 0), (4, rV 1 0), (7, iV (aK d k r rn m s sn k2 r2 rn2 m2 s2 sn2 2)), (8, iV 4), (12, bV true)] [(0, some (63, (uY k r rn m c s sn))), (1, some (63, (uX k2 r2 rn2 m2 c2 s2 sn2)))] 8 zo ?_
   refine vI ?_
   refine vW hcx [(3, rV 0 0), (4, rV 1 0), (7, iV (aK d k r rn m s sn k2 r2 rn2 m2 s2 sn2 3)), (8, iV 4)] [(0, some (63, (uY k r rn m c s sn))), (1, some (63, (uX k2 r2 rn2 m2 c2 s2 sn2)))] 11 ?_ ?_
   ·refine AW.block ?_
    have hx21 : ((ka0 (zL 11 2 r2 r)) = ((zN 11 2 rn2 rn) * 2)) := aE (zo) (zo)
    have hx22 : ((zN 11 2 rn2 rn) ≤ 1000000) := dB (zo) (zo)
    have hx23 : ((ka0 (zL 11 8 s2 s)) = ((zN 11 8 sn2 sn) * 2)) := aE (zo) (zo)
    have hx24 : ((zN 11 8 sn2 sn) ≤ 1000000) := dB (zo) (zo)
    have hx25 : ((ka0 (zM 11 4 m2 m)) ≤ 1000000) := fT (zo) (zo) (zo) (zo)
    have hx26 : (MsW (zM 11 4 m2 m)) := nG (qC : MsW m2) (qC : MsW m)
    refine kH [.no, .no, .no, .i 11, .call [] (.e (.agg [iC (zK 11 k2 k), .d (dl (zL 11 2 r2 r) (zN 11 2 rn2 rn)), .d (D.sl (kI (zM 11 4 m2 m)) (ka0 (zM 11 4 m2 m))), .d (dl (zL 11 8 s2 s) (zN 11 8 sn2 sn))])) [] 0 [] none, .no, .no] ((qE .andNot .i64 15 4 = 11) ∧ (_)) [(3, rV 0 0), (4, rV 1 0), (7, iV (aK d k r rn m s sn k2 r2 rn2 m2 s2 sn2 2)), (8, iV 4), (9, rV 8 0)] [(0, some (63, (uY k r rn m c s sn))), (1, some (63, (uX k2 r2 rn2 m2 c2 s2 sn2))), (8, some (63, .ds [iD (zK 11 k2 k), dl (zL 11 2 r2 r) (zN 11 2 rn2 rn), D.sl (kI (zM 11 4 m2 m)) (ka0 (zM 11 4 m2 m)), dl (zL 11 8 s2 s) (zN 11 8 sn2 sn)]))] 9 ⟨(by decide), (m9 k2 r2 rn2 m2 c2 s2 sn2 k r rn m c s sn 11 zo zo zo zo zo zo (qC : MsW m2) zo zo zo zo zo zo (qC : MsW m))⟩ ?_
    by_cases hx28 : ((vO ([(kE k r rn m s sn)] : List Bx) ([(kE (zK 11 k2 k) (zL 11 2 r2 r) (zN 11 2 rn2 rn) (zM 11 4 m2 m) (zL 11 8 s2 s) (zN 11 8 sn2 sn))] : List Bx)) = 0)
    ·have hx29 : (((0 : Int) ≤ (vO ([(kE k r rn m s sn)] : List Bx) ([(kE (zK 11 k2 k) (zL 11 2 r2 r) (zN 11 2 rn2 rn) (zM 11 4 m2 m) (zL 11 8 s2 s) (zN 11 8 sn2 sn))] : List Bx))) ∧ ((vO ([(kE k r rn m s sn)] : List Bx) ([(kE (zK 11 k2 k) (zL 11 2 r2 r) (zN 11 2 rn2 rn) (zM 11 4 m2 m) (zL 11 8 s2 s) (zN 11 8 sn2 sn))] : List Bx)) ≤ 15)) := cU ([(kE k r rn m s sn)] : List Bx) ([(kE (zK 11 k2 k) (zL 11 2 r2 r) (zN 11 2 rn2 rn) (zM 11 4 m2 m) (zL 11 8 s2 s) (zN 11 8 sn2 sn))] : List Bx)
     refine kH (qD 4 [.call [] (iV (vO ([(kE k r rn m s sn)] : List Bx) ([(kE (zK 11 k2 k) (zL 11 2 r2 r) (zN 11 2 rn2 rn) (zM 11 4 m2 m) (zL 11 8 s2 s) (zN 11 8 sn2 sn))] : List Bx))) [] 0 [none, none] (some [.c (.d (D.sl (kP ([(kE k r rn m s sn)] : List Bx)) 1)), .c (.d (D.sl (kP ([(kE (zK 11 k2 k) (zL 11 2 r2 r) (zN 11 2 rn2 rn) (zM 11 4 m2 m) (zL 11 8 s2 s) (zN 11 8 sn2 sn))] : List Bx)) 1))]), .b true]) (([iD k, dl r rn, D.sl (kI m) c, dl s sn].length = 1 * 4) ∧ ([iD (zK 11 k2 k), dl (zL 11 2 r2 r) (zN 11 2 rn2 rn), D.sl (kI (zM 11 4 m2 m)) (ka0 (zM 11 4 m2 m)), dl (zL 11 8 s2 s) (zN 11 8 sn2 sn)].length = 1 * 4) ∧ (bI (iV (vO ([(kE k r rn m s sn)] : List Bx) ([(kE (zK 11 k2 k) (zL 11 2 r2 r) (zN 11 2 rn2 rn) (zM 11 4 m2 m) (zL 11 8 s2 s) (zN 11 8 sn2 sn))] : List Bx))) = true) ∧ (((kP ([(kE k r rn m s sn)] : List Bx)) : List D) = [iD k, dl r rn, D.sl (kI m) c, dl s sn]) ∧ (kG 1) ∧ (((kP ([(kE (zK 11 k2 k) (zL 11 2 r2 r) (zN 11 2 rn2 rn) (zM 11 4 m2 m) (zL 11 8 s2 s) (zN 11 8 sn2 sn))] : List Bx)) : List D) = [iD (zK 11 k2 k), dl (zL 11 2 r2 r) (zN 11 2 rn2 rn), D.sl (kI (zM 11 4 m2 m)) (ka0 (zM 11 4 m2 m)), dl (zL 11 8 s2 s) (zN 11 8 sn2 sn)]) ∧ (kG 1) ∧ (_) ∧ (((vO ([(kE k r rn m s sn)] : List Bx) ([(kE (zK 11 k2 k) (zL 11 2 r2 r) (zN 11 2 rn2 rn) (zM 11 4 m2 m) (zL 11 8 s2 s) (zN 11 8 sn2 sn))] : List Bx)) = 0))) [(3, rV 0 0), (4, rV 1 0), (7, iV (aK d k r rn m s sn k2 r2 rn2 m2 s2 sn2 2)), (8, iV 4), (25, bV true)] [(0, some (63, (uY k r rn m c s sn))), (1, some (63, (uX k2 r2 rn2 m2 c2 s2 sn2)))] 11 ⟨yH, yH, rfl, (by (subst hc; rfl)), rfl, (by rfl), rfl, (cV ([(kE k r rn m s sn)] : List Bx) ([(kE (zK 11 k2 k) (zL 11 2 r2 r) (zN 11 2 rn2 rn) (zM 11 4 m2 m) (zL 11 8 s2 s) (zN 11 8 sn2 sn))] : List Bx) 1 1 vX vX zo zo (qC : BsW ([(kE k r rn m s sn)] : List Bx)) (qC : BsW ([(kE (zK 11 k2 k) (zL 11 2 r2 r) (zN 11 2 rn2 rn) (zM 11 4 m2 m) (zL 11 8 s2 s) (zN 11 8 sn2 sn))] : List Bx))), zo⟩ ?_
     refine zt ?_
     refine u2 [.no, .no, .i (mL (aK d k r rn m s sn k2 r2 rn2 m2 s2 sn2 2) 4), .no] (qE .or .i64 (aK d k r rn m s sn k2 r2 rn2 m2 s2 sn2 2) 4 = (mL (aK d k r rn m s sn k2 r2 rn2 m2 s2 sn2 2) 4)) [(3, rV 0 0), (4, rV 1 0), (7, iV (mL (aK d k r rn m s sn k2 r2 rn2 m2 s2 sn2 2) 4)), (8, iV 4)] rfl ?_
     exact kV () [] (P := (kG 0) ∧ (kG 0) ∧ (((aK d k r rn m s sn k2 r2 rn2 m2 s2 sn2 3) : Int) = (mL (aK d k r rn m s sn k2 r2 rn2 m2 s2 sn2 2) 4)) ∧ (kM 4) ∧ (kJ [iD k, dl r rn, D.sl (kI m) c, dl s sn]) ∧ (kJ [iD k2, dl r2 rn2, D.sl (kI m2) c2, dl s2 sn2])) zk ⟨rfl, rfl, (by exact (u0u (by assumption)).symm), rfl, rfl, rfl⟩ True.intro
    ·have hx30 : (((0 : Int) ≤ (vO ([(kE k r rn m s sn)] : List Bx) ([(kE (zK 11 k2 k) (zL 11 2 r2 r) (zN 11 2 rn2 rn) (zM 11 4 m2 m) (zL 11 8 s2 s) (zN 11 8 sn2 sn))] : List Bx))) ∧ ((vO ([(kE k r rn m s sn)] : List Bx) ([(kE (zK 11 k2 k) (zL 11 2 r2 r) (zN 11 2 rn2 rn) (zM 11 4 m2 m) (zL 11 8 s2 s) (zN 11 8 sn2 sn))] : List Bx)) ≤ 15)) := cU ([(kE k r rn m s sn)] : List Bx) ([(kE (zK 11 k2 k) (zL 11 2 r2 r) (zN 11 2 rn2 rn) (zM 11 4 m2 m) (zL 11 8 s2 s) (zN 11 8 sn2 sn))] : List Bx)
     refine kH (qD 4 [.call [] (iV (vO ([(kE k r rn m s sn)] : List Bx) ([(kE (zK 11 k2 k) (zL 11 2 r2 r) (zN 11 2 rn2 rn) (zM 11 4 m2 m) (zL 11 8 s2 s) (zN 11 8 sn2 sn))] : List Bx))) [] 0 [none, none] (some [.c (.d (D.sl (kP ([(kE k r rn m s sn)] : List Bx)) 1)), .c (.d (D.sl (kP ([(kE (zK 11 k2 k) (zL 11 2 r2 r) (zN 11 2 rn2 rn) (zM 11 4 m2 m) (zL 11 8 s2 s) (zN 11 8 sn2 sn))] : List Bx)) 1))]), .b false]) (([iD k, dl r rn, D.sl (kI m) c, dl s sn].length = 1 * 4) ∧ ([iD (zK 11 k2 k), dl (zL 11 2 r2 r) (zN 11 2 rn2 rn), D.sl (kI (zM 11 4 m2 m)) (ka0 (zM 11 4 m2 m)), dl (zL 11 8 s2 s) (zN 11 8 sn2 sn)].length = 1 * 4) ∧ (bI (iV (vO ([(kE k r rn m s sn)] : List Bx) ([(kE (zK 11 k2 k) (zL 11 2 r2 r) (zN 11 2 rn2 rn) (zM 11 4 m2 m) (zL 11 8 s2 s) (zN 11 8 sn2 sn))] : List Bx))) = true) ∧ (((kP ([(kE k r rn m s sn)] : List Bx)) : List D) = [iD k, dl r rn, D.sl (kI m) c, dl s sn]) ∧ (kG 1) ∧ (((kP ([(kE (zK 11 k2 k) (zL 11 2 r2 r) (zN 11 2 rn2 rn) (zM 11 4 m2 m) (zL 11 8 s2 s) (zN 11 8 sn2 sn))] : List Bx)) : List D) = [iD (zK 11 k2 k), dl (zL 11 2 r2 r) (zN 11 2 rn2 rn), D.sl (kI (zM 11 4 m2 m)) (ka0 (zM 11 4 m2 m)), dl (zL 11 8 s2 s) (zN 11 8 sn2 sn)]) ∧ (kG 1) ∧ (_) ∧ (¬ ((vO ([(kE k r rn m s sn)] : List Bx) ([(kE (zK 11 k2 k) (zL 11 2 r2 r) (zN 11 2 rn2 rn) (zM 11 4 m2 m) (zL 11 8 s2 s) (zN 11 8 sn2 sn))] : List Bx)) = 0))) [(3, rV 0 0), (4, rV 1 0), (7, iV (aK d k r rn m s sn k2 r2 rn2 m2 s2 sn2 2)), (8, iV 4), (25, bV false)] [(0, some (63, (uY k r rn m c s sn))), (1, some (63, (uX k2 r2 rn2 m2 c2 s2 sn2)))] 11 ⟨yH, yH, rfl, (by (subst hc; rfl)), rfl, (by rfl), rfl, (cV ([(kE k r rn m s sn)] : List Bx) ([(kE (zK 11 k2 k) (zL 11 2 r2 r) (zN 11 2 rn2 rn) (zM 11 4 m2 m) (zL 11 8 s2 s) (zN 11 8 sn2 sn))] : List Bx) 1 1 vX vX zo zo (qC : BsW ([(kE k r rn m s sn)] : List Bx)) (qC : BsW ([(kE (zK 11 k2 k) (zL 11 2 r2 r) (zN 11 2 rn2 rn) (zM 11 4 m2 m) (zL 11 8 s2 s) (zN 11 8 sn2 sn))] : List Bx))), zo⟩ ?_
     refine uP ?_
     exact kV () [] (P := (kG 0) ∧ (kG 0) ∧ (((aK d k r rn m s sn k2 r2 rn2 m2 s2 sn2 3) : Int) = (aK d k r rn m s sn k2 r2 rn2 m2 s2 sn2 2)) ∧ (kM 4) ∧ (kJ [iD k, dl r rn, D.sl (kI m) c, dl s sn]) ∧ (kJ [iD k2, dl r2 rn2, D.sl (kI m2) c2, dl s2 sn2])) zk ⟨rfl, rfl, (by exact (u0v (by assumption)).symm), rfl, rfl, rfl⟩ True.intro
   ·refine vY [.no, .w, .no] (uZ (8 : Int)) [(3, rV 0 0), (4, rV 1 0), (7, iV (aK d k r rn m s sn k2 r2 rn2 m2 s2 sn2 3)), (8, iV 8)] [(0, some (63, (uY k r rn m c s sn))), (1, some (63, (uX k2 r2 rn2 m2 c2 s2 sn2)))] 11 ⟨by omega, by omega⟩ ?_
    refine AWr.s ?_
    refine AW.seq ?_
    refine kH [.no, .b true] (((8 : Int) < 15)) [(3, rV 0 0), (4, rV 1 0), (7, iV (aK d k r rn m s sn k2 r2 rn2 m2 s2 sn2 3)), (8, iV 8), (12, bV true)] [(0, some (63, (uY k r rn m c s sn))), (1, some (63, (uX k2 r2 rn2 m2 c2 s2 sn2)))] 11 zo ?_
    refine vI ?_
    refine vW hcx [(3, rV 0 0), (4, rV 1 0), (7, iV (aK d k r rn m s sn k2 r2 rn2 m2 s2 sn2 4)), (8, iV 8)] [(0, some (63, (uY k r rn m c s sn))), (1, some (63, (uX k2 r2 rn2 m2 c2 s2 sn2)))] 14 ?_ ?_
    ·refine AW.block ?_
     have hx31 : ((ka0 (zL 7 2 r2 r)) = ((zN 7 2 rn2 rn) * 2)) := aE (zo) (zo)
     have hx32 : ((zN 7 2 rn2 rn) ≤ 1000000) := dB (zo) (zo)
     have hx33 : ((ka0 (zL 7 8 s2 s)) = ((zN 7 8 sn2 sn) * 2)) := aE (zo) (zo)
     have hx34 : ((zN 7 8 sn2 sn) ≤ 1000000) := dB (zo) (zo)
     have hx35 : ((ka0 (zM 7 4 m2 m)) ≤ 1000000) := fT (zo) (zo) (zo) (zo)
     have hx36 : (MsW (zM 7 4 m2 m)) := nG (qC : MsW m2) (qC : MsW m)
     refine kH [.no, .no, .no, .i 7, .call [] (.e (.agg [iC (zK 7 k2 k), .d (dl (zL 7 2 r2 r) (zN 7 2 rn2 rn)), .d (D.sl (kI (zM 7 4 m2 m)) (ka0 (zM 7 4 m2 m))), .d (dl (zL 7 8 s2 s) (zN 7 8 sn2 sn))])) [] 0 [] none, .no, .no] ((qE .andNot .i64 15 8 = 7) ∧ (_)) [(3, rV 0 0), (4, rV 1 0), (7, iV (aK d k r rn m s sn k2 r2 rn2 m2 s2 sn2 3)), (8, iV 8), (9, rV 11 0)] [(0, some (63, (uY k r rn m c s sn))), (1, some (63, (uX k2 r2 rn2 m2 c2 s2 sn2))), (11, some (63, .ds [iD (zK 7 k2 k), dl (zL 7 2 r2 r) (zN 7 2 rn2 rn), D.sl (kI (zM 7 4 m2 m)) (ka0 (zM 7 4 m2 m)), dl (zL 7 8 s2 s) (zN 7 8 sn2 sn)]))] 12 ⟨(by decide), (m9 k2 r2 rn2 m2 c2 s2 sn2 k r rn m c s sn 7 zo zo zo zo zo zo (qC : MsW m2) zo zo zo zo zo zo (qC : MsW m))⟩ ?_
     by_cases hx38 : ((vO ([(kE k r rn m s sn)] : List Bx) ([(kE (zK 7 k2 k) (zL 7 2 r2 r) (zN 7 2 rn2 rn) (zM 7 4 m2 m) (zL 7 8 s2 s) (zN 7 8 sn2 sn))] : List Bx)) = 0)
     ·have hx39 : (((0 : Int) ≤ (vO ([(kE k r rn m s sn)] : List Bx) ([(kE (zK 7 k2 k) (zL 7 2 r2 r) (zN 7 2 rn2 rn) (zM 7 4 m2 m) (zL 7 8 s2 s) (zN 7 8 sn2 sn))] : List Bx))) ∧ ((vO ([(kE k r rn m s sn)] : List Bx) ([(kE (zK 7 k2 k) (zL 7 2 r2 r) (zN 7 2 rn2 rn) (zM 7 4 m2 m) (zL 7 8 s2 s) (zN 7 8 sn2 sn))] : List Bx)) ≤ 15)) := cU ([(kE k r rn m s sn)] : List Bx) ([(kE (zK 7 k2 k) (zL 7 2 r2 r) (zN 7 2 rn2 rn) (zM 7 4 m2 m) (zL 7 8 s2 s) (zN 7 8 sn2 sn))] : List Bx)
      refine kH (qD 4 [.call [] (iV (vO ([(kE k r rn m s sn)] : List Bx) ([(kE (zK 7 k2 k) (zL 7 2 r2 r) (zN 7 2 rn2 rn) (zM 7 4 m2 m) (zL 7 8 s2 s) (zN 7 8 sn2 sn))] : List Bx))) [] 0 [none, none] (some [.c (.d (D.sl (kP ([(kE k r rn m s sn)] : List Bx)) 1)), .c (.d (D.sl (kP ([(kE (zK 7 k2 k) (zL 7 2 r2 r) (zN 7 2 rn2 rn) (zM 7 4 m2 m) (zL 7 8 s2 s) (zN 7 8 sn2 sn))] : List Bx)) 1))]), .b true]) (([iD k, dl r rn, D.sl (kI m) c, dl s sn].length = 1 * 4) ∧ ([iD (zK 7 k2 k), dl (zL 7 2 r2 r) (zN 7 2 rn2 rn), D.sl (kI (zM 7 4 m2 m)) (ka0 (zM 7 4 m2 m)), dl (zL 7 8 s2 s) (zN 7 8 sn2 sn)].length = 1 * 4) ∧ (bI (iV (vO ([(kE k r rn m s sn)] : List Bx) ([(kE (zK 7 k2 k) (zL 7 2 r2 r) (zN 7 2 rn2 rn) (zM 7 4 m2 m) (zL 7 8 s2 s) (zN 7 8 sn2 sn))] : List Bx))) = true) ∧ (((kP ([(kE k r rn m s sn)] : List Bx)) : List D) = [iD k, dl r rn, D.sl (kI m) c, dl s sn]) ∧ (kG 1) ∧ (((kP ([(kE (zK 7 k2 k) (zL 7 2 r2 r) (zN 7 2 rn2 rn) (zM 7 4 m2 m) (zL 7 8 s2 s) (zN 7 8 sn2 sn))] : List Bx)) : List D) = [iD (zK 7 k2 k), dl (zL 7 2 r2 r) (zN 7 2 rn2 rn), D.sl (kI (zM 7 4 m2 m)) (ka0 (zM 7 4 m2 m)), dl (zL 7 8 s2 s) (zN 7 8 sn2 sn)]) ∧ (kG 1) ∧ (_) ∧ (((vO ([(kE k r rn m s sn)] : List Bx) ([(kE (zK 7 k2 k) (zL 7 2 r2 r) (zN 7 2 rn2 rn) (zM 7 4 m2 m) (zL 7 8 s2 s) (zN 7 8 sn2 sn))] : List Bx)) = 0))) [(3, rV 0 0), (4, rV 1 0), (7, iV (aK d k r rn m s sn k2 r2 rn2 m2 s2 sn2 3)), (8, iV 8), (25, bV true)] [(0, some (63, (uY k r rn m c s sn))), (1, some (63, (uX k2 r2 rn2 m2 c2 s2 sn2)))] 14 ⟨yH, yH, rfl, (by (subst hc; rfl)), rfl, (by rfl), rfl, (cV ([(kE k r rn m s sn)] : List Bx) ([(kE (zK 7 k2 k) (zL 7 2 r2 r) (zN 7 2 rn2 rn) (zM 7 4 m2 m) (zL 7 8 s2 s) (zN 7 8 sn2 sn))] : List Bx) 1 1 vX vX zo zo (qC : BsW ([(kE k r rn m s sn)] : List Bx)) (qC : BsW ([(kE (zK 7 k2 k) (zL 7 2 r2 r) (zN 7 2 rn2 rn) (zM 7 4 m2 m) (zL 7 8 s2 s) (zN 7 8 sn2 sn))] : List Bx))), zo⟩ ?_
      refine zt ?_
      refine u2 [.no, .no, .i (mL (aK d k r rn m s sn k2 r2 rn2 m2 s2 sn2 3) 8), .no] (qE .or .i64 (aK d k r rn m s sn k2 r2 rn2 m2 s2 sn2 3) 8 = (mL (aK d k r rn m s sn k2 r2 rn2 m2 s2 sn2 3) 8)) [(3, rV 0 0), (4, rV 1 0), (7, iV (mL (aK d k r rn m s sn k2 r2 rn2 m2 s2 sn2 3) 8)), (8, iV 8)] rfl ?_
      exact kV () [] (P := (kG 0) ∧ (kG 0) ∧ (((aK d k r rn m s sn k2 r2 rn2 m2 s2 sn2 4) : Int) = (mL (aK d k r rn m s sn k2 r2 rn2 m2 s2 sn2 3) 8)) ∧ (kM 8) ∧ (kJ [iD k, dl r rn, D.sl (kI m) c, dl s sn]) ∧ (kJ [iD k2, dl r2 rn2, D.sl (kI m2) c2, dl s2 sn2])) zk ⟨rfl, rfl, (by exact (u0u (by assumption)).symm), rfl, rfl, rfl⟩ True.intro
     ·have hx40 : (((0 : Int) ≤ (vO ([(kE k r rn m s sn)] : List Bx) ([(kE (zK 7 k2 k) (zL 7 2 r2 r) (zN 7 2 rn2 rn) (zM 7 4 m2 m) (zL 7 8 s2 s) (zN 7 8 sn2 sn))] : List Bx))) ∧ ((vO ([(kE k r rn m s sn)] : List Bx) ([(kE (zK 7 k2 k) (zL 7 2 r2 r) (zN 7 2 rn2 rn) (zM 7 4 m2 m) (zL 7 8 s2 s) (zN 7 8 sn2 sn))] : List Bx)) ≤ 15)) := cU ([(kE k r rn m s sn)] : List Bx) ([(kE (zK 7 k2 k) (zL 7 2 r2 r) (zN 7 2 rn2 rn) (zM 7 4 m2 m) (zL 7 8 s2 s) (zN 7 8 sn2 sn))] : List Bx)
      refine kH (qD 4 [.call [] (iV (vO ([(kE k r rn m s sn)] : List Bx) ([(kE (zK 7 k2 k) (zL 7 2 r2 r) (zN 7 2 rn2 rn) (zM 7 4 m2 m) (zL 7 8 s2 s) (zN 7 8 sn2 sn))] : List Bx))) [] 0 [none, none] (some [.c (.d (D.sl (kP ([(kE k r rn m s sn)] : List Bx)) 1)), .c (.d (D.sl (kP ([(kE (zK 7 k2 k) (zL 7 2 r2 r) (zN 7 2 rn2 rn) (zM 7 4 m2 m) (zL 7 8 s2 s) (zN 7 8 sn2 sn))] : List Bx)) 1))]), .b false]) (([iD k, dl r rn, D.sl (kI m) c, dl s sn].length = 1 * 4) ∧ ([iD (zK 7 k2 k), dl (zL 7 2 r2 r) (zN 7 2 rn2 rn), D.sl (kI (zM 7 4 m2 m)) (ka0 (zM 7 4 m2 m)), dl (zL 7 8 s2 s) (zN 7 8 sn2 sn)].length = 1 * 4) ∧ (bI (iV (vO ([(kE k r rn m s sn)] : List Bx) ([(kE (zK 7 k2 k) (zL 7 2 r2 r) (zN 7 2 rn2 rn) (zM 7 4 m2 m) (zL 7 8 s2 s) (zN 7 8 sn2 sn))] : List Bx))) = true) ∧ (((kP ([(kE k r rn m s sn)] : List Bx)) : List D) = [iD k, dl r rn, D.sl (kI m) c, dl s sn]) ∧ (kG 1) ∧ (((kP ([(kE (zK 7 k2 k) (zL 7 2 r2 r) (zN 7 2 rn2 rn) (zM 7 4 m2 m) (zL 7 8 s2 s) (zN 7 8 sn2 sn))] : List Bx)) : List D) = [iD (zK 7 k2 k), dl (zL 7 2 r2 r) (zN 7 2 rn2 rn), D.sl (kI (zM 7 4 m2 m)) (ka0 (zM 7 4 m2 m)), dl (zL 7 8 s2 s) (zN 7 8 sn2 sn)]) ∧ (kG 1) ∧ (_) ∧ (¬ ((vO ([(kE k r rn m s sn)] : List Bx) ([(kE (zK 7 k2 k) (zL 7 2 r2 r) (zN 7 2 rn2 rn) (zM 7 4 m2 m) (zL 7 8 s2 s) (zN 7 8 sn2 sn))] : List Bx)) = 0))) [(3, rV 0 0), (4, rV 1 0), (7, iV (aK d k r rn m s sn k2 r2 rn2 m2 s2 sn2 3)), (8, iV 8), (25, bV false)] [(0, some (63, (uY k r rn m c s sn))), (1, some (63, (uX k2 r2 rn2 m2 c2 s2 sn2)))] 14 ⟨yH, yH, rfl, (by (subst hc; rfl)), rfl, (by rfl), rfl, (cV ([(kE k r rn m s sn)] : List Bx) ([(kE (zK 7 k2 k) (zL 7 2 r2 r) (zN 7 2 rn2 rn) (zM 7 4 m2 m) (zL 7 8 s2 s) (zN 7 8 sn2 sn))] : List Bx) 1 1 vX vX zo zo (qC : BsW ([(kE k r rn m s sn)] : List Bx)) (qC : BsW ([(kE (zK 7 k2 k) (zL 7 2 r2 r) (zN 7 2 rn2 rn) (zM 7 4 m2 m) (zL 7 8 s2 s) (zN 7 8 sn2 sn))] : List Bx))), zo⟩ ?_
      refine uP ?_
      exact kV () [] (P := (kG 0) ∧ (kG 0) ∧ (((aK d k r rn m s sn k2 r2 rn2 m2 s2 sn2 4) : Int) = (aK d k r rn m s sn k2 r2 rn2 m2 s2 sn2 3)) ∧ (kM 8) ∧ (kJ [iD k, dl r rn, D.sl (kI m) c, dl s sn]) ∧ (kJ [iD k2, dl r2 rn2, D.sl (kI m2) c2, dl s2 sn2])) zk ⟨rfl, rfl, (by exact (u0v (by assumption)).symm), rfl, rfl, rfl⟩ True.intro
    ·refine vY [.no, .w, .no] (uZ (16 : Int)) [(3, rV 0 0), (4, rV 1 0), (7, iV (aK d k r rn m s sn k2 r2 rn2 m2 s2 sn2 4)), (8, iV 16)] [(0, some (63, (uY k r rn m c s sn))), (1, some (63, (uX k2 r2 rn2 m2 c2 s2 sn2)))] 14 ⟨by omega, by omega⟩ ?_
     refine AWr.s ?_
     refine AW.seq ?_
     refine kH [.no, .b false] (¬ ((16 : Int) < 15)) [(3, rV 0 0), (4, rV 1 0), (7, iV (aK d k r rn m s sn k2 r2 rn2 m2 s2 sn2 4)), (8, iV 16), (12, bV false)] [(0, some (63, (uY k r rn m c s sn))), (1, some (63, (uX k2 r2 rn2 m2 c2 s2 sn2)))] 14 zo ?_
     refine zf ?_
     refine AW.exit ?_
     refine kH [.no, .no] True [(6, iV (aK d k r rn m s sn k2 r2 rn2 m2 s2 sn2 4))] [] 14 trivial ?_
     refine AW.ret ?_
     exact kA (.inr rfl) [] (P := (kM (aK d k r rn m s sn k2 r2 rn2 m2 s2 sn2 4))) zk rfl
theorem u5g (d s : Int)  : Fun 65 [iE d, .c (.ptr 0 0)] (kF [(0, some (3, .ds [iD s]))]) 1 (uJ (D.lit (.bool (stB d s)))) (kF [(0, some (3, .ds [iD s]))]) 1 := by
 refine Fun.mk (n := 9) Tryz.func65 rfl rfl (ka4 rfl) ?_
 intro cx hcx
 refine kH [.no] True [(0, iV d), (1, rV 0 0)] [(0, some (3, .ds [iD s]))] 1 trivial ?_
 by_cases hx1 : ((qG d s) = s)
 ·refine kQ [.no, .no, .i (qG d s), .no, .b true, .no] ((qE .and .i64 d s = (qG d s)) ∧ (((qG d s) = s))) [(3, bV true)] ⟨rfl, zo⟩ ?_
  refine AW.ret ?_
  exact kA (.inr rfl) [] (P := ((stB d s) = true) ∧ (kJ [iD s])) zk ⟨(by exact decide_eq_true zo), rfl⟩
 ·refine kQ [.no, .no, .i (qG d s), .no, .b false, .no] ((qE .and .i64 d s = (qG d s)) ∧ (¬ ((qG d s) = s))) [(3, bV false)] ⟨rfl, zo⟩ ?_
  refine AW.ret ?_
  exact kA (.inr rfl) [] (P := ((stB d s) = false) ∧ (kJ [iD s])) zk ⟨(by exact decide_eq_false zo), rfl⟩
theorem u5e (l : List Int) (n : Nat) (s : Int) (hn : ka0 l = n) (h1 : n ≤ 1000000) : Fun 100 [.c (.d (D.sl (dI .i64 l) n)), .c (.fn 65 [(0, 0)])] (kF [(0, some (3, .ds [iD s]))]) 1 (iV (jT l s n)) (kF [(0, some (3, .ds [iD s]))]) 1 := by
 refine Fun.mk (n := 19) Tryz.func100 rfl rfl (ka4 rfl) ?_
 intro cx hcx
 refine kH [.no] True [(0, sV .i64 l n), (1, .e (.c (.fn 65 [(0, 0)])))] [(0, some (3, .ds [iD s]))] 1 trivial ?_
 refine AW.seq ?_
 refine kQ [.no, .no, .no] True [(0, sV .i64 l n), (1, .e (.c (.fn 65 [(0, 0)]))), (7, uV n), (8, iV 0)] trivial ?_
 refine AW.block ?_
 refine kX 1 hcx (fun (x : {x : Nat // match x with | k => (k ≤ n) ∧ (jT l s k = -1)}) => match x with | ⟨k, _⟩ => (⟨[(0, sV .i64 l n), (1, .e (.c (.fn 65 [(0, 0)]))), (7, uV n), (8, uV k)], [(0, some (3, .ds [iD s]))], 1⟩ : ES)) (fun x => match x with | ⟨k, _⟩ => n - k) ⟨(0 : Nat), ⟨zo, rfl⟩⟩ [] (P := (kJ (dI .i64 l)) ∧ (kG n) ∧ (kM (n : Int)) ∧ (kM 0) ∧ (kJ [iD s])) zk ⟨rfl, rfl, rfl, rfl, rfl⟩ ?_
 rintro ⟨k, hinv0⟩
 obtain ⟨hk, hi⟩ : (k ≤ n) ∧ (jT l s k = -1) := hinv0
 refine qU (l := [(0, sV .i64 l n), (1, .e (.c (.fn 65 [(0, 0)]))), (7, uV n), (8, uV k)]) (g := [(0, some (3, .ds [iD s]))]) (nx := 1) rfl rfl rfl ?_
 by_cases hx1 : (((k : Nat) : Int) < ((n : Nat) : Int))
 ·refine kH [.b true] (((k : Int) < (n : Int))) [(0, sV .i64 l n), (1, .e (.c (.fn 65 [(0, 0)]))), (7, uV n), (8, uV k), (9, bV true)] [(0, some (3, .ds [iD s]))] 1 zo ?_
  refine AW.seq ?_
  refine vI ?_
  refine AW.seq ?_
  refine AW.block ?_
  refine kQ [.no, .no] True [(0, sV .i64 l n), (1, .e (.c (.fn 65 [(0, 0)]))), (5, uV k), (7, uV n), (8, uV k)] trivial ?_
  rcases ka9 (stB (ka1 l k 0) s) with hx2 | hx2
  ·refine kQ [.no, .no, .no, .n k, .d (D.lit (.int .i64 (ka1 l k 0))), .call [0] (bV true) [(0, some (3, .ds [iD s]))] 1 [] none] ((kM (k : Int)) ∧ (k < n) ∧ ((ka3 k (dI .i64 l))[0]? = some (D.lit (.int .i64 (ka1 l k 0)))) ∧ (Fun 65 [iE (ka1 l k 0), .c (.ptr 0 0)] (kF [(0, some (3, .ds [iD s]))]) 1 (bV true) (kF [(0, some (3, .ds [iD s]))]) 1)) [(0, sV .i64 l n), (1, .e (.c (.fn 65 [(0, 0)]))), (5, uV k), (7, uV n), (8, uV k), (16, bV true)] ⟨rfl, zo, (yG _ _ _ zo), (by have h0 := (u5g (ka1 l k 0) s); rw [hx2] at h0; exact h0)⟩ ?_
   refine zt ?_
   refine kQ [.no, .no] True [(4, uV k)] trivial ?_
   refine AW.ret ?_
   exact kA (.inr rfl) [] (P := (((jT l s n) : Int) = (k : Int)) ∧ (kJ [iD s])) zk ⟨(by exact u3o hi (by assumption) zo), rfl⟩
  ·refine kQ [.no, .no, .no, .n k, .d (D.lit (.int .i64 (ka1 l k 0))), .call [0] (bV false) [(0, some (3, .ds [iD s]))] 1 [] none] ((kM (k : Int)) ∧ (k < n) ∧ ((ka3 k (dI .i64 l))[0]? = some (D.lit (.int .i64 (ka1 l k 0)))) ∧ (Fun 65 [iE (ka1 l k 0), .c (.ptr 0 0)] (kF [(0, some (3, .ds [iD s]))]) 1 (bV false) (kF [(0, some (3, .ds [iD s]))]) 1)) [(0, sV .i64 l n), (1, .e (.c (.fn 65 [(0, 0)]))), (5, uV k), (7, uV n), (8, uV k), (16, bV false)] ⟨rfl, zo, (yG _ _ _ zo), (by have h0 := (u5g (ka1 l k 0) s); rw [hx2] at h0; exact h0)⟩ ?_
   refine uP ?_
   refine u2 [.w, .no] (uZ ((k : Int) + 1)) [(0, sV .i64 l n), (1, .e (.c (.fn 65 [(0, 0)]))), (7, uV n), (8, iV (↑k + 1))] ⟨by omega, by omega⟩ ?_
   exact kV ⟨((k + 1) : Nat), ⟨zo, (u3n hi (by assumption))⟩⟩ [] (P := (kJ (dI .i64 l)) ∧ (kG n) ∧ (kM (n : Int)) ∧ (bU k) ∧ (kJ [iD s])) zk ⟨rfl, rfl, rfl, (by rfl), rfl⟩ (show n - (k + 1) < n - k from zo)
 ·refine kH [.b false] (¬ ((k : Int) < (n : Int))) [(0, sV .i64 l n), (1, .e (.c (.fn 65 [(0, 0)]))), (7, uV n), (8, uV k), (9, bV false)] [(0, some (3, .ds [iD s]))] 1 zo ?_
  refine AW.seq ?_
  refine zf ?_
  refine AW.exit ?_
  refine kH [.no] True [(4, iV (-1))] [(0, some (3, .ds [iD s]))] 1 trivial ?_
  refine AW.ret ?_
  exact kA (.inr rfl) [] (P := (((jT l s n) : Int) = (-1)) ∧ (kJ [iD s])) zk ⟨(by (rw [show n = k by omega]; exact hi)), rfl⟩
theorem u8g (l : List Int) (n : Nat) (s : Int) (hn : ka0 l = n) (h1 : n ≤ 1000000) : Fun 66 [.c (.d (D.sl (dI .i64 l) n)), .c (.fn 65 [(0, 0)])] (kF [(0, some (3, .ds [iD s]))]) 1 (uJ (D.lit (.bool (nQ l n s)))) (kF [(0, some (3, .ds [iD s]))]) 1 := by
 refine Fun.mk (n := 9) Tryz.func66 rfl rfl (ka4 rfl) ?_
 intro cx hcx
 refine kH [.no] True [(0, sV .i64 l n), (1, .e (.c (.fn 65 [(0, 0)])))] [(0, some (3, .ds [iD s]))] 1 trivial ?_
 by_cases hx1 : ((0 : Int) ≤ (jT l s n))
 ·refine kQ [.no, .no, .call [0] (iV (jT l s n)) [(0, some (3, .ds [iD s]))] 1 [] none, .b true, .no] ((_) ∧ (((0 : Int) ≤ (jT l s n)))) [(4, bV true)] ⟨(u5e l n s zo zo), zo⟩ ?_
  refine AW.ret ?_
  exact kA (.inr rfl) [] (P := ((nQ l n s) = true) ∧ (kJ [iD s])) zk ⟨(by exact decide_eq_true zo), rfl⟩
 ·refine kQ [.no, .no, .call [0] (iV (jT l s n)) [(0, some (3, .ds [iD s]))] 1 [] none, .b false, .no] ((_) ∧ (¬ ((0 : Int) ≤ (jT l s n)))) [(4, bV false)] ⟨(u5e l n s zo zo), zo⟩ ?_
  refine AW.ret ?_
  exact kA (.inr rfl) [] (P := ((nQ l n s) = false) ∧ (kJ [iD s])) zk ⟨(by exact decide_eq_false zo), rfl⟩
abbrev f7 (a : List Bx) (i : Nat) : BC := .ds [iD (kR a i), D.sl (dI .i64 (k8 a i)) (kU a i), D.sl (kI (kS a i)) (ka0 (kS a i)), D.sl (dI .i64 (kZ a i)) (kT a i)]
theorem u2y (a b : List Bx) (n m : Nat) (d : Int) (hn : ka0 a = n) (hm : ka0 b = m) (h1 : n ≤ 1000) (h2 : m ≤ 64) (hW : BsW a) (hV : BsW b) : Fun 34 [.c (.d (D.sl (kP a) n)), .c (.d (D.sl (kP b) m)), iE d] (kF []) 0 (iV (blN d a b)) (kF []) 0 := by
 refine Fun.mk (n := 60) Tryz.func34 rfl rfl (ka4 rfl) ?_
 intro cx hcx
 refine kH [.no] True [(0, .e (kY a n)), (1, .e (kY b m)), (2, iV d)] [] 0 trivial ?_
 refine AW.seq ?_
 by_cases hx1 : (((n : Nat) : Int) = 0)
 ·refine kQ [.no, .no, .b true] (((n : Int) = 0)) [(0, .e (kY a n)), (1, .e (kY b m)), (2, iV d), (17, bV true)] zo ?_
  refine zt ?_
  refine kQ [.no] True [(6, iV 15)] trivial ?_
  refine AW.ret ?_
  exact kA (.inr rfl) [] (P := (((blN d a b) : Int) = 15)) zk (by exact (v5d zo).symm)
 ·refine kQ [.no, .no, .b false] (¬ ((n : Int) = 0)) [(0, .e (kY a n)), (1, .e (kY b m)), (2, iV d), (17, bV false)] zo ?_
  refine uP ?_
  refine kQ [.no] True [(0, .e (kY a n)), (1, .e (kY b m)), (2, iV d), (7, nV)] trivial ?_
  refine AW.seq ?_
  refine kQ [.no, .no, .no] True [(1, .e (kY b m)), (2, iV d), (7, nV), (18, .e (kY a n)), (19, uV n), (20, iV 0)] trivial ?_
  refine AW.block ?_
  refine AW.adoptS 7 1 3 rfl ?_
  refine kX 0 hcx (fun (x : {x : Nat × Nat × List Int // match x with | (i, q, o) => (i ≤ n) ∧ (bpS d a b i = o) ∧ (ka0 o = q) ∧ (q ≤ i * 64)}) => match x with | ⟨(i, q, o), _⟩ => (⟨[(1, .e (kY b m)), (2, iV d), (7, oV 1 0 q 1), (18, .e (kY a n)), (19, uV n), (20, uV i)], [(1, some (3, .ds (dI .i64 o)))], 2⟩ : ES)) (fun x => match x with | ⟨(i, q, o), _⟩ => n - i) ⟨((0 : Nat), (0 : Nat), (([] : List Int) : List Int)), ⟨zo, rfl, rfl, zo⟩⟩ [(1, 0)] (P := (kJ (kP b)) ∧ (kG m) ∧ (kM d) ∧ (kG 0) ∧ (kG 0) ∧ (kJ (kP a)) ∧ (kG n) ∧ (kM (n : Int)) ∧ (kM 0) ∧ (((dI .i64 ([] : List Int)) : List D) = ([] : List D))) zk ⟨rfl, rfl, rfl, rfl, rfl, rfl, rfl, rfl, rfl, (by rfl)⟩ ?_
  rintro ⟨⟨i, q, o⟩, hinv0⟩
  obtain ⟨hi, ho, hq, hqm⟩ : (i ≤ n) ∧ (bpS d a b i = o) ∧ (ka0 o = q) ∧ (q ≤ i * 64) := hinv0
  refine qU (l := [(1, .e (kY b m)), (2, iV d), (7, oV 1 0 q 1), (18, .e (kY a n)), (19, uV n), (20, uV i)]) (g := [(1, some (3, .ds (dI .i64 o)))]) (nx := 2) rfl rfl rfl ?_
  by_cases hx2 : (((i : Nat) : Int) < ((n : Nat) : Int))
  ·refine kH [.b true] (((i : Int) < (n : Int))) [(1, .e (kY b m)), (2, iV d), (7, oV 1 0 q 1), (18, .e (kY a n)), (19, uV n), (20, uV i), (21, bV true)] [(1, some (3, .ds (dI .i64 o)))] 2 zo ?_
   refine AW.seq ?_
   refine vI ?_
   refine AW.seq ?_
   refine AW.block ?_
   obtain ⟨hx3, hx4, hx5, hx6, hx7⟩ := BsW.at (qC : BsW a) (i)
   refine kH [.n i, .ds (yJ a i), .no, .no] ((kM (i : Int)) ∧ (i < n) ∧ (List.take 4 (ka3 (i * 4) (kP a)) = (yJ a i)) ∧ (((yJ a i) : List D).length = 4)) [(1, .e (kY b m)), (2, iV d), (7, oV 1 0 q 1), (9, rV 2 0), (18, .e (kY a n)), (19, uV n), (20, uV i)] [(1, some (3, .ds (dI .i64 o))), (2, some (63, (f7 a i)))] 3 ⟨rfl, zo, (vH zo), rfl⟩ ?_
   refine kQ [.no, .no, .no] True [(1, .e (kY b m)), (2, iV d), (7, oV 1 0 q 1), (9, rV 2 0), (18, .e (kY a n)), (19, uV n), (20, uV i), (24, .e (kY b m)), (25, uV m), (26, iV 0)] trivial ?_
   refine AW.block ?_
   refine kX 0 hcx (fun (x : {x : Nat × Nat × List Int // match x with | (j, p, x) => (j ≤ m) ∧ (bpJ d a b i j = x) ∧ (ka0 x = p) ∧ (p ≤ i * 64 + j)}) => match x with | ⟨(j, p, x), _⟩ => (⟨[(1, .e (kY b m)), (2, iV d), (7, oV 3 0 p 1), (9, rV 2 0), (18, .e (kY a n)), (19, uV n), (20, uV i), (24, .e (kY b m)), (25, uV m), (26, uV j)], [(3, some (3, .ds (dI .i64 x))), (2, some (63, (f7 a i)))], 4⟩ : ES)) (fun x => match x with | ⟨(j, p, x), _⟩ => m - j) ⟨((0 : Nat), (q : Nat), (o : List Int)), ⟨zo, (v1y ho), (by assumption), zo⟩⟩ [(3, 1)] (P := (kJ (kP b)) ∧ (kG m) ∧ (kM d) ∧ (kG 0) ∧ (kG q) ∧ (kG 0) ∧ (kJ (kP a)) ∧ (kG n) ∧ (kM (n : Int)) ∧ (kM (i : Int)) ∧ (kJ (kP b)) ∧ (kG m) ∧ (kM (m : Int)) ∧ (kM 0) ∧ (kJ (dI .i64 o)) ∧ (kJ (yJ a i))) zk ⟨rfl, rfl, rfl, rfl, rfl, rfl, rfl, rfl, rfl, rfl, rfl, rfl, rfl, rfl, rfl, rfl⟩ ?_
   rintro ⟨⟨j, p, x⟩, hinv1⟩
   obtain ⟨hj, hJ, hp, hpm⟩ : (j ≤ m) ∧ (bpJ d a b i j = x) ∧ (ka0 x = p) ∧ (p ≤ i * 64 + j) := hinv1
   refine qU (l := [(1, .e (kY b m)), (2, iV d), (7, oV 3 0 p 1), (9, rV 2 0), (18, .e (kY a n)), (19, uV n), (20, uV i), (24, .e (kY b m)), (25, uV m), (26, uV j)]) (g := [(3, some (3, .ds (dI .i64 x))), (2, some (63, (f7 a i)))]) (nx := 4) rfl rfl rfl ?_
   by_cases hx8 : (((j : Nat) : Int) < ((m : Nat) : Int))
   ·refine kH [.b true] (((j : Int) < (m : Int))) [(1, .e (kY b m)), (2, iV d), (7, oV 3 0 p 1), (9, rV 2 0), (18, .e (kY a n)), (19, uV n), (20, uV i), (24, .e (kY b m)), (25, uV m), (26, uV j), (27, bV true)] [(2, some (63, (f7 a i))), (3, some (3, .ds (dI .i64 x)))] 4 zo ?_
    refine AW.seq ?_
    refine vI ?_
    refine AW.seq ?_
    refine AW.block ?_
    obtain ⟨hx9, hx10, hx11, hx12, hx13⟩ := BsW.at (qC : BsW b) (j)
    refine kH [.n j, .ds (yJ b j), .no, .no] ((kM (j : Int)) ∧ (j < m) ∧ (List.take 4 (ka3 (j * 4) (kP b)) = (yJ b j)) ∧ (((yJ b j) : List D).length = 4)) [(1, .e (kY b m)), (2, iV d), (7, oV 3 0 p 1), (9, rV 2 0), (11, rV 4 0), (18, .e (kY a n)), (19, uV n), (20, uV i), (24, .e (kY b m)), (25, uV m), (26, uV j)] [(2, some (63, (f7 a i))), (3, some (3, .ds (dI .i64 x))), (4, some (63, .ds (yJ b j)))] 5 ⟨rfl, zo, (vH zo), rfl⟩ ?_
    refine vY (qD 4 [.call [] (iV (aK d (kR a i) (k8 a i) (kU a i) (kS a i) (kZ a i) (kT a i) (kR b j) (k8 b j) (kU b j) (kS b j) (kZ b j) (kT b j) 4)) [] 0 [] none, .no, .ap none (p + 1) (dI .i64 (x ++ ([(aK d (kR a i) (k8 a i) (kU a i) (kS a i) (kZ a i) (kT a i) (kR b j) (k8 b j) (kU b j) (kS b j) (kZ b j) (kT b j) 4)] : List Int))), .no]) ((_) ∧ ([iD (aK d (kR a i) (k8 a i) (kU a i) (kS a i) (kZ a i) (kT a i) (kR b j) (k8 b j) (kU b j) (kS b j) (kZ b j) (kT b j) 4)].length = 1 * 1) ∧ (((dI .i64 x) : List D).length = p * 1) ∧ ((p + 1) * 8 ≤ 140737488355328) ∧ (p + 1 = (p + 1)) ∧ (((dI .i64 x) : List D) ++ [iD (aK d (kR a i) (k8 a i) (kU a i) (kS a i) (kZ a i) (kT a i) (kR b j) (k8 b j) (kU b j) (kS b j) (kZ b j) (kT b j) 4)] = (dI .i64 (x ++ ([(aK d (kR a i) (k8 a i) (kU a i) (kS a i) (kZ a i) (kT a i) (kR b j) (k8 b j) (kU b j) (kS b j) (kZ b j) (kT b j) 4)] : List Int))))) [(1, .e (kY b m)), (2, iV d), (7, oV 6 0 (p + 1) 1), (9, rV 2 0), (18, .e (kY a n)), (19, uV n), (20, uV i), (24, .e (kY b m)), (25, uV m), (26, uV j)] [(2, some (63, (f7 a i))), (6, some (3, .ds (dI .i64 (x ++ ([(aK d (kR a i) (k8 a i) (kU a i) (kS a i) (kZ a i) (kT a i) (kR b j) (k8 b j) (kU b j) (kS b j) (kZ b j) (kT b j) 4)] : List Int)))))] 7 ⟨(u8c (kR a i) (k8 a i) (kU a i) (kS a i) (ka0 (kS a i)) (kZ a i) (kT a i) (kR b j) (k8 b j) (kU b j) (kS b j) (ka0 (kS b j)) (kZ b j) (kT b j) d zo zo rfl zo zo zo (BsW.ms (qC : BsW a) _) zo zo rfl zo zo zo (BsW.ms (qC : BsW b) _)), yH, yH, zo, zo, (aU .i64 x ([(aK d (kR a i) (k8 a i) (kU a i) (kS a i) (kZ a i) (kT a i) (kR b j) (k8 b j) (kU b j) (kS b j) (kZ b j) (kT b j) 4)] : List Int))⟩ ?_
    refine u2 [.w, .no] (uZ ((j : Int) + 1)) [(1, .e (kY b m)), (2, iV d), (7, oV 6 0 (p + 1) 1), (9, rV 2 0), (18, .e (kY a n)), (19, uV n), (20, uV i), (24, .e (kY b m)), (25, uV m), (26, iV (↑j + 1))] ⟨by omega, by omega⟩ ?_
    exact kV ⟨(((j + 1) : Nat), ((p + 1) : Nat), ((x ++ ([(aK d (kR a i) (k8 a i) (kU a i) (kS a i) (kZ a i) (kT a i) (kR b j) (k8 b j) (kU b j) (kS b j) (kZ b j) (kT b j) 4)] : List Int)) : List Int)), ⟨zo, (v1w hJ rfl), (by (simp only [qA, k9, qS, qY, q5, ka8, kb0, kb2] <;> omega)), zo⟩⟩ [(3, 6)] (P := (kJ (kP b)) ∧ (kG m) ∧ (kM d) ∧ (kG 0) ∧ (kG (p + 1)) ∧ (kG 0) ∧ (kJ (kP a)) ∧ (kG n) ∧ (kM (n : Int)) ∧ (kM (i : Int)) ∧ (kJ (kP b)) ∧ (kG m) ∧ (kM (m : Int)) ∧ (bU j) ∧ (kJ (dI .i64 (x ++ ([(aK d (kR a i) (k8 a i) (kU a i) (kS a i) (kZ a i) (kT a i) (kR b j) (k8 b j) (kU b j) (kS b j) (kZ b j) (kT b j) 4)] : List Int)))) ∧ (kJ (yJ a i))) zk ⟨rfl, rfl, rfl, rfl, rfl, rfl, rfl, rfl, rfl, rfl, rfl, rfl, rfl, (by rfl), rfl, rfl⟩ (show m - (j + 1) < m - j from zo)
   ·refine kH [.b false] (¬ ((j : Int) < (m : Int))) [(1, .e (kY b m)), (2, iV d), (7, oV 3 0 p 1), (9, rV 2 0), (18, .e (kY a n)), (19, uV n), (20, uV i), (24, .e (kY b m)), (25, uV m), (26, uV j), (27, bV false)] [(2, some (63, (f7 a i))), (3, some (3, .ds (dI .i64 x)))] 4 zo ?_
    refine AW.seq ?_
    refine zf ?_
    refine AW.exit ?_
    refine vY [.w, .no] (uZ ((i : Int) + 1)) [(1, .e (kY b m)), (2, iV d), (7, oV 3 0 p 1), (18, .e (kY a n)), (19, uV n), (20, iV (↑i + 1))] [(3, some (3, .ds (dI .i64 x)))] 4 ⟨by omega, by omega⟩ ?_
    exact kV ⟨(((i + 1) : Nat), (p : Nat), (x : List Int)), ⟨zo, (v1x hJ zo), (by assumption), zo⟩⟩ [(1, 3)] (P := (kJ (kP b)) ∧ (kG m) ∧ (kM d) ∧ (kG 0) ∧ (kG p) ∧ (kJ (kP a)) ∧ (kG n) ∧ (kM (n : Int)) ∧ (bU i) ∧ (kJ (dI .i64 x))) zk ⟨rfl, rfl, rfl, rfl, rfl, rfl, rfl, rfl, (by rfl), rfl⟩ (show n - (i + 1) < n - i from zo)
  ·refine kH [.b false] (¬ ((i : Int) < (n : Int))) [(1, .e (kY b m)), (2, iV d), (7, oV 1 0 q 1), (18, .e (kY a n)), (19, uV n), (20, uV i), (21, bV false)] [(1, some (3, .ds (dI .i64 o)))] 2 zo ?_
   refine AW.seq ?_
   refine zf ?_
   refine AW.exit ?_
   refine AW.freeze 1 (l' := [(1, .e (kY b m)), (2, iV d), (7, sV .i64 o q), (18, .e (kY a n)), (19, uV n), (20, uV i), (21, bV false)]) (g' := []) rfl (FzS.cons rfl (.same _) (FzS.cons rfl (.same _) (FzS.cons rfl (.e (.c (@FzC.own 1 ((dI .i64 o) : List D) 0 q 1 true ((dI .i64 o) : List D) (by rw [kd3, kc6, kb7 (by (simp only [qA, k9, qS, qY, q5, qP, ka8, kb0, kb2, kb4, kb6, kb5, kc1, kc3, kc0, kc6] <;> omega))]) yH))) (FzS.cons rfl (.same _) (FzS.cons rfl (.same _) (FzS.cons rfl (.same _) (FzS.cons rfl (.same _) FzS.nil))))))) FzG.nil ?_
   refine kH [.no] True [(7, sV .i64 o q), (12, iV 15)] [] 2 trivial ?_
   refine AW.seq ?_
   refine kH [.no, .no] True [(7, sV .i64 o q), (12, iV 15), (13, rV 2 0)] [(2, some (3, .ds [iD 14]))] 3 trivial ?_
   refine AW.block ?_
   refine kX 0 hcx (fun (x : {x : Nat × Int // match x with | (z, y) => (z ≤ 14 ∧ 0 ≤ y ∧ y ≤ 15) ∧ (blM o q z = y)}) => match x with | ⟨(z, y), _⟩ => (⟨[(7, sV .i64 o q), (12, iV y), (13, rV 3 0)], [(3, some (3, .ds [iD (14 - (z : Int))]))], 4⟩ : ES)) (fun x => match x with | ⟨(z, y), _⟩ => 14 - z) ⟨((0 : Nat), (15 : Int)), ⟨zo, rfl⟩⟩ [(3, 2)] (P := (kJ (dI .i64 o)) ∧ (kG q) ∧ (kM 15) ∧ (kG 0) ∧ (kJ [iD 14])) zk ⟨rfl, rfl, rfl, rfl, rfl⟩ ?_
   rintro ⟨⟨z, y⟩, hinv2⟩
   obtain ⟨hz, hy⟩ : (z ≤ 14 ∧ 0 ≤ y ∧ y ≤ 15) ∧ (blM o q z = y) := hinv2
   refine qU (l := [(7, sV .i64 o q), (12, iV y), (13, rV 3 0)]) (g := [(3, some (3, .ds [iD (14 - (z : Int))]))]) (nx := 4) rfl rfl rfl ?_
   refine AW.seq ?_
   by_cases hx14 : ((0 : Int) < (14 - ((z : Nat) : Int)))
   ·refine kH [.no, .b true] (((0 : Int) < (14 - (z : Int)))) [(7, sV .i64 o q), (12, iV y), (13, rV 3 0), (40, bV true)] [(3, some (3, .ds [iD (14 - ↑z)]))] 4 zo ?_
    refine vI ?_
    refine AW.seq ?_
    refine AW.block ?_
    refine kQ [.no, .no] True [(7, sV .i64 o q), (12, iV y), (13, rV 3 0), (14, .e (.c (.fn 65 [(3, 0)])))] trivial ?_
    rcases ka9 (nQ o q (14 - ((z : Nat) : Int))) with hx15 | hx15
    ·refine kQ [.no, .no, .call [3] (bV true) [(0, some (3, .ds [iD (14 - (z : Int))]))] 1 [] none, .no, .no, .no] (Fun 66 [.c (.d (dl o q)), .c (.fn 65 [(0, 0)])] (kF [(0, some (3, .ds [iD (14 - (z : Int))]))]) 1 (bV true) (kF [(0, some (3, .ds [iD (14 - (z : Int))]))]) 1) [(7, sV .i64 o q), (12, iV y), (13, rV 3 0), (56, bV false)] (by have h0 := (u8g o q (14 - (z : Int)) zo zo); rw [hx15] at h0; exact h0) ?_
     refine uP ?_
     refine AW.seq ?_
     refine kH [.no] True [(7, sV .i64 o q), (12, iV y), (58, iV (14 - ↑z))] [] 4 trivial ?_
     refine vY [.no, .no] True [(7, sV .i64 o q), (12, iV y), (13, rV 4 0)] [(4, some (3, .ds [iD (14 - ↑z)]))] 5 trivial ?_
     refine vY [.no, .w, .no] (uZ ((14 - (z : Int)) - 1)) [(7, sV .i64 o q), (12, iV y), (13, rV 4 0)] [(4, some (3, .ds [iD ((14 - ↑z) - 1)]))] 5 ⟨by omega, by omega⟩ ?_
     exact kV ⟨(((z + 1) : Nat), (y : Int)), ⟨zo, (by exact v5b hy (by assumption))⟩⟩ [(3, 4)] (P := (kJ (dI .i64 o)) ∧ (kG q) ∧ (kM y) ∧ (kG 0) ∧ (([iD (14 - (((z + 1) : Nat) : Int))] : List D) = [iD ((14 - (z : Int)) - 1)])) zk ⟨rfl, rfl, rfl, rfl, (by (rw [show (14 - ((z + 1 : Nat) : Int)) = 14 - (z : Int) - 1 by omega]))⟩ (show 14 - (z + 1) < 14 - z from zo)
    ·by_cases hx16 : ((uG (14 - ((z : Nat) : Int))) ≤ (uG y))
     ·refine kQ [.no, .no, .call [3] (bV false) [(0, some (3, .ds [iD (14 - (z : Int))]))] 1 [] none, .no, .no, .no, .w, .call [] (iV (uG (14 - (z : Int)))) [] 0 [] none, .no, .w, .call [] (iV (uG y)) [] 0 [] none, .b true, .no] ((Fun 66 [.c (.d (dl o q)), .c (.fn 65 [(0, 0)])] (kF [(0, some (3, .ds [iD (14 - (z : Int))]))]) 1 (bV false) (kF [(0, some (3, .ds [iD (14 - (z : Int))]))]) 1) ∧ (0 ≤ (14 - (z : Int)) ∧ (14 - (z : Int)) ≤ 18446744073709551615) ∧ (_) ∧ (0 ≤ y ∧ y ≤ 18446744073709551615) ∧ (_) ∧ (((uG (14 - (z : Int))) ≤ (uG y)))) [(7, sV .i64 o q), (12, iV y), (13, rV 3 0), (56, bV true)] ⟨(by have h0 := (u8g o q (14 - (z : Int)) zo zo); rw [hx15] at h0; exact h0), ⟨by omega, by omega⟩, (xP (14 - (z : Int)) zo), ⟨by omega, by omega⟩, (xP y zo), zo⟩ ?_
      refine zt ?_
      refine u2 [.no, .no] True [(7, sV .i64 o q), (12, iV (14 - ↑z)), (13, rV 3 0)] trivial ?_
      refine AW.seq ?_
      refine kH [.no] True [(7, sV .i64 o q), (12, iV (14 - ↑z)), (58, iV (14 - ↑z))] [] 4 trivial ?_
      refine vY [.no, .no] True [(7, sV .i64 o q), (12, iV (14 - ↑z)), (13, rV 4 0)] [(4, some (3, .ds [iD (14 - ↑z)]))] 5 trivial ?_
      refine vY [.no, .w, .no] (uZ ((14 - (z : Int)) - 1)) [(7, sV .i64 o q), (12, iV (14 - ↑z)), (13, rV 4 0)] [(4, some (3, .ds [iD ((14 - ↑z) - 1)]))] 5 ⟨by omega, by omega⟩ ?_
      exact kV ⟨(((z + 1) : Nat), ((14 - (z : Int)) : Int)), ⟨zo, (by exact v59 hy (by assumption) zo rfl)⟩⟩ [(3, 4)] (P := (kJ (dI .i64 o)) ∧ (kG q) ∧ (kM (14 - (z : Int))) ∧ (kG 0) ∧ (([iD (14 - (((z + 1) : Nat) : Int))] : List D) = [iD ((14 - (z : Int)) - 1)])) zk ⟨rfl, rfl, rfl, rfl, (by (rw [show (14 - ((z + 1 : Nat) : Int)) = 14 - (z : Int) - 1 by omega]))⟩ (show 14 - (z + 1) < 14 - z from zo)
     ·refine kQ [.no, .no, .call [3] (bV false) [(0, some (3, .ds [iD (14 - (z : Int))]))] 1 [] none, .no, .no, .no, .w, .call [] (iV (uG (14 - (z : Int)))) [] 0 [] none, .no, .w, .call [] (iV (uG y)) [] 0 [] none, .b false, .no] ((Fun 66 [.c (.d (dl o q)), .c (.fn 65 [(0, 0)])] (kF [(0, some (3, .ds [iD (14 - (z : Int))]))]) 1 (bV false) (kF [(0, some (3, .ds [iD (14 - (z : Int))]))]) 1) ∧ (0 ≤ (14 - (z : Int)) ∧ (14 - (z : Int)) ≤ 18446744073709551615) ∧ (_) ∧ (0 ≤ y ∧ y ≤ 18446744073709551615) ∧ (_) ∧ (¬ ((uG (14 - (z : Int))) ≤ (uG y)))) [(7, sV .i64 o q), (12, iV y), (13, rV 3 0), (56, bV false)] ⟨(by have h0 := (u8g o q (14 - (z : Int)) zo zo); rw [hx15] at h0; exact h0), ⟨by omega, by omega⟩, (xP (14 - (z : Int)) zo), ⟨by omega, by omega⟩, (xP y zo), zo⟩ ?_
      refine uP ?_
      refine AW.seq ?_
      refine kH [.no] True [(7, sV .i64 o q), (12, iV y), (58, iV (14 - ↑z))] [] 4 trivial ?_
      refine vY [.no, .no] True [(7, sV .i64 o q), (12, iV y), (13, rV 4 0)] [(4, some (3, .ds [iD (14 - ↑z)]))] 5 trivial ?_
      refine vY [.no, .w, .no] (uZ ((14 - (z : Int)) - 1)) [(7, sV .i64 o q), (12, iV y), (13, rV 4 0)] [(4, some (3, .ds [iD ((14 - ↑z) - 1)]))] 5 ⟨by omega, by omega⟩ ?_
      exact kV ⟨(((z + 1) : Nat), (y : Int)), ⟨zo, (by exact v5a hy zo)⟩⟩ [(3, 4)] (P := (kJ (dI .i64 o)) ∧ (kG q) ∧ (kM y) ∧ (kG 0) ∧ (([iD (14 - (((z + 1) : Nat) : Int))] : List D) = [iD ((14 - (z : Int)) - 1)])) zk ⟨rfl, rfl, rfl, rfl, (by (rw [show (14 - ((z + 1 : Nat) : Int)) = 14 - (z : Int) - 1 by omega]))⟩ (show 14 - (z + 1) < 14 - z from zo)
   ·refine kH [.no, .b false] (¬ ((0 : Int) < (14 - (z : Int)))) [(7, sV .i64 o q), (12, iV y), (13, rV 3 0), (40, bV false)] [(3, some (3, .ds [iD (14 - ↑z)]))] 4 zo ?_
    refine zf ?_
    refine AW.exit ?_
    refine kH [.no, .no] True [(6, iV y)] [] 4 trivial ?_
    refine AW.ret ?_
    exact kA (.inr rfl) [] (P := (((blN d a b) : Int) = y)) zk (by exact (v5c zo ho zo hq hy zo).symm)
theorem k2t (ps : List Pt) (n : Nat) (hn : ka0 ps = n) (h1 : n ≤ 1000) (hW : PsW ps) : Fun 14 [.c (.d (D.sl (qH ps) n))] (kF []) 0 (.tup [.c (.d (D.sl (v8 (uL ps)) (ka0 (uL ps)))), .agg [iC (cK ps), iC (cL ps)], iE (uK ps)]) (kF []) 0 := by
 refine Fun.mk (n := 84) Tryz.func14 rfl rfl (ka4 rfl) ?_
 intro cx hcx
 refine kH [.no, .no, .no] True [(0, qB (qH ps) n), (3, rV 0 0)] [(0, some (32, .ds [iD 0, iD 0]))] 1 trivial ?_
 refine AW.seq ?_
 rcases ka9 (cM ps) with hx1 | hx1
 ·have hcl : 1 ≤ n ∧ n ≤ 16 := by have h9 := k27 hx1; omega
  refine kQ [.no, .call [] (bV true) [] 0 [] none, .no] (Fun 16 [.c (.d (D.sl (qH ps) n))] (kF []) 0 (bV true) (kF []) 0) [(0, qB (qH ps) n), (3, rV 0 0), (14, bV false)] (by have h0 := (lR ps n zo zo (qC : PsW ps)); rw [hx1] at h0; exact h0) ?_
  refine uP ?_
  have hx2 : ((ka0 (qF ps 0)) ≤ 1000) := (PsW.get (qC : PsW ps) (0)).2
  have hx3 : ((ka0 (aZ (qF ps 0))) ≤ (ka0 (qF ps 0))) := (Nat.le_trans (mH (qF ps 0)) (Nat.le_of_eq (rfl)))
  have hx4 : (((0 : Int) ≤ (iM (qF ps 0))) ∧ ((iM (qF ps 0)) ≤ 1)) := gT (qF ps 0)
  refine kQ (.no :: .n 0 :: .no :: .d (D.sl (kP (qF ps 0)) (ka0 (qF ps 0))) :: .call [] (.tup [.c (.d (D.sl (kP (aZ (qF ps 0))) (ka0 (aZ (qF ps 0))))), iE (iM (qF ps 0))]) [] 0 [] none :: qD 5 []) ((kM 0) ∧ ((0 : Nat) < n) ∧ ((ka3 0 (ka3 0 (qH ps)))[0]? = some (D.sl (kP (qF ps 0)) (ka0 (qF ps 0)))) ∧ (_)) [(0, qB (qH ps) n), (3, rV 0 0), (5, .e (yL (aZ (qF ps 0))))] ⟨rfl, zo, (by (rw [ke4]; exact (zV (i := 0) zo))), (u02 (qF ps 0) (ka0 (qF ps 0)) rfl zo (PsW.get (qC : PsW ps) _).1)⟩ ?_
  refine AW.seq ?_
  by_cases hx5 : ((((ka0 (aZ (qF ps 0))) : Nat) : Int) = 0)
  ·refine kQ [.no, .no, .b true] (((ka0 (aZ (qF ps 0)) : Int) = 0)) [(0, qB (qH ps) n), (3, rV 0 0), (5, .e (yL (aZ (qF ps 0)))), (26, bV true)] zo ?_
   refine zt ?_
   refine kH (qD 4 []) True [(2, nV), (3, rV 0 0), (4, iV 13)] [(0, some (32, .ds [iD 0, iD 15]))] 1 trivial ?_
   obtain ⟨hz1, hz2, hz3, hz4⟩ := k79 hx1 (by assumption)
   refine y6 (l' := [(2, qB ([] : List D) 0), (3, rV 0 0), (4, iV 13)]) (g' := [(0, some (32, .ds [iD 0, iD 15]))]) (NlS.cons rfl (.e (.c .nil)) (NlS.cons rfl (.same _) (NlS.cons rfl (.same _) NlS.nil))) (e7 rfl NlG.nil) ?_
   refine AW.ret ?_
   exact kA (.inr rfl) [] (P := (((v8 (uL ps)) : List D) = ([] : List D)) ∧ (((ka0 (uL ps)) : Nat) = 0) ∧ (((cK ps) : Int) = 0) ∧ (((cL ps) : Int) = 15) ∧ (((uK ps) : Int) = 13)) zk ⟨(by (rw [hz1]; rfl)), (by (rw [hz1]; rfl)), (by exact hz2), (by exact hz3), (by exact hz4)⟩
  ·refine kQ [.no, .no, .b false] (¬ ((ka0 (aZ (qF ps 0)) : Int) = 0)) [(0, qB (qH ps) n), (3, rV 0 0), (5, .e (yL (aZ (qF ps 0)))), (26, bV false)] zo ?_
   refine uP ?_
   refine kH [.no, .no, .no] True [(0, qB (qH ps) n), (3, rV 0 0), (7, oV 1 0 1 1)] [(0, some (32, .ds [iD 0, iD 0])), (1, some (45, .ds [D.sl (kP (aZ (qF ps 0))) (ka0 (aZ (qF ps 0)))]))] 2 trivial ?_
   refine AW.seq ?_
   refine kQ [.no] True [(0, qB (qH ps) n), (3, rV 0 0), (7, oV 1 0 1 1), (8, iV 1)] trivial ?_
   refine AW.block ?_
   refine kX 0 hcx (fun (x : {x : Nat // match x with | i => (i + 1 ≤ n) ∧ (oX ps (i + 1) = -1)}) => match x with | ⟨i, _⟩ => (⟨[(0, qB (qH ps) n), (3, rV 0 0), (7, oV 2 0 (i + 1) 1), (8, iV ((i : Int) + 1))], [(0, some (32, .ds [iD 0, iD 0])), (2, some (45, .ds (v8 (fY ps (i + 1)))))], 3⟩ : ES)) (fun x => match x with | ⟨i, _⟩ => n - i) ⟨(0 : Nat), ⟨zo, (v36 (by assumption))⟩⟩ [(2, 1)] (P := (kJ (qH ps)) ∧ (kG n) ∧ (kG 0) ∧ (kG 0) ∧ (kG 1) ∧ (kM 1) ∧ (kJ [iD 0, iD 0]) ∧ (((v8 (fY ps 1)) : List D) = [D.sl (kP (aZ (qF ps 0))) (ka0 (aZ (qF ps 0)))])) zk ⟨rfl, rfl, rfl, rfl, rfl, rfl, rfl, (by rfl)⟩ ?_
   rintro ⟨i, hinv0⟩
   obtain ⟨hi, hk⟩ : (i + 1 ≤ n) ∧ (oX ps (i + 1) = -1) := hinv0
   refine qU (l := [(0, qB (qH ps) n), (3, rV 0 0), (7, oV 2 0 (i + 1) 1), (8, iV ((i : Int) + 1))]) (g := [(0, some (32, .ds [iD 0, iD 0])), (2, some (45, .ds (v8 (fY ps (i + 1)))))]) (nx := 3) rfl rfl rfl ?_
   refine AW.seq ?_
   by_cases hx6 : ((((i : Nat) : Int) + 1) < ((n : Nat) : Int))
   ·refine kH [.no, .no, .no, .b true] ((((i : Int) + 1) < (n : Int))) [(0, qB (qH ps) n), (3, rV 0 0), (7, oV 2 0 (i + 1) 1), (8, iV (↑i + 1)), (33, bV true)] [(0, some (32, .ds [iD 0, iD 0])), (2, some (45, .ds (v8 (fY ps (i + 1)))))] 3 zo ?_
    refine vI ?_
    refine AW.seq ?_
    refine AW.block ?_
    have hx7 : ((ka0 (qF ps i)) ≤ 1000) := (PsW.get (qC : PsW ps) (i)).2
    refine kQ [.no, .no, .w, .n ((i + 1) - 1), .no, .d (iD (q6 ps i)), .no] ((uZ (((i : Int) + 1) - 1)) ∧ (((((i : Int) + 1) - 1) : Int) = ((((i + 1) - 1) : Nat) : Int)) ∧ (((i + 1) - 1) < n) ∧ ((ka3 1 (ka3 (((i + 1) - 1) * 2) (qH ps)))[0]? = some (iD (q6 ps i)))) [(0, qB (qH ps) n), (3, rV 0 0), (7, oV 2 0 (i + 1) 1), (8, iV (↑i + 1)), (9, iV (q6 ps i))] ⟨⟨by omega, by omega⟩, zo, zo, (by (rw [ke4]; exact (u0p (i := i) zo)))⟩ ?_
    have hx8 : ((ka0 (qF ps (i + 1))) ≤ 1000) := (PsW.get (qC : PsW ps) ((i + 1))).2
    have hx9 : ((ka0 (yF ps i)) ≤ 64) := k7a _ _
    have hx10 : (((0 : Int) ≤ (iN (q6 ps i) (qF ps (i + 1)) (yF ps i))) ∧ ((iN (q6 ps i) (qF ps (i + 1)) (yF ps i)) ≤ 3)) := k17 (q6 ps i) (qF ps (i + 1)) (yF ps i)
    have hx11 : ((ka0 (bT (q6 ps i) (qF ps (i + 1)) (yF ps i))) ≤ 64) := k5b (q6 ps i) (qF ps (i + 1)) (yF ps i)
    refine kQ [.no, .no, .n (i + 1), .no, .d (D.sl (kP (qF ps (i + 1))) (ka0 (qF ps (i + 1)))), .no, .no, .w, .n2 ((i + 1) - 1) ((i + 1) - 1), .d (D.sl (kP (yF ps i)) (ka0 (yF ps i))), .no, .call [] (.tup [.c (.d (D.sl (kP (bT (q6 ps i) (qF ps (i + 1)) (yF ps i))) (ka0 (bT (q6 ps i) (qF ps (i + 1)) (yF ps i))))), iE (iN (q6 ps i) (qF ps (i + 1)) (yF ps i))]) [] 0 [] none, .no, .no, .no, .no, .no] (((((i : Int) + 1) : Int) = (((i + 1) : Nat) : Int)) ∧ ((i + 1) < n) ∧ ((ka3 0 (ka3 ((i + 1) * 2) (qH ps)))[0]? = some (D.sl (kP (qF ps (i + 1))) (ka0 (qF ps (i + 1))))) ∧ (uZ (((i : Int) + 1) - 1)) ∧ (((((i : Int) + 1) - 1) : Int) = ((((i + 1) - 1) : Nat) : Int)) ∧ (((i + 1) - 1) < (i + 1)) ∧ ((0 : Nat) + ((i + 1) - 1) * 1 = ((i + 1) - 1)) ∧ ((v8 (fY ps (i + 1)))[((i + 1) - 1)]? = some (D.sl (kP (yF ps i)) (ka0 (yF ps i)))) ∧ (_)) [(0, qB (qH ps) n), (3, rV 0 0), (7, oV 2 0 (i + 1) 1), (8, iV (↑i + 1)), (9, iV (q6 ps i)), (10, .e (yL (bT (q6 ps i) (qF ps (i + 1)) (yF ps i)))), (11, iV (iN (q6 ps i) (qF ps (i + 1)) (yF ps i)))] ⟨(by rfl), zo, (by (rw [ke4]; exact (zV (i := (i + 1)) zo))), ⟨by omega, by omega⟩, zo, zo, zo, (k1y zo), (u2x (qF ps (i + 1)) (yF ps i) (ka0 (qF ps (i + 1))) (ka0 (yF ps i)) (q6 ps i) rfl rfl zo zo (PsW.get (qC : PsW ps) _).1 (k1z (qC : PsW ps) _))⟩ ?_
    refine AW.seq ?_
    by_cases hx12 : ((iN (q6 ps i) (qF ps (i + 1)) (yF ps i)) ≠ 0)
    ·refine kQ [.no, .b true] (((iN (q6 ps i) (qF ps (i + 1)) (yF ps i)) ≠ 0)) [(0, qB (qH ps) n), (3, rV 0 0), (7, oV 2 0 (i + 1) 1), (8, iV (↑i + 1)), (9, iV (q6 ps i)), (10, .e (yL (bT (q6 ps i) (qF ps (i + 1)) (yF ps i)))), (11, iV (iN (q6 ps i) (qF ps (i + 1)) (yF ps i))), (58, bV true)] zo ?_
     refine zt ?_
     refine kH (qD 5 []) True [(2, nV), (3, rV 0 0), (4, iV (iN (q6 ps i) (qF ps (i + 1)) (yF ps i)))] [(0, some (32, .ds [iD 0, iD 0]))] 3 trivial ?_
     obtain ⟨hz1, hz2, hz3, hz4⟩ := u72 hx1 hk zo (by assumption) (k17 _ _ _).2
     refine y6 (l' := [(2, qB ([] : List D) 0), (3, rV 0 0), (4, iV (iN (q6 ps i) (qF ps (i + 1)) (yF ps i)))]) (g' := [(0, some (32, .ds [iD 0, iD 0]))]) (NlS.cons rfl (.e (.c .nil)) (NlS.cons rfl (.same _) (NlS.cons rfl (.same _) NlS.nil))) (e7 rfl NlG.nil) ?_
     refine AW.ret ?_
     exact kA (.inr rfl) [] (P := (((v8 (uL ps)) : List D) = ([] : List D)) ∧ (((ka0 (uL ps)) : Nat) = 0) ∧ (((cK ps) : Int) = 0) ∧ (((cL ps) : Int) = 0) ∧ (((uK ps) : Int) = (iN (q6 ps i) (qF ps (i + 1)) (yF ps i)))) zk ⟨(by (rw [hz1]; rfl)), (by (rw [hz1]; rfl)), (by exact hz2), (by exact hz3), (by exact hz4)⟩
    ·refine kQ [.no, .b false] (¬ ((iN (q6 ps i) (qF ps (i + 1)) (yF ps i)) ≠ 0)) [(0, qB (qH ps) n), (3, rV 0 0), (7, oV 2 0 (i + 1) 1), (8, iV (↑i + 1)), (9, iV (q6 ps i)), (10, .e (yL (bT (q6 ps i) (qF ps (i + 1)) (yF ps i)))), (11, iV (iN (q6 ps i) (qF ps (i + 1)) (yF ps i))), (58, bV false)] zo ?_
     refine uP ?_
     refine AW.seq ?_
     by_cases hx13 : ((((ka0 (bT (q6 ps i) (qF ps (i + 1)) (yF ps i))) : Nat) : Int) = 0)
     ·refine kQ [.no, .no, .b true] (((((ka0 (bT (q6 ps i) (qF ps (i + 1)) (yF ps i))) : Nat) : Int) = 0)) [(0, qB (qH ps) n), (3, rV 0 0), (7, oV 2 0 (i + 1) 1), (8, iV (↑i + 1)), (9, iV (q6 ps i)), (10, .e (yL (bT (q6 ps i) (qF ps (i + 1)) (yF ps i)))), (63, bV true)] zo ?_
      refine zt ?_
      refine kH [.no, .no, .no, .n (i + 1), .no, .d (D.sl (kP (qF ps (i + 1))) (ka0 (qF ps (i + 1)))), .no, .no, .w, .n2 ((i + 1) - 1) ((i + 1) - 1), .d (D.sl (kP (yF ps i)) (ka0 (yF ps i))), .no, .call [] (iV (blN (q6 ps i) (qF ps (i + 1)) (yF ps i))) [] 0 [] none, .no, .no, .no, .no] (((((i : Int) + 1) : Int) = (((i + 1) : Nat) : Int)) ∧ ((i + 1) < n) ∧ ((ka3 0 (ka3 ((i + 1) * 2) (qH ps)))[0]? = some (D.sl (kP (qF ps (i + 1))) (ka0 (qF ps (i + 1))))) ∧ (uZ (((i : Int) + 1) - 1)) ∧ (((((i : Int) + 1) - 1) : Int) = ((((i + 1) - 1) : Nat) : Int)) ∧ (((i + 1) - 1) < (i + 1)) ∧ ((0 : Nat) + ((i + 1) - 1) * 1 = ((i + 1) - 1)) ∧ ((v8 (fY ps (i + 1)))[((i + 1) - 1)]? = some (D.sl (kP (yF ps i)) (ka0 (yF ps i)))) ∧ (_)) [(2, nV), (3, rV 0 0), (4, iV 13)] [(0, some (32, .ds [iD (↑i + 1), iD (blN (q6 ps i) (qF ps (i + 1)) (yF ps i))]))] 3 ⟨(by rfl), zo, (by (rw [ke4]; exact (zV (i := (i + 1)) zo))), ⟨by omega, by omega⟩, zo, zo, zo, (k1y zo), (u2y (qF ps (i + 1)) (yF ps i) (ka0 (qF ps (i + 1))) (ka0 (yF ps i)) (q6 ps i) rfl rfl zo zo (PsW.get (qC : PsW ps) _).1 (k1z (qC : PsW ps) _))⟩ ?_
      obtain ⟨hz1, hz2, hz3, hz4⟩ := k78 hx1 hk zo (by assumption) (by assumption)
      refine y6 (l' := [(2, qB ([] : List D) 0), (3, rV 0 0), (4, iV 13)]) (g' := [(0, some (32, .ds [iD ((i : Int) + 1), iD (blN (q6 ps i) (qF ps (i + 1)) (yF ps i))]))]) (NlS.cons rfl (.e (.c .nil)) (NlS.cons rfl (.same _) (NlS.cons rfl (.same _) NlS.nil))) (e7 rfl NlG.nil) ?_
      refine AW.ret ?_
      exact kA (.inr rfl) [] (P := (((v8 (uL ps)) : List D) = ([] : List D)) ∧ (((ka0 (uL ps)) : Nat) = 0) ∧ (((cK ps) : Int) = ((i : Int) + 1)) ∧ (((cL ps) : Int) = (blN (q6 ps i) (qF ps (i + 1)) (yF ps i))) ∧ (((uK ps) : Int) = 13)) zk ⟨(by (rw [hz1]; rfl)), (by (rw [hz1]; rfl)), (by exact hz2), (by exact hz3), (by exact hz4)⟩
     ·refine kQ [.no, .no, .b false] (¬ ((((ka0 (bT (q6 ps i) (qF ps (i + 1)) (yF ps i))) : Nat) : Int) = 0)) [(0, qB (qH ps) n), (3, rV 0 0), (7, oV 2 0 (i + 1) 1), (8, iV (↑i + 1)), (9, iV (q6 ps i)), (10, .e (yL (bT (q6 ps i) (qF ps (i + 1)) (yF ps i)))), (63, bV false)] zo ?_
      refine uP ?_
      refine vY [.no, .no, .no, .ap none ((i + 1) + 1) (v8 ((fY ps (i + 1)) ++ ([(bT (q6 ps i) (qF ps (i + 1)) (yF ps i))] : List (List Bx)))), .no] (([D.sl (kP (bT (q6 ps i) (qF ps (i + 1)) (yF ps i))) (ka0 (bT (q6 ps i) (qF ps (i + 1)) (yF ps i)))].length = 1 * 1) ∧ (((v8 (fY ps (i + 1))) : List D).length = (i + 1) * 1) ∧ (((i + 1) + 1) * 24 ≤ 140737488355328) ∧ ((i + 1) + 1 = ((i + 1) + 1)) ∧ (((v8 (fY ps (i + 1))) : List D) ++ [D.sl (kP (bT (q6 ps i) (qF ps (i + 1)) (yF ps i))) (ka0 (bT (q6 ps i) (qF ps (i + 1)) (yF ps i)))] = (v8 ((fY ps (i + 1)) ++ ([(bT (q6 ps i) (qF ps (i + 1)) (yF ps i))] : List (List Bx)))))) [(0, qB (qH ps) n), (3, rV 0 0), (7, oV 4 0 ((i + 1) + 1) 1), (8, iV (↑i + 1))] [(0, some (32, .ds [iD 0, iD 0])), (4, some (45, .ds (v8 ((fY ps (i + 1)) ++ ([(bT (q6 ps i) (qF ps (i + 1)) (yF ps i))] : List (List Bx))))))] 5 ⟨yH, yH, zo, zo, (u2j (fY ps (i + 1)) (bT (q6 ps i) (qF ps (i + 1)) (yF ps i)) (ka0 (bT (q6 ps i) (qF ps (i + 1)) (yF ps i))) (by rfl))⟩ ?_
      refine u2 [.no, .w, .no] (uZ (((i : Int) + 1) + 1)) [(0, qB (qH ps) n), (3, rV 0 0), (7, oV 4 0 ((i + 1) + 1) 1), (8, iV ((↑i + 1) + 1))] ⟨by omega, by omega⟩ ?_
      exact kV ⟨((i + 1) : Nat), ⟨zo, (bQ hk (v35 (by assumption) (by assumption)))⟩⟩ [(2, 4)] (P := (kJ (qH ps)) ∧ (kG n) ∧ (kG 0) ∧ (kG 0) ∧ (kG ((i + 1) + 1)) ∧ ((((((i + 1) : Nat) : Int) + 1) : Int) = (((i : Int) + 1) + 1)) ∧ (kJ [iD 0, iD 0]) ∧ (((v8 (fY ps ((i + 1) + 1))) : List D) = (v8 ((fY ps (i + 1)) ++ ([(bT (q6 ps i) (qF ps (i + 1)) (yF ps i))] : List (List Bx)))))) zk ⟨rfl, rfl, rfl, rfl, rfl, (by rfl), rfl, (by exact congrArg v8 (v1b ps _))⟩ (show n - (i + 1) < n - i from zo)
   ·refine kH [.no, .no, .no, .b false] (¬ (((i : Int) + 1) < (n : Int))) [(0, qB (qH ps) n), (3, rV 0 0), (7, oV 2 0 (i + 1) 1), (8, iV (↑i + 1)), (33, bV false)] [(0, some (32, .ds [iD 0, iD 0])), (2, some (45, .ds (v8 (fY ps (i + 1)))))] 3 zo ?_
    refine zf ?_
    refine AW.exit ?_
    refine kH (qD 5 []) True [(2, oV 2 0 (i + 1) 1), (3, rV 0 0), (4, iV 0)] [(0, some (32, .ds [iD 0, iD 0])), (2, some (45, .ds (v8 (fY ps (i + 1)))))] 3 trivial ?_
    obtain ⟨hz1, hz2, hz3, hz4⟩ := u3x hx1 hk zo
    refine AW.freeze 2 (l' := [(2, qB (v8 (fY ps (i + 1))) (i + 1)), (3, rV 0 0), (4, iV 0)]) (g' := [(0, some (32, .ds [iD 0, iD 0]))]) rfl (FzS.cons rfl (.e (.c (@FzC.own 2 ((v8 (fY ps (i + 1))) : List D) 0 (i + 1) 1 true ((v8 (fY ps (i + 1))) : List D) (by rw [kd3, kc6, kb7 (by (simp only [qA, k9, qS, qY, q5, qP, ka8, kb0, kb2, kb4, kb6, kb5, kc1, kc3, kc0, kc6] <;> omega))]) yH))) (FzS.cons rfl (.same _) (FzS.cons rfl (.same _) FzS.nil))) (u1 rfl rfl FzG.nil) ?_
    have hz5 : ka0 ps = i + 1 := by omega
    refine AW.ret ?_
    exact kA (.inr rfl) [] (P := (((v8 (uL ps)) : List D) = (v8 (fY ps (i + 1)))) ∧ (((ka0 (uL ps)) : Nat) = (i + 1)) ∧ (((cK ps) : Int) = 0) ∧ (((cL ps) : Int) = 0) ∧ (((uK ps) : Int) = 0)) zk ⟨(by (rw [hz1, hz5]; done)), (by (rw [hz1, hz5, q5]; done)), (by exact hz2), (by exact hz3), (by exact hz4)⟩
 ·refine kQ [.no, .call [] (bV false) [] 0 [] none, .no] (Fun 16 [.c (.d (D.sl (qH ps) n))] (kF []) 0 (bV false) (kF []) 0) [(0, qB (qH ps) n), (3, rV 0 0), (14, bV true)] (by have h0 := (lR ps n zo zo (qC : PsW ps)); rw [hx1] at h0; exact h0) ?_
  refine zt ?_
  refine kQ (qD 4 []) True [(2, nV), (3, rV 0 0), (4, iV 1)] trivial ?_
  obtain ⟨hz1, hz2, hz3, hz4⟩ := u73 hx1
  refine y6 (l' := [(2, qB ([] : List D) 0), (3, rV 0 0), (4, iV 1)]) (g' := [(0, some (32, .ds [iD 0, iD 0]))]) (NlS.cons rfl (.e (.c .nil)) (NlS.cons rfl (.same _) (NlS.cons rfl (.same _) NlS.nil))) (e7 rfl NlG.nil) ?_
  refine AW.ret ?_
  exact kA (.inr rfl) [] (P := (((v8 (uL ps)) : List D) = ([] : List D)) ∧ (((ka0 (uL ps)) : Nat) = 0) ∧ (((cK ps) : Int) = 0) ∧ (((cL ps) : Int) = 0) ∧ (((uK ps) : Int) = 1)) zk ⟨(by (rw [hz1]; rfl)), (by (rw [hz1]; rfl)), (by exact hz2), (by exact hz3), (by exact hz4)⟩
end Go.Proofs.YtbicifcgghmhaaaGreat
