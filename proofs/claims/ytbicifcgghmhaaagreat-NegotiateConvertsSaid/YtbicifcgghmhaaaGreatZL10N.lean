/- The best choice, of the code. No statement is proved here. -/
import Derived.Test.YtbicifcgghmhaaaGreatZL10M
namespace Go.Proofs.YtbicifcgghmhaaaGreat
open Go.ChangeShapes Go.WideShapes Go.ChangeAt Go.RowKit
open List renaming drop → ka3, getD → ka1, length → ka0, length_append → ka6, length_cons → ka9, length_drop → kb2, length_map → kc3, length_nil → kb0, length_replicate → kb4, length_reverse → kc1, length_set → kb8, length_take → kb1
open Nat renaming le_of_ble_eq_true → ka4, mul_one → kc7
set_option linter.unusedVariables false
set_option linter.unusedSimpArgs false
set_option maxHeartbeats 4000000
set_option maxRecDepth 100000
theorem u0y (k r : Int) (m : List Int) (n : Nat) (hm : ka0 m = n) (h1 : n ≤ 1000000) : Fun 80 [.agg [iC k, iC r, .d (D.sl (dI .i64 m) n)]] (kF []) 0 (.e (.agg [iC k, iC r, .d (D.sl (dI .i64 m) n)])) (kF []) 0 := by
 refine Fun.mk (n := 8) Tryz.func80 rfl rfl (ka4 rfl) ?_
 intro cx hcx
 refine kI [.no, .no] True [(1, rV 0 0), (2, rV 1 0)] [(0, some (40, .ds [iD k, iD r, dl m n])), (1, some (40, .ds [iD 0, iD 0, qQ]))] 2 trivial ?_
 refine kI [.no, .no, .call [] (oV 0 0 n 1) [(0, some (3, .ds (dI .i64 m)))] 1 [] none, .no, .no] _ [(1, rV 0 0), (2, rV 1 0)] [(0, some (40, .cs [iC k, iC r, .own 2 0 n 1 true])), (1, some (40, .ds [iD 0, iD 0, qQ])), (2, some (3, .ds (dI .i64 m)))] 3 (dJ m n zo zo) ?_
 refine kI [.no, .no] True [(2, rV 1 0)] [(1, some (40, .cs [iC k, iC r, .own 2 0 n 1 true])), (2, some (3, .ds (dI .i64 m)))] 3 trivial ?_
 refine AW.freeze 2 (l' := [(2, rV 1 0)]) (g' := [(1, some (40, .ds [iD k, iD r, dl m n]))]) rfl (FzS.cons rfl (.same _) FzS.nil) (FzG.to (bc := .cs [iC k, iC r, .own 2 0 n 1 true]) rfl (by rfl) (FzL.cons (.same _) (FzL.cons (.same _) (FzL.cons (@FzC.own 2 ((dI .i64 m) : List D) 0 n 1 true ((dI .i64 m) : List D) (by rw [List.drop_zero, kc7, List.take_of_length_le (by first | omega | (simp only [kZ, kY, qV, ka6, ka9, kb0, kb1, kb2, kb4, kb8, kc3, kc1, kc7] <;> omega))]) (by first | omega | (simp only [kZ, kY, qV, ka6, ka9, kb0, kb1, kb2, kb4, kb8, kc3, kc1, kc7] <;> omega) | rfl)) FzL.nil))) FzG.nil) ?_
 refine AW.ret ?_
 exact EndP.of (.inr rfl) [] (P := (kP k) ∧ (kP r) ∧ (kM (dI .i64 m)) ∧ (kH n)) zk ⟨rfl, rfl, rfl, rfl⟩
theorem oF (k r : Int) (m : List Int) (n : Nat) (z : Int) (hm : ka0 m = n) (h1 : n ≤ 1000000) : Fun 48 [.agg [iC k, iC r, .d (D.sl (dI .i64 m) n), iC z]] (kF []) 0 (.e (.agg [iC k, iC r, .d (D.sl (dI .i64 m) n), iC z])) (kF []) 0 := by
 refine Fun.mk (n := 8) Tryz.func48 rfl rfl (ka4 rfl) ?_
 intro cx hcx
 refine kI [.no, .no] True [(1, rV 0 0), (2, rV 1 0)] [(0, some (42, .ds [iD k, iD r, dl m n, iD z])), (1, some (42, .ds [iD 0, iD 0, qQ, iD 0]))] 2 trivial ?_
 refine kS [.no, .no, .call [] (.e (.agg [iC k, iC r, .d (dl m n)])) [] 0 [] none, .no, .no] _ [(1, rV 0 0), (2, rV 1 0)] (u0y k r m n zo zo) ?_
 refine kI [.no, .no] True [(2, rV 1 0)] [(1, some (42, .ds [iD k, iD r, dl m n, iD z]))] 2 trivial ?_
 refine AW.ret ?_
 exact EndP.of (.inr rfl) [] (P := (kP k) ∧ (kP r) ∧ (kM (dI .i64 m)) ∧ (kH n) ∧ (kP z)) zk ⟨rfl, rfl, rfl, rfl, rfl⟩
theorem k3s (w a b : List Int) (o n m : Nat) (wk wr wz : Int) (ho : ka0 w = o) (hn : ka0 a = n) (hm : ka0 b = m) (h1 : o ≤ 1000000) (h2 : n ≤ 1000000) (h3 : m ≤ 1000000) : Fun 116 [.c (.d (D.sl (dI .i64 a) n)), .c (.d (D.sl (dI .i64 b) m)), .c (.ptr 0 0)] (kF [(0, some (42, .ds [iD wk, iD wr, D.sl (dI .i64 w) o, iD wz]))]) 1 (iV (c6 w a b)) (kF [(0, some (42, .ds [iD wk, iD wr, D.sl (dI .i64 w) o, iD wz]))]) 1 := by
 refine Fun.mk (n := 12) Tryz.func116 rfl rfl (ka4 rfl) ?_
 intro cx hcx
 refine kI [.no] True [(0, sV .i64 a n), (1, sV .i64 b m), (2, rV 0 0)] [(0, some (42, .ds [iD wk, iD wr, dl w o, iD wz]))] 1 trivial ?_
 have hx1 : ((((-1) : Int) ≤ (c6 w a b)) ∧ ((c6 w a b) ≤ 1)) := f6 w a b
 refine kS (qN 5 [.call [] (iV (c6 w a b)) [] 0 [] none, .no]) _ [(5, iV (c6 w a b))] (u0k w a b o n m zo zo zo zo zo zo) ?_
 refine AW.ret ?_
 exact EndP.of (.inr rfl) [] (P := (kP (c6 w a b)) ∧ (kM [iD wk, iD wr, dl w o, iD wz])) zk ⟨rfl, rfl⟩
theorem jU {p : Prop} (h : p := by first | omega | (simp only [kZ, kY, ka6, ka9, kb0, kb1, kb2] <;> omega)) : p := h
theorem cL {p : Prop} (h : p := by first | omega | assumption | simp) : p := h
theorem yJ {p : Prop} (h : p := by first | omega | with_reducible assumption | (simp only [kZ, kY, ka6, ka9, kb0, kb1, kb2, kb4, kb8] <;> omega) | rfl | assumption) : p := h
theorem fF {p : Prop} (h : p := by first | rfl | omega | assumption | (simp; done) | (simp; omega)) : p := h
theorem fE {p : Prop} (h : p := by first | omega | (show _ < _; simp; omega)) : p := h
abbrev fN (wk : Int) (wr : Int) (w : List Int) (wn : Nat) (wz : Int) : BC := .ds [iD wk, iD wr, D.sl (dI .i64 w) wn, iD wz]
theorem v2y (m : List (List Int)) (c : Nat) (wk wr : Int) (w : List Int) (wn : Nat) (wz : Int) (hc : ka0 m = c) (h3 : c ≤ 1000000) (h4 : 1 ≤ c) (hW : MsW m) (hw : ka0 w = wn) (h5 : wn ≤ 1000000) : Fun 115 [.c (.d (D.sl (kK m) c)), .c (.fn 116 [(0, 0)])] (kF [(0, some (42, .ds [iD wk, iD wr, D.sl (dI .i64 w) wn, iD wz]))]) 1 (sV .i64 (fC w m c) (ka0 (fC w m c))) (kF [(0, some (42, .ds [iD wk, iD wr, D.sl (dI .i64 w) wn, iD wz]))]) 1 := by
 refine Fun.mk (n := 33) Tryz.func115 rfl rfl (ka4 rfl) ?_
 intro cx hcx
 refine kI [.no] True [(0, qK (kK m) c), (1, .e (.c (.fn 116 [(0, 0)])))] [(0, some (42, (fN wk wr w wn wz)))] 1 trivial ?_
 refine AW.seq ?_
 refine kS [.no, .no, .b false] (¬ ((c : Int) < 1)) [(0, qK (kK m) c), (1, .e (.c (.fn 116 [(0, 0)]))), (9, bV false)] zo ?_
 refine u9 ?_
 have hx1 : ((ka0 (ka1 m 0 ([] : List Int))) ≤ 1000000) := MsW.at (qJ : MsW m) _
 refine kS [.no, .n 0, .d (dl (ka1 m 0 ([] : List Int)) (ka0 (ka1 m 0 ([] : List Int)))), .no] ((kP 0) ∧ ((0 : Nat) < c) ∧ ((ka3 0 (kK m))[0]? = some (dl (ka1 m 0 ([] : List Int)) (ka0 (ka1 m 0 ([] : List Int)))))) [(0, qK (kK m) c), (1, .e (.c (.fn 116 [(0, 0)]))), (5, sV .i64 (ka1 m 0 ([] : List Int)) (ka0 (ka1 m 0 ([] : List Int))))] ⟨rfl, zo, (bK _ _ jU)⟩ ?_
 refine AW.seq ?_
 refine kS [.no] True [(0, qK (kK m) c), (1, .e (.c (.fn 116 [(0, 0)]))), (5, sV .i64 (ka1 m 0 ([] : List Int)) (ka0 (ka1 m 0 ([] : List Int)))), (6, iV 1)] trivial ?_
 refine AW.block ?_
 refine qF 1 hcx (fun (x : {x : Nat × List Int // match x with | (j, u) => (1 ≤ j ∧ j ≤ c) ∧ (fC w m j = u) ∧ (ka0 u ≤ 1000000)}) => match x with | ⟨(j, u), _⟩ => (⟨[(0, qK (kK m) c), (1, .e (.c (.fn 116 [(0, 0)]))), (5, sV .i64 u (ka0 u)), (6, uV j)], [(0, some (42, (fN wk wr w wn wz)))], 1⟩ : ES)) (fun x => match x with | ⟨(j, u), _⟩ => c - j) ⟨((1 : Nat), ((ka1 m 0 ([] : List Int)) : List Int)), ⟨cL, (v29 rfl), zo⟩⟩ [] (P := (kM (kK m)) ∧ (kH c) ∧ (kM (dI .i64 (ka1 m 0 ([] : List Int)))) ∧ (kH (ka0 (ka1 m 0 ([] : List Int)))) ∧ (kP 1) ∧ (kM [iD wk, iD wr, dl w wn, iD wz])) zk ⟨rfl, rfl, rfl, rfl, rfl, rfl⟩ ?_
 rintro ⟨⟨j, u⟩, hinv0⟩
 obtain ⟨hj, hu, hul⟩ : (1 ≤ j ∧ j ≤ c) ∧ (fC w m j = u) ∧ (ka0 u ≤ 1000000) := hinv0
 refine uG (l := [(0, qK (kK m) c), (1, .e (.c (.fn 116 [(0, 0)]))), (5, sV .i64 u (ka0 u)), (6, uV j)]) (g := [(0, some (42, (fN wk wr w wn wz)))]) (nx := 1) rfl rfl rfl ?_
 refine AW.seq ?_
 by_cases hx2 : (((j : Nat) : Int) < ((c : Nat) : Int))
 ·refine kI [.no, .no, .no, .b true] (((j : Int) < (c : Int))) [(0, qK (kK m) c), (1, .e (.c (.fn 116 [(0, 0)]))), (5, sV .i64 u (ka0 u)), (6, uV j), (17, bV true)] [(0, some (42, (fN wk wr w wn wz)))] 1 zo ?_
  refine vO ?_
  refine AW.seq ?_
  refine AW.block ?_
  by_cases hx5 : ((c6 w (ka1 m j ([] : List Int)) u) < 0)
  ·have hx6 : ((ka0 (ka1 m j ([] : List Int))) ≤ 1000000) := MsW.at (qJ : MsW m) _
   have hx7 : ((((-1) : Int) ≤ (c6 w (ka1 m j ([] : List Int)) u)) ∧ ((c6 w (ka1 m j ([] : List Int)) u) ≤ 1)) := f6 w (ka1 m j ([] : List Int)) u
   refine kS [.no, .no, .no, .n j, .d (dl (ka1 m j ([] : List Int)) (ka0 (ka1 m j ([] : List Int)))), .no, .call [0] (iV (c6 w (ka1 m j ([] : List Int)) u)) [(0, some (42, (fN wk wr w wn wz)))] 1 [] none, .b true] ((kP (j : Int)) ∧ (j < c) ∧ ((ka3 j (kK m))[0]? = some (dl (ka1 m j ([] : List Int)) (ka0 (ka1 m j ([] : List Int))))) ∧ (_) ∧ (((c6 w (ka1 m j ([] : List Int)) u) < 0))) [(0, qK (kK m) c), (1, .e (.c (.fn 116 [(0, 0)]))), (5, sV .i64 u (ka0 u)), (6, uV j), (27, bV true)] ⟨rfl, zo, (bK _ _ jU), (k3s w (ka1 m j ([] : List Int)) u wn (ka0 (ka1 m j ([] : List Int))) (ka0 u) wk wr wz zo rfl rfl zo yJ zo), zo⟩ ?_
   refine zt ?_
   refine yK [.no, .no, .n j, .d (dl (ka1 m j ([] : List Int)) (ka0 (ka1 m j ([] : List Int)))), .no] ((kP (j : Int)) ∧ (j < c) ∧ ((ka3 j (kK m))[0]? = some (dl (ka1 m j ([] : List Int)) (ka0 (ka1 m j ([] : List Int)))))) [(0, qK (kK m) c), (1, .e (.c (.fn 116 [(0, 0)]))), (5, sV .i64 (ka1 m j ([] : List Int)) (ka0 (ka1 m j ([] : List Int)))), (6, uV j)] ⟨rfl, zo, (bK _ _ jU)⟩ ?_
   refine yK [.no, .w, .no] (yF ((j : Int) + 1)) [(0, qK (kK m) c), (1, .e (.c (.fn 116 [(0, 0)]))), (5, sV .i64 (ka1 m j ([] : List Int)) (ka0 (ka1 m j ([] : List Int)))), (6, iV (↑j + 1))] ⟨by omega, by omega⟩ ?_
   exact Rd.of ⟨(((j + 1) : Nat), ((ka1 m j ([] : List Int)) : List Int)), ⟨cL, (by first | exact u8l hu zo rfl | exact u8m hu zo zo), (by first | omega | assumption)⟩⟩ [] (P := (kM (kK m)) ∧ (kH c) ∧ (kM (dI .i64 (ka1 m j ([] : List Int)))) ∧ (kH (ka0 (ka1 m j ([] : List Int)))) ∧ (cU j) ∧ (kM [iD wk, iD wr, dl w wn, iD wz])) zk ⟨rfl, rfl, rfl, rfl, fF, rfl⟩ (show c - (j + 1) < c - j from fE)
  ·have hx8 : ((ka0 (ka1 m j ([] : List Int))) ≤ 1000000) := MsW.at (qJ : MsW m) _
   have hx9 : ((((-1) : Int) ≤ (c6 w (ka1 m j ([] : List Int)) u)) ∧ ((c6 w (ka1 m j ([] : List Int)) u) ≤ 1)) := f6 w (ka1 m j ([] : List Int)) u
   refine kS [.no, .no, .no, .n j, .d (dl (ka1 m j ([] : List Int)) (ka0 (ka1 m j ([] : List Int)))), .no, .call [0] (iV (c6 w (ka1 m j ([] : List Int)) u)) [(0, some (42, (fN wk wr w wn wz)))] 1 [] none, .b false] ((kP (j : Int)) ∧ (j < c) ∧ ((ka3 j (kK m))[0]? = some (dl (ka1 m j ([] : List Int)) (ka0 (ka1 m j ([] : List Int))))) ∧ (_) ∧ (¬ ((c6 w (ka1 m j ([] : List Int)) u) < 0))) [(0, qK (kK m) c), (1, .e (.c (.fn 116 [(0, 0)]))), (5, sV .i64 u (ka0 u)), (6, uV j), (27, bV false)] ⟨rfl, zo, (bK _ _ jU), (k3s w (ka1 m j ([] : List Int)) u wn (ka0 (ka1 m j ([] : List Int))) (ka0 u) wk wr wz zo rfl rfl zo yJ zo), zo⟩ ?_
   refine u9 ?_
   refine yK [.no, .w, .no] (yF ((j : Int) + 1)) [(0, qK (kK m) c), (1, .e (.c (.fn 116 [(0, 0)]))), (5, sV .i64 u (ka0 u)), (6, iV (↑j + 1))] ⟨by omega, by omega⟩ ?_
   exact Rd.of ⟨(((j + 1) : Nat), (u : List Int)), ⟨cL, (by first | exact u8l hu zo rfl | exact u8m hu zo zo), (by first | omega | assumption)⟩⟩ [] (P := (kM (kK m)) ∧ (kH c) ∧ (kM (dI .i64 u)) ∧ (kH (ka0 u)) ∧ (cU j) ∧ (kM [iD wk, iD wr, dl w wn, iD wz])) zk ⟨rfl, rfl, rfl, rfl, fF, rfl⟩ (show c - (j + 1) < c - j from fE)
 ·refine kI [.no, .no, .no, .b false] (¬ ((j : Int) < (c : Int))) [(0, qK (kK m) c), (1, .e (.c (.fn 116 [(0, 0)]))), (5, sV .i64 u (ka0 u)), (6, uV j), (17, bV false)] [(0, some (42, (fN wk wr w wn wz)))] 1 zo ?_
  refine zf ?_
  refine AW.exit ?_
  refine kI [.no, .no] True [(4, sV .i64 u (ka0 u))] [(0, some (42, (fN wk wr w wn wz)))] 1 trivial ?_
  have hz2 : fC w m c = u := by have h9 := hu; rw [show j = c by omega] at h9; exact h9
  refine AW.ret ?_
  exact EndP.of (.inr rfl) [] (P := (((dI .i64 (fC w m c)) : List D) = (dI .i64 u)) ∧ (((ka0 (fC w m c)) : Nat) = (ka0 u)) ∧ (kM [iD wk, iD wr, dl w wn, iD wz])) zk ⟨(by first | rfl | rw [hz2]), (by first | rfl | rw [hz2] | omega), rfl⟩
abbrev hG : BC := .ds [iD 0, iD 0, D.lit (.slice none 0 0), iD 0]
abbrev j6 (k : Int) (r : List Int) (rn : Nat) (m : List (List Int)) (c : Nat) (s : List Int) (sn : Nat) : BC := .ds [iD k, D.sl (dI .i64 r) rn, D.sl (kK m) c, D.sl (dI .i64 s) sn]
abbrev hD (wk : Int) (wr : Int) (w : List Int) (wn : Nat) (wz : Int) : BC := .ds [iD wk, iD wr, D.sl (dI .i64 w) wn, iD wz]
theorem z7 (k : Int) (r : List Int) (rn : Nat) (m : List (List Int)) (c : Nat) (s : List Int) (sn : Nat) (wk wr : Int) (w : List Int) (wn : Nat) (wz : Int) (hr : ka0 r = rn * 2) (hs : ka0 s = sn * 2) (hc : ka0 m = c) (h1 : rn ≤ 1000000) (h2 : sn ≤ 1000000) (h3 : c ≤ 1000000) (h4 : 1 ≤ c) (hW : MsW m) (hw : ka0 w = wn) (h5 : wn ≤ 1000000) (hwr : -9223372036854775808 ≤ wr ∧ wr ≤ 9223372036854775807) (hwz : -9223372036854775808 ≤ wz ∧ wz ≤ 9223372036854775807) : Fun 78 [.agg [iC k, .d (D.sl (dI .i64 r) rn), .d (D.sl (kK m) c), .d (D.sl (dI .i64 s) sn)], .agg [iC wk, iC wr, .d (D.sl (dI .i64 w) wn), iC wz]] (kF []) 0 (.e (.agg [iC (cE k wk 7), iC (vG wr (kB r rn)), .d (D.sl (dI .i64 (fC w m c)) (ka0 (fC w m c))), iC (vG wz (kB s sn))])) (kF []) 0 := by
 refine Fun.mk (n := 63) Tryz.func78 rfl rfl (ka4 rfl) ?_
 intro cx hcx
 refine kI [.no, .no, .no] True [(2, rV 0 0), (3, rV 1 0), (4, rV 2 0)] [(0, some (63, (j6 k r rn m c s sn))), (1, some (42, (hD wk wr w wn wz))), (2, some (42, hG))] 3 trivial ?_
 refine kS [.no] True [(2, rV 0 0), (3, rV 1 0), (4, rV 2 0), (5, iV 0)] trivial ?_
 refine AW.seq ?_
 refine kS [.no] True [(2, rV 0 0), (3, rV 1 0), (4, rV 2 0), (5, iV 0), (6, iV 1)] trivial ?_
 refine AW.block ?_
 refine qF 0 hcx (fun (x : {x : Nat × Int // match x with | (i, y) => (i ≤ 7 ∧ 0 ≤ y ∧ y ≤ 7) ∧ (cE k wk i = y)}) => match x with | ⟨(i, y), _⟩ => (⟨[(2, rV 0 0), (3, rV 1 0), (4, rV 2 0), (5, iV y), (6, iV ((i : Int) + 1))], [(0, some (63, (j6 k r rn m c s sn))), (1, some (42, (hD wk wr w wn wz))), (2, some (42, hG))], 3⟩ : ES)) (fun x => match x with | ⟨(i, y), _⟩ => 7 - i) ⟨((0 : Nat), (0 : Int)), ⟨cL, rfl⟩⟩ [] (P := (kH 0) ∧ (kH 0) ∧ (kH 0) ∧ (kP 0) ∧ (kP 1) ∧ (kM [iD k, dl r rn, D.sl (kK m) c, dl s sn]) ∧ (kM [iD wk, iD wr, dl w wn, iD wz]) ∧ (kM [iD 0, iD 0, qQ, iD 0])) zk ⟨rfl, rfl, rfl, rfl, rfl, rfl, rfl, rfl⟩ ?_
 rintro ⟨⟨i, y⟩, hinv0⟩
 obtain ⟨hi, hy⟩ : (i ≤ 7 ∧ 0 ≤ y ∧ y ≤ 7) ∧ (cE k wk i = y) := hinv0
 refine uG (l := [(2, rV 0 0), (3, rV 1 0), (4, rV 2 0), (5, iV y), (6, iV ((i : Int) + 1))]) (g := [(0, some (63, (j6 k r rn m c s sn))), (1, some (42, (hD wk wr w wn wz))), (2, some (42, hG))]) (nx := 3) rfl rfl rfl ?_
 refine AW.seq ?_
 by_cases hx1 : ((((i : Nat) : Int) + 1) ≤ 7)
 ·refine kI [.no, .b true] ((((i : Int) + 1) ≤ 7)) [(2, rV 0 0), (3, rV 1 0), (4, rV 2 0), (5, iV y), (6, iV (↑i + 1)), (13, bV true)] [(0, some (63, (j6 k r rn m c s sn))), (1, some (42, (hD wk wr w wn wz))), (2, some (42, hG))] 3 zo ?_
  refine vO ?_
  refine AW.seq ?_
  refine AW.block ?_
  by_cases hx2 : ((e7 (k / (((2 ^ (i + 1)) : Nat) : Int))) = 1)
  ·by_cases hx3 : (y = 0)
   ·refine kS [.no, .no, .no, .n (i + 1), .i (e7 (k / (((2 ^ (i + 1)) : Nat) : Int))), .b true, .no, .no, .b true, .no, .no, .no] (((((i : Int) + 1) : Int) = (((i + 1) : Nat) : Int)) ∧ ((i + 1) ≤ 64) ∧ (qM .and .i64 (k / (((2 ^ (i + 1)) : Nat) : Int)) 1 = (e7 (k / (((2 ^ (i + 1)) : Nat) : Int)))) ∧ (((e7 (k / (((2 ^ (i + 1)) : Nat) : Int))) = 1)) ∧ ((y = 0))) [(2, rV 0 0), (3, rV 1 0), (4, rV 2 0), (5, iV y), (6, iV (↑i + 1)), (34, bV true)] ⟨(by first | rfl | omega), zo, rfl, zo, zo⟩ ?_
    refine zt ?_
    refine yK [.no, .no] True [(2, rV 0 0), (3, rV 1 0), (4, rV 2 0), (5, iV (↑i + 1)), (6, iV (↑i + 1))] trivial ?_
    refine yK [.no, .w, .no] (yF (((i : Int) + 1) + 1)) [(2, rV 0 0), (3, rV 1 0), (4, rV 2 0), (5, iV (↑i + 1)), (6, iV ((↑i + 1) + 1))] ⟨by omega, by omega⟩ ?_
    exact Rd.of ⟨(((i + 1) : Nat), (((i : Int) + 1) : Int)), ⟨cL, (by first | exact k4t hy (decide_eq_true ⟨by omega, by omega, by omega⟩) zo rfl | exact u0a hy (decide_eq_false (fun e9 => by omega)) | exact u09 hy zo zo)⟩⟩ [] (P := (kH 0) ∧ (kH 0) ∧ (kH 0) ∧ (kP ((i : Int) + 1)) ∧ ((((((i + 1) : Nat) : Int) + 1) : Int) = (((i : Int) + 1) + 1)) ∧ (kM [iD k, dl r rn, D.sl (kK m) c, dl s sn]) ∧ (kM [iD wk, iD wr, dl w wn, iD wz]) ∧ (kM [iD 0, iD 0, qQ, iD 0])) zk ⟨rfl, rfl, rfl, rfl, fF, rfl, rfl, rfl⟩ (show 7 - (i + 1) < 7 - i from fE)
   ·by_cases hx5 : ((c7 wk (((i : Nat) : Int) + 1) y) < 0)
    ·have hx6 : ((((-1) : Int) ≤ (c7 wk (((i : Nat) : Int) + 1) y)) ∧ ((c7 wk (((i : Nat) : Int) + 1) y) ≤ 1)) := i5 wk (((i : Nat) : Int) + 1) y
     refine kS (.no :: .no :: .no :: .n (i + 1) :: .i (e7 (k / (((2 ^ (i + 1)) : Nat) : Int))) :: .b true :: .no :: .no :: .b false :: qN 6 [.call [] (iV (c7 wk ((i : Int) + 1) y)) [] 0 [] none, .b true, .no, .no]) (((((i : Int) + 1) : Int) = (((i + 1) : Nat) : Int)) ∧ ((i + 1) ≤ 64) ∧ (qM .and .i64 (k / (((2 ^ (i + 1)) : Nat) : Int)) 1 = (e7 (k / (((2 ^ (i + 1)) : Nat) : Int)))) ∧ (((e7 (k / (((2 ^ (i + 1)) : Nat) : Int))) = 1)) ∧ (¬ (y = 0)) ∧ (_) ∧ (((c7 wk ((i : Int) + 1) y) < 0))) [(2, rV 0 0), (3, rV 1 0), (4, rV 2 0), (5, iV y), (6, iV (↑i + 1)), (34, bV true)] ⟨(by first | rfl | omega), zo, rfl, zo, zo, (t7 wk ((i : Int) + 1) y), zo⟩ ?_
     refine zt ?_
     refine yK [.no, .no] True [(2, rV 0 0), (3, rV 1 0), (4, rV 2 0), (5, iV (↑i + 1)), (6, iV (↑i + 1))] trivial ?_
     refine yK [.no, .w, .no] (yF (((i : Int) + 1) + 1)) [(2, rV 0 0), (3, rV 1 0), (4, rV 2 0), (5, iV (↑i + 1)), (6, iV ((↑i + 1) + 1))] ⟨by omega, by omega⟩ ?_
     exact Rd.of ⟨(((i + 1) : Nat), (((i : Int) + 1) : Int)), ⟨cL, (by first | exact k4t hy (decide_eq_true ⟨by omega, by omega, by omega⟩) zo rfl | exact u0a hy (decide_eq_false (fun e9 => by omega)) | exact u09 hy zo zo)⟩⟩ [] (P := (kH 0) ∧ (kH 0) ∧ (kH 0) ∧ (kP ((i : Int) + 1)) ∧ ((((((i + 1) : Nat) : Int) + 1) : Int) = (((i : Int) + 1) + 1)) ∧ (kM [iD k, dl r rn, D.sl (kK m) c, dl s sn]) ∧ (kM [iD wk, iD wr, dl w wn, iD wz]) ∧ (kM [iD 0, iD 0, qQ, iD 0])) zk ⟨rfl, rfl, rfl, rfl, fF, rfl, rfl, rfl⟩ (show 7 - (i + 1) < 7 - i from fE)
    ·have hx7 : ((((-1) : Int) ≤ (c7 wk (((i : Nat) : Int) + 1) y)) ∧ ((c7 wk (((i : Nat) : Int) + 1) y) ≤ 1)) := i5 wk (((i : Nat) : Int) + 1) y
     refine kS (.no :: .no :: .no :: .n (i + 1) :: .i (e7 (k / (((2 ^ (i + 1)) : Nat) : Int))) :: .b true :: .no :: .no :: .b false :: qN 6 [.call [] (iV (c7 wk ((i : Int) + 1) y)) [] 0 [] none, .b false, .no, .no]) (((((i : Int) + 1) : Int) = (((i + 1) : Nat) : Int)) ∧ ((i + 1) ≤ 64) ∧ (qM .and .i64 (k / (((2 ^ (i + 1)) : Nat) : Int)) 1 = (e7 (k / (((2 ^ (i + 1)) : Nat) : Int)))) ∧ (((e7 (k / (((2 ^ (i + 1)) : Nat) : Int))) = 1)) ∧ (¬ (y = 0)) ∧ (_) ∧ (¬ ((c7 wk ((i : Int) + 1) y) < 0))) [(2, rV 0 0), (3, rV 1 0), (4, rV 2 0), (5, iV y), (6, iV (↑i + 1)), (34, bV false)] ⟨(by first | rfl | omega), zo, rfl, zo, zo, (t7 wk ((i : Int) + 1) y), zo⟩ ?_
     refine u9 ?_
     refine yK [.no, .w, .no] (yF (((i : Int) + 1) + 1)) [(2, rV 0 0), (3, rV 1 0), (4, rV 2 0), (5, iV y), (6, iV ((↑i + 1) + 1))] ⟨by omega, by omega⟩ ?_
     exact Rd.of ⟨(((i + 1) : Nat), (y : Int)), ⟨cL, (by first | exact k4t hy (decide_eq_true ⟨by omega, by omega, by omega⟩) zo rfl | exact u0a hy (decide_eq_false (fun e9 => by omega)) | exact u09 hy zo zo)⟩⟩ [] (P := (kH 0) ∧ (kH 0) ∧ (kH 0) ∧ (kP y) ∧ ((((((i + 1) : Nat) : Int) + 1) : Int) = (((i : Int) + 1) + 1)) ∧ (kM [iD k, dl r rn, D.sl (kK m) c, dl s sn]) ∧ (kM [iD wk, iD wr, dl w wn, iD wz]) ∧ (kM [iD 0, iD 0, qQ, iD 0])) zk ⟨rfl, rfl, rfl, rfl, fF, rfl, rfl, rfl⟩ (show 7 - (i + 1) < 7 - i from fE)
  ·refine kS [.no, .no, .no, .n (i + 1), .i (e7 (k / (((2 ^ (i + 1)) : Nat) : Int))), .b false, .no, .no] (((((i : Int) + 1) : Int) = (((i + 1) : Nat) : Int)) ∧ ((i + 1) ≤ 64) ∧ (qM .and .i64 (k / (((2 ^ (i + 1)) : Nat) : Int)) 1 = (e7 (k / (((2 ^ (i + 1)) : Nat) : Int)))) ∧ (¬ ((e7 (k / (((2 ^ (i + 1)) : Nat) : Int))) = 1))) [(2, rV 0 0), (3, rV 1 0), (4, rV 2 0), (5, iV y), (6, iV (↑i + 1)), (34, bV false)] ⟨(by first | rfl | omega), zo, rfl, zo⟩ ?_
   refine u9 ?_
   refine yK [.no, .w, .no] (yF (((i : Int) + 1) + 1)) [(2, rV 0 0), (3, rV 1 0), (4, rV 2 0), (5, iV y), (6, iV ((↑i + 1) + 1))] ⟨by omega, by omega⟩ ?_
   exact Rd.of ⟨(((i + 1) : Nat), (y : Int)), ⟨cL, (by first | exact k4t hy (decide_eq_true ⟨by omega, by omega, by omega⟩) zo rfl | exact u0a hy (decide_eq_false (fun e9 => by omega)) | exact u09 hy zo zo)⟩⟩ [] (P := (kH 0) ∧ (kH 0) ∧ (kH 0) ∧ (kP y) ∧ ((((((i + 1) : Nat) : Int) + 1) : Int) = (((i : Int) + 1) + 1)) ∧ (kM [iD k, dl r rn, D.sl (kK m) c, dl s sn]) ∧ (kM [iD wk, iD wr, dl w wn, iD wz]) ∧ (kM [iD 0, iD 0, qQ, iD 0])) zk ⟨rfl, rfl, rfl, rfl, fF, rfl, rfl, rfl⟩ (show 7 - (i + 1) < 7 - i from fE)
 ·refine kI [.no, .b false] (¬ (((i : Int) + 1) ≤ 7)) [(2, rV 0 0), (3, rV 1 0), (4, rV 2 0), (5, iV y), (6, iV (↑i + 1)), (13, bV false)] [(0, some (63, (j6 k r rn m c s sn))), (1, some (42, (hD wk wr w wn wz))), (2, some (42, hG))] 3 zo ?_
  refine zf ?_
  refine AW.exit ?_
  refine kI (qN 5 (.call [] (.tup [iE (vG wr (kB r rn)), .c (.d (D.lit (.bool (nrF wr (kB r rn)))))]) [] 0 [] none :: qN 5 [])) _ [(2, rV 0 0), (3, rV 1 0), (4, rV 2 0), (5, iV y), (7, iV (vG wr (kB r rn)))] [(0, some (63, (j6 k r rn m c s sn))), (1, some (42, (hD wk wr w wn wz))), (2, some (42, hG))] 3 (u0q r rn wr zo zo zo) ?_
  refine kS (qN 4 (.call [] (.tup [iE (vG wz (kB s sn)), .c (.d (D.lit (.bool (nrF wz (kB s sn)))))]) [] 0 [] none :: qN 5 [])) _ [(2, rV 0 0), (3, rV 1 0), (4, rV 2 0), (5, iV y), (7, iV (vG wr (kB r rn))), (9, iV (vG wz (kB s sn)))] (u0q s sn wz zo zo zo) ?_
  have hx8 : ((ka0 (fC w m c)) ≤ 1000000) := u06 (qJ : MsW m) c
  refine kI [.no, .no, .no, .call [1] (sV .i64 (fC w m c) (ka0 (fC w m c))) [(0, some (42, (hD wk wr w wn wz)))] 1 [] none, .no] _ [(4, rV 2 0), (5, iV y), (7, iV (vG wr (kB r rn))), (9, iV (vG wz (kB s sn))), (11, sV .i64 (fC w m c) (ka0 (fC w m c)))] [(2, some (42, hG))] 3 (v2y m c wk wr w wn wz zo zo zo (qJ : MsW m) zo zo) ?_
  refine kI (qN 7 []) True [(4, rV 2 0)] [(2, some (42, .ds [iD y, iD (vG wr (kB r rn)), dl (fC w m c) (ka0 (fC w m c)), iD (vG wz (kB s sn))]))] 3 trivial ?_
  have hz1 : cE k wk 7 = y := by have h9 := hy; rw [show i = 7 by omega] at h9; exact h9
  refine AW.ret ?_
  exact EndP.of (.inr rfl) [] (P := (((cE k wk 7) : Int) = y) ∧ (kP (vG wr (kB r rn))) ∧ (kM (dI .i64 (fC w m c))) ∧ (kH (ka0 (fC w m c))) ∧ (kP (vG wz (kB s sn)))) zk ⟨(by first | rfl | exact hz1 | omega), rfl, rfl, rfl, rfl⟩
abbrev yX (w : List Int) (bs : List Bx) (j : Nat) := fC w (kW (kL bs) j) (ka0 (kW (kL bs) j))
abbrev fM (w : List Int) (bs : List Bx) := fC w (kW (kL bs) 0) (ka0 (kW (kL bs) 0))
abbrev vS (bs : List Bx) (j : Nat) := kB (qE (kL bs) j) (k9 (kL bs) j)
abbrev vR (bs : List Bx) (j : Nat) := kB (qD (kL bs) j) (k8 (kL bs) j)
abbrev j5 (bs : List Bx) := kB (qE (kL bs) 0) (k9 (kL bs) 0)
abbrev j4 (bs : List Bx) := kB (qD (kL bs) 0) (k8 (kL bs) 0)
abbrev vH : BC := .ds [iD 0, iD 0, D.lit (.slice none 0 0), iD 0]
abbrev k5g (bs : List Bx) (j : Nat) (wk : Int) (wr : Int) (w : List Int) (wz : Int) : BC := .ds [iD (cE (kT (kL bs) j) wk 7), iD (vG wr (vS bs j)), D.sl (dI .i64 (yX w bs j)) (ka0 (yX w bs j)), iD (vG wz (vR bs j))]
abbrev aY (wk : Int) (wr : Int) (w : List Int) (wn : Nat) (wz : Int) : BC := .ds [iD wk, iD wr, D.sl (dI .i64 w) wn, iD wz]
abbrev fL (yk : Int) (yr : Int) (u : List Int) (yz : Int) : BC := .ds [iD yk, iD yr, D.sl (dI .i64 u) (ka0 u), iD yz]
abbrev k20 (bs : List Bx) (wk : Int) (wr : Int) (w : List Int) (wz : Int) : BC := .ds [iD (cE (kT (kL bs) 0) wk 7), iD (vG wr (j5 bs)), D.sl (dI .i64 (fM w bs)) (ka0 (fM w bs)), iD (vG wz (j4 bs))]
theorem k3t (bs : List Bx) (n : Nat) (wk wr : Int) (w : List Int) (wn : Nat) (wz : Int) (hn : ka0 bs = n) (h1 : n ≤ 1000000) (hW : BsW bs) (hw : ka0 w = wn) (h5 : wn ≤ 1000000) (hwr : -9223372036854775808 ≤ wr ∧ wr ≤ 9223372036854775807) (hwz : -9223372036854775808 ≤ wz ∧ wz ≤ 9223372036854775807) (h9 : 1 ≤ ka0 (kL bs)) : Fun 46 [.c (.d (D.sl (kU bs) n)), .agg [iC wk, iC wr, .d (D.sl (dI .i64 w) wn), iC wz]] (kF []) 0 (.tup [.agg [iC (qZ bs wk wr w wz), iC (qW bs wk wr w wz), .d (D.sl (dI .i64 (l1 bs wk wr w wz)) (ka0 (l1 bs wk wr w wz))), iC (qY bs wk wr w wz)], .c (.d (D.lit (.bool true)))]) (kF []) 0 := by
 refine Fun.mk (n := 35) Tryz.func46 rfl rfl (ka4 rfl) ?_
 intro cx hcx
 refine kI [.no, .no, .no] True [(0, .e (qB bs n)), (3, rV 0 0), (4, rV 1 0)] [(0, some (42, (aY wk wr w wn wz))), (1, some (42, vH))] 2 trivial ?_
 refine kI [.no] True [(0, .e (qB bs n)), (3, rV 0 0), (4, rV 1 0), (6, rV 2 0)] [(0, some (42, (aY wk wr w wn wz))), (1, some (42, vH)), (2, some (42, vH))] 3 trivial ?_
 refine kS [.no] True [(0, .e (qB bs n)), (3, rV 0 0), (4, rV 1 0), (6, rV 2 0), (7, bV false)] trivial ?_
 refine AW.seq ?_
 have hx1 : ((ka0 (kL bs)) ≤ n) := (by have h9 := lM bs; omega)
 refine kS [.no, .call [] (.e (y5 (kL bs))) [] 0 [] none, .no, .no] _ [(3, rV 0 0), (4, rV 1 0), (6, rV 2 0), (7, bV false), (12, .e (y5 (kL bs))), (13, uV (ka0 (kL bs))), (14, iV 0)] (jN bs n zo zo (qJ : BsW bs)) ?_
 refine AW.block ?_
 refine u3t 1 ?_
 refine AWp.s ?_
 refine kI [.b true] (((0 : Int) < (ka0 (kL bs) : Int))) [(3, rV 0 0), (4, rV 1 0), (6, rV 2 0), (7, bV false), (12, .e (y5 (kL bs))), (13, uV (ka0 (kL bs))), (14, iV 0), (15, bV true)] [(0, some (42, (aY wk wr w wn wz))), (1, some (42, vH)), (2, some (42, vH))] 3 zo ?_
 refine AW.seq ?_
 refine vO ?_
 refine AW.seq ?_
 refine AW.block ?_
 obtain ⟨hx2, hx3, hx4, hx5, hx6⟩ := BsW.at (eC (qJ : BsW bs)) (0)
 have hx7 : ((1 : Nat) ≤ (ka0 (kW (kL bs) 0))) := tR zo
 refine kI [.n 0, .ds [iD (kT (kL bs) 0), dl (qE (kL bs) 0) (k9 (kL bs) 0), D.sl (kK (kW (kL bs) 0)) (ka0 (kW (kL bs) 0)), dl (qD (kL bs) 0) (k8 (kL bs) 0)], .no, .no] ((kP 0) ∧ ((0 : Nat) < (ka0 (kL bs))) ∧ (List.take 4 (ka3 0 (kU (kL bs))) = [iD (kT (kL bs) 0), dl (qE (kL bs) 0) (k9 (kL bs) 0), D.sl (kK (kW (kL bs) 0)) (ka0 (kW (kL bs) 0)), dl (qD (kL bs) 0) (k8 (kL bs) 0)]) ∧ (([iD (kT (kL bs) 0), dl (qE (kL bs) 0) (k9 (kL bs) 0), D.sl (kK (kW (kL bs) 0)) (ka0 (kW (kL bs) 0)), dl (qD (kL bs) 0) (k8 (kL bs) 0)] : List D).length = 4)) [(3, rV 0 0), (4, rV 1 0), (6, rV 2 0), (7, bV false), (9, rV 3 0), (12, .e (y5 (kL bs))), (13, uV (ka0 (kL bs))), (14, iV 0)] [(0, some (42, (aY wk wr w wn wz))), (1, some (42, vH)), (2, some (42, vH)), (3, some (63, .ds [iD (kT (kL bs) 0), dl (qE (kL bs) 0) (k9 (kL bs) 0), D.sl (kK (kW (kL bs) 0)) (ka0 (kW (kL bs) 0)), dl (qD (kL bs) 0) (k8 (kL bs) 0)]))] 4 ⟨rfl, zo, (vN (i := 0) jU), rfl⟩ ?_
 have hx8 : (((0 : Int) ≤ (cE (kT (kL bs) 0) wk 7)) ∧ ((cE (kT (kL bs) 0) wk 7) ≤ 7)) := tV (kT (kL bs) 0) wk 7
 have hx9 : (((0 : Int) ≤ (vG wr (j5 bs))) ∧ ((vG wr (j5 bs)) ≤ 2147483647)) := lE (yJ)
 have hx10 : (((0 : Int) ≤ (vG wz (j4 bs))) ∧ ((vG wz (j4 bs)) ≤ 2147483647)) := lE (yJ)
 have hx11 : ((ka0 (fM w bs)) ≤ 1000000) := u06 ((BsW.ms (eC (qJ : BsW bs)) _)) (ka0 (kW (kL bs) 0))
 refine kI [.no, .no, .call [] (.e (.agg [iC (cE (kT (kL bs) 0) wk 7), iC (vG wr (j5 bs)), .d (dl (fM w bs) (ka0 (fM w bs))), iC (vG wz (j4 bs))])) [] 0 [] none, .no, .no] _ [(3, rV 0 0), (4, rV 1 0), (6, rV 2 0), (7, bV false), (10, rV 4 0), (12, .e (y5 (kL bs))), (13, uV (ka0 (kL bs))), (14, iV 0)] [(0, some (42, (aY wk wr w wn wz))), (1, some (42, vH)), (2, some (42, vH)), (4, some (42, (k20 bs wk wr w wz)))] 5 (z7 (kT (kL bs) 0) (qE (kL bs) 0) (k9 (kL bs) 0) (kW (kL bs) 0) (ka0 (kW (kL bs) 0)) (qD (kL bs) 0) (k8 (kL bs) 0) wk wr w wn wz yJ yJ rfl yJ yJ yJ yJ (BsW.ms (eC (qJ : BsW bs)) _) zo zo zo zo) ?_
 refine kS (qN 4 []) True [(3, rV 0 0), (4, rV 1 0), (6, rV 2 0), (7, bV false), (10, rV 4 0), (12, .e (y5 (kL bs))), (13, uV (ka0 (kL bs))), (14, iV 0), (29, bV true)] trivial ?_
 refine zt ?_
 refine aB [.no, .no, .no] True [(3, rV 0 0), (4, rV 1 0), (6, rV 2 0), (7, bV true), (12, .e (y5 (kL bs))), (13, uV (ka0 (kL bs))), (14, iV 0)] [(0, some (42, (aY wk wr w wn wz))), (1, some (42, vH)), (2, some (42, (k20 bs wk wr w wz)))] 5 trivial ?_
 refine yK [.w, .no] (yF (1 : Int)) [(3, rV 0 0), (4, rV 1 0), (6, rV 2 0), (7, bV true), (12, .e (y5 (kL bs))), (13, uV (ka0 (kL bs))), (14, iV 1)] ⟨by omega, by omega⟩ ?_
 refine AWp.z ?_
 refine qF 0 hcx (fun (x : {x : Nat × Int × Int × List Int × Int // match x with | (j, yk, yr, u, yz) => (1 ≤ j ∧ j ≤ ka0 (kL bs)) ∧ (BE (kL bs) wk wr w wz j yk yr u yz) ∧ ((0 ≤ yk ∧ yk ≤ 7) ∧ (0 ≤ yr ∧ yr ≤ 2147483647) ∧ (0 ≤ yz ∧ yz ≤ 2147483647) ∧ ka0 u ≤ 1000000)}) => match x with | ⟨(j, yk, yr, u, yz), _⟩ => (⟨[(3, rV 0 0), (4, rV 1 0), (6, rV 2 0), (7, bV true), (12, .e (y5 (kL bs))), (13, uV (ka0 (kL bs))), (14, uV j)], [(0, some (42, (aY wk wr w wn wz))), (1, some (42, vH)), (2, some (42, (fL yk yr u yz)))], 5⟩ : ES)) (fun x => match x with | ⟨(j, yk, yr, u, yz), _⟩ => ka0 (kL bs) - j) ⟨((1 : Nat), ((cE (kT (kL bs) 0) wk 7) : Int), ((vG wr (j5 bs)) : Int), ((fM w bs) : List Int), ((vG wz (j4 bs)) : Int)), ⟨cL, (BE.first rfl rfl rfl rfl), zo⟩⟩ [] (P := (kH 0) ∧ (kH 0) ∧ (kH 0) ∧ (true = true) ∧ (kM (kU (kL bs))) ∧ (kH (ka0 (kL bs))) ∧ (kP (ka0 (kL bs) : Int)) ∧ (kP 1) ∧ (kM [iD wk, iD wr, dl w wn, iD wz]) ∧ (kM [iD 0, iD 0, qQ, iD 0]) ∧ (kM [iD (cE (kT (kL bs) 0) wk 7), iD (vG wr (j5 bs)), dl (fM w bs) (ka0 (fM w bs)), iD (vG wz (j4 bs))])) zk ⟨rfl, rfl, rfl, (by first | rfl | assumption | simp), rfl, rfl, rfl, rfl, rfl, rfl, rfl⟩ ?_
 rintro ⟨⟨j, yk, yr, u, yz⟩, hinv0⟩
 obtain ⟨hj, hE, hy⟩ : (1 ≤ j ∧ j ≤ ka0 (kL bs)) ∧ (BE (kL bs) wk wr w wz j yk yr u yz) ∧ ((0 ≤ yk ∧ yk ≤ 7) ∧ (0 ≤ yr ∧ yr ≤ 2147483647) ∧ (0 ≤ yz ∧ yz ≤ 2147483647) ∧ ka0 u ≤ 1000000) := hinv0
 refine uG (l := [(3, rV 0 0), (4, rV 1 0), (6, rV 2 0), (7, bV true), (12, .e (y5 (kL bs))), (13, uV (ka0 (kL bs))), (14, uV j)]) (g := [(0, some (42, (aY wk wr w wn wz))), (1, some (42, vH)), (2, some (42, (fL yk yr u yz)))]) (nx := 5) rfl rfl rfl ?_
 by_cases hx12 : (((j : Nat) : Int) < (((ka0 (kL bs)) : Nat) : Int))
 ·refine kI [.b true] (((j : Int) < (ka0 (kL bs) : Int))) [(3, rV 0 0), (4, rV 1 0), (6, rV 2 0), (7, bV true), (12, .e (y5 (kL bs))), (13, uV (ka0 (kL bs))), (14, uV j), (15, bV true)] [(0, some (42, (aY wk wr w wn wz))), (1, some (42, vH)), (2, some (42, (fL yk yr u yz)))] 5 zo ?_
  refine AW.seq ?_
  refine vO ?_
  refine AW.seq ?_
  refine AW.block ?_
  obtain ⟨hx13, hx14, hx15, hx16, hx17⟩ := BsW.at (eC (qJ : BsW bs)) (j)
  have hx18 : ((1 : Nat) ≤ (ka0 (kW (kL bs) j))) := tR zo
  refine kI [.n j, .ds (yU (kL bs) j), .no, .no] ((kP (j : Int)) ∧ (j < (ka0 (kL bs))) ∧ (List.take 4 (ka3 (j * 4) (kU (kL bs))) = (yU (kL bs) j)) ∧ (((yU (kL bs) j) : List D).length = 4)) [(3, rV 0 0), (4, rV 1 0), (6, rV 2 0), (7, bV true), (9, rV 5 0), (12, .e (y5 (kL bs))), (13, uV (ka0 (kL bs))), (14, uV j)] [(0, some (42, (aY wk wr w wn wz))), (1, some (42, vH)), (2, some (42, (fL yk yr u yz))), (5, some (63, .ds (yU (kL bs) j)))] 6 ⟨rfl, zo, (vN jU), rfl⟩ ?_
  have hx19 : (((0 : Int) ≤ (cE (kT (kL bs) j) wk 7)) ∧ ((cE (kT (kL bs) j) wk 7) ≤ 7)) := tV (kT (kL bs) j) wk 7
  have hx20 : (((0 : Int) ≤ (vG wr (vS bs j))) ∧ ((vG wr (vS bs j)) ≤ 2147483647)) := lE (yJ)
  have hx21 : (((0 : Int) ≤ (vG wz (vR bs j))) ∧ ((vG wz (vR bs j)) ≤ 2147483647)) := lE (yJ)
  have hx22 : ((ka0 (yX w bs j)) ≤ 1000000) := u06 ((BsW.ms (eC (qJ : BsW bs)) _)) (ka0 (kW (kL bs) j))
  refine kI [.no, .no, .call [] (.e (.agg [iC (cE (kT (kL bs) j) wk 7), iC (vG wr (vS bs j)), .d (dl (yX w bs j) (ka0 (yX w bs j))), iC (vG wz (vR bs j))])) [] 0 [] none, .no, .no] _ [(3, rV 0 0), (4, rV 1 0), (6, rV 2 0), (7, bV true), (10, rV 6 0), (12, .e (y5 (kL bs))), (13, uV (ka0 (kL bs))), (14, uV j)] [(0, some (42, (aY wk wr w wn wz))), (1, some (42, vH)), (2, some (42, (fL yk yr u yz))), (6, some (42, (k5g bs j wk wr w wz)))] 7 (z7 (kT (kL bs) j) (qE (kL bs) j) (k9 (kL bs) j) (kW (kL bs) j) (ka0 (kW (kL bs) j)) (qD (kL bs) j) (k8 (kL bs) j) wk wr w wn wz yJ yJ rfl yJ yJ yJ yJ (BsW.ms (eC (qJ : BsW bs)) _) zo zo zo zo) ?_
  by_cases hx24 : ((mN wk wr wz (cE (kT (kL bs) j) wk 7) (vG wr (vS bs j)) (vG wz (vR bs j)) yk yr yz w (yX w bs j) u) < 0)
  ·have hx25 : ((((-1) : Int) ≤ (mN wk wr wz (cE (kT (kL bs) j) wk 7) (vG wr (vS bs j)) (vG wz (vR bs j)) yk yr yz w (yX w bs j) u)) ∧ ((mN wk wr wz (cE (kT (kL bs) j) wk 7) (vG wr (vS bs j)) (vG wz (vR bs j)) yk yr yz w (yX w bs j) u) ≤ 1)) := k3e ..
   refine kS (qN 6 [.call [] (iV (mN wk wr wz (cE (kT (kL bs) j) wk 7) (vG wr (vS bs j)) (vG wz (vR bs j)) yk yr yz w (yX w bs j) u)) [] 0 [] none, .b true, .no]) ((_) ∧ (((mN wk wr wz (cE (kT (kL bs) j) wk 7) (vG wr (vS bs j)) (vG wz (vR bs j)) yk yr yz w (yX w bs j) u) < 0))) [(3, rV 0 0), (4, rV 1 0), (6, rV 2 0), (7, bV true), (10, rV 6 0), (12, .e (y5 (kL bs))), (13, uV (ka0 (kL bs))), (14, uV j), (29, bV true)] ⟨(rB wk wr wz (cE (kT (kL bs) j) wk 7) (vG wr (vS bs j)) (vG wz (vR bs j)) yk yr yz w (yX w bs j) u wn (ka0 (yX w bs j)) (ka0 u) zo rfl rfl zo yJ zo zo yJ zo zo yJ zo), zo⟩ ?_
   refine zt ?_
   refine aB [.no, .no, .no] True [(3, rV 0 0), (4, rV 1 0), (6, rV 2 0), (7, bV true), (12, .e (y5 (kL bs))), (13, uV (ka0 (kL bs))), (14, uV j)] [(0, some (42, (aY wk wr w wn wz))), (1, some (42, vH)), (2, some (42, (k5g bs j wk wr w wz)))] 7 trivial ?_
   refine yK [.w, .no] (yF ((j : Int) + 1)) [(3, rV 0 0), (4, rV 1 0), (6, rV 2 0), (7, bV true), (12, .e (y5 (kL bs))), (13, uV (ka0 (kL bs))), (14, iV (↑j + 1))] ⟨by omega, by omega⟩ ?_
   exact Rd.of ⟨(((j + 1) : Nat), ((cE (kT (kL bs) j) wk 7) : Int), ((vG wr (vS bs j)) : Int), ((yX w bs j) : List Int), ((vG wz (vR bs j)) : Int)), ⟨cL, (by first | exact BE.y hE rfl rfl rfl rfl zo | exact BE.n hE zo zo), (by first | omega | assumption)⟩⟩ [] (P := (kH 0) ∧ (kH 0) ∧ (kH 0) ∧ (true = true) ∧ (kM (kU (kL bs))) ∧ (kH (ka0 (kL bs))) ∧ (kP (ka0 (kL bs) : Int)) ∧ (cU j) ∧ (kM [iD wk, iD wr, dl w wn, iD wz]) ∧ (kM [iD 0, iD 0, qQ, iD 0]) ∧ (kM [iD (cE (kT (kL bs) j) wk 7), iD (vG wr (vS bs j)), dl (yX w bs j) (ka0 (yX w bs j)), iD (vG wz (vR bs j))])) zk ⟨rfl, rfl, rfl, (by first | rfl | assumption | simp), rfl, rfl, rfl, fF, rfl, rfl, rfl⟩ (show ka0 (kL bs) - (j + 1) < ka0 (kL bs) - j from fE)
  ·have hx26 : ((((-1) : Int) ≤ (mN wk wr wz (cE (kT (kL bs) j) wk 7) (vG wr (vS bs j)) (vG wz (vR bs j)) yk yr yz w (yX w bs j) u)) ∧ ((mN wk wr wz (cE (kT (kL bs) j) wk 7) (vG wr (vS bs j)) (vG wz (vR bs j)) yk yr yz w (yX w bs j) u) ≤ 1)) := k3e ..
   refine kS (qN 6 [.call [] (iV (mN wk wr wz (cE (kT (kL bs) j) wk 7) (vG wr (vS bs j)) (vG wz (vR bs j)) yk yr yz w (yX w bs j) u)) [] 0 [] none, .b false, .no]) ((_) ∧ (¬ ((mN wk wr wz (cE (kT (kL bs) j) wk 7) (vG wr (vS bs j)) (vG wz (vR bs j)) yk yr yz w (yX w bs j) u) < 0))) [(3, rV 0 0), (4, rV 1 0), (6, rV 2 0), (7, bV true), (10, rV 6 0), (12, .e (y5 (kL bs))), (13, uV (ka0 (kL bs))), (14, uV j), (29, bV false)] ⟨(rB wk wr wz (cE (kT (kL bs) j) wk 7) (vG wr (vS bs j)) (vG wz (vR bs j)) yk yr yz w (yX w bs j) u wn (ka0 (yX w bs j)) (ka0 u) zo rfl rfl zo yJ zo zo yJ zo zo yJ zo), zo⟩ ?_
   refine u9 ?_
   refine aB [.w, .no] (yF ((j : Int) + 1)) [(3, rV 0 0), (4, rV 1 0), (6, rV 2 0), (7, bV true), (12, .e (y5 (kL bs))), (13, uV (ka0 (kL bs))), (14, iV (↑j + 1))] [(0, some (42, (aY wk wr w wn wz))), (1, some (42, vH)), (2, some (42, (fL yk yr u yz)))] 7 ⟨by omega, by omega⟩ ?_
   exact Rd.of ⟨(((j + 1) : Nat), (yk : Int), (yr : Int), (u : List Int), (yz : Int)), ⟨cL, (by first | exact BE.y hE rfl rfl rfl rfl zo | exact BE.n hE zo zo), (by first | omega | assumption)⟩⟩ [] (P := (kH 0) ∧ (kH 0) ∧ (kH 0) ∧ (true = true) ∧ (kM (kU (kL bs))) ∧ (kH (ka0 (kL bs))) ∧ (kP (ka0 (kL bs) : Int)) ∧ (cU j) ∧ (kM [iD wk, iD wr, dl w wn, iD wz]) ∧ (kM [iD 0, iD 0, qQ, iD 0]) ∧ (kM [iD yk, iD yr, dl u (ka0 u), iD yz])) zk ⟨rfl, rfl, rfl, (by first | rfl | assumption | simp), rfl, rfl, rfl, fF, rfl, rfl, rfl⟩ (show ka0 (kL bs) - (j + 1) < ka0 (kL bs) - j from fE)
 ·refine kI [.b false] (¬ ((j : Int) < (ka0 (kL bs) : Int))) [(3, rV 0 0), (4, rV 1 0), (6, rV 2 0), (7, bV true), (12, .e (y5 (kL bs))), (13, uV (ka0 (kL bs))), (14, uV j), (15, bV false)] [(0, some (42, (aY wk wr w wn wz))), (1, some (42, vH)), (2, some (42, (fL yk yr u yz)))] 5 zo ?_
  refine AW.seq ?_
  refine zf ?_
  refine AW.exit ?_
  refine kI [.no, .call [] (.e (.agg [iC yk, iC yr, .d (dl u (ka0 u)), iC yz])) [] 0 [] none, .no, .no, .no] _ [(4, rV 1 0), (5, bV true)] [(1, some (42, (fL yk yr u yz)))] 5 (oF yk yr u (ka0 u) yz rfl zo) ?_
  obtain ⟨hz1, hz2, hz3, hz4⟩ := hE.fin zo
  refine AW.ret ?_
  exact EndP.of (.inr rfl) [] (P := (((qZ bs wk wr w wz) : Int) = yk) ∧ (((qW bs wk wr w wz) : Int) = yr) ∧ (((dI .i64 (l1 bs wk wr w wz)) : List D) = (dI .i64 u)) ∧ (((ka0 (l1 bs wk wr w wz)) : Nat) = (ka0 u)) ∧ (((qY bs wk wr w wz) : Int) = yz) ∧ (true = true)) zk ⟨(by first | rfl | exact hz1 | exact hz2 | exact hz4 | rw [hz3] | omega), (by first | rfl | exact hz1 | exact hz2 | exact hz4 | rw [hz3] | omega), (by first | rfl | rw [hz3]), (by first | rfl | exact hz1 | exact hz2 | exact hz4 | rw [hz3] | omega), (by first | rfl | exact hz1 | exact hz2 | exact hz4 | rw [hz3] | omega), rfl⟩
end Go.Proofs.YtbicifcgghmhaaaGreat
