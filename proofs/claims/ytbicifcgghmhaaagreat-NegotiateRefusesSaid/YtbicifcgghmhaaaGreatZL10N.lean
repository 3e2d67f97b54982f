/- The best choice, of the code. No statement is proved here. -/
import Derived.Test.YtbicifcgghmhaaaGreatZL10M
namespace Go.Proofs.YtbicifcgghmhaaaGreat
open Go.ChangeShapes Go.WideShapes Go.ChangeAt Go.RowKit
open List renaming drop → ka3, getD → ka1, length → ka0, length_append → ka6, length_cons → ka9, length_drop → kb2, length_map → kc4, length_nil → kb1, length_replicate → kb4, length_reverse → kc1, length_set → kb9, length_take → kb0
open Nat renaming le_of_ble_eq_true → ka4, mul_one → kc7
set_option linter.unusedVariables false
set_option linter.unusedSimpArgs false
set_option maxHeartbeats 4000000
set_option maxRecDepth 100000
theorem u0l (k r : Int) (m : List Int) (n : Nat) (hm : ka0 m = n) (h1 : n ≤ 1000000) : Fun 80 [.agg [iC k, iC r, .d (D.sl (dI .i64 m) n)]] (kH []) 0 (.e (.agg [iC k, iC r, .d (D.sl (dI .i64 m) n)])) (kH []) 0 := by
 refine Fun.mk (n := 8) Tryz.func80 rfl rfl (ka4 rfl) ?_
 intro cx hcx
 refine kK [.no, .no] True [(1, rV 0 0), (2, rV 1 0)] [(0, some (40, .ds [iD k, iD r, dl m n])), (1, some (40, .ds [iD 0, iD 0, qQ]))] 2 trivial ?_
 refine kK [.no, .no, .call [] (oV 0 0 n 1) [(0, some (3, .ds (dI .i64 m)))] 1 [] none, .no, .no] _ [(1, rV 0 0), (2, rV 1 0)] [(0, some (40, .cs [iC k, iC r, .own 2 0 n 1 true])), (1, some (40, .ds [iD 0, iD 0, qQ])), (2, some (3, .ds (dI .i64 m)))] 3 (dM m n zo zo) ?_
 refine kK [.no, .no] True [(2, rV 1 0)] [(1, some (40, .cs [iC k, iC r, .own 2 0 n 1 true])), (2, some (3, .ds (dI .i64 m)))] 3 trivial ?_
 refine AW.freeze 2 (l' := [(2, rV 1 0)]) (g' := [(1, some (40, .ds [iD k, iD r, dl m n]))]) rfl (FzS.cons rfl (.same _) FzS.nil) (FzG.to (bc := .cs [iC k, iC r, .own 2 0 n 1 true]) rfl (by rfl) (FzL.cons (.same _) (FzL.cons (.same _) (FzL.cons (@FzC.own 2 ((dI .i64 m) : List D) 0 n 1 true ((dI .i64 m) : List D) (by rw [List.drop_zero, kc7, List.take_of_length_le (by first | omega | (simp only [k8, kZ, qW, ka6, ka9, kb1, kb0, kb2, kb4, kb9, kc4, kc1, kc7] <;> omega))]) (by first | omega | (simp only [k8, kZ, qW, ka6, ka9, kb1, kb0, kb2, kb4, kb9, kc4, kc1, kc7] <;> omega) | rfl)) FzL.nil))) FzG.nil) ?_
 refine AW.ret ?_
 exact kB (.inr rfl) [] (P := (kS k) ∧ (kS r) ∧ (kN (dI .i64 m)) ∧ (kJ n)) zk ⟨rfl, rfl, rfl, rfl⟩
theorem oJ (k r : Int) (m : List Int) (n : Nat) (z : Int) (hm : ka0 m = n) (h1 : n ≤ 1000000) : Fun 48 [.agg [iC k, iC r, .d (D.sl (dI .i64 m) n), iC z]] (kH []) 0 (.e (.agg [iC k, iC r, .d (D.sl (dI .i64 m) n), iC z])) (kH []) 0 := by
 refine Fun.mk (n := 8) Tryz.func48 rfl rfl (ka4 rfl) ?_
 intro cx hcx
 refine kK [.no, .no] True [(1, rV 0 0), (2, rV 1 0)] [(0, some (42, .ds [iD k, iD r, dl m n, iD z])), (1, some (42, .ds [iD 0, iD 0, qQ, iD 0]))] 2 trivial ?_
 refine kT [.no, .no, .call [] (.e (.agg [iC k, iC r, .d (dl m n)])) [] 0 [] none, .no, .no] _ [(1, rV 0 0), (2, rV 1 0)] (u0l k r m n zo zo) ?_
 refine kK [.no, .no] True [(2, rV 1 0)] [(1, some (42, .ds [iD k, iD r, dl m n, iD z]))] 2 trivial ?_
 refine AW.ret ?_
 exact kB (.inr rfl) [] (P := (kS k) ∧ (kS r) ∧ (kN (dI .i64 m)) ∧ (kJ n) ∧ (kS z)) zk ⟨rfl, rfl, rfl, rfl, rfl⟩
theorem k3n (w a b : List Int) (o n m : Nat) (wk wr wz : Int) (ho : ka0 w = o) (hn : ka0 a = n) (hm : ka0 b = m) (h1 : o ≤ 1000000) (h2 : n ≤ 1000000) (h3 : m ≤ 1000000) : Fun 116 [.c (.d (D.sl (dI .i64 a) n)), .c (.d (D.sl (dI .i64 b) m)), .c (.ptr 0 0)] (kH [(0, some (42, .ds [iD wk, iD wr, D.sl (dI .i64 w) o, iD wz]))]) 1 (iV (c8 w a b)) (kH [(0, some (42, .ds [iD wk, iD wr, D.sl (dI .i64 w) o, iD wz]))]) 1 := by
 refine Fun.mk (n := 12) Tryz.func116 rfl rfl (ka4 rfl) ?_
 intro cx hcx
 refine kK [.no] True [(0, sV .i64 a n), (1, sV .i64 b m), (2, rV 0 0)] [(0, some (42, .ds [iD wk, iD wr, dl w o, iD wz]))] 1 trivial ?_
 have hx1 : ((((-1) : Int) ≤ (c8 w a b)) ∧ ((c8 w a b) ≤ 1)) := f8 w a b
 refine kT (qN 5 [.call [] (iV (c8 w a b)) [] 0 [] none, .no]) _ [(5, iV (c8 w a b))] (u06 w a b o n m zo zo zo zo zo zo) ?_
 refine AW.ret ?_
 exact kB (.inr rfl) [] (P := (kS (c8 w a b)) ∧ (kN [iD wk, iD wr, dl w o, iD wz])) zk ⟨rfl, rfl⟩
theorem jV {p : Prop} (h : p := by first | omega | (simp only [k8, kZ, ka6, ka9, kb1, kb0, kb2] <;> omega)) : p := h
theorem cM {p : Prop} (h : p := by first | omega | assumption | simp) : p := h
theorem yL {p : Prop} (h : p := by first | omega | with_reducible assumption | (simp only [k8, kZ, ka6, ka9, kb1, kb0, kb2, kb4, kb9] <;> omega) | rfl | assumption) : p := h
theorem fG {p : Prop} (h : p := by first | rfl | omega | assumption | (simp; done) | (simp; omega)) : p := h
theorem fF {p : Prop} (h : p := by first | omega | (show _ < _; simp; omega)) : p := h
abbrev fO (wk : Int) (wr : Int) (w : List Int) (wn : Nat) (wz : Int) : BC := .ds [iD wk, iD wr, D.sl (dI .i64 w) wn, iD wz]
theorem v2j (m : List (List Int)) (c : Nat) (wk wr : Int) (w : List Int) (wn : Nat) (wz : Int) (hc : ka0 m = c) (h3 : c ≤ 1000000) (h4 : 1 ≤ c) (hW : MsW m) (hw : ka0 w = wn) (h5 : wn ≤ 1000000) : Fun 115 [.c (.d (D.sl (kL m) c)), .c (.fn 116 [(0, 0)])] (kH [(0, some (42, .ds [iD wk, iD wr, D.sl (dI .i64 w) wn, iD wz]))]) 1 (sV .i64 (fC w m c) (ka0 (fC w m c))) (kH [(0, some (42, .ds [iD wk, iD wr, D.sl (dI .i64 w) wn, iD wz]))]) 1 := by
 refine Fun.mk (n := 33) Tryz.func115 rfl rfl (ka4 rfl) ?_
 intro cx hcx
 refine kK [.no] True [(0, qK (kL m) c), (1, .e (.c (.fn 116 [(0, 0)])))] [(0, some (42, (fO wk wr w wn wz)))] 1 trivial ?_
 refine AW.seq ?_
 refine kT [.no, .no, .b false] (¬ ((c : Int) < 1)) [(0, qK (kL m) c), (1, .e (.c (.fn 116 [(0, 0)]))), (9, bV false)] zo ?_
 refine yA ?_
 have hx1 : ((ka0 (ka1 m 0 ([] : List Int))) ≤ 1000000) := MsW.at (qJ : MsW m) _
 refine kT [.no, .n 0, .d (dl (ka1 m 0 ([] : List Int)) (ka0 (ka1 m 0 ([] : List Int)))), .no] ((kS 0) ∧ ((0 : Nat) < c) ∧ ((ka3 0 (kL m))[0]? = some (dl (ka1 m 0 ([] : List Int)) (ka0 (ka1 m 0 ([] : List Int)))))) [(0, qK (kL m) c), (1, .e (.c (.fn 116 [(0, 0)]))), (5, sV .i64 (ka1 m 0 ([] : List Int)) (ka0 (ka1 m 0 ([] : List Int))))] ⟨rfl, zo, (bM _ _ jV)⟩ ?_
 refine AW.seq ?_
 refine kT [.no] True [(0, qK (kL m) c), (1, .e (.c (.fn 116 [(0, 0)]))), (5, sV .i64 (ka1 m 0 ([] : List Int)) (ka0 (ka1 m 0 ([] : List Int)))), (6, iV 1)] trivial ?_
 refine AW.block ?_
 refine qH 1 hcx (fun (x : {x : Nat × List Int // match x with | (j, u) => (1 ≤ j ∧ j ≤ c) ∧ (fC w m j = u) ∧ (ka0 u ≤ 1000000)}) => match x with | ⟨(j, u), _⟩ => (⟨[(0, qK (kL m) c), (1, .e (.c (.fn 116 [(0, 0)]))), (5, sV .i64 u (ka0 u)), (6, uV j)], [(0, some (42, (fO wk wr w wn wz)))], 1⟩ : ES)) (fun x => match x with | ⟨(j, u), _⟩ => c - j) ⟨((1 : Nat), ((ka1 m 0 ([] : List Int)) : List Int)), ⟨cM, (v1x rfl), zo⟩⟩ [] (P := (kN (kL m)) ∧ (kJ c) ∧ (kN (dI .i64 (ka1 m 0 ([] : List Int)))) ∧ (kJ (ka0 (ka1 m 0 ([] : List Int)))) ∧ (kS 1) ∧ (kN [iD wk, iD wr, dl w wn, iD wz])) zk ⟨rfl, rfl, rfl, rfl, rfl, rfl⟩ ?_
 rintro ⟨⟨j, u⟩, hinv0⟩
 obtain ⟨hj, hu, hul⟩ : (1 ≤ j ∧ j ≤ c) ∧ (fC w m j = u) ∧ (ka0 u ≤ 1000000) := hinv0
 refine uL (l := [(0, qK (kL m) c), (1, .e (.c (.fn 116 [(0, 0)]))), (5, sV .i64 u (ka0 u)), (6, uV j)]) (g := [(0, some (42, (fO wk wr w wn wz)))]) (nx := 1) rfl rfl rfl ?_
 refine AW.seq ?_
 by_cases hx2 : (((j : Nat) : Int) < ((c : Nat) : Int))
 ·refine kK [.no, .no, .no, .b true] (((j : Int) < (c : Int))) [(0, qK (kL m) c), (1, .e (.c (.fn 116 [(0, 0)]))), (5, sV .i64 u (ka0 u)), (6, uV j), (17, bV true)] [(0, some (42, (fO wk wr w wn wz)))] 1 zo ?_
  refine vR ?_
  refine AW.seq ?_
  refine AW.block ?_
  by_cases hx5 : ((c8 w (ka1 m j ([] : List Int)) u) < 0)
  ·have hx6 : ((ka0 (ka1 m j ([] : List Int))) ≤ 1000000) := MsW.at (qJ : MsW m) _
   have hx7 : ((((-1) : Int) ≤ (c8 w (ka1 m j ([] : List Int)) u)) ∧ ((c8 w (ka1 m j ([] : List Int)) u) ≤ 1)) := f8 w (ka1 m j ([] : List Int)) u
   refine kT [.no, .no, .no, .n j, .d (dl (ka1 m j ([] : List Int)) (ka0 (ka1 m j ([] : List Int)))), .no, .call [0] (iV (c8 w (ka1 m j ([] : List Int)) u)) [(0, some (42, (fO wk wr w wn wz)))] 1 [] none, .b true] ((kS (j : Int)) ∧ (j < c) ∧ ((ka3 j (kL m))[0]? = some (dl (ka1 m j ([] : List Int)) (ka0 (ka1 m j ([] : List Int))))) ∧ (_) ∧ (((c8 w (ka1 m j ([] : List Int)) u) < 0))) [(0, qK (kL m) c), (1, .e (.c (.fn 116 [(0, 0)]))), (5, sV .i64 u (ka0 u)), (6, uV j), (27, bV true)] ⟨rfl, zo, (bM _ _ jV), (k3n w (ka1 m j ([] : List Int)) u wn (ka0 (ka1 m j ([] : List Int))) (ka0 u) wk wr wz zo rfl rfl zo yL zo), zo⟩ ?_
   refine zt ?_
   refine yT [.no, .no, .n j, .d (dl (ka1 m j ([] : List Int)) (ka0 (ka1 m j ([] : List Int)))), .no] ((kS (j : Int)) ∧ (j < c) ∧ ((ka3 j (kL m))[0]? = some (dl (ka1 m j ([] : List Int)) (ka0 (ka1 m j ([] : List Int)))))) [(0, qK (kL m) c), (1, .e (.c (.fn 116 [(0, 0)]))), (5, sV .i64 (ka1 m j ([] : List Int)) (ka0 (ka1 m j ([] : List Int)))), (6, uV j)] ⟨rfl, zo, (bM _ _ jV)⟩ ?_
   refine yT [.no, .w, .no] (yQ ((j : Int) + 1)) [(0, qK (kL m) c), (1, .e (.c (.fn 116 [(0, 0)]))), (5, sV .i64 (ka1 m j ([] : List Int)) (ka0 (ka1 m j ([] : List Int)))), (6, iV (↑j + 1))] ⟨by omega, by omega⟩ ?_
   exact qE ⟨(((j + 1) : Nat), ((ka1 m j ([] : List Int)) : List Int)), ⟨cM, (by first | exact u86 hu zo rfl | exact u87 hu zo zo), (by first | omega | assumption)⟩⟩ [] (P := (kN (kL m)) ∧ (kJ c) ∧ (kN (dI .i64 (ka1 m j ([] : List Int)))) ∧ (kJ (ka0 (ka1 m j ([] : List Int)))) ∧ (c7 j) ∧ (kN [iD wk, iD wr, dl w wn, iD wz])) zk ⟨rfl, rfl, rfl, rfl, fG, rfl⟩ (show c - (j + 1) < c - j from fF)
  ·have hx8 : ((ka0 (ka1 m j ([] : List Int))) ≤ 1000000) := MsW.at (qJ : MsW m) _
   have hx9 : ((((-1) : Int) ≤ (c8 w (ka1 m j ([] : List Int)) u)) ∧ ((c8 w (ka1 m j ([] : List Int)) u) ≤ 1)) := f8 w (ka1 m j ([] : List Int)) u
   refine kT [.no, .no, .no, .n j, .d (dl (ka1 m j ([] : List Int)) (ka0 (ka1 m j ([] : List Int)))), .no, .call [0] (iV (c8 w (ka1 m j ([] : List Int)) u)) [(0, some (42, (fO wk wr w wn wz)))] 1 [] none, .b false] ((kS (j : Int)) ∧ (j < c) ∧ ((ka3 j (kL m))[0]? = some (dl (ka1 m j ([] : List Int)) (ka0 (ka1 m j ([] : List Int))))) ∧ (_) ∧ (¬ ((c8 w (ka1 m j ([] : List Int)) u) < 0))) [(0, qK (kL m) c), (1, .e (.c (.fn 116 [(0, 0)]))), (5, sV .i64 u (ka0 u)), (6, uV j), (27, bV false)] ⟨rfl, zo, (bM _ _ jV), (k3n w (ka1 m j ([] : List Int)) u wn (ka0 (ka1 m j ([] : List Int))) (ka0 u) wk wr wz zo rfl rfl zo yL zo), zo⟩ ?_
   refine yA ?_
   refine yT [.no, .w, .no] (yQ ((j : Int) + 1)) [(0, qK (kL m) c), (1, .e (.c (.fn 116 [(0, 0)]))), (5, sV .i64 u (ka0 u)), (6, iV (↑j + 1))] ⟨by omega, by omega⟩ ?_
   exact qE ⟨(((j + 1) : Nat), (u : List Int)), ⟨cM, (by first | exact u86 hu zo rfl | exact u87 hu zo zo), (by first | omega | assumption)⟩⟩ [] (P := (kN (kL m)) ∧ (kJ c) ∧ (kN (dI .i64 u)) ∧ (kJ (ka0 u)) ∧ (c7 j) ∧ (kN [iD wk, iD wr, dl w wn, iD wz])) zk ⟨rfl, rfl, rfl, rfl, fG, rfl⟩ (show c - (j + 1) < c - j from fF)
 ·refine kK [.no, .no, .no, .b false] (¬ ((j : Int) < (c : Int))) [(0, qK (kL m) c), (1, .e (.c (.fn 116 [(0, 0)]))), (5, sV .i64 u (ka0 u)), (6, uV j), (17, bV false)] [(0, some (42, (fO wk wr w wn wz)))] 1 zo ?_
  refine zf ?_
  refine AW.exit ?_
  refine kK [.no, .no] True [(4, sV .i64 u (ka0 u))] [(0, some (42, (fO wk wr w wn wz)))] 1 trivial ?_
  have hz2 : fC w m c = u := by have h9 := hu; rw [show j = c by omega] at h9; exact h9
  refine AW.ret ?_
  exact kB (.inr rfl) [] (P := (((dI .i64 (fC w m c)) : List D) = (dI .i64 u)) ∧ (((ka0 (fC w m c)) : Nat) = (ka0 u)) ∧ (kN [iD wk, iD wr, dl w wn, iD wz])) zk ⟨(by first | rfl | rw [hz2]), (by first | rfl | rw [hz2] | omega), rfl⟩
abbrev hG : BC := .ds [iD 0, iD 0, D.lit (.slice none 0 0), iD 0]
abbrev j7 (k : Int) (r : List Int) (rn : Nat) (m : List (List Int)) (c : Nat) (s : List Int) (sn : Nat) : BC := .ds [iD k, D.sl (dI .i64 r) rn, D.sl (kL m) c, D.sl (dI .i64 s) sn]
abbrev hD (wk : Int) (wr : Int) (w : List Int) (wn : Nat) (wz : Int) : BC := .ds [iD wk, iD wr, D.sl (dI .i64 w) wn, iD wz]
theorem z7 (k : Int) (r : List Int) (rn : Nat) (m : List (List Int)) (c : Nat) (s : List Int) (sn : Nat) (wk wr : Int) (w : List Int) (wn : Nat) (wz : Int) (hr : ka0 r = rn * 2) (hs : ka0 s = sn * 2) (hc : ka0 m = c) (h1 : rn ≤ 1000000) (h2 : sn ≤ 1000000) (h3 : c ≤ 1000000) (h4 : 1 ≤ c) (hW : MsW m) (hw : ka0 w = wn) (h5 : wn ≤ 1000000) (hwr : -9223372036854775808 ≤ wr ∧ wr ≤ 9223372036854775807) (hwz : -9223372036854775808 ≤ wz ∧ wz ≤ 9223372036854775807) : Fun 78 [.agg [iC k, .d (D.sl (dI .i64 r) rn), .d (D.sl (kL m) c), .d (D.sl (dI .i64 s) sn)], .agg [iC wk, iC wr, .d (D.sl (dI .i64 w) wn), iC wz]] (kH []) 0 (.e (.agg [iC (cG k wk 7), iC (vJ wr (kC r rn)), .d (D.sl (dI .i64 (fC w m c)) (ka0 (fC w m c))), iC (vJ wz (kC s sn))])) (kH []) 0 := by
 refine Fun.mk (n := 63) Tryz.func78 rfl rfl (ka4 rfl) ?_
 intro cx hcx
 refine kK [.no, .no, .no] True [(2, rV 0 0), (3, rV 1 0), (4, rV 2 0)] [(0, some (63, (j7 k r rn m c s sn))), (1, some (42, (hD wk wr w wn wz))), (2, some (42, hG))] 3 trivial ?_
 refine kT [.no] True [(2, rV 0 0), (3, rV 1 0), (4, rV 2 0), (5, iV 0)] trivial ?_
 refine AW.seq ?_
 refine kT [.no] True [(2, rV 0 0), (3, rV 1 0), (4, rV 2 0), (5, iV 0), (6, iV 1)] trivial ?_
 refine AW.block ?_
 refine qH 0 hcx (fun (x : {x : Nat × Int // match x with | (i, y) => (i ≤ 7 ∧ 0 ≤ y ∧ y ≤ 7) ∧ (cG k wk i = y)}) => match x with | ⟨(i, y), _⟩ => (⟨[(2, rV 0 0), (3, rV 1 0), (4, rV 2 0), (5, iV y), (6, iV ((i : Int) + 1))], [(0, some (63, (j7 k r rn m c s sn))), (1, some (42, (hD wk wr w wn wz))), (2, some (42, hG))], 3⟩ : ES)) (fun x => match x with | ⟨(i, y), _⟩ => 7 - i) ⟨((0 : Nat), (0 : Int)), ⟨cM, rfl⟩⟩ [] (P := (kJ 0) ∧ (kJ 0) ∧ (kJ 0) ∧ (kS 0) ∧ (kS 1) ∧ (kN [iD k, dl r rn, D.sl (kL m) c, dl s sn]) ∧ (kN [iD wk, iD wr, dl w wn, iD wz]) ∧ (kN [iD 0, iD 0, qQ, iD 0])) zk ⟨rfl, rfl, rfl, rfl, rfl, rfl, rfl, rfl⟩ ?_
 rintro ⟨⟨i, y⟩, hinv0⟩
 obtain ⟨hi, hy⟩ : (i ≤ 7 ∧ 0 ≤ y ∧ y ≤ 7) ∧ (cG k wk i = y) := hinv0
 refine uL (l := [(2, rV 0 0), (3, rV 1 0), (4, rV 2 0), (5, iV y), (6, iV ((i : Int) + 1))]) (g := [(0, some (63, (j7 k r rn m c s sn))), (1, some (42, (hD wk wr w wn wz))), (2, some (42, hG))]) (nx := 3) rfl rfl rfl ?_
 refine AW.seq ?_
 by_cases hx1 : ((((i : Nat) : Int) + 1) ≤ 7)
 ·refine kK [.no, .b true] ((((i : Int) + 1) ≤ 7)) [(2, rV 0 0), (3, rV 1 0), (4, rV 2 0), (5, iV y), (6, iV (↑i + 1)), (13, bV true)] [(0, some (63, (j7 k r rn m c s sn))), (1, some (42, (hD wk wr w wn wz))), (2, some (42, hG))] 3 zo ?_
  refine vR ?_
  refine AW.seq ?_
  refine AW.block ?_
  by_cases hx2 : ((fB (k / (((2 ^ (i + 1)) : Nat) : Int))) = 1)
  ·by_cases hx3 : (y = 0)
   ·refine kT [.no, .no, .no, .n (i + 1), .i (fB (k / (((2 ^ (i + 1)) : Nat) : Int))), .b true, .no, .no, .b true, .no, .no, .no] (((((i : Int) + 1) : Int) = (((i + 1) : Nat) : Int)) ∧ ((i + 1) ≤ 64) ∧ (qM .and .i64 (k / (((2 ^ (i + 1)) : Nat) : Int)) 1 = (fB (k / (((2 ^ (i + 1)) : Nat) : Int)))) ∧ (((fB (k / (((2 ^ (i + 1)) : Nat) : Int))) = 1)) ∧ ((y = 0))) [(2, rV 0 0), (3, rV 1 0), (4, rV 2 0), (5, iV y), (6, iV (↑i + 1)), (34, bV true)] ⟨(by first | rfl | omega), zo, rfl, zo, zo⟩ ?_
    refine zt ?_
    refine yT [.no, .no] True [(2, rV 0 0), (3, rV 1 0), (4, rV 2 0), (5, iV (↑i + 1)), (6, iV (↑i + 1))] trivial ?_
    refine yT [.no, .w, .no] (yQ (((i : Int) + 1) + 1)) [(2, rV 0 0), (3, rV 1 0), (4, rV 2 0), (5, iV (↑i + 1)), (6, iV ((↑i + 1) + 1))] ⟨by omega, by omega⟩ ?_
    exact qE ⟨(((i + 1) : Nat), (((i : Int) + 1) : Int)), ⟨cM, (by first | exact k4q hy (decide_eq_true ⟨by omega, by omega, by omega⟩) zo rfl | exact k9x hy (decide_eq_false (fun e9 => by omega)) | exact k9w hy zo zo)⟩⟩ [] (P := (kJ 0) ∧ (kJ 0) ∧ (kJ 0) ∧ (kS ((i : Int) + 1)) ∧ ((((((i + 1) : Nat) : Int) + 1) : Int) = (((i : Int) + 1) + 1)) ∧ (kN [iD k, dl r rn, D.sl (kL m) c, dl s sn]) ∧ (kN [iD wk, iD wr, dl w wn, iD wz]) ∧ (kN [iD 0, iD 0, qQ, iD 0])) zk ⟨rfl, rfl, rfl, rfl, fG, rfl, rfl, rfl⟩ (show 7 - (i + 1) < 7 - i from fF)
   ·by_cases hx5 : ((c9 wk (((i : Nat) : Int) + 1) y) < 0)
    ·have hx6 : ((((-1) : Int) ≤ (c9 wk (((i : Nat) : Int) + 1) y)) ∧ ((c9 wk (((i : Nat) : Int) + 1) y) ≤ 1)) := i6 wk (((i : Nat) : Int) + 1) y
     refine kT (.no :: .no :: .no :: .n (i + 1) :: .i (fB (k / (((2 ^ (i + 1)) : Nat) : Int))) :: .b true :: .no :: .no :: .b false :: qN 6 [.call [] (iV (c9 wk ((i : Int) + 1) y)) [] 0 [] none, .b true, .no, .no]) (((((i : Int) + 1) : Int) = (((i + 1) : Nat) : Int)) ∧ ((i + 1) ≤ 64) ∧ (qM .and .i64 (k / (((2 ^ (i + 1)) : Nat) : Int)) 1 = (fB (k / (((2 ^ (i + 1)) : Nat) : Int)))) ∧ (((fB (k / (((2 ^ (i + 1)) : Nat) : Int))) = 1)) ∧ (¬ (y = 0)) ∧ (_) ∧ (((c9 wk ((i : Int) + 1) y) < 0))) [(2, rV 0 0), (3, rV 1 0), (4, rV 2 0), (5, iV y), (6, iV (↑i + 1)), (34, bV true)] ⟨(by first | rfl | omega), zo, rfl, zo, zo, (t8 wk ((i : Int) + 1) y), zo⟩ ?_
     refine zt ?_
     refine yT [.no, .no] True [(2, rV 0 0), (3, rV 1 0), (4, rV 2 0), (5, iV (↑i + 1)), (6, iV (↑i + 1))] trivial ?_
     refine yT [.no, .w, .no] (yQ (((i : Int) + 1) + 1)) [(2, rV 0 0), (3, rV 1 0), (4, rV 2 0), (5, iV (↑i + 1)), (6, iV ((↑i + 1) + 1))] ⟨by omega, by omega⟩ ?_
     exact qE ⟨(((i + 1) : Nat), (((i : Int) + 1) : Int)), ⟨cM, (by first | exact k4q hy (decide_eq_true ⟨by omega, by omega, by omega⟩) zo rfl | exact k9x hy (decide_eq_false (fun e9 => by omega)) | exact k9w hy zo zo)⟩⟩ [] (P := (kJ 0) ∧ (kJ 0) ∧ (kJ 0) ∧ (kS ((i : Int) + 1)) ∧ ((((((i + 1) : Nat) : Int) + 1) : Int) = (((i : Int) + 1) + 1)) ∧ (kN [iD k, dl r rn, D.sl (kL m) c, dl s sn]) ∧ (kN [iD wk, iD wr, dl w wn, iD wz]) ∧ (kN [iD 0, iD 0, qQ, iD 0])) zk ⟨rfl, rfl, rfl, rfl, fG, rfl, rfl, rfl⟩ (show 7 - (i + 1) < 7 - i from fF)
    ·have hx7 : ((((-1) : Int) ≤ (c9 wk (((i : Nat) : Int) + 1) y)) ∧ ((c9 wk (((i : Nat) : Int) + 1) y) ≤ 1)) := i6 wk (((i : Nat) : Int) + 1) y
     refine kT (.no :: .no :: .no :: .n (i + 1) :: .i (fB (k / (((2 ^ (i + 1)) : Nat) : Int))) :: .b true :: .no :: .no :: .b false :: qN 6 [.call [] (iV (c9 wk ((i : Int) + 1) y)) [] 0 [] none, .b false, .no, .no]) (((((i : Int) + 1) : Int) = (((i + 1) : Nat) : Int)) ∧ ((i + 1) ≤ 64) ∧ (qM .and .i64 (k / (((2 ^ (i + 1)) : Nat) : Int)) 1 = (fB (k / (((2 ^ (i + 1)) : Nat) : Int)))) ∧ (((fB (k / (((2 ^ (i + 1)) : Nat) : Int))) = 1)) ∧ (¬ (y = 0)) ∧ (_) ∧ (¬ ((c9 wk ((i : Int) + 1) y) < 0))) [(2, rV 0 0), (3, rV 1 0), (4, rV 2 0), (5, iV y), (6, iV (↑i + 1)), (34, bV false)] ⟨(by first | rfl | omega), zo, rfl, zo, zo, (t8 wk ((i : Int) + 1) y), zo⟩ ?_
     refine yA ?_
     refine yT [.no, .w, .no] (yQ (((i : Int) + 1) + 1)) [(2, rV 0 0), (3, rV 1 0), (4, rV 2 0), (5, iV y), (6, iV ((↑i + 1) + 1))] ⟨by omega, by omega⟩ ?_
     exact qE ⟨(((i + 1) : Nat), (y : Int)), ⟨cM, (by first | exact k4q hy (decide_eq_true ⟨by omega, by omega, by omega⟩) zo rfl | exact k9x hy (decide_eq_false (fun e9 => by omega)) | exact k9w hy zo zo)⟩⟩ [] (P := (kJ 0) ∧ (kJ 0) ∧ (kJ 0) ∧ (kS y) ∧ ((((((i + 1) : Nat) : Int) + 1) : Int) = (((i : Int) + 1) + 1)) ∧ (kN [iD k, dl r rn, D.sl (kL m) c, dl s sn]) ∧ (kN [iD wk, iD wr, dl w wn, iD wz]) ∧ (kN [iD 0, iD 0, qQ, iD 0])) zk ⟨rfl, rfl, rfl, rfl, fG, rfl, rfl, rfl⟩ (show 7 - (i + 1) < 7 - i from fF)
  ·refine kT [.no, .no, .no, .n (i + 1), .i (fB (k / (((2 ^ (i + 1)) : Nat) : Int))), .b false, .no, .no] (((((i : Int) + 1) : Int) = (((i + 1) : Nat) : Int)) ∧ ((i + 1) ≤ 64) ∧ (qM .and .i64 (k / (((2 ^ (i + 1)) : Nat) : Int)) 1 = (fB (k / (((2 ^ (i + 1)) : Nat) : Int)))) ∧ (¬ ((fB (k / (((2 ^ (i + 1)) : Nat) : Int))) = 1))) [(2, rV 0 0), (3, rV 1 0), (4, rV 2 0), (5, iV y), (6, iV (↑i + 1)), (34, bV false)] ⟨(by first | rfl | omega), zo, rfl, zo⟩ ?_
   refine yA ?_
   refine yT [.no, .w, .no] (yQ (((i : Int) + 1) + 1)) [(2, rV 0 0), (3, rV 1 0), (4, rV 2 0), (5, iV y), (6, iV ((↑i + 1) + 1))] ⟨by omega, by omega⟩ ?_
   exact qE ⟨(((i + 1) : Nat), (y : Int)), ⟨cM, (by first | exact k4q hy (decide_eq_true ⟨by omega, by omega, by omega⟩) zo rfl | exact k9x hy (decide_eq_false (fun e9 => by omega)) | exact k9w hy zo zo)⟩⟩ [] (P := (kJ 0) ∧ (kJ 0) ∧ (kJ 0) ∧ (kS y) ∧ ((((((i + 1) : Nat) : Int) + 1) : Int) = (((i : Int) + 1) + 1)) ∧ (kN [iD k, dl r rn, D.sl (kL m) c, dl s sn]) ∧ (kN [iD wk, iD wr, dl w wn, iD wz]) ∧ (kN [iD 0, iD 0, qQ, iD 0])) zk ⟨rfl, rfl, rfl, rfl, fG, rfl, rfl, rfl⟩ (show 7 - (i + 1) < 7 - i from fF)
 ·refine kK [.no, .b false] (¬ (((i : Int) + 1) ≤ 7)) [(2, rV 0 0), (3, rV 1 0), (4, rV 2 0), (5, iV y), (6, iV (↑i + 1)), (13, bV false)] [(0, some (63, (j7 k r rn m c s sn))), (1, some (42, (hD wk wr w wn wz))), (2, some (42, hG))] 3 zo ?_
  refine zf ?_
  refine AW.exit ?_
  refine kK (qN 5 (.call [] (.tup [iE (vJ wr (kC r rn)), .c (.d (D.lit (.bool (nrF wr (kC r rn)))))]) [] 0 [] none :: qN 5 [])) _ [(2, rV 0 0), (3, rV 1 0), (4, rV 2 0), (5, iV y), (7, iV (vJ wr (kC r rn)))] [(0, some (63, (j7 k r rn m c s sn))), (1, some (42, (hD wk wr w wn wz))), (2, some (42, hG))] 3 (u0c r rn wr zo zo zo) ?_
  refine kT (qN 4 (.call [] (.tup [iE (vJ wz (kC s sn)), .c (.d (D.lit (.bool (nrF wz (kC s sn)))))]) [] 0 [] none :: qN 5 [])) _ [(2, rV 0 0), (3, rV 1 0), (4, rV 2 0), (5, iV y), (7, iV (vJ wr (kC r rn))), (9, iV (vJ wz (kC s sn)))] (u0c s sn wz zo zo zo) ?_
  have hx8 : ((ka0 (fC w m c)) ≤ 1000000) := k9t (qJ : MsW m) c
  refine kK [.no, .no, .no, .call [1] (sV .i64 (fC w m c) (ka0 (fC w m c))) [(0, some (42, (hD wk wr w wn wz)))] 1 [] none, .no] _ [(4, rV 2 0), (5, iV y), (7, iV (vJ wr (kC r rn))), (9, iV (vJ wz (kC s sn))), (11, sV .i64 (fC w m c) (ka0 (fC w m c)))] [(2, some (42, hG))] 3 (v2j m c wk wr w wn wz zo zo zo (qJ : MsW m) zo zo) ?_
  refine kK (qN 7 []) True [(4, rV 2 0)] [(2, some (42, .ds [iD y, iD (vJ wr (kC r rn)), dl (fC w m c) (ka0 (fC w m c)), iD (vJ wz (kC s sn))]))] 3 trivial ?_
  have hz1 : cG k wk 7 = y := by have h9 := hy; rw [show i = 7 by omega] at h9; exact h9
  refine AW.ret ?_
  exact kB (.inr rfl) [] (P := (((cG k wk 7) : Int) = y) ∧ (kS (vJ wr (kC r rn))) ∧ (kN (dI .i64 (fC w m c))) ∧ (kJ (ka0 (fC w m c))) ∧ (kS (vJ wz (kC s sn)))) zk ⟨(by first | rfl | exact hz1 | omega), rfl, rfl, rfl, rfl⟩
abbrev y6 (w : List Int) (bs : List Bx) (j : Nat) := fC w (kX (kM bs) j) (ka0 (kX (kM bs) j))
abbrev fN (w : List Int) (bs : List Bx) := fC w (kX (kM bs) 0) (ka0 (kX (kM bs) 0))
abbrev vV (bs : List Bx) (j : Nat) := kC (qG (kM bs) j) (qA (kM bs) j)
abbrev vU (bs : List Bx) (j : Nat) := kC (qF (kM bs) j) (k9 (kM bs) j)
abbrev j6 (bs : List Bx) := kC (qG (kM bs) 0) (qA (kM bs) 0)
abbrev j5 (bs : List Bx) := kC (qF (kM bs) 0) (k9 (kM bs) 0)
abbrev vL : BC := .ds [iD 0, iD 0, D.lit (.slice none 0 0), iD 0]
abbrev k5b (bs : List Bx) (j : Nat) (wk : Int) (wr : Int) (w : List Int) (wz : Int) : BC := .ds [iD (cG (kU (kM bs) j) wk 7), iD (vJ wr (vV bs j)), D.sl (dI .i64 (y6 w bs j)) (ka0 (y6 w bs j)), iD (vJ wz (vU bs j))]
abbrev a8 (wk : Int) (wr : Int) (w : List Int) (wn : Nat) (wz : Int) : BC := .ds [iD wk, iD wr, D.sl (dI .i64 w) wn, iD wz]
abbrev fM (yk : Int) (yr : Int) (u : List Int) (yz : Int) : BC := .ds [iD yk, iD yr, D.sl (dI .i64 u) (ka0 u), iD yz]
abbrev k1w (bs : List Bx) (wk : Int) (wr : Int) (w : List Int) (wz : Int) : BC := .ds [iD (cG (kU (kM bs) 0) wk 7), iD (vJ wr (j6 bs)), D.sl (dI .i64 (fN w bs)) (ka0 (fN w bs)), iD (vJ wz (j5 bs))]
theorem k3o (bs : List Bx) (n : Nat) (wk wr : Int) (w : List Int) (wn : Nat) (wz : Int) (hn : ka0 bs = n) (h1 : n ≤ 1000000) (hW : BsW bs) (hw : ka0 w = wn) (h5 : wn ≤ 1000000) (hwr : -9223372036854775808 ≤ wr ∧ wr ≤ 9223372036854775807) (hwz : -9223372036854775808 ≤ wz ∧ wz ≤ 9223372036854775807) (h9 : 1 ≤ ka0 (kM bs)) : Fun 46 [.c (.d (D.sl (kV bs) n)), .agg [iC wk, iC wr, .d (D.sl (dI .i64 w) wn), iC wz]] (kH []) 0 (.tup [.agg [iC (q5 bs wk wr w wz), iC (qX bs wk wr w wz), .d (D.sl (dI .i64 (l0 bs wk wr w wz)) (ka0 (l0 bs wk wr w wz))), iC (qZ bs wk wr w wz)], .c (.d (D.lit (.bool true)))]) (kH []) 0 := by
 refine Fun.mk (n := 35) Tryz.func46 rfl rfl (ka4 rfl) ?_
 intro cx hcx
 refine kK [.no, .no, .no] True [(0, .e (qC bs n)), (3, rV 0 0), (4, rV 1 0)] [(0, some (42, (a8 wk wr w wn wz))), (1, some (42, vL))] 2 trivial ?_
 refine kK [.no] True [(0, .e (qC bs n)), (3, rV 0 0), (4, rV 1 0), (6, rV 2 0)] [(0, some (42, (a8 wk wr w wn wz))), (1, some (42, vL)), (2, some (42, vL))] 3 trivial ?_
 refine kT [.no] True [(0, .e (qC bs n)), (3, rV 0 0), (4, rV 1 0), (6, rV 2 0), (7, bV false)] trivial ?_
 refine AW.seq ?_
 have hx1 : ((ka0 (kM bs)) ≤ n) := (by have h9 := lN bs; omega)
 refine kT [.no, .call [] (.e (vA (kM bs))) [] 0 [] none, .no, .no] _ [(3, rV 0 0), (4, rV 1 0), (6, rV 2 0), (7, bV false), (12, .e (vA (kM bs))), (13, uV (ka0 (kM bs))), (14, iV 0)] (jQ bs n zo zo (qJ : BsW bs)) ?_
 refine AW.block ?_
 refine u3e 1 ?_
 refine AWp.s ?_
 refine kK [.b true] (((0 : Int) < (ka0 (kM bs) : Int))) [(3, rV 0 0), (4, rV 1 0), (6, rV 2 0), (7, bV false), (12, .e (vA (kM bs))), (13, uV (ka0 (kM bs))), (14, iV 0), (15, bV true)] [(0, some (42, (a8 wk wr w wn wz))), (1, some (42, vL)), (2, some (42, vL))] 3 zo ?_
 refine AW.seq ?_
 refine vR ?_
 refine AW.seq ?_
 refine AW.block ?_
 obtain ⟨hx2, hx3, hx4, hx5, hx6⟩ := BsW.at (eF (qJ : BsW bs)) (0)
 have hx7 : ((1 : Nat) ≤ (ka0 (kX (kM bs) 0))) := tS zo
 refine kK [.n 0, .ds [iD (kU (kM bs) 0), dl (qG (kM bs) 0) (qA (kM bs) 0), D.sl (kL (kX (kM bs) 0)) (ka0 (kX (kM bs) 0)), dl (qF (kM bs) 0) (k9 (kM bs) 0)], .no, .no] ((kS 0) ∧ ((0 : Nat) < (ka0 (kM bs))) ∧ (List.take 4 (ka3 0 (kV (kM bs))) = [iD (kU (kM bs) 0), dl (qG (kM bs) 0) (qA (kM bs) 0), D.sl (kL (kX (kM bs) 0)) (ka0 (kX (kM bs) 0)), dl (qF (kM bs) 0) (k9 (kM bs) 0)]) ∧ (([iD (kU (kM bs) 0), dl (qG (kM bs) 0) (qA (kM bs) 0), D.sl (kL (kX (kM bs) 0)) (ka0 (kX (kM bs) 0)), dl (qF (kM bs) 0) (k9 (kM bs) 0)] : List D).length = 4)) [(3, rV 0 0), (4, rV 1 0), (6, rV 2 0), (7, bV false), (9, rV 3 0), (12, .e (vA (kM bs))), (13, uV (ka0 (kM bs))), (14, iV 0)] [(0, some (42, (a8 wk wr w wn wz))), (1, some (42, vL)), (2, some (42, vL)), (3, some (63, .ds [iD (kU (kM bs) 0), dl (qG (kM bs) 0) (qA (kM bs) 0), D.sl (kL (kX (kM bs) 0)) (ka0 (kX (kM bs) 0)), dl (qF (kM bs) 0) (k9 (kM bs) 0)]))] 4 ⟨rfl, zo, (vQ (i := 0) jV), rfl⟩ ?_
 have hx8 : (((0 : Int) ≤ (cG (kU (kM bs) 0) wk 7)) ∧ ((cG (kU (kM bs) 0) wk 7) ≤ 7)) := tW (kU (kM bs) 0) wk 7
 have hx9 : (((0 : Int) ≤ (vJ wr (j6 bs))) ∧ ((vJ wr (j6 bs)) ≤ 2147483647)) := lF (yL)
 have hx10 : (((0 : Int) ≤ (vJ wz (j5 bs))) ∧ ((vJ wz (j5 bs)) ≤ 2147483647)) := lF (yL)
 have hx11 : ((ka0 (fN w bs)) ≤ 1000000) := k9t ((BsW.ms (eF (qJ : BsW bs)) _)) (ka0 (kX (kM bs) 0))
 refine kK [.no, .no, .call [] (.e (.agg [iC (cG (kU (kM bs) 0) wk 7), iC (vJ wr (j6 bs)), .d (dl (fN w bs) (ka0 (fN w bs))), iC (vJ wz (j5 bs))])) [] 0 [] none, .no, .no] _ [(3, rV 0 0), (4, rV 1 0), (6, rV 2 0), (7, bV false), (10, rV 4 0), (12, .e (vA (kM bs))), (13, uV (ka0 (kM bs))), (14, iV 0)] [(0, some (42, (a8 wk wr w wn wz))), (1, some (42, vL)), (2, some (42, vL)), (4, some (42, (k1w bs wk wr w wz)))] 5 (z7 (kU (kM bs) 0) (qG (kM bs) 0) (qA (kM bs) 0) (kX (kM bs) 0) (ka0 (kX (kM bs) 0)) (qF (kM bs) 0) (k9 (kM bs) 0) wk wr w wn wz yL yL rfl yL yL yL yL (BsW.ms (eF (qJ : BsW bs)) _) zo zo zo zo) ?_
 refine kT (qN 4 []) True [(3, rV 0 0), (4, rV 1 0), (6, rV 2 0), (7, bV false), (10, rV 4 0), (12, .e (vA (kM bs))), (13, uV (ka0 (kM bs))), (14, iV 0), (29, bV true)] trivial ?_
 refine zt ?_
 refine aG [.no, .no, .no] True [(3, rV 0 0), (4, rV 1 0), (6, rV 2 0), (7, bV true), (12, .e (vA (kM bs))), (13, uV (ka0 (kM bs))), (14, iV 0)] [(0, some (42, (a8 wk wr w wn wz))), (1, some (42, vL)), (2, some (42, (k1w bs wk wr w wz)))] 5 trivial ?_
 refine yT [.w, .no] (yQ (1 : Int)) [(3, rV 0 0), (4, rV 1 0), (6, rV 2 0), (7, bV true), (12, .e (vA (kM bs))), (13, uV (ka0 (kM bs))), (14, iV 1)] ⟨by omega, by omega⟩ ?_
 refine AWp.z ?_
 refine qH 0 hcx (fun (x : {x : Nat × Int × Int × List Int × Int // match x with | (j, yk, yr, u, yz) => (1 ≤ j ∧ j ≤ ka0 (kM bs)) ∧ (BE (kM bs) wk wr w wz j yk yr u yz) ∧ ((0 ≤ yk ∧ yk ≤ 7) ∧ (0 ≤ yr ∧ yr ≤ 2147483647) ∧ (0 ≤ yz ∧ yz ≤ 2147483647) ∧ ka0 u ≤ 1000000)}) => match x with | ⟨(j, yk, yr, u, yz), _⟩ => (⟨[(3, rV 0 0), (4, rV 1 0), (6, rV 2 0), (7, bV true), (12, .e (vA (kM bs))), (13, uV (ka0 (kM bs))), (14, uV j)], [(0, some (42, (a8 wk wr w wn wz))), (1, some (42, vL)), (2, some (42, (fM yk yr u yz)))], 5⟩ : ES)) (fun x => match x with | ⟨(j, yk, yr, u, yz), _⟩ => ka0 (kM bs) - j) ⟨((1 : Nat), ((cG (kU (kM bs) 0) wk 7) : Int), ((vJ wr (j6 bs)) : Int), ((fN w bs) : List Int), ((vJ wz (j5 bs)) : Int)), ⟨cM, (BE.first rfl rfl rfl rfl), zo⟩⟩ [] (P := (kJ 0) ∧ (kJ 0) ∧ (kJ 0) ∧ (true = true) ∧ (kN (kV (kM bs))) ∧ (kJ (ka0 (kM bs))) ∧ (kS (ka0 (kM bs) : Int)) ∧ (kS 1) ∧ (kN [iD wk, iD wr, dl w wn, iD wz]) ∧ (kN [iD 0, iD 0, qQ, iD 0]) ∧ (kN [iD (cG (kU (kM bs) 0) wk 7), iD (vJ wr (j6 bs)), dl (fN w bs) (ka0 (fN w bs)), iD (vJ wz (j5 bs))])) zk ⟨rfl, rfl, rfl, (by first | rfl | assumption | simp), rfl, rfl, rfl, rfl, rfl, rfl, rfl⟩ ?_
 rintro ⟨⟨j, yk, yr, u, yz⟩, hinv0⟩
 obtain ⟨hj, hE, hy⟩ : (1 ≤ j ∧ j ≤ ka0 (kM bs)) ∧ (BE (kM bs) wk wr w wz j yk yr u yz) ∧ ((0 ≤ yk ∧ yk ≤ 7) ∧ (0 ≤ yr ∧ yr ≤ 2147483647) ∧ (0 ≤ yz ∧ yz ≤ 2147483647) ∧ ka0 u ≤ 1000000) := hinv0
 refine uL (l := [(3, rV 0 0), (4, rV 1 0), (6, rV 2 0), (7, bV true), (12, .e (vA (kM bs))), (13, uV (ka0 (kM bs))), (14, uV j)]) (g := [(0, some (42, (a8 wk wr w wn wz))), (1, some (42, vL)), (2, some (42, (fM yk yr u yz)))]) (nx := 5) rfl rfl rfl ?_
 by_cases hx12 : (((j : Nat) : Int) < (((ka0 (kM bs)) : Nat) : Int))
 ·refine kK [.b true] (((j : Int) < (ka0 (kM bs) : Int))) [(3, rV 0 0), (4, rV 1 0), (6, rV 2 0), (7, bV true), (12, .e (vA (kM bs))), (13, uV (ka0 (kM bs))), (14, uV j), (15, bV true)] [(0, some (42, (a8 wk wr w wn wz))), (1, some (42, vL)), (2, some (42, (fM yk yr u yz)))] 5 zo ?_
  refine AW.seq ?_
  refine vR ?_
  refine AW.seq ?_
  refine AW.block ?_
  obtain ⟨hx13, hx14, hx15, hx16, hx17⟩ := BsW.at (eF (qJ : BsW bs)) (j)
  have hx18 : ((1 : Nat) ≤ (ka0 (kX (kM bs) j))) := tS zo
  refine kK [.n j, .ds (y3 (kM bs) j), .no, .no] ((kS (j : Int)) ∧ (j < (ka0 (kM bs))) ∧ (List.take 4 (ka3 (j * 4) (kV (kM bs))) = (y3 (kM bs) j)) ∧ (((y3 (kM bs) j) : List D).length = 4)) [(3, rV 0 0), (4, rV 1 0), (6, rV 2 0), (7, bV true), (9, rV 5 0), (12, .e (vA (kM bs))), (13, uV (ka0 (kM bs))), (14, uV j)] [(0, some (42, (a8 wk wr w wn wz))), (1, some (42, vL)), (2, some (42, (fM yk yr u yz))), (5, some (63, .ds (y3 (kM bs) j)))] 6 ⟨rfl, zo, (vQ jV), rfl⟩ ?_
  have hx19 : (((0 : Int) ≤ (cG (kU (kM bs) j) wk 7)) ∧ ((cG (kU (kM bs) j) wk 7) ≤ 7)) := tW (kU (kM bs) j) wk 7
  have hx20 : (((0 : Int) ≤ (vJ wr (vV bs j))) ∧ ((vJ wr (vV bs j)) ≤ 2147483647)) := lF (yL)
  have hx21 : (((0 : Int) ≤ (vJ wz (vU bs j))) ∧ ((vJ wz (vU bs j)) ≤ 2147483647)) := lF (yL)
  have hx22 : ((ka0 (y6 w bs j)) ≤ 1000000) := k9t ((BsW.ms (eF (qJ : BsW bs)) _)) (ka0 (kX (kM bs) j))
  refine kK [.no, .no, .call [] (.e (.agg [iC (cG (kU (kM bs) j) wk 7), iC (vJ wr (vV bs j)), .d (dl (y6 w bs j) (ka0 (y6 w bs j))), iC (vJ wz (vU bs j))])) [] 0 [] none, .no, .no] _ [(3, rV 0 0), (4, rV 1 0), (6, rV 2 0), (7, bV true), (10, rV 6 0), (12, .e (vA (kM bs))), (13, uV (ka0 (kM bs))), (14, uV j)] [(0, some (42, (a8 wk wr w wn wz))), (1, some (42, vL)), (2, some (42, (fM yk yr u yz))), (6, some (42, (k5b bs j wk wr w wz)))] 7 (z7 (kU (kM bs) j) (qG (kM bs) j) (qA (kM bs) j) (kX (kM bs) j) (ka0 (kX (kM bs) j)) (qF (kM bs) j) (k9 (kM bs) j) wk wr w wn wz yL yL rfl yL yL yL yL (BsW.ms (eF (qJ : BsW bs)) _) zo zo zo zo) ?_
  by_cases hx24 : ((mP wk wr wz (cG (kU (kM bs) j) wk 7) (vJ wr (vV bs j)) (vJ wz (vU bs j)) yk yr yz w (y6 w bs j) u) < 0)
  ·have hx25 : ((((-1) : Int) ≤ (mP wk wr wz (cG (kU (kM bs) j) wk 7) (vJ wr (vV bs j)) (vJ wz (vU bs j)) yk yr yz w (y6 w bs j) u)) ∧ ((mP wk wr wz (cG (kU (kM bs) j) wk 7) (vJ wr (vV bs j)) (vJ wz (vU bs j)) yk yr yz w (y6 w bs j) u) ≤ 1)) := k39 ..
   refine kT (qN 6 [.call [] (iV (mP wk wr wz (cG (kU (kM bs) j) wk 7) (vJ wr (vV bs j)) (vJ wz (vU bs j)) yk yr yz w (y6 w bs j) u)) [] 0 [] none, .b true, .no]) ((_) ∧ (((mP wk wr wz (cG (kU (kM bs) j) wk 7) (vJ wr (vV bs j)) (vJ wz (vU bs j)) yk yr yz w (y6 w bs j) u) < 0))) [(3, rV 0 0), (4, rV 1 0), (6, rV 2 0), (7, bV true), (10, rV 6 0), (12, .e (vA (kM bs))), (13, uV (ka0 (kM bs))), (14, uV j), (29, bV true)] ⟨(rG wk wr wz (cG (kU (kM bs) j) wk 7) (vJ wr (vV bs j)) (vJ wz (vU bs j)) yk yr yz w (y6 w bs j) u wn (ka0 (y6 w bs j)) (ka0 u) zo rfl rfl zo yL zo zo yL zo zo yL zo), zo⟩ ?_
   refine zt ?_
   refine aG [.no, .no, .no] True [(3, rV 0 0), (4, rV 1 0), (6, rV 2 0), (7, bV true), (12, .e (vA (kM bs))), (13, uV (ka0 (kM bs))), (14, uV j)] [(0, some (42, (a8 wk wr w wn wz))), (1, some (42, vL)), (2, some (42, (k5b bs j wk wr w wz)))] 7 trivial ?_
   refine yT [.w, .no] (yQ ((j : Int) + 1)) [(3, rV 0 0), (4, rV 1 0), (6, rV 2 0), (7, bV true), (12, .e (vA (kM bs))), (13, uV (ka0 (kM bs))), (14, iV (↑j + 1))] ⟨by omega, by omega⟩ ?_
   exact qE ⟨(((j + 1) : Nat), ((cG (kU (kM bs) j) wk 7) : Int), ((vJ wr (vV bs j)) : Int), ((y6 w bs j) : List Int), ((vJ wz (vU bs j)) : Int)), ⟨cM, (by first | exact BE.y hE rfl rfl rfl rfl zo | exact BE.n hE zo zo), (by first | omega | assumption)⟩⟩ [] (P := (kJ 0) ∧ (kJ 0) ∧ (kJ 0) ∧ (true = true) ∧ (kN (kV (kM bs))) ∧ (kJ (ka0 (kM bs))) ∧ (kS (ka0 (kM bs) : Int)) ∧ (c7 j) ∧ (kN [iD wk, iD wr, dl w wn, iD wz]) ∧ (kN [iD 0, iD 0, qQ, iD 0]) ∧ (kN [iD (cG (kU (kM bs) j) wk 7), iD (vJ wr (vV bs j)), dl (y6 w bs j) (ka0 (y6 w bs j)), iD (vJ wz (vU bs j))])) zk ⟨rfl, rfl, rfl, (by first | rfl | assumption | simp), rfl, rfl, rfl, fG, rfl, rfl, rfl⟩ (show ka0 (kM bs) - (j + 1) < ka0 (kM bs) - j from fF)
  ·have hx26 : ((((-1) : Int) ≤ (mP wk wr wz (cG (kU (kM bs) j) wk 7) (vJ wr (vV bs j)) (vJ wz (vU bs j)) yk yr yz w (y6 w bs j) u)) ∧ ((mP wk wr wz (cG (kU (kM bs) j) wk 7) (vJ wr (vV bs j)) (vJ wz (vU bs j)) yk yr yz w (y6 w bs j) u) ≤ 1)) := k39 ..
   refine kT (qN 6 [.call [] (iV (mP wk wr wz (cG (kU (kM bs) j) wk 7) (vJ wr (vV bs j)) (vJ wz (vU bs j)) yk yr yz w (y6 w bs j) u)) [] 0 [] none, .b false, .no]) ((_) ∧ (¬ ((mP wk wr wz (cG (kU (kM bs) j) wk 7) (vJ wr (vV bs j)) (vJ wz (vU bs j)) yk yr yz w (y6 w bs j) u) < 0))) [(3, rV 0 0), (4, rV 1 0), (6, rV 2 0), (7, bV true), (10, rV 6 0), (12, .e (vA (kM bs))), (13, uV (ka0 (kM bs))), (14, uV j), (29, bV false)] ⟨(rG wk wr wz (cG (kU (kM bs) j) wk 7) (vJ wr (vV bs j)) (vJ wz (vU bs j)) yk yr yz w (y6 w bs j) u wn (ka0 (y6 w bs j)) (ka0 u) zo rfl rfl zo yL zo zo yL zo zo yL zo), zo⟩ ?_
   refine yA ?_
   refine aG [.w, .no] (yQ ((j : Int) + 1)) [(3, rV 0 0), (4, rV 1 0), (6, rV 2 0), (7, bV true), (12, .e (vA (kM bs))), (13, uV (ka0 (kM bs))), (14, iV (↑j + 1))] [(0, some (42, (a8 wk wr w wn wz))), (1, some (42, vL)), (2, some (42, (fM yk yr u yz)))] 7 ⟨by omega, by omega⟩ ?_
   exact qE ⟨(((j + 1) : Nat), (yk : Int), (yr : Int), (u : List Int), (yz : Int)), ⟨cM, (by first | exact BE.y hE rfl rfl rfl rfl zo | exact BE.n hE zo zo), (by first | omega | assumption)⟩⟩ [] (P := (kJ 0) ∧ (kJ 0) ∧ (kJ 0) ∧ (true = true) ∧ (kN (kV (kM bs))) ∧ (kJ (ka0 (kM bs))) ∧ (kS (ka0 (kM bs) : Int)) ∧ (c7 j) ∧ (kN [iD wk, iD wr, dl w wn, iD wz]) ∧ (kN [iD 0, iD 0, qQ, iD 0]) ∧ (kN [iD yk, iD yr, dl u (ka0 u), iD yz])) zk ⟨rfl, rfl, rfl, (by first | rfl | assumption | simp), rfl, rfl, rfl, fG, rfl, rfl, rfl⟩ (show ka0 (kM bs) - (j + 1) < ka0 (kM bs) - j from fF)
 ·refine kK [.b false] (¬ ((j : Int) < (ka0 (kM bs) : Int))) [(3, rV 0 0), (4, rV 1 0), (6, rV 2 0), (7, bV true), (12, .e (vA (kM bs))), (13, uV (ka0 (kM bs))), (14, uV j), (15, bV false)] [(0, some (42, (a8 wk wr w wn wz))), (1, some (42, vL)), (2, some (42, (fM yk yr u yz)))] 5 zo ?_
  refine AW.seq ?_
  refine zf ?_
  refine AW.exit ?_
  refine kK [.no, .call [] (.e (.agg [iC yk, iC yr, .d (dl u (ka0 u)), iC yz])) [] 0 [] none, .no, .no, .no] _ [(4, rV 1 0), (5, bV true)] [(1, some (42, (fM yk yr u yz)))] 5 (oJ yk yr u (ka0 u) yz rfl zo) ?_
  obtain ⟨hz1, hz2, hz3, hz4⟩ := hE.fin zo
  refine AW.ret ?_
  exact kB (.inr rfl) [] (P := (((q5 bs wk wr w wz) : Int) = yk) ∧ (((qX bs wk wr w wz) : Int) = yr) ∧ (((dI .i64 (l0 bs wk wr w wz)) : List D) = (dI .i64 u)) ∧ (((ka0 (l0 bs wk wr w wz)) : Nat) = (ka0 u)) ∧ (((qZ bs wk wr w wz) : Int) = yz) ∧ (true = true)) zk ⟨(by first | rfl | exact hz1 | exact hz2 | exact hz4 | rw [hz3] | omega), (by first | rfl | exact hz1 | exact hz2 | exact hz4 | rw [hz3] | omega), (by first | rfl | rw [hz3]), (by first | rfl | exact hz1 | exact hz2 | exact hz4 | rw [hz3] | omega), (by first | rfl | exact hz1 | exact hz2 | exact hz4 | rw [hz3] | omega), rfl⟩
end Go.Proofs.YtbicifcgghmhaaaGreat
