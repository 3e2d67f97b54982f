/- The best choice, of the code. No statement is proved here. -/
import Derived.Test.YtbicifcgghmhaaaGreatZL10M
namespace Go.Proofs.YtbicifcgghmhaaaGreat
open Go.ChangeShapes Go.WideShapes Go.ChangeAt Go.RowKit
open List renaming drop → ka3, getD → ka1, length → ka0, length_append → ka8, length_cons → kb0, length_drop → kb6, length_map → kc3, length_nil → kb2, length_replicate → kb5, length_reverse → kc0, length_set → kc1, length_take → kb4
open Nat renaming le_of_ble_eq_true → ka4, mul_one → kc6
set_option linter.unusedVariables false
set_option linter.unusedSimpArgs false
set_option maxHeartbeats 4000000
set_option maxRecDepth 100000
theorem u19 (k r : Int) (m : List Int) (n : Nat) (hm : ka0 m = n) (h1 : n ≤ 1000000) : Fun 80 [.agg [iC k, iC r, .d (D.sl (dI .i64 m) n)]] (kF []) 0 (.e (.agg [iC k, iC r, .d (D.sl (dI .i64 m) n)])) (kF []) 0 := by
 refine Fun.mk (n := 8) Tryz.func80 rfl rfl (ka4 rfl) ?_
 intro cx hcx
 refine kH [.no, .no] True [(1, rV 0 0), (2, rV 1 0)] [(0, some (40, .ds [iD k, iD r, dl m n])), (1, some (40, .ds [iD 0, iD 0, qI]))] 2 trivial ?_
 refine kH [.no, .no, .call [] (oV 0 0 n 1) [(0, some (3, .ds (dI .i64 m)))] 1 [] none, .no, .no] _ [(1, rV 0 0), (2, rV 1 0)] [(0, some (40, .cs [iC k, iC r, .own 2 0 n 1 true])), (1, some (40, .ds [iD 0, iD 0, qI])), (2, some (3, .ds (dI .i64 m)))] 3 (c5 m n zo zo) ?_
 refine kH [.no, .no] True [(2, rV 1 0)] [(1, some (40, .cs [iC k, iC r, .own 2 0 n 1 true])), (2, some (3, .ds (dI .i64 m)))] 3 trivial ?_
 refine AW.freeze 2 (l' := [(2, rV 1 0)]) (g' := [(1, some (40, .ds [iD k, iD r, dl m n]))]) rfl (FzS.cons rfl (.same _) FzS.nil) (FzG.to (bc := .cs [iC k, iC r, .own 2 0 n 1 true]) rfl (by rfl) (FzL.cons (.same _) (FzL.cons (.same _) (FzL.cons (@FzC.own 2 ((dI .i64 m) : List D) 0 n 1 true ((dI .i64 m) : List D) (by rw [List.drop_zero, kc6, List.take_of_length_le (by (simp only [qB, qA, qQ, ka8, kb0, kb2, kb4, kb6, kb5, kc1, kc3, kc0, kc6] <;> omega))]) (by (simp only [qB, qA, qQ, ka8, kb0, kb2, kb4, kb6, kb5, kc1, kc3, kc0, kc6] <;> omega))) FzL.nil))) FzG.nil) ?_
 refine AW.ret ?_
 exact kA (.inr rfl) [] (P := (kM k) ∧ (kM r) ∧ (kJ (dI .i64 m)) ∧ (kG n)) zk ⟨rfl, rfl, rfl, rfl⟩
theorem zB (k r : Int) (m : List Int) (n : Nat) (z : Int) (hm : ka0 m = n) (h1 : n ≤ 1000000) : Fun 48 [.agg [iC k, iC r, .d (D.sl (dI .i64 m) n), iC z]] (kF []) 0 (.e (.agg [iC k, iC r, .d (D.sl (dI .i64 m) n), iC z])) (kF []) 0 := by
 refine Fun.mk (n := 8) Tryz.func48 rfl rfl (ka4 rfl) ?_
 intro cx hcx
 refine kH [.no, .no] True [(1, rV 0 0), (2, rV 1 0)] [(0, some (42, .ds [iD k, iD r, dl m n, iD z])), (1, some (42, .ds [iD 0, iD 0, qI, iD 0]))] 2 trivial ?_
 refine kS [.no, .no, .call [] (.e (.agg [iC k, iC r, .d (dl m n)])) [] 0 [] none, .no, .no] _ [(1, rV 0 0), (2, rV 1 0)] (u19 k r m n zo zo) ?_
 refine kH [.no, .no] True [(2, rV 1 0)] [(1, some (42, .ds [iD k, iD r, dl m n, iD z]))] 2 trivial ?_
 refine AW.ret ?_
 exact kA (.inr rfl) [] (P := (kM k) ∧ (kM r) ∧ (kJ (dI .i64 m)) ∧ (kG n) ∧ (kM z)) zk ⟨rfl, rfl, rfl, rfl, rfl⟩
theorem k3e (w a b : List Int) (o n m : Nat) (wk wr wz : Int) (ho : ka0 w = o) (hn : ka0 a = n) (hm : ka0 b = m) (h1 : o ≤ 1000000) (h2 : n ≤ 1000000) (h3 : m ≤ 1000000) : Fun 116 [.c (.d (D.sl (dI .i64 a) n)), .c (.d (D.sl (dI .i64 b) m)), .c (.ptr 0 0)] (kF [(0, some (42, .ds [iD wk, iD wr, D.sl (dI .i64 w) o, iD wz]))]) 1 (iV (bX w a b)) (kF [(0, some (42, .ds [iD wk, iD wr, D.sl (dI .i64 w) o, iD wz]))]) 1 := by
 refine Fun.mk (n := 12) Tryz.func116 rfl rfl (ka4 rfl) ?_
 intro cx hcx
 refine kH [.no] True [(0, sV .i64 a n), (1, sV .i64 b m), (2, rV 0 0)] [(0, some (42, .ds [iD wk, iD wr, dl w o, iD wz]))] 1 trivial ?_
 have hx1 : ((((-1) : Int) ≤ (bX w a b)) ∧ ((bX w a b) ≤ 1)) := fO w a b
 refine kS (qE 5 [.call [] (iV (bX w a b)) [] 0 [] none, .no]) _ [(5, iV (bX w a b))] (u0r w a b o n m zo zo zo zo zo zo) ?_
 refine AW.ret ?_
 exact kA (.inr rfl) [] (P := (kM (bX w a b)) ∧ (kJ [iD wk, iD wr, dl w o, iD wz])) zk ⟨rfl, rfl⟩
abbrev eX (wk : Int) (wr : Int) (w : List Int) (wn : Nat) (wz : Int) : BC := .ds [iD wk, iD wr, D.sl (dI .i64 w) wn, iD wz]
theorem v3n (m : List (List Int)) (c : Nat) (wk wr : Int) (w : List Int) (wn : Nat) (wz : Int) (hc : ka0 m = c) (h3 : c ≤ 1000000) (h4 : 1 ≤ c) (hW : MsW m) (hw : ka0 w = wn) (h5 : wn ≤ 1000000) : Fun 115 [.c (.d (D.sl (kI m) c)), .c (.fn 116 [(0, 0)])] (kF [(0, some (42, .ds [iD wk, iD wr, D.sl (dI .i64 w) wn, iD wz]))]) 1 (sV .i64 (eM w m c) (ka0 (eM w m c))) (kF [(0, some (42, .ds [iD wk, iD wr, D.sl (dI .i64 w) wn, iD wz]))]) 1 := by
 refine Fun.mk (n := 33) Tryz.func115 rfl rfl (ka4 rfl) ?_
 intro cx hcx
 refine kH [.no] True [(0, qC (kI m) c), (1, .e (.c (.fn 116 [(0, 0)])))] [(0, some (42, (eX wk wr w wn wz)))] 1 trivial ?_
 refine AW.seq ?_
 refine kS [.no, .no, .b false] (¬ ((c : Int) < 1)) [(0, qC (kI m) c), (1, .e (.c (.fn 116 [(0, 0)]))), (9, bV false)] zo ?_
 refine uO ?_
 have hx1 : ((ka0 (ka1 m 0 ([] : List Int))) ≤ 1000000) := MsW.at (qD : MsW m) _
 refine kS [.no, .n 0, .d (dl (ka1 m 0 ([] : List Int)) (ka0 (ka1 m 0 ([] : List Int)))), .no] ((kM 0) ∧ ((0 : Nat) < c) ∧ ((ka3 0 (kI m))[0]? = some (dl (ka1 m 0 ([] : List Int)) (ka0 (ka1 m 0 ([] : List Int)))))) [(0, qC (kI m) c), (1, .e (.c (.fn 116 [(0, 0)]))), (5, sV .i64 (ka1 m 0 ([] : List Int)) (ka0 (ka1 m 0 ([] : List Int))))] ⟨rfl, zo, (bE _ _ zo)⟩ ?_
 refine AW.seq ?_
 refine kS [.no] True [(0, qC (kI m) c), (1, .e (.c (.fn 116 [(0, 0)]))), (5, sV .i64 (ka1 m 0 ([] : List Int)) (ka0 (ka1 m 0 ([] : List Int)))), (6, iV 1)] trivial ?_
 refine AW.block ?_
 refine k8 1 hcx (fun (x : {x : Nat × List Int // match x with | (j, u) => (1 ≤ j ∧ j ≤ c) ∧ (eM w m j = u) ∧ (ka0 u ≤ 1000000)}) => match x with | ⟨(j, u), _⟩ => (⟨[(0, qC (kI m) c), (1, .e (.c (.fn 116 [(0, 0)]))), (5, sV .i64 u (ka0 u)), (6, uV j)], [(0, some (42, (eX wk wr w wn wz)))], 1⟩ : ES)) (fun x => match x with | ⟨(j, u), _⟩ => c - j) ⟨((1 : Nat), ((ka1 m 0 ([] : List Int)) : List Int)), ⟨zo, (v32 rfl), zo⟩⟩ [] (P := (kJ (kI m)) ∧ (kG c) ∧ (kJ (dI .i64 (ka1 m 0 ([] : List Int)))) ∧ (kG (ka0 (ka1 m 0 ([] : List Int)))) ∧ (kM 1) ∧ (kJ [iD wk, iD wr, dl w wn, iD wz])) zk ⟨rfl, rfl, rfl, rfl, rfl, rfl⟩ ?_
 rintro ⟨⟨j, u⟩, hinv0⟩
 obtain ⟨hj, hu, hul⟩ : (1 ≤ j ∧ j ≤ c) ∧ (eM w m j = u) ∧ (ka0 u ≤ 1000000) := hinv0
 refine qW (l := [(0, qC (kI m) c), (1, .e (.c (.fn 116 [(0, 0)]))), (5, sV .i64 u (ka0 u)), (6, uV j)]) (g := [(0, some (42, (eX wk wr w wn wz)))]) (nx := 1) rfl rfl rfl ?_
 refine AW.seq ?_
 by_cases hx2 : (((j : Nat) : Int) < ((c : Nat) : Int))
 ·refine kH [.no, .no, .no, .b true] (((j : Int) < (c : Int))) [(0, qC (kI m) c), (1, .e (.c (.fn 116 [(0, 0)]))), (5, sV .i64 u (ka0 u)), (6, uV j), (17, bV true)] [(0, some (42, (eX wk wr w wn wz)))] 1 zo ?_
  refine vL ?_
  refine AW.seq ?_
  refine AW.block ?_
  by_cases hx5 : ((bX w (ka1 m j ([] : List Int)) u) < 0)
  ·have hx6 : ((ka0 (ka1 m j ([] : List Int))) ≤ 1000000) := MsW.at (qD : MsW m) _
   have hx7 : ((((-1) : Int) ≤ (bX w (ka1 m j ([] : List Int)) u)) ∧ ((bX w (ka1 m j ([] : List Int)) u) ≤ 1)) := fO w (ka1 m j ([] : List Int)) u
   refine kS [.no, .no, .no, .n j, .d (dl (ka1 m j ([] : List Int)) (ka0 (ka1 m j ([] : List Int)))), .no, .call [0] (iV (bX w (ka1 m j ([] : List Int)) u)) [(0, some (42, (eX wk wr w wn wz)))] 1 [] none, .b true] ((kM (j : Int)) ∧ (j < c) ∧ ((ka3 j (kI m))[0]? = some (dl (ka1 m j ([] : List Int)) (ka0 (ka1 m j ([] : List Int))))) ∧ (_) ∧ (((bX w (ka1 m j ([] : List Int)) u) < 0))) [(0, qC (kI m) c), (1, .e (.c (.fn 116 [(0, 0)]))), (5, sV .i64 u (ka0 u)), (6, uV j), (27, bV true)] ⟨rfl, zo, (bE _ _ zo), (k3e w (ka1 m j ([] : List Int)) u wn (ka0 (ka1 m j ([] : List Int))) (ka0 u) wk wr wz zo rfl rfl zo zo zo), zo⟩ ?_
   refine zt ?_
   refine yA [.no, .no, .n j, .d (dl (ka1 m j ([] : List Int)) (ka0 (ka1 m j ([] : List Int)))), .no] ((kM (j : Int)) ∧ (j < c) ∧ ((ka3 j (kI m))[0]? = some (dl (ka1 m j ([] : List Int)) (ka0 (ka1 m j ([] : List Int)))))) [(0, qC (kI m) c), (1, .e (.c (.fn 116 [(0, 0)]))), (5, sV .i64 (ka1 m j ([] : List Int)) (ka0 (ka1 m j ([] : List Int)))), (6, uV j)] ⟨rfl, zo, (bE _ _ zo)⟩ ?_
   refine yA [.no, .w, .no] (u3 ((j : Int) + 1)) [(0, qC (kI m) c), (1, .e (.c (.fn 116 [(0, 0)]))), (5, sV .i64 (ka1 m j ([] : List Int)) (ka0 (ka1 m j ([] : List Int)))), (6, iV (↑j + 1))] ⟨by omega, by omega⟩ ?_
   exact kW ⟨(((j + 1) : Nat), ((ka1 m j ([] : List Int)) : List Int)), ⟨zo, (by exact v30 hu zo rfl), zo⟩⟩ [] (P := (kJ (kI m)) ∧ (kG c) ∧ (kJ (dI .i64 (ka1 m j ([] : List Int)))) ∧ (kG (ka0 (ka1 m j ([] : List Int)))) ∧ (bU j) ∧ (kJ [iD wk, iD wr, dl w wn, iD wz])) zk ⟨rfl, rfl, rfl, rfl, (by rfl), rfl⟩ (show c - (j + 1) < c - j from zo)
  ·have hx8 : ((ka0 (ka1 m j ([] : List Int))) ≤ 1000000) := MsW.at (qD : MsW m) _
   have hx9 : ((((-1) : Int) ≤ (bX w (ka1 m j ([] : List Int)) u)) ∧ ((bX w (ka1 m j ([] : List Int)) u) ≤ 1)) := fO w (ka1 m j ([] : List Int)) u
   refine kS [.no, .no, .no, .n j, .d (dl (ka1 m j ([] : List Int)) (ka0 (ka1 m j ([] : List Int)))), .no, .call [0] (iV (bX w (ka1 m j ([] : List Int)) u)) [(0, some (42, (eX wk wr w wn wz)))] 1 [] none, .b false] ((kM (j : Int)) ∧ (j < c) ∧ ((ka3 j (kI m))[0]? = some (dl (ka1 m j ([] : List Int)) (ka0 (ka1 m j ([] : List Int))))) ∧ (_) ∧ (¬ ((bX w (ka1 m j ([] : List Int)) u) < 0))) [(0, qC (kI m) c), (1, .e (.c (.fn 116 [(0, 0)]))), (5, sV .i64 u (ka0 u)), (6, uV j), (27, bV false)] ⟨rfl, zo, (bE _ _ zo), (k3e w (ka1 m j ([] : List Int)) u wn (ka0 (ka1 m j ([] : List Int))) (ka0 u) wk wr wz zo rfl rfl zo zo zo), zo⟩ ?_
   refine uO ?_
   refine yA [.no, .w, .no] (u3 ((j : Int) + 1)) [(0, qC (kI m) c), (1, .e (.c (.fn 116 [(0, 0)]))), (5, sV .i64 u (ka0 u)), (6, iV (↑j + 1))] ⟨by omega, by omega⟩ ?_
   exact kW ⟨(((j + 1) : Nat), (u : List Int)), ⟨zo, (by exact v31 hu zo zo), zo⟩⟩ [] (P := (kJ (kI m)) ∧ (kG c) ∧ (kJ (dI .i64 u)) ∧ (kG (ka0 u)) ∧ (bU j) ∧ (kJ [iD wk, iD wr, dl w wn, iD wz])) zk ⟨rfl, rfl, rfl, rfl, (by rfl), rfl⟩ (show c - (j + 1) < c - j from zo)
 ·refine kH [.no, .no, .no, .b false] (¬ ((j : Int) < (c : Int))) [(0, qC (kI m) c), (1, .e (.c (.fn 116 [(0, 0)]))), (5, sV .i64 u (ka0 u)), (6, uV j), (17, bV false)] [(0, some (42, (eX wk wr w wn wz)))] 1 zo ?_
  refine zf ?_
  refine AW.exit ?_
  refine kH [.no, .no] True [(4, sV .i64 u (ka0 u))] [(0, some (42, (eX wk wr w wn wz)))] 1 trivial ?_
  have hz2 : eM w m c = u := by have h9 := hu; rw [show j = c by omega] at h9; exact h9
  refine AW.ret ?_
  exact kA (.inr rfl) [] (P := (((dI .i64 (eM w m c)) : List D) = (dI .i64 u)) ∧ (((ka0 (eM w m c)) : Nat) = (ka0 u)) ∧ (kJ [iD wk, iD wr, dl w wn, iD wz])) zk ⟨(by rw [hz2]), (by rw [hz2]), rfl⟩
abbrev gM : BC := .ds [iD 0, iD 0, D.lit (.slice none 0 0), iD 0]
abbrev jJ (k : Int) (r : List Int) (rn : Nat) (m : List (List Int)) (c : Nat) (s : List Int) (sn : Nat) : BC := .ds [iD k, D.sl (dI .i64 r) rn, D.sl (kI m) c, D.sl (dI .i64 s) sn]
abbrev gL (wk : Int) (wr : Int) (w : List Int) (wn : Nat) (wz : Int) : BC := .ds [iD wk, iD wr, D.sl (dI .i64 w) wn, iD wz]
theorem zA (k : Int) (r : List Int) (rn : Nat) (m : List (List Int)) (c : Nat) (s : List Int) (sn : Nat) (wk wr : Int) (w : List Int) (wn : Nat) (wz : Int) (hr : ka0 r = rn * 2) (hs : ka0 s = sn * 2) (hc : ka0 m = c) (h1 : rn ≤ 1000000) (h2 : sn ≤ 1000000) (h3 : c ≤ 1000000) (h4 : 1 ≤ c) (hW : MsW m) (hw : ka0 w = wn) (h5 : wn ≤ 1000000) (hwr : -9223372036854775808 ≤ wr ∧ wr ≤ 9223372036854775807) (hwz : -9223372036854775808 ≤ wz ∧ wz ≤ 9223372036854775807) : Fun 78 [.agg [iC k, .d (D.sl (dI .i64 r) rn), .d (D.sl (kI m) c), .d (D.sl (dI .i64 s) sn)], .agg [iC wk, iC wr, .d (D.sl (dI .i64 w) wn), iC wz]] (kF []) 0 (.e (.agg [iC (cA k wk 7), iC (vA wr (kB r rn)), .d (D.sl (dI .i64 (eM w m c)) (ka0 (eM w m c))), iC (vA wz (kB s sn))])) (kF []) 0 := by
 refine Fun.mk (n := 63) Tryz.func78 rfl rfl (ka4 rfl) ?_
 intro cx hcx
 refine kH [.no, .no, .no] True [(2, rV 0 0), (3, rV 1 0), (4, rV 2 0)] [(0, some (63, (jJ k r rn m c s sn))), (1, some (42, (gL wk wr w wn wz))), (2, some (42, gM))] 3 trivial ?_
 refine kS [.no] True [(2, rV 0 0), (3, rV 1 0), (4, rV 2 0), (5, iV 0)] trivial ?_
 refine AW.seq ?_
 refine kS [.no] True [(2, rV 0 0), (3, rV 1 0), (4, rV 2 0), (5, iV 0), (6, iV 1)] trivial ?_
 refine AW.block ?_
 refine k8 0 hcx (fun (x : {x : Nat × Int // match x with | (i, y) => (i ≤ 7 ∧ 0 ≤ y ∧ y ≤ 7) ∧ (cA k wk i = y)}) => match x with | ⟨(i, y), _⟩ => (⟨[(2, rV 0 0), (3, rV 1 0), (4, rV 2 0), (5, iV y), (6, iV ((i : Int) + 1))], [(0, some (63, (jJ k r rn m c s sn))), (1, some (42, (gL wk wr w wn wz))), (2, some (42, gM))], 3⟩ : ES)) (fun x => match x with | ⟨(i, y), _⟩ => 7 - i) ⟨((0 : Nat), (0 : Int)), ⟨zo, rfl⟩⟩ [] (P := (kG 0) ∧ (kG 0) ∧ (kG 0) ∧ (kM 0) ∧ (kM 1) ∧ (kJ [iD k, dl r rn, D.sl (kI m) c, dl s sn]) ∧ (kJ [iD wk, iD wr, dl w wn, iD wz]) ∧ (kJ [iD 0, iD 0, qI, iD 0])) zk ⟨rfl, rfl, rfl, rfl, rfl, rfl, rfl, rfl⟩ ?_
 rintro ⟨⟨i, y⟩, hinv0⟩
 obtain ⟨hi, hy⟩ : (i ≤ 7 ∧ 0 ≤ y ∧ y ≤ 7) ∧ (cA k wk i = y) := hinv0
 refine qW (l := [(2, rV 0 0), (3, rV 1 0), (4, rV 2 0), (5, iV y), (6, iV ((i : Int) + 1))]) (g := [(0, some (63, (jJ k r rn m c s sn))), (1, some (42, (gL wk wr w wn wz))), (2, some (42, gM))]) (nx := 3) rfl rfl rfl ?_
 refine AW.seq ?_
 by_cases hx1 : ((((i : Nat) : Int) + 1) ≤ 7)
 ·refine kH [.no, .b true] ((((i : Int) + 1) ≤ 7)) [(2, rV 0 0), (3, rV 1 0), (4, rV 2 0), (5, iV y), (6, iV (↑i + 1)), (13, bV true)] [(0, some (63, (jJ k r rn m c s sn))), (1, some (42, (gL wk wr w wn wz))), (2, some (42, gM))] 3 zo ?_
  refine vL ?_
  refine AW.seq ?_
  refine AW.block ?_
  by_cases hx2 : ((eI (k / (((2 ^ (i + 1)) : Nat) : Int))) = 1)
  ·by_cases hx3 : (y = 0)
   ·refine kS [.no, .no, .no, .n (i + 1), .i (eI (k / (((2 ^ (i + 1)) : Nat) : Int))), .b true, .no, .no, .b true, .no, .no, .no] (((((i : Int) + 1) : Int) = (((i + 1) : Nat) : Int)) ∧ ((i + 1) ≤ 64) ∧ (qF .and .i64 (k / (((2 ^ (i + 1)) : Nat) : Int)) 1 = (eI (k / (((2 ^ (i + 1)) : Nat) : Int)))) ∧ (((eI (k / (((2 ^ (i + 1)) : Nat) : Int))) = 1)) ∧ ((y = 0))) [(2, rV 0 0), (3, rV 1 0), (4, rV 2 0), (5, iV y), (6, iV (↑i + 1)), (34, bV true)] ⟨(by rfl), zo, rfl, zo, zo⟩ ?_
    refine zt ?_
    refine yA [.no, .no] True [(2, rV 0 0), (3, rV 1 0), (4, rV 2 0), (5, iV (↑i + 1)), (6, iV (↑i + 1))] trivial ?_
    refine yA [.no, .w, .no] (u3 (((i : Int) + 1) + 1)) [(2, rV 0 0), (3, rV 1 0), (4, rV 2 0), (5, iV (↑i + 1)), (6, iV ((↑i + 1) + 1))] ⟨by omega, by omega⟩ ?_
    exact kW ⟨(((i + 1) : Nat), (((i : Int) + 1) : Int)), ⟨zo, (by exact u3p hy (decide_eq_true ⟨by omega, by omega, by omega⟩) zo rfl)⟩⟩ [] (P := (kG 0) ∧ (kG 0) ∧ (kG 0) ∧ (kM ((i : Int) + 1)) ∧ ((((((i + 1) : Nat) : Int) + 1) : Int) = (((i : Int) + 1) + 1)) ∧ (kJ [iD k, dl r rn, D.sl (kI m) c, dl s sn]) ∧ (kJ [iD wk, iD wr, dl w wn, iD wz]) ∧ (kJ [iD 0, iD 0, qI, iD 0])) zk ⟨rfl, rfl, rfl, rfl, (by rfl), rfl, rfl, rfl⟩ (show 7 - (i + 1) < 7 - i from zo)
   ·by_cases hx5 : ((b7 wk (((i : Nat) : Int) + 1) y) < 0)
    ·have hx6 : ((((-1) : Int) ≤ (b7 wk (((i : Nat) : Int) + 1) y)) ∧ ((b7 wk (((i : Nat) : Int) + 1) y) ≤ 1)) := iL wk (((i : Nat) : Int) + 1) y
     refine kS (.no :: .no :: .no :: .n (i + 1) :: .i (eI (k / (((2 ^ (i + 1)) : Nat) : Int))) :: .b true :: .no :: .no :: .b false :: qE 6 [.call [] (iV (b7 wk ((i : Int) + 1) y)) [] 0 [] none, .b true, .no, .no]) (((((i : Int) + 1) : Int) = (((i + 1) : Nat) : Int)) ∧ ((i + 1) ≤ 64) ∧ (qF .and .i64 (k / (((2 ^ (i + 1)) : Nat) : Int)) 1 = (eI (k / (((2 ^ (i + 1)) : Nat) : Int)))) ∧ (((eI (k / (((2 ^ (i + 1)) : Nat) : Int))) = 1)) ∧ (¬ (y = 0)) ∧ (_) ∧ (((b7 wk ((i : Int) + 1) y) < 0))) [(2, rV 0 0), (3, rV 1 0), (4, rV 2 0), (5, iV y), (6, iV (↑i + 1)), (34, bV true)] ⟨(by rfl), zo, rfl, zo, zo, (tL wk ((i : Int) + 1) y), zo⟩ ?_
     refine zt ?_
     refine yA [.no, .no] True [(2, rV 0 0), (3, rV 1 0), (4, rV 2 0), (5, iV (↑i + 1)), (6, iV (↑i + 1))] trivial ?_
     refine yA [.no, .w, .no] (u3 (((i : Int) + 1) + 1)) [(2, rV 0 0), (3, rV 1 0), (4, rV 2 0), (5, iV (↑i + 1)), (6, iV ((↑i + 1) + 1))] ⟨by omega, by omega⟩ ?_
     exact kW ⟨(((i + 1) : Nat), (((i : Int) + 1) : Int)), ⟨zo, (by exact u3p hy (decide_eq_true ⟨by omega, by omega, by omega⟩) zo rfl)⟩⟩ [] (P := (kG 0) ∧ (kG 0) ∧ (kG 0) ∧ (kM ((i : Int) + 1)) ∧ ((((((i + 1) : Nat) : Int) + 1) : Int) = (((i : Int) + 1) + 1)) ∧ (kJ [iD k, dl r rn, D.sl (kI m) c, dl s sn]) ∧ (kJ [iD wk, iD wr, dl w wn, iD wz]) ∧ (kJ [iD 0, iD 0, qI, iD 0])) zk ⟨rfl, rfl, rfl, rfl, (by rfl), rfl, rfl, rfl⟩ (show 7 - (i + 1) < 7 - i from zo)
    ·have hx7 : ((((-1) : Int) ≤ (b7 wk (((i : Nat) : Int) + 1) y)) ∧ ((b7 wk (((i : Nat) : Int) + 1) y) ≤ 1)) := iL wk (((i : Nat) : Int) + 1) y
     refine kS (.no :: .no :: .no :: .n (i + 1) :: .i (eI (k / (((2 ^ (i + 1)) : Nat) : Int))) :: .b true :: .no :: .no :: .b false :: qE 6 [.call [] (iV (b7 wk ((i : Int) + 1) y)) [] 0 [] none, .b false, .no, .no]) (((((i : Int) + 1) : Int) = (((i + 1) : Nat) : Int)) ∧ ((i + 1) ≤ 64) ∧ (qF .and .i64 (k / (((2 ^ (i + 1)) : Nat) : Int)) 1 = (eI (k / (((2 ^ (i + 1)) : Nat) : Int)))) ∧ (((eI (k / (((2 ^ (i + 1)) : Nat) : Int))) = 1)) ∧ (¬ (y = 0)) ∧ (_) ∧ (¬ ((b7 wk ((i : Int) + 1) y) < 0))) [(2, rV 0 0), (3, rV 1 0), (4, rV 2 0), (5, iV y), (6, iV (↑i + 1)), (34, bV false)] ⟨(by rfl), zo, rfl, zo, zo, (tL wk ((i : Int) + 1) y), zo⟩ ?_
     refine uO ?_
     refine yA [.no, .w, .no] (u3 (((i : Int) + 1) + 1)) [(2, rV 0 0), (3, rV 1 0), (4, rV 2 0), (5, iV y), (6, iV ((↑i + 1) + 1))] ⟨by omega, by omega⟩ ?_
     exact kW ⟨(((i + 1) : Nat), (y : Int)), ⟨zo, (by exact v33 hy zo zo)⟩⟩ [] (P := (kG 0) ∧ (kG 0) ∧ (kG 0) ∧ (kM y) ∧ ((((((i + 1) : Nat) : Int) + 1) : Int) = (((i : Int) + 1) + 1)) ∧ (kJ [iD k, dl r rn, D.sl (kI m) c, dl s sn]) ∧ (kJ [iD wk, iD wr, dl w wn, iD wz]) ∧ (kJ [iD 0, iD 0, qI, iD 0])) zk ⟨rfl, rfl, rfl, rfl, (by rfl), rfl, rfl, rfl⟩ (show 7 - (i + 1) < 7 - i from zo)
  ·refine kS [.no, .no, .no, .n (i + 1), .i (eI (k / (((2 ^ (i + 1)) : Nat) : Int))), .b false, .no, .no] (((((i : Int) + 1) : Int) = (((i + 1) : Nat) : Int)) ∧ ((i + 1) ≤ 64) ∧ (qF .and .i64 (k / (((2 ^ (i + 1)) : Nat) : Int)) 1 = (eI (k / (((2 ^ (i + 1)) : Nat) : Int)))) ∧ (¬ ((eI (k / (((2 ^ (i + 1)) : Nat) : Int))) = 1))) [(2, rV 0 0), (3, rV 1 0), (4, rV 2 0), (5, iV y), (6, iV (↑i + 1)), (34, bV false)] ⟨(by rfl), zo, rfl, zo⟩ ?_
   refine uO ?_
   refine yA [.no, .w, .no] (u3 (((i : Int) + 1) + 1)) [(2, rV 0 0), (3, rV 1 0), (4, rV 2 0), (5, iV y), (6, iV ((↑i + 1) + 1))] ⟨by omega, by omega⟩ ?_
   exact kW ⟨(((i + 1) : Nat), (y : Int)), ⟨zo, (by exact v34 hy (decide_eq_false (fun e9 => by omega)))⟩⟩ [] (P := (kG 0) ∧ (kG 0) ∧ (kG 0) ∧ (kM y) ∧ ((((((i + 1) : Nat) : Int) + 1) : Int) = (((i : Int) + 1) + 1)) ∧ (kJ [iD k, dl r rn, D.sl (kI m) c, dl s sn]) ∧ (kJ [iD wk, iD wr, dl w wn, iD wz]) ∧ (kJ [iD 0, iD 0, qI, iD 0])) zk ⟨rfl, rfl, rfl, rfl, (by rfl), rfl, rfl, rfl⟩ (show 7 - (i + 1) < 7 - i from zo)
 ·refine kH [.no, .b false] (¬ (((i : Int) + 1) ≤ 7)) [(2, rV 0 0), (3, rV 1 0), (4, rV 2 0), (5, iV y), (6, iV (↑i + 1)), (13, bV false)] [(0, some (63, (jJ k r rn m c s sn))), (1, some (42, (gL wk wr w wn wz))), (2, some (42, gM))] 3 zo ?_
  refine zf ?_
  refine AW.exit ?_
  refine kH (qE 5 (.call [] (.tup [iE (vA wr (kB r rn)), .c (.d (D.lit (.bool (nrF wr (kB r rn)))))]) [] 0 [] none :: qE 5 [])) _ [(2, rV 0 0), (3, rV 1 0), (4, rV 2 0), (5, iV y), (7, iV (vA wr (kB r rn)))] [(0, some (63, (jJ k r rn m c s sn))), (1, some (42, (gL wk wr w wn wz))), (2, some (42, gM))] 3 (u0x r rn wr zo zo zo) ?_
  refine kS (qE 4 (.call [] (.tup [iE (vA wz (kB s sn)), .c (.d (D.lit (.bool (nrF wz (kB s sn)))))]) [] 0 [] none :: qE 5 [])) _ [(2, rV 0 0), (3, rV 1 0), (4, rV 2 0), (5, iV y), (7, iV (vA wr (kB r rn))), (9, iV (vA wz (kB s sn)))] (u0x s sn wz zo zo zo) ?_
  have hx8 : ((ka0 (eM w m c)) ≤ 1000000) := u0b (qD : MsW m) c
  refine kH [.no, .no, .no, .call [1] (sV .i64 (eM w m c) (ka0 (eM w m c))) [(0, some (42, (gL wk wr w wn wz)))] 1 [] none, .no] _ [(4, rV 2 0), (5, iV y), (7, iV (vA wr (kB r rn))), (9, iV (vA wz (kB s sn))), (11, sV .i64 (eM w m c) (ka0 (eM w m c)))] [(2, some (42, gM))] 3 (v3n m c wk wr w wn wz zo zo zo (qD : MsW m) zo zo) ?_
  refine kH (qE 7 []) True [(4, rV 2 0)] [(2, some (42, .ds [iD y, iD (vA wr (kB r rn)), dl (eM w m c) (ka0 (eM w m c)), iD (vA wz (kB s sn))]))] 3 trivial ?_
  have hz1 : cA k wk 7 = y := by have h9 := hy; rw [show i = 7 by omega] at h9; exact h9
  refine AW.ret ?_
  exact kA (.inr rfl) [] (P := (((cA k wk 7) : Int) = y) ∧ (kM (vA wr (kB r rn))) ∧ (kJ (dI .i64 (eM w m c))) ∧ (kG (ka0 (eM w m c))) ∧ (kM (vA wz (kB s sn)))) zk ⟨(by exact hz1), rfl, rfl, rfl, rfl⟩
abbrev yP (w : List Int) (bs : List Bx) (j : Nat) := eM w (kT (kK bs) j) (ka0 (kT (kK bs) j))
abbrev eW (w : List Int) (bs : List Bx) := eM w (kT (kK bs) 0) (ka0 (kT (kK bs) 0))
abbrev vN (bs : List Bx) (j : Nat) := kB (kY (kK bs) j) (kV (kK bs) j)
abbrev vM (bs : List Bx) (j : Nat) := kB (kX (kK bs) j) (kU (kK bs) j)
abbrev jI (bs : List Bx) := kB (kY (kK bs) 0) (kV (kK bs) 0)
abbrev jH (bs : List Bx) := kB (kX (kK bs) 0) (kU (kK bs) 0)
abbrev vC : BC := .ds [iD 0, iD 0, D.lit (.slice none 0 0), iD 0]
abbrev k5a (bs : List Bx) (j : Nat) (wk : Int) (wr : Int) (w : List Int) (wz : Int) : BC := .ds [iD (cA (kQ (kK bs) j) wk 7), iD (vA wr (vN bs j)), D.sl (dI .i64 (yP w bs j)) (ka0 (yP w bs j)), iD (vA wz (vM bs j))]
abbrev aU (wk : Int) (wr : Int) (w : List Int) (wn : Nat) (wz : Int) : BC := .ds [iD wk, iD wr, D.sl (dI .i64 w) wn, iD wz]
abbrev eV (yk : Int) (yr : Int) (u : List Int) (yz : Int) : BC := .ds [iD yk, iD yr, D.sl (dI .i64 u) (ka0 u), iD yz]
abbrev k1e (bs : List Bx) (wk : Int) (wr : Int) (w : List Int) (wz : Int) : BC := .ds [iD (cA (kQ (kK bs) 0) wk 7), iD (vA wr (jI bs)), D.sl (dI .i64 (eW w bs)) (ka0 (eW w bs)), iD (vA wz (jH bs))]
theorem u42 (bs : List Bx) (n : Nat) (wk wr : Int) (w : List Int) (wn : Nat) (wz : Int) (hn : ka0 bs = n) (h1 : n ≤ 1000000) (hW : BsW bs) (hw : ka0 w = wn) (h5 : wn ≤ 1000000) (hwr : -9223372036854775808 ≤ wr ∧ wr ≤ 9223372036854775807) (hwz : -9223372036854775808 ≤ wz ∧ wz ≤ 9223372036854775807) (h9 : 1 ≤ ka0 (kK bs)) : Fun 46 [.c (.d (D.sl (kN bs) n)), .agg [iC wk, iC wr, .d (D.sl (dI .i64 w) wn), iC wz]] (kF []) 0 (.tup [.agg [iC (oL bs wk wr w wz), iC (oK bs wk wr w wz), .d (D.sl (dI .i64 (beM bs wk wr w wz)) (ka0 (beM bs wk wr w wz))), iC (oJ bs wk wr w wz)], .c (.d (D.lit (.bool true)))]) (kF []) 0 := by
 refine Fun.mk (n := 35) Tryz.func46 rfl rfl (ka4 rfl) ?_
 intro cx hcx
 refine kH [.no, .no, .no] True [(0, .e (k9 bs n)), (3, rV 0 0), (4, rV 1 0)] [(0, some (42, (aU wk wr w wn wz))), (1, some (42, vC))] 2 trivial ?_
 refine kH [.no] True [(0, .e (k9 bs n)), (3, rV 0 0), (4, rV 1 0), (6, rV 2 0)] [(0, some (42, (aU wk wr w wn wz))), (1, some (42, vC)), (2, some (42, vC))] 3 trivial ?_
 refine kS [.no] True [(0, .e (k9 bs n)), (3, rV 0 0), (4, rV 1 0), (6, rV 2 0), (7, bV false)] trivial ?_
 refine AW.seq ?_
 have hx1 : ((ka0 (kK bs)) ≤ n) := (by have h9 := j0 bs; omega)
 refine kS [.no, .call [] (.e (yL (kK bs))) [] 0 [] none, .no, .no] _ [(3, rV 0 0), (4, rV 1 0), (6, rV 2 0), (7, bV false), (12, .e (yL (kK bs))), (13, uV (ka0 (kK bs))), (14, iV 0)] (jA bs n zo zo (qD : BsW bs)) ?_
 refine AW.block ?_
 refine u44 1 ?_
 refine AWp.s ?_
 refine kH [.b true] (((0 : Int) < (ka0 (kK bs) : Int))) [(3, rV 0 0), (4, rV 1 0), (6, rV 2 0), (7, bV false), (12, .e (yL (kK bs))), (13, uV (ka0 (kK bs))), (14, iV 0), (15, bV true)] [(0, some (42, (aU wk wr w wn wz))), (1, some (42, vC)), (2, some (42, vC))] 3 zo ?_
 refine AW.seq ?_
 refine vL ?_
 refine AW.seq ?_
 refine AW.block ?_
 obtain ⟨hx2, hx3, hx4, hx5, hx6⟩ := BsW.at (dP (qD : BsW bs)) (0)
 have hx7 : ((1 : Nat) ≤ (ka0 (kT (kK bs) 0))) := s9 zo
 refine kH [.n 0, .ds [iD (kQ (kK bs) 0), dl (kY (kK bs) 0) (kV (kK bs) 0), D.sl (kI (kT (kK bs) 0)) (ka0 (kT (kK bs) 0)), dl (kX (kK bs) 0) (kU (kK bs) 0)], .no, .no] ((kM 0) ∧ ((0 : Nat) < (ka0 (kK bs))) ∧ (List.take 4 (ka3 0 (kN (kK bs))) = [iD (kQ (kK bs) 0), dl (kY (kK bs) 0) (kV (kK bs) 0), D.sl (kI (kT (kK bs) 0)) (ka0 (kT (kK bs) 0)), dl (kX (kK bs) 0) (kU (kK bs) 0)]) ∧ (([iD (kQ (kK bs) 0), dl (kY (kK bs) 0) (kV (kK bs) 0), D.sl (kI (kT (kK bs) 0)) (ka0 (kT (kK bs) 0)), dl (kX (kK bs) 0) (kU (kK bs) 0)] : List D).length = 4)) [(3, rV 0 0), (4, rV 1 0), (6, rV 2 0), (7, bV false), (9, rV 3 0), (12, .e (yL (kK bs))), (13, uV (ka0 (kK bs))), (14, iV 0)] [(0, some (42, (aU wk wr w wn wz))), (1, some (42, vC)), (2, some (42, vC)), (3, some (63, .ds [iD (kQ (kK bs) 0), dl (kY (kK bs) 0) (kV (kK bs) 0), D.sl (kI (kT (kK bs) 0)) (ka0 (kT (kK bs) 0)), dl (kX (kK bs) 0) (kU (kK bs) 0)]))] 4 ⟨rfl, zo, (vB (i := 0) zo), rfl⟩ ?_
 have hx8 : (((0 : Int) ≤ (cA (kQ (kK bs) 0) wk 7)) ∧ ((cA (kQ (kK bs) 0) wk 7) ≤ 7)) := tD (kQ (kK bs) 0) wk 7
 have hx9 : (((0 : Int) ≤ (vA wr (jI bs))) ∧ ((vA wr (jI bs)) ≤ 2147483647)) := jR (zo)
 have hx10 : (((0 : Int) ≤ (vA wz (jH bs))) ∧ ((vA wz (jH bs)) ≤ 2147483647)) := jR (zo)
 have hx11 : ((ka0 (eW w bs)) ≤ 1000000) := u0b ((BsW.ms (dP (qD : BsW bs)) _)) (ka0 (kT (kK bs) 0))
 refine kH [.no, .no, .call [] (.e (.agg [iC (cA (kQ (kK bs) 0) wk 7), iC (vA wr (jI bs)), .d (dl (eW w bs) (ka0 (eW w bs))), iC (vA wz (jH bs))])) [] 0 [] none, .no, .no] _ [(3, rV 0 0), (4, rV 1 0), (6, rV 2 0), (7, bV false), (10, rV 4 0), (12, .e (yL (kK bs))), (13, uV (ka0 (kK bs))), (14, iV 0)] [(0, some (42, (aU wk wr w wn wz))), (1, some (42, vC)), (2, some (42, vC)), (4, some (42, (k1e bs wk wr w wz)))] 5 (zA (kQ (kK bs) 0) (kY (kK bs) 0) (kV (kK bs) 0) (kT (kK bs) 0) (ka0 (kT (kK bs) 0)) (kX (kK bs) 0) (kU (kK bs) 0) wk wr w wn wz zo zo rfl zo zo zo zo (BsW.ms (dP (qD : BsW bs)) _) zo zo zo zo) ?_
 refine kS (qE 4 []) True [(3, rV 0 0), (4, rV 1 0), (6, rV 2 0), (7, bV false), (10, rV 4 0), (12, .e (yL (kK bs))), (13, uV (ka0 (kK bs))), (14, iV 0), (29, bV true)] trivial ?_
 refine zt ?_
 refine aC [.no, .no, .no] True [(3, rV 0 0), (4, rV 1 0), (6, rV 2 0), (7, bV true), (12, .e (yL (kK bs))), (13, uV (ka0 (kK bs))), (14, iV 0)] [(0, some (42, (aU wk wr w wn wz))), (1, some (42, vC)), (2, some (42, (k1e bs wk wr w wz)))] 5 trivial ?_
 refine yA [.w, .no] (u3 (1 : Int)) [(3, rV 0 0), (4, rV 1 0), (6, rV 2 0), (7, bV true), (12, .e (yL (kK bs))), (13, uV (ka0 (kK bs))), (14, iV 1)] ⟨by omega, by omega⟩ ?_
 refine AWp.z ?_
 refine k8 0 hcx (fun (x : {x : Nat × Int × Int × List Int × Int // match x with | (j, yk, yr, u, yz) => (1 ≤ j ∧ j ≤ ka0 (kK bs)) ∧ (BE (kK bs) wk wr w wz j yk yr u yz) ∧ ((0 ≤ yk ∧ yk ≤ 7) ∧ (0 ≤ yr ∧ yr ≤ 2147483647) ∧ (0 ≤ yz ∧ yz ≤ 2147483647) ∧ ka0 u ≤ 1000000)}) => match x with | ⟨(j, yk, yr, u, yz), _⟩ => (⟨[(3, rV 0 0), (4, rV 1 0), (6, rV 2 0), (7, bV true), (12, .e (yL (kK bs))), (13, uV (ka0 (kK bs))), (14, uV j)], [(0, some (42, (aU wk wr w wn wz))), (1, some (42, vC)), (2, some (42, (eV yk yr u yz)))], 5⟩ : ES)) (fun x => match x with | ⟨(j, yk, yr, u, yz), _⟩ => ka0 (kK bs) - j) ⟨((1 : Nat), ((cA (kQ (kK bs) 0) wk 7) : Int), ((vA wr (jI bs)) : Int), ((eW w bs) : List Int), ((vA wz (jH bs)) : Int)), ⟨zo, (BE.first rfl rfl rfl rfl), zo⟩⟩ [] (P := (kG 0) ∧ (kG 0) ∧ (kG 0) ∧ (true = true) ∧ (kJ (kN (kK bs))) ∧ (kG (ka0 (kK bs))) ∧ (kM (ka0 (kK bs) : Int)) ∧ (kM 1) ∧ (kJ [iD wk, iD wr, dl w wn, iD wz]) ∧ (kJ [iD 0, iD 0, qI, iD 0]) ∧ (kJ [iD (cA (kQ (kK bs) 0) wk 7), iD (vA wr (jI bs)), dl (eW w bs) (ka0 (eW w bs)), iD (vA wz (jH bs))])) zk ⟨rfl, rfl, rfl, (by rfl), rfl, rfl, rfl, rfl, rfl, rfl, rfl⟩ ?_
 rintro ⟨⟨j, yk, yr, u, yz⟩, hinv0⟩
 obtain ⟨hj, hE, hy⟩ : (1 ≤ j ∧ j ≤ ka0 (kK bs)) ∧ (BE (kK bs) wk wr w wz j yk yr u yz) ∧ ((0 ≤ yk ∧ yk ≤ 7) ∧ (0 ≤ yr ∧ yr ≤ 2147483647) ∧ (0 ≤ yz ∧ yz ≤ 2147483647) ∧ ka0 u ≤ 1000000) := hinv0
 refine qW (l := [(3, rV 0 0), (4, rV 1 0), (6, rV 2 0), (7, bV true), (12, .e (yL (kK bs))), (13, uV (ka0 (kK bs))), (14, uV j)]) (g := [(0, some (42, (aU wk wr w wn wz))), (1, some (42, vC)), (2, some (42, (eV yk yr u yz)))]) (nx := 5) rfl rfl rfl ?_
 by_cases hx12 : (((j : Nat) : Int) < (((ka0 (kK bs)) : Nat) : Int))
 ·refine kH [.b true] (((j : Int) < (ka0 (kK bs) : Int))) [(3, rV 0 0), (4, rV 1 0), (6, rV 2 0), (7, bV true), (12, .e (yL (kK bs))), (13, uV (ka0 (kK bs))), (14, uV j), (15, bV true)] [(0, some (42, (aU wk wr w wn wz))), (1, some (42, vC)), (2, some (42, (eV yk yr u yz)))] 5 zo ?_
  refine AW.seq ?_
  refine vL ?_
  refine AW.seq ?_
  refine AW.block ?_
  obtain ⟨hx13, hx14, hx15, hx16, hx17⟩ := BsW.at (dP (qD : BsW bs)) (j)
  have hx18 : ((1 : Nat) ≤ (ka0 (kT (kK bs) j))) := s9 zo
  refine kH [.n j, .ds (yI (kK bs) j), .no, .no] ((kM (j : Int)) ∧ (j < (ka0 (kK bs))) ∧ (List.take 4 (ka3 (j * 4) (kN (kK bs))) = (yI (kK bs) j)) ∧ (((yI (kK bs) j) : List D).length = 4)) [(3, rV 0 0), (4, rV 1 0), (6, rV 2 0), (7, bV true), (9, rV 5 0), (12, .e (yL (kK bs))), (13, uV (ka0 (kK bs))), (14, uV j)] [(0, some (42, (aU wk wr w wn wz))), (1, some (42, vC)), (2, some (42, (eV yk yr u yz))), (5, some (63, .ds (yI (kK bs) j)))] 6 ⟨rfl, zo, (vB zo), rfl⟩ ?_
  have hx19 : (((0 : Int) ≤ (cA (kQ (kK bs) j) wk 7)) ∧ ((cA (kQ (kK bs) j) wk 7) ≤ 7)) := tD (kQ (kK bs) j) wk 7
  have hx20 : (((0 : Int) ≤ (vA wr (vN bs j))) ∧ ((vA wr (vN bs j)) ≤ 2147483647)) := jR (zo)
  have hx21 : (((0 : Int) ≤ (vA wz (vM bs j))) ∧ ((vA wz (vM bs j)) ≤ 2147483647)) := jR (zo)
  have hx22 : ((ka0 (yP w bs j)) ≤ 1000000) := u0b ((BsW.ms (dP (qD : BsW bs)) _)) (ka0 (kT (kK bs) j))
  refine kH [.no, .no, .call [] (.e (.agg [iC (cA (kQ (kK bs) j) wk 7), iC (vA wr (vN bs j)), .d (dl (yP w bs j) (ka0 (yP w bs j))), iC (vA wz (vM bs j))])) [] 0 [] none, .no, .no] _ [(3, rV 0 0), (4, rV 1 0), (6, rV 2 0), (7, bV true), (10, rV 6 0), (12, .e (yL (kK bs))), (13, uV (ka0 (kK bs))), (14, uV j)] [(0, some (42, (aU wk wr w wn wz))), (1, some (42, vC)), (2, some (42, (eV yk yr u yz))), (6, some (42, (k5a bs j wk wr w wz)))] 7 (zA (kQ (kK bs) j) (kY (kK bs) j) (kV (kK bs) j) (kT (kK bs) j) (ka0 (kT (kK bs) j)) (kX (kK bs) j) (kU (kK bs) j) wk wr w wn wz zo zo rfl zo zo zo zo (BsW.ms (dP (qD : BsW bs)) _) zo zo zo zo) ?_
  by_cases hx24 : ((pO wk wr wz (cA (kQ (kK bs) j) wk 7) (vA wr (vN bs j)) (vA wz (vM bs j)) yk yr yz w (yP w bs j) u) < 0)
  ·have hx25 : ((((-1) : Int) ≤ (pO wk wr wz (cA (kQ (kK bs) j) wk 7) (vA wr (vN bs j)) (vA wz (vM bs j)) yk yr yz w (yP w bs j) u)) ∧ ((pO wk wr wz (cA (kQ (kK bs) j) wk 7) (vA wr (vN bs j)) (vA wz (vM bs j)) yk yr yz w (yP w bs j) u) ≤ 1)) := k2t ..
   refine kS (qE 6 [.call [] (iV (pO wk wr wz (cA (kQ (kK bs) j) wk 7) (vA wr (vN bs j)) (vA wz (vM bs j)) yk yr yz w (yP w bs j) u)) [] 0 [] none, .b true, .no]) ((_) ∧ (((pO wk wr wz (cA (kQ (kK bs) j) wk 7) (vA wr (vN bs j)) (vA wz (vM bs j)) yk yr yz w (yP w bs j) u) < 0))) [(3, rV 0 0), (4, rV 1 0), (6, rV 2 0), (7, bV true), (10, rV 6 0), (12, .e (yL (kK bs))), (13, uV (ka0 (kK bs))), (14, uV j), (29, bV true)] ⟨(pV wk wr wz (cA (kQ (kK bs) j) wk 7) (vA wr (vN bs j)) (vA wz (vM bs j)) yk yr yz w (yP w bs j) u wn (ka0 (yP w bs j)) (ka0 u) zo rfl rfl zo zo zo zo zo zo zo zo zo), zo⟩ ?_
   refine zt ?_
   refine aC [.no, .no, .no] True [(3, rV 0 0), (4, rV 1 0), (6, rV 2 0), (7, bV true), (12, .e (yL (kK bs))), (13, uV (ka0 (kK bs))), (14, uV j)] [(0, some (42, (aU wk wr w wn wz))), (1, some (42, vC)), (2, some (42, (k5a bs j wk wr w wz)))] 7 trivial ?_
   refine yA [.w, .no] (u3 ((j : Int) + 1)) [(3, rV 0 0), (4, rV 1 0), (6, rV 2 0), (7, bV true), (12, .e (yL (kK bs))), (13, uV (ka0 (kK bs))), (14, iV (↑j + 1))] ⟨by omega, by omega⟩ ?_
   exact kW ⟨(((j + 1) : Nat), ((cA (kQ (kK bs) j) wk 7) : Int), ((vA wr (vN bs j)) : Int), ((yP w bs j) : List Int), ((vA wz (vM bs j)) : Int)), ⟨zo, (by exact BE.y hE rfl rfl rfl rfl zo), zo⟩⟩ [] (P := (kG 0) ∧ (kG 0) ∧ (kG 0) ∧ (true = true) ∧ (kJ (kN (kK bs))) ∧ (kG (ka0 (kK bs))) ∧ (kM (ka0 (kK bs) : Int)) ∧ (bU j) ∧ (kJ [iD wk, iD wr, dl w wn, iD wz]) ∧ (kJ [iD 0, iD 0, qI, iD 0]) ∧ (kJ [iD (cA (kQ (kK bs) j) wk 7), iD (vA wr (vN bs j)), dl (yP w bs j) (ka0 (yP w bs j)), iD (vA wz (vM bs j))])) zk ⟨rfl, rfl, rfl, (by rfl), rfl, rfl, rfl, (by rfl), rfl, rfl, rfl⟩ (show ka0 (kK bs) - (j + 1) < ka0 (kK bs) - j from zo)
  ·have hx26 : ((((-1) : Int) ≤ (pO wk wr wz (cA (kQ (kK bs) j) wk 7) (vA wr (vN bs j)) (vA wz (vM bs j)) yk yr yz w (yP w bs j) u)) ∧ ((pO wk wr wz (cA (kQ (kK bs) j) wk 7) (vA wr (vN bs j)) (vA wz (vM bs j)) yk yr yz w (yP w bs j) u) ≤ 1)) := k2t ..
   refine kS (qE 6 [.call [] (iV (pO wk wr wz (cA (kQ (kK bs) j) wk 7) (vA wr (vN bs j)) (vA wz (vM bs j)) yk yr yz w (yP w bs j) u)) [] 0 [] none, .b false, .no]) ((_) ∧ (¬ ((pO wk wr wz (cA (kQ (kK bs) j) wk 7) (vA wr (vN bs j)) (vA wz (vM bs j)) yk yr yz w (yP w bs j) u) < 0))) [(3, rV 0 0), (4, rV 1 0), (6, rV 2 0), (7, bV true), (10, rV 6 0), (12, .e (yL (kK bs))), (13, uV (ka0 (kK bs))), (14, uV j), (29, bV false)] ⟨(pV wk wr wz (cA (kQ (kK bs) j) wk 7) (vA wr (vN bs j)) (vA wz (vM bs j)) yk yr yz w (yP w bs j) u wn (ka0 (yP w bs j)) (ka0 u) zo rfl rfl zo zo zo zo zo zo zo zo zo), zo⟩ ?_
   refine uO ?_
   refine aC [.w, .no] (u3 ((j : Int) + 1)) [(3, rV 0 0), (4, rV 1 0), (6, rV 2 0), (7, bV true), (12, .e (yL (kK bs))), (13, uV (ka0 (kK bs))), (14, iV (↑j + 1))] [(0, some (42, (aU wk wr w wn wz))), (1, some (42, vC)), (2, some (42, (eV yk yr u yz)))] 7 ⟨by omega, by omega⟩ ?_
   exact kW ⟨(((j + 1) : Nat), (yk : Int), (yr : Int), (u : List Int), (yz : Int)), ⟨zo, (by exact BE.n hE zo zo), zo⟩⟩ [] (P := (kG 0) ∧ (kG 0) ∧ (kG 0) ∧ (true = true) ∧ (kJ (kN (kK bs))) ∧ (kG (ka0 (kK bs))) ∧ (kM (ka0 (kK bs) : Int)) ∧ (bU j) ∧ (kJ [iD wk, iD wr, dl w wn, iD wz]) ∧ (kJ [iD 0, iD 0, qI, iD 0]) ∧ (kJ [iD yk, iD yr, dl u (ka0 u), iD yz])) zk ⟨rfl, rfl, rfl, (by rfl), rfl, rfl, rfl, (by rfl), rfl, rfl, rfl⟩ (show ka0 (kK bs) - (j + 1) < ka0 (kK bs) - j from zo)
 ·refine kH [.b false] (¬ ((j : Int) < (ka0 (kK bs) : Int))) [(3, rV 0 0), (4, rV 1 0), (6, rV 2 0), (7, bV true), (12, .e (yL (kK bs))), (13, uV (ka0 (kK bs))), (14, uV j), (15, bV false)] [(0, some (42, (aU wk wr w wn wz))), (1, some (42, vC)), (2, some (42, (eV yk yr u yz)))] 5 zo ?_
  refine AW.seq ?_
  refine zf ?_
  refine AW.exit ?_
  refine kH [.no, .call [] (.e (.agg [iC yk, iC yr, .d (dl u (ka0 u)), iC yz])) [] 0 [] none, .no, .no, .no] _ [(4, rV 1 0), (5, bV true)] [(1, some (42, (eV yk yr u yz)))] 5 (zB yk yr u (ka0 u) yz rfl zo) ?_
  obtain ⟨hz1, hz2, hz3, hz4⟩ := hE.fin zo
  refine AW.ret ?_
  exact kA (.inr rfl) [] (P := (((oL bs wk wr w wz) : Int) = yk) ∧ (((oK bs wk wr w wz) : Int) = yr) ∧ (((dI .i64 (beM bs wk wr w wz)) : List D) = (dI .i64 u)) ∧ (((ka0 (beM bs wk wr w wz)) : Nat) = (ka0 u)) ∧ (((oJ bs wk wr w wz) : Int) = yz) ∧ (true = true)) zk ⟨(by exact hz1), (by exact hz2), (by rw [hz3]), (by rw [hz3]), (by exact hz4), rfl⟩
end Go.Proofs.YtbicifcgghmhaaaGreat
