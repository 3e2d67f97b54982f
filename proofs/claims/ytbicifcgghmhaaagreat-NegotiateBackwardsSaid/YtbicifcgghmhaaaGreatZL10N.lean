/- The best choice, of the code. No statement is proved here. -/
import Derived.Test.YtbicifcgghmhaaaGreatZL10M
namespace Go.Proofs.YtbicifcgghmhaaaGreat
open Go.ChangeShapes Go.WideShapes Go.ChangeAt Go.RowKit
open List renaming drop → ka3, getD → ka1, length → ka0, length_append → ka8, length_cons → kb0, length_drop → kb6, length_map → kc3, length_nil → kb2, length_replicate → kb5, length_reverse → kc0, length_set → kc1, length_take → kb4
open Nat renaming le_of_ble_eq_true → ka4, mul_one → kc6
set_option linter.unusedVariables false
set_option linter.unusedSimpArgs false
set_option maxHeartbeats 4000000
set_option maxRecDepth 100000
theorem u09 (k r : Int) (m : List Int) (n : Nat) (hm : ka0 m = n) (h1 : n ≤ 1000000) : Fun 80 [.agg [iC k, iC r, .d (D.sl (dI .i64 m) n)]] (kF []) 0 (.e (.agg [iC k, iC r, .d (D.sl (dI .i64 m) n)])) (kF []) 0 := by
 refine Fun.mk (n := 8) Tryz.func80 rfl rfl (ka4 rfl) ?_
 intro cx hcx
 refine kH [.no, .no] True [(1, rV 0 0), (2, rV 1 0)] [(0, some (40, .ds [iD k, iD r, dl m n])), (1, some (40, .ds [iD 0, iD 0, qJ]))] 2 trivial ?_
 refine kH [.no, .no, .call [] (oV 0 0 n 1) [(0, some (3, .ds (dI .i64 m)))] 1 [] none, .no, .no] _ [(1, rV 0 0), (2, rV 1 0)] [(0, some (40, .cs [iC k, iC r, .own 2 0 n 1 true])), (1, some (40, .ds [iD 0, iD 0, qJ])), (2, some (3, .ds (dI .i64 m)))] 3 (cW m n zo zo) ?_
 refine kH [.no, .no] True [(2, rV 1 0)] [(1, some (40, .cs [iC k, iC r, .own 2 0 n 1 true])), (2, some (3, .ds (dI .i64 m)))] 3 trivial ?_
 refine AW.freeze 2 (l' := [(2, rV 1 0)]) (g' := [(1, some (40, .ds [iD k, iD r, dl m n]))]) rfl (FzS.cons rfl (.same _) FzS.nil) (FzG.to (bc := .cs [iC k, iC r, .own 2 0 n 1 true]) rfl (by rfl) (FzL.cons (.same _) (FzL.cons (.same _) (FzL.cons (@FzC.own 2 ((dI .i64 m) : List D) 0 n 1 true ((dI .i64 m) : List D) (by rw [List.drop_zero, kc6, List.take_of_length_le (by (simp only [qA, k9, qP, ka8, kb0, kb2, kb4, kb6, kb5, kc1, kc3, kc0, kc6] <;> omega))]) (by (simp only [qA, k9, qP, ka8, kb0, kb2, kb4, kb6, kb5, kc1, kc3, kc0, kc6] <;> omega))) FzL.nil))) FzG.nil) ?_
 refine AW.ret ?_
 exact kA (.inr rfl) [] (P := (kM k) ∧ (kM r) ∧ (kJ (dI .i64 m)) ∧ (kG n)) zk ⟨rfl, rfl, rfl, rfl⟩
theorem xT (k r : Int) (m : List Int) (n : Nat) (z : Int) (hm : ka0 m = n) (h1 : n ≤ 1000000) : Fun 48 [.agg [iC k, iC r, .d (D.sl (dI .i64 m) n), iC z]] (kF []) 0 (.e (.agg [iC k, iC r, .d (D.sl (dI .i64 m) n), iC z])) (kF []) 0 := by
 refine Fun.mk (n := 8) Tryz.func48 rfl rfl (ka4 rfl) ?_
 intro cx hcx
 refine kH [.no, .no] True [(1, rV 0 0), (2, rV 1 0)] [(0, some (42, .ds [iD k, iD r, dl m n, iD z])), (1, some (42, .ds [iD 0, iD 0, qJ, iD 0]))] 2 trivial ?_
 refine kQ [.no, .no, .call [] (.e (.agg [iC k, iC r, .d (dl m n)])) [] 0 [] none, .no, .no] _ [(1, rV 0 0), (2, rV 1 0)] (u09 k r m n zo zo) ?_
 refine kH [.no, .no] True [(2, rV 1 0)] [(1, some (42, .ds [iD k, iD r, dl m n, iD z]))] 2 trivial ?_
 refine AW.ret ?_
 exact kA (.inr rfl) [] (P := (kM k) ∧ (kM r) ∧ (kJ (dI .i64 m)) ∧ (kG n) ∧ (kM z)) zk ⟨rfl, rfl, rfl, rfl, rfl⟩
theorem k2s (w a b : List Int) (o n m : Nat) (wk wr wz : Int) (ho : ka0 w = o) (hn : ka0 a = n) (hm : ka0 b = m) (h1 : o ≤ 1000000) (h2 : n ≤ 1000000) (h3 : m ≤ 1000000) : Fun 116 [.c (.d (D.sl (dI .i64 a) n)), .c (.d (D.sl (dI .i64 b) m)), .c (.ptr 0 0)] (kF [(0, some (42, .ds [iD wk, iD wr, D.sl (dI .i64 w) o, iD wz]))]) 1 (iV (cI w a b)) (kF [(0, some (42, .ds [iD wk, iD wr, D.sl (dI .i64 w) o, iD wz]))]) 1 := by
 refine Fun.mk (n := 12) Tryz.func116 rfl rfl (ka4 rfl) ?_
 intro cx hcx
 refine kH [.no] True [(0, sV .i64 a n), (1, sV .i64 b m), (2, rV 0 0)] [(0, some (42, .ds [iD wk, iD wr, dl w o, iD wz]))] 1 trivial ?_
 have hx1 : ((((-1) : Int) ≤ (cI w a b)) ∧ ((cI w a b) ≤ 1)) := fF w a b
 refine kQ (qD 5 [.call [] (iV (cI w a b)) [] 0 [] none, .no]) _ [(5, iV (cI w a b))] (k9t w a b o n m zo zo zo zo zo zo) ?_
 refine AW.ret ?_
 exact kA (.inr rfl) [] (P := (kM (cI w a b)) ∧ (kJ [iD wk, iD wr, dl w o, iD wz])) zk ⟨rfl, rfl⟩
abbrev eO (wk : Int) (wr : Int) (w : List Int) (wn : Nat) (wz : Int) : BC := .ds [iD wk, iD wr, D.sl (dI .i64 w) wn, iD wz]
theorem v2n (m : List (List Int)) (c : Nat) (wk wr : Int) (w : List Int) (wn : Nat) (wz : Int) (hc : ka0 m = c) (h3 : c ≤ 1000000) (h4 : 1 ≤ c) (hW : MsW m) (hw : ka0 w = wn) (h5 : wn ≤ 1000000) : Fun 115 [.c (.d (D.sl (kI m) c)), .c (.fn 116 [(0, 0)])] (kF [(0, some (42, .ds [iD wk, iD wr, D.sl (dI .i64 w) wn, iD wz]))]) 1 (sV .i64 (eD w m c) (ka0 (eD w m c))) (kF [(0, some (42, .ds [iD wk, iD wr, D.sl (dI .i64 w) wn, iD wz]))]) 1 := by
 refine Fun.mk (n := 33) Tryz.func115 rfl rfl (ka4 rfl) ?_
 intro cx hcx
 refine kH [.no] True [(0, qB (kI m) c), (1, .e (.c (.fn 116 [(0, 0)])))] [(0, some (42, (eO wk wr w wn wz)))] 1 trivial ?_
 refine AW.seq ?_
 refine kQ [.no, .no, .b false] (¬ ((c : Int) < 1)) [(0, qB (kI m) c), (1, .e (.c (.fn 116 [(0, 0)]))), (9, bV false)] zo ?_
 refine uP ?_
 have hx1 : ((ka0 (ka1 m 0 ([] : List Int))) ≤ 1000000) := MsW.at (qC : MsW m) _
 refine kQ [.no, .n 0, .d (dl (ka1 m 0 ([] : List Int)) (ka0 (ka1 m 0 ([] : List Int)))), .no] ((kM 0) ∧ ((0 : Nat) < c) ∧ ((ka3 0 (kI m))[0]? = some (dl (ka1 m 0 ([] : List Int)) (ka0 (ka1 m 0 ([] : List Int)))))) [(0, qB (kI m) c), (1, .e (.c (.fn 116 [(0, 0)]))), (5, sV .i64 (ka1 m 0 ([] : List Int)) (ka0 (ka1 m 0 ([] : List Int))))] ⟨rfl, zo, (a7 _ _ zo)⟩ ?_
 refine AW.seq ?_
 refine kQ [.no] True [(0, qB (kI m) c), (1, .e (.c (.fn 116 [(0, 0)]))), (5, sV .i64 (ka1 m 0 ([] : List Int)) (ka0 (ka1 m 0 ([] : List Int)))), (6, iV 1)] trivial ?_
 refine AW.block ?_
 refine kX 1 hcx (fun (x : {x : Nat × List Int // match x with | (j, u) => (1 ≤ j ∧ j ≤ c) ∧ (eD w m j = u) ∧ (ka0 u ≤ 1000000)}) => match x with | ⟨(j, u), _⟩ => (⟨[(0, qB (kI m) c), (1, .e (.c (.fn 116 [(0, 0)]))), (5, sV .i64 u (ka0 u)), (6, uV j)], [(0, some (42, (eO wk wr w wn wz)))], 1⟩ : ES)) (fun x => match x with | ⟨(j, u), _⟩ => c - j) ⟨((1 : Nat), ((ka1 m 0 ([] : List Int)) : List Int)), ⟨zo, (v22 rfl), zo⟩⟩ [] (P := (kJ (kI m)) ∧ (kG c) ∧ (kJ (dI .i64 (ka1 m 0 ([] : List Int)))) ∧ (kG (ka0 (ka1 m 0 ([] : List Int)))) ∧ (kM 1) ∧ (kJ [iD wk, iD wr, dl w wn, iD wz])) zk ⟨rfl, rfl, rfl, rfl, rfl, rfl⟩ ?_
 rintro ⟨⟨j, u⟩, hinv0⟩
 obtain ⟨hj, hu, hul⟩ : (1 ≤ j ∧ j ≤ c) ∧ (eD w m j = u) ∧ (ka0 u ≤ 1000000) := hinv0
 refine qU (l := [(0, qB (kI m) c), (1, .e (.c (.fn 116 [(0, 0)]))), (5, sV .i64 u (ka0 u)), (6, uV j)]) (g := [(0, some (42, (eO wk wr w wn wz)))]) (nx := 1) rfl rfl rfl ?_
 refine AW.seq ?_
 by_cases hx2 : (((j : Nat) : Int) < ((c : Nat) : Int))
 ·refine kH [.no, .no, .no, .b true] (((j : Int) < (c : Int))) [(0, qB (kI m) c), (1, .e (.c (.fn 116 [(0, 0)]))), (5, sV .i64 u (ka0 u)), (6, uV j), (17, bV true)] [(0, some (42, (eO wk wr w wn wz)))] 1 zo ?_
  refine vI ?_
  refine AW.seq ?_
  refine AW.block ?_
  by_cases hx5 : ((cI w (ka1 m j ([] : List Int)) u) < 0)
  ·have hx6 : ((ka0 (ka1 m j ([] : List Int))) ≤ 1000000) := MsW.at (qC : MsW m) _
   have hx7 : ((((-1) : Int) ≤ (cI w (ka1 m j ([] : List Int)) u)) ∧ ((cI w (ka1 m j ([] : List Int)) u) ≤ 1)) := fF w (ka1 m j ([] : List Int)) u
   refine kQ [.no, .no, .no, .n j, .d (dl (ka1 m j ([] : List Int)) (ka0 (ka1 m j ([] : List Int)))), .no, .call [0] (iV (cI w (ka1 m j ([] : List Int)) u)) [(0, some (42, (eO wk wr w wn wz)))] 1 [] none, .b true] ((kM (j : Int)) ∧ (j < c) ∧ ((ka3 j (kI m))[0]? = some (dl (ka1 m j ([] : List Int)) (ka0 (ka1 m j ([] : List Int))))) ∧ (_) ∧ (((cI w (ka1 m j ([] : List Int)) u) < 0))) [(0, qB (kI m) c), (1, .e (.c (.fn 116 [(0, 0)]))), (5, sV .i64 u (ka0 u)), (6, uV j), (27, bV true)] ⟨rfl, zo, (a7 _ _ zo), (k2s w (ka1 m j ([] : List Int)) u wn (ka0 (ka1 m j ([] : List Int))) (ka0 u) wk wr wz zo rfl rfl zo zo zo), zo⟩ ?_
   refine zt ?_
   refine u2 [.no, .no, .n j, .d (dl (ka1 m j ([] : List Int)) (ka0 (ka1 m j ([] : List Int)))), .no] ((kM (j : Int)) ∧ (j < c) ∧ ((ka3 j (kI m))[0]? = some (dl (ka1 m j ([] : List Int)) (ka0 (ka1 m j ([] : List Int)))))) [(0, qB (kI m) c), (1, .e (.c (.fn 116 [(0, 0)]))), (5, sV .i64 (ka1 m j ([] : List Int)) (ka0 (ka1 m j ([] : List Int)))), (6, uV j)] ⟨rfl, zo, (a7 _ _ zo)⟩ ?_
   refine u2 [.no, .w, .no] (uZ ((j : Int) + 1)) [(0, qB (kI m) c), (1, .e (.c (.fn 116 [(0, 0)]))), (5, sV .i64 (ka1 m j ([] : List Int)) (ka0 (ka1 m j ([] : List Int)))), (6, iV (↑j + 1))] ⟨by omega, by omega⟩ ?_
   exact kV ⟨(((j + 1) : Nat), ((ka1 m j ([] : List Int)) : List Int)), ⟨zo, (by exact v20 hu zo rfl), zo⟩⟩ [] (P := (kJ (kI m)) ∧ (kG c) ∧ (kJ (dI .i64 (ka1 m j ([] : List Int)))) ∧ (kG (ka0 (ka1 m j ([] : List Int)))) ∧ (bU j) ∧ (kJ [iD wk, iD wr, dl w wn, iD wz])) zk ⟨rfl, rfl, rfl, rfl, (by rfl), rfl⟩ (show c - (j + 1) < c - j from zo)
  ·have hx8 : ((ka0 (ka1 m j ([] : List Int))) ≤ 1000000) := MsW.at (qC : MsW m) _
   have hx9 : ((((-1) : Int) ≤ (cI w (ka1 m j ([] : List Int)) u)) ∧ ((cI w (ka1 m j ([] : List Int)) u) ≤ 1)) := fF w (ka1 m j ([] : List Int)) u
   refine kQ [.no, .no, .no, .n j, .d (dl (ka1 m j ([] : List Int)) (ka0 (ka1 m j ([] : List Int)))), .no, .call [0] (iV (cI w (ka1 m j ([] : List Int)) u)) [(0, some (42, (eO wk wr w wn wz)))] 1 [] none, .b false] ((kM (j : Int)) ∧ (j < c) ∧ ((ka3 j (kI m))[0]? = some (dl (ka1 m j ([] : List Int)) (ka0 (ka1 m j ([] : List Int))))) ∧ (_) ∧ (¬ ((cI w (ka1 m j ([] : List Int)) u) < 0))) [(0, qB (kI m) c), (1, .e (.c (.fn 116 [(0, 0)]))), (5, sV .i64 u (ka0 u)), (6, uV j), (27, bV false)] ⟨rfl, zo, (a7 _ _ zo), (k2s w (ka1 m j ([] : List Int)) u wn (ka0 (ka1 m j ([] : List Int))) (ka0 u) wk wr wz zo rfl rfl zo zo zo), zo⟩ ?_
   refine uP ?_
   refine u2 [.no, .w, .no] (uZ ((j : Int) + 1)) [(0, qB (kI m) c), (1, .e (.c (.fn 116 [(0, 0)]))), (5, sV .i64 u (ka0 u)), (6, iV (↑j + 1))] ⟨by omega, by omega⟩ ?_
   exact kV ⟨(((j + 1) : Nat), (u : List Int)), ⟨zo, (by exact v21 hu zo zo), zo⟩⟩ [] (P := (kJ (kI m)) ∧ (kG c) ∧ (kJ (dI .i64 u)) ∧ (kG (ka0 u)) ∧ (bU j) ∧ (kJ [iD wk, iD wr, dl w wn, iD wz])) zk ⟨rfl, rfl, rfl, rfl, (by rfl), rfl⟩ (show c - (j + 1) < c - j from zo)
 ·refine kH [.no, .no, .no, .b false] (¬ ((j : Int) < (c : Int))) [(0, qB (kI m) c), (1, .e (.c (.fn 116 [(0, 0)]))), (5, sV .i64 u (ka0 u)), (6, uV j), (17, bV false)] [(0, some (42, (eO wk wr w wn wz)))] 1 zo ?_
  refine zf ?_
  refine AW.exit ?_
  refine kH [.no, .no] True [(4, sV .i64 u (ka0 u))] [(0, some (42, (eO wk wr w wn wz)))] 1 trivial ?_
  have hz2 : eD w m c = u := by have h9 := hu; rw [show j = c by omega] at h9; exact h9
  refine AW.ret ?_
  exact kA (.inr rfl) [] (P := (((dI .i64 (eD w m c)) : List D) = (dI .i64 u)) ∧ (((ka0 (eD w m c)) : Nat) = (ka0 u)) ∧ (kJ [iD wk, iD wr, dl w wn, iD wz])) zk ⟨(by rw [hz2]), (by rw [hz2]), rfl⟩
abbrev gA : BC := .ds [iD 0, iD 0, D.lit (.slice none 0 0), iD 0]
abbrev iW (k : Int) (r : List Int) (rn : Nat) (m : List (List Int)) (c : Nat) (s : List Int) (sn : Nat) : BC := .ds [iD k, D.sl (dI .i64 r) rn, D.sl (kI m) c, D.sl (dI .i64 s) sn]
abbrev f9 (wk : Int) (wr : Int) (w : List Int) (wn : Nat) (wz : Int) : BC := .ds [iD wk, iD wr, D.sl (dI .i64 w) wn, iD wz]
theorem xS (k : Int) (r : List Int) (rn : Nat) (m : List (List Int)) (c : Nat) (s : List Int) (sn : Nat) (wk wr : Int) (w : List Int) (wn : Nat) (wz : Int) (hr : ka0 r = rn * 2) (hs : ka0 s = sn * 2) (hc : ka0 m = c) (h1 : rn ≤ 1000000) (h2 : sn ≤ 1000000) (h3 : c ≤ 1000000) (h4 : 1 ≤ c) (hW : MsW m) (hw : ka0 w = wn) (h5 : wn ≤ 1000000) (hwr : -9223372036854775808 ≤ wr ∧ wr ≤ 9223372036854775807) (hwz : -9223372036854775808 ≤ wz ∧ wz ≤ 9223372036854775807) : Fun 78 [.agg [iC k, .d (D.sl (dI .i64 r) rn), .d (D.sl (kI m) c), .d (D.sl (dI .i64 s) sn)], .agg [iC wk, iC wr, .d (D.sl (dI .i64 w) wn), iC wz]] (kF []) 0 (.e (.agg [iC (bS k wk 7), iC (y7 wr (kB r rn)), .d (D.sl (dI .i64 (eD w m c)) (ka0 (eD w m c))), iC (y7 wz (kB s sn))])) (kF []) 0 := by
 refine Fun.mk (n := 63) Tryz.func78 rfl rfl (ka4 rfl) ?_
 intro cx hcx
 refine kH [.no, .no, .no] True [(2, rV 0 0), (3, rV 1 0), (4, rV 2 0)] [(0, some (63, (iW k r rn m c s sn))), (1, some (42, (f9 wk wr w wn wz))), (2, some (42, gA))] 3 trivial ?_
 refine kQ [.no] True [(2, rV 0 0), (3, rV 1 0), (4, rV 2 0), (5, iV 0)] trivial ?_
 refine AW.seq ?_
 refine kQ [.no] True [(2, rV 0 0), (3, rV 1 0), (4, rV 2 0), (5, iV 0), (6, iV 1)] trivial ?_
 refine AW.block ?_
 refine kX 0 hcx (fun (x : {x : Nat × Int // match x with | (i, y) => (i ≤ 7 ∧ 0 ≤ y ∧ y ≤ 7) ∧ (bS k wk i = y)}) => match x with | ⟨(i, y), _⟩ => (⟨[(2, rV 0 0), (3, rV 1 0), (4, rV 2 0), (5, iV y), (6, iV ((i : Int) + 1))], [(0, some (63, (iW k r rn m c s sn))), (1, some (42, (f9 wk wr w wn wz))), (2, some (42, gA))], 3⟩ : ES)) (fun x => match x with | ⟨(i, y), _⟩ => 7 - i) ⟨((0 : Nat), (0 : Int)), ⟨zo, rfl⟩⟩ [] (P := (kG 0) ∧ (kG 0) ∧ (kG 0) ∧ (kM 0) ∧ (kM 1) ∧ (kJ [iD k, dl r rn, D.sl (kI m) c, dl s sn]) ∧ (kJ [iD wk, iD wr, dl w wn, iD wz]) ∧ (kJ [iD 0, iD 0, qJ, iD 0])) zk ⟨rfl, rfl, rfl, rfl, rfl, rfl, rfl, rfl⟩ ?_
 rintro ⟨⟨i, y⟩, hinv0⟩
 obtain ⟨hi, hy⟩ : (i ≤ 7 ∧ 0 ≤ y ∧ y ≤ 7) ∧ (bS k wk i = y) := hinv0
 refine qU (l := [(2, rV 0 0), (3, rV 1 0), (4, rV 2 0), (5, iV y), (6, iV ((i : Int) + 1))]) (g := [(0, some (63, (iW k r rn m c s sn))), (1, some (42, (f9 wk wr w wn wz))), (2, some (42, gA))]) (nx := 3) rfl rfl rfl ?_
 refine AW.seq ?_
 by_cases hx1 : ((((i : Nat) : Int) + 1) ≤ 7)
 ·refine kH [.no, .b true] ((((i : Int) + 1) ≤ 7)) [(2, rV 0 0), (3, rV 1 0), (4, rV 2 0), (5, iV y), (6, iV (↑i + 1)), (13, bV true)] [(0, some (63, (iW k r rn m c s sn))), (1, some (42, (f9 wk wr w wn wz))), (2, some (42, gA))] 3 zo ?_
  refine vI ?_
  refine AW.seq ?_
  refine AW.block ?_
  by_cases hx2 : ((eC (k / (((2 ^ (i + 1)) : Nat) : Int))) = 1)
  ·by_cases hx3 : (y = 0)
   ·refine kQ [.no, .no, .no, .n (i + 1), .i (eC (k / (((2 ^ (i + 1)) : Nat) : Int))), .b true, .no, .no, .b true, .no, .no, .no] (((((i : Int) + 1) : Int) = (((i + 1) : Nat) : Int)) ∧ ((i + 1) ≤ 64) ∧ (qE .and .i64 (k / (((2 ^ (i + 1)) : Nat) : Int)) 1 = (eC (k / (((2 ^ (i + 1)) : Nat) : Int)))) ∧ (((eC (k / (((2 ^ (i + 1)) : Nat) : Int))) = 1)) ∧ ((y = 0))) [(2, rV 0 0), (3, rV 1 0), (4, rV 2 0), (5, iV y), (6, iV (↑i + 1)), (34, bV true)] ⟨(by rfl), zo, rfl, zo, zo⟩ ?_
    refine zt ?_
    refine u2 [.no, .no] True [(2, rV 0 0), (3, rV 1 0), (4, rV 2 0), (5, iV (↑i + 1)), (6, iV (↑i + 1))] trivial ?_
    refine u2 [.no, .w, .no] (uZ (((i : Int) + 1) + 1)) [(2, rV 0 0), (3, rV 1 0), (4, rV 2 0), (5, iV (↑i + 1)), (6, iV ((↑i + 1) + 1))] ⟨by omega, by omega⟩ ?_
    exact kV ⟨(((i + 1) : Nat), (((i : Int) + 1) : Int)), ⟨zo, (by exact u2o hy (decide_eq_true ⟨by omega, by omega, by omega⟩) zo rfl)⟩⟩ [] (P := (kG 0) ∧ (kG 0) ∧ (kG 0) ∧ (kM ((i : Int) + 1)) ∧ ((((((i + 1) : Nat) : Int) + 1) : Int) = (((i : Int) + 1) + 1)) ∧ (kJ [iD k, dl r rn, D.sl (kI m) c, dl s sn]) ∧ (kJ [iD wk, iD wr, dl w wn, iD wz]) ∧ (kJ [iD 0, iD 0, qJ, iD 0])) zk ⟨rfl, rfl, rfl, rfl, (by rfl), rfl, rfl, rfl⟩ (show 7 - (i + 1) < 7 - i from zo)
   ·by_cases hx5 : ((cJ wk (((i : Nat) : Int) + 1) y) < 0)
    ·have hx6 : ((((-1) : Int) ≤ (cJ wk (((i : Nat) : Int) + 1) y)) ∧ ((cJ wk (((i : Nat) : Int) + 1) y) ≤ 1)) := g7 wk (((i : Nat) : Int) + 1) y
     refine kQ (.no :: .no :: .no :: .n (i + 1) :: .i (eC (k / (((2 ^ (i + 1)) : Nat) : Int))) :: .b true :: .no :: .no :: .b false :: qD 6 [.call [] (iV (cJ wk ((i : Int) + 1) y)) [] 0 [] none, .b true, .no, .no]) (((((i : Int) + 1) : Int) = (((i + 1) : Nat) : Int)) ∧ ((i + 1) ≤ 64) ∧ (qE .and .i64 (k / (((2 ^ (i + 1)) : Nat) : Int)) 1 = (eC (k / (((2 ^ (i + 1)) : Nat) : Int)))) ∧ (((eC (k / (((2 ^ (i + 1)) : Nat) : Int))) = 1)) ∧ (¬ (y = 0)) ∧ (_) ∧ (((cJ wk ((i : Int) + 1) y) < 0))) [(2, rV 0 0), (3, rV 1 0), (4, rV 2 0), (5, iV y), (6, iV (↑i + 1)), (34, bV true)] ⟨(by rfl), zo, rfl, zo, zo, (s0 wk ((i : Int) + 1) y), zo⟩ ?_
     refine zt ?_
     refine u2 [.no, .no] True [(2, rV 0 0), (3, rV 1 0), (4, rV 2 0), (5, iV (↑i + 1)), (6, iV (↑i + 1))] trivial ?_
     refine u2 [.no, .w, .no] (uZ (((i : Int) + 1) + 1)) [(2, rV 0 0), (3, rV 1 0), (4, rV 2 0), (5, iV (↑i + 1)), (6, iV ((↑i + 1) + 1))] ⟨by omega, by omega⟩ ?_
     exact kV ⟨(((i + 1) : Nat), (((i : Int) + 1) : Int)), ⟨zo, (by exact u2o hy (decide_eq_true ⟨by omega, by omega, by omega⟩) zo rfl)⟩⟩ [] (P := (kG 0) ∧ (kG 0) ∧ (kG 0) ∧ (kM ((i : Int) + 1)) ∧ ((((((i + 1) : Nat) : Int) + 1) : Int) = (((i : Int) + 1) + 1)) ∧ (kJ [iD k, dl r rn, D.sl (kI m) c, dl s sn]) ∧ (kJ [iD wk, iD wr, dl w wn, iD wz]) ∧ (kJ [iD 0, iD 0, qJ, iD 0])) zk ⟨rfl, rfl, rfl, rfl, (by rfl), rfl, rfl, rfl⟩ (show 7 - (i + 1) < 7 - i from zo)
    ·have hx7 : ((((-1) : Int) ≤ (cJ wk (((i : Nat) : Int) + 1) y)) ∧ ((cJ wk (((i : Nat) : Int) + 1) y) ≤ 1)) := g7 wk (((i : Nat) : Int) + 1) y
     refine kQ (.no :: .no :: .no :: .n (i + 1) :: .i (eC (k / (((2 ^ (i + 1)) : Nat) : Int))) :: .b true :: .no :: .no :: .b false :: qD 6 [.call [] (iV (cJ wk ((i : Int) + 1) y)) [] 0 [] none, .b false, .no, .no]) (((((i : Int) + 1) : Int) = (((i + 1) : Nat) : Int)) ∧ ((i + 1) ≤ 64) ∧ (qE .and .i64 (k / (((2 ^ (i + 1)) : Nat) : Int)) 1 = (eC (k / (((2 ^ (i + 1)) : Nat) : Int)))) ∧ (((eC (k / (((2 ^ (i + 1)) : Nat) : Int))) = 1)) ∧ (¬ (y = 0)) ∧ (_) ∧ (¬ ((cJ wk ((i : Int) + 1) y) < 0))) [(2, rV 0 0), (3, rV 1 0), (4, rV 2 0), (5, iV y), (6, iV (↑i + 1)), (34, bV false)] ⟨(by rfl), zo, rfl, zo, zo, (s0 wk ((i : Int) + 1) y), zo⟩ ?_
     refine uP ?_
     refine u2 [.no, .w, .no] (uZ (((i : Int) + 1) + 1)) [(2, rV 0 0), (3, rV 1 0), (4, rV 2 0), (5, iV y), (6, iV ((↑i + 1) + 1))] ⟨by omega, by omega⟩ ?_
     exact kV ⟨(((i + 1) : Nat), (y : Int)), ⟨zo, (by exact v23 hy zo zo)⟩⟩ [] (P := (kG 0) ∧ (kG 0) ∧ (kG 0) ∧ (kM y) ∧ ((((((i + 1) : Nat) : Int) + 1) : Int) = (((i : Int) + 1) + 1)) ∧ (kJ [iD k, dl r rn, D.sl (kI m) c, dl s sn]) ∧ (kJ [iD wk, iD wr, dl w wn, iD wz]) ∧ (kJ [iD 0, iD 0, qJ, iD 0])) zk ⟨rfl, rfl, rfl, rfl, (by rfl), rfl, rfl, rfl⟩ (show 7 - (i + 1) < 7 - i from zo)
  ·refine kQ [.no, .no, .no, .n (i + 1), .i (eC (k / (((2 ^ (i + 1)) : Nat) : Int))), .b false, .no, .no] (((((i : Int) + 1) : Int) = (((i + 1) : Nat) : Int)) ∧ ((i + 1) ≤ 64) ∧ (qE .and .i64 (k / (((2 ^ (i + 1)) : Nat) : Int)) 1 = (eC (k / (((2 ^ (i + 1)) : Nat) : Int)))) ∧ (¬ ((eC (k / (((2 ^ (i + 1)) : Nat) : Int))) = 1))) [(2, rV 0 0), (3, rV 1 0), (4, rV 2 0), (5, iV y), (6, iV (↑i + 1)), (34, bV false)] ⟨(by rfl), zo, rfl, zo⟩ ?_
   refine uP ?_
   refine u2 [.no, .w, .no] (uZ (((i : Int) + 1) + 1)) [(2, rV 0 0), (3, rV 1 0), (4, rV 2 0), (5, iV y), (6, iV ((↑i + 1) + 1))] ⟨by omega, by omega⟩ ?_
   exact kV ⟨(((i + 1) : Nat), (y : Int)), ⟨zo, (by exact v24 hy (decide_eq_false (fun e9 => by omega)))⟩⟩ [] (P := (kG 0) ∧ (kG 0) ∧ (kG 0) ∧ (kM y) ∧ ((((((i + 1) : Nat) : Int) + 1) : Int) = (((i : Int) + 1) + 1)) ∧ (kJ [iD k, dl r rn, D.sl (kI m) c, dl s sn]) ∧ (kJ [iD wk, iD wr, dl w wn, iD wz]) ∧ (kJ [iD 0, iD 0, qJ, iD 0])) zk ⟨rfl, rfl, rfl, rfl, (by rfl), rfl, rfl, rfl⟩ (show 7 - (i + 1) < 7 - i from zo)
 ·refine kH [.no, .b false] (¬ (((i : Int) + 1) ≤ 7)) [(2, rV 0 0), (3, rV 1 0), (4, rV 2 0), (5, iV y), (6, iV (↑i + 1)), (13, bV false)] [(0, some (63, (iW k r rn m c s sn))), (1, some (42, (f9 wk wr w wn wz))), (2, some (42, gA))] 3 zo ?_
  refine zf ?_
  refine AW.exit ?_
  refine kH (qD 5 (.call [] (.tup [iE (y7 wr (kB r rn)), .c (.d (D.lit (.bool (nrF wr (kB r rn)))))]) [] 0 [] none :: qD 5 [])) _ [(2, rV 0 0), (3, rV 1 0), (4, rV 2 0), (5, iV y), (7, iV (y7 wr (kB r rn)))] [(0, some (63, (iW k r rn m c s sn))), (1, some (42, (f9 wk wr w wn wz))), (2, some (42, gA))] 3 (k9z r rn wr zo zo zo) ?_
  refine kQ (qD 4 (.call [] (.tup [iE (y7 wz (kB s sn)), .c (.d (D.lit (.bool (nrF wz (kB s sn)))))]) [] 0 [] none :: qD 5 [])) _ [(2, rV 0 0), (3, rV 1 0), (4, rV 2 0), (5, iV y), (7, iV (y7 wr (kB r rn))), (9, iV (y7 wz (kB s sn)))] (k9z s sn wz zo zo zo) ?_
  have hx8 : ((ka0 (eD w m c)) ≤ 1000000) := k9d (qC : MsW m) c
  refine kH [.no, .no, .no, .call [1] (sV .i64 (eD w m c) (ka0 (eD w m c))) [(0, some (42, (f9 wk wr w wn wz)))] 1 [] none, .no] _ [(4, rV 2 0), (5, iV y), (7, iV (y7 wr (kB r rn))), (9, iV (y7 wz (kB s sn))), (11, sV .i64 (eD w m c) (ka0 (eD w m c)))] [(2, some (42, gA))] 3 (v2n m c wk wr w wn wz zo zo zo (qC : MsW m) zo zo) ?_
  refine kH (qD 7 []) True [(4, rV 2 0)] [(2, some (42, .ds [iD y, iD (y7 wr (kB r rn)), dl (eD w m c) (ka0 (eD w m c)), iD (y7 wz (kB s sn))]))] 3 trivial ?_
  have hz1 : bS k wk 7 = y := by have h9 := hy; rw [show i = 7 by omega] at h9; exact h9
  refine AW.ret ?_
  exact kA (.inr rfl) [] (P := (((bS k wk 7) : Int) = y) ∧ (kM (y7 wr (kB r rn))) ∧ (kJ (dI .i64 (eD w m c))) ∧ (kG (ka0 (eD w m c))) ∧ (kM (y7 wz (kB s sn)))) zk ⟨(by exact hz1), rfl, rfl, rfl, rfl⟩
abbrev yP (w : List Int) (bs : List Bx) (j : Nat) := eD w (kS (kK bs) j) (ka0 (kS (kK bs) j))
abbrev eN (w : List Int) (bs : List Bx) := eD w (kS (kK bs) 0) (ka0 (kS (kK bs) 0))
abbrev vK (bs : List Bx) (j : Nat) := kB (k8 (kK bs) j) (kU (kK bs) j)
abbrev vJ (bs : List Bx) (j : Nat) := kB (kZ (kK bs) j) (kT (kK bs) j)
abbrev iU (bs : List Bx) := kB (k8 (kK bs) 0) (kU (kK bs) 0)
abbrev iT (bs : List Bx) := kB (kZ (kK bs) 0) (kT (kK bs) 0)
abbrev y8 : BC := .ds [iD 0, iD 0, D.lit (.slice none 0 0), iD 0]
abbrev k4n (bs : List Bx) (j : Nat) (wk : Int) (wr : Int) (w : List Int) (wz : Int) : BC := .ds [iD (bS (kR (kK bs) j) wk 7), iD (y7 wr (vK bs j)), D.sl (dI .i64 (yP w bs j)) (ka0 (yP w bs j)), iD (y7 wz (vJ bs j))]
abbrev aP (wk : Int) (wr : Int) (w : List Int) (wn : Nat) (wz : Int) : BC := .ds [iD wk, iD wr, D.sl (dI .i64 w) wn, iD wz]
abbrev eM (yk : Int) (yr : Int) (u : List Int) (yz : Int) : BC := .ds [iD yk, iD yr, D.sl (dI .i64 u) (ka0 u), iD yz]
abbrev k0x (bs : List Bx) (wk : Int) (wr : Int) (w : List Int) (wz : Int) : BC := .ds [iD (bS (kR (kK bs) 0) wk 7), iD (y7 wr (iU bs)), D.sl (dI .i64 (eN w bs)) (ka0 (eN w bs)), iD (y7 wz (iT bs))]
theorem u2z (bs : List Bx) (n : Nat) (wk wr : Int) (w : List Int) (wn : Nat) (wz : Int) (hn : ka0 bs = n) (h1 : n ≤ 1000000) (hW : BsW bs) (hw : ka0 w = wn) (h5 : wn ≤ 1000000) (hwr : -9223372036854775808 ≤ wr ∧ wr ≤ 9223372036854775807) (hwz : -9223372036854775808 ≤ wz ∧ wz ≤ 9223372036854775807) (h9 : 1 ≤ ka0 (kK bs)) : Fun 46 [.c (.d (D.sl (kP bs) n)), .agg [iC wk, iC wr, .d (D.sl (dI .i64 w) wn), iC wz]] (kF []) 0 (.tup [.agg [iC (nY bs wk wr w wz), iC (nX bs wk wr w wz), .d (D.sl (dI .i64 (beM bs wk wr w wz)) (ka0 (beM bs wk wr w wz))), iC (nW bs wk wr w wz)], .c (.d (D.lit (.bool true)))]) (kF []) 0 := by
 refine Fun.mk (n := 35) Tryz.func46 rfl rfl (ka4 rfl) ?_
 intro cx hcx
 refine kH [.no, .no, .no] True [(0, .e (kY bs n)), (3, rV 0 0), (4, rV 1 0)] [(0, some (42, (aP wk wr w wn wz))), (1, some (42, y8))] 2 trivial ?_
 refine kH [.no] True [(0, .e (kY bs n)), (3, rV 0 0), (4, rV 1 0), (6, rV 2 0)] [(0, some (42, (aP wk wr w wn wz))), (1, some (42, y8)), (2, some (42, y8))] 3 trivial ?_
 refine kQ [.no] True [(0, .e (kY bs n)), (3, rV 0 0), (4, rV 1 0), (6, rV 2 0), (7, bV false)] trivial ?_
 refine AW.seq ?_
 have hx1 : ((ka0 (kK bs)) ≤ n) := (by have h9 := jK bs; omega)
 refine kQ [.no, .call [] (.e (yL (kK bs))) [] 0 [] none, .no, .no] _ [(3, rV 0 0), (4, rV 1 0), (6, rV 2 0), (7, bV false), (12, .e (yL (kK bs))), (13, uV (ka0 (kK bs))), (14, iV 0)] (iL bs n zo zo (qC : BsW bs)) ?_
 refine AW.block ?_
 refine u31 1 ?_
 refine AWp.s ?_
 refine kH [.b true] (((0 : Int) < (ka0 (kK bs) : Int))) [(3, rV 0 0), (4, rV 1 0), (6, rV 2 0), (7, bV false), (12, .e (yL (kK bs))), (13, uV (ka0 (kK bs))), (14, iV 0), (15, bV true)] [(0, some (42, (aP wk wr w wn wz))), (1, some (42, y8)), (2, some (42, y8))] 3 zo ?_
 refine AW.seq ?_
 refine vI ?_
 refine AW.seq ?_
 refine AW.block ?_
 obtain ⟨hx2, hx3, hx4, hx5, hx6⟩ := BsW.at (dL (qC : BsW bs)) (0)
 have hx7 : ((1 : Nat) ≤ (ka0 (kS (kK bs) 0))) := sN zo
 refine kH [.n 0, .ds [iD (kR (kK bs) 0), dl (k8 (kK bs) 0) (kU (kK bs) 0), D.sl (kI (kS (kK bs) 0)) (ka0 (kS (kK bs) 0)), dl (kZ (kK bs) 0) (kT (kK bs) 0)], .no, .no] ((kM 0) ∧ ((0 : Nat) < (ka0 (kK bs))) ∧ (List.take 4 (ka3 0 (kP (kK bs))) = [iD (kR (kK bs) 0), dl (k8 (kK bs) 0) (kU (kK bs) 0), D.sl (kI (kS (kK bs) 0)) (ka0 (kS (kK bs) 0)), dl (kZ (kK bs) 0) (kT (kK bs) 0)]) ∧ (([iD (kR (kK bs) 0), dl (k8 (kK bs) 0) (kU (kK bs) 0), D.sl (kI (kS (kK bs) 0)) (ka0 (kS (kK bs) 0)), dl (kZ (kK bs) 0) (kT (kK bs) 0)] : List D).length = 4)) [(3, rV 0 0), (4, rV 1 0), (6, rV 2 0), (7, bV false), (9, rV 3 0), (12, .e (yL (kK bs))), (13, uV (ka0 (kK bs))), (14, iV 0)] [(0, some (42, (aP wk wr w wn wz))), (1, some (42, y8)), (2, some (42, y8)), (3, some (63, .ds [iD (kR (kK bs) 0), dl (k8 (kK bs) 0) (kU (kK bs) 0), D.sl (kI (kS (kK bs) 0)) (ka0 (kS (kK bs) 0)), dl (kZ (kK bs) 0) (kT (kK bs) 0)]))] 4 ⟨rfl, zo, (vH (i := 0) zo), rfl⟩ ?_
 have hx8 : (((0 : Int) ≤ (bS (kR (kK bs) 0) wk 7)) ∧ ((bS (kR (kK bs) 0) wk 7) ≤ 7)) := sR (kR (kK bs) 0) wk 7
 have hx9 : (((0 : Int) ≤ (y7 wr (iU bs))) ∧ ((y7 wr (iU bs)) ≤ 2147483647)) := jB (zo)
 have hx10 : (((0 : Int) ≤ (y7 wz (iT bs))) ∧ ((y7 wz (iT bs)) ≤ 2147483647)) := jB (zo)
 have hx11 : ((ka0 (eN w bs)) ≤ 1000000) := k9d ((BsW.ms (dL (qC : BsW bs)) _)) (ka0 (kS (kK bs) 0))
 refine kH [.no, .no, .call [] (.e (.agg [iC (bS (kR (kK bs) 0) wk 7), iC (y7 wr (iU bs)), .d (dl (eN w bs) (ka0 (eN w bs))), iC (y7 wz (iT bs))])) [] 0 [] none, .no, .no] _ [(3, rV 0 0), (4, rV 1 0), (6, rV 2 0), (7, bV false), (10, rV 4 0), (12, .e (yL (kK bs))), (13, uV (ka0 (kK bs))), (14, iV 0)] [(0, some (42, (aP wk wr w wn wz))), (1, some (42, y8)), (2, some (42, y8)), (4, some (42, (k0x bs wk wr w wz)))] 5 (xS (kR (kK bs) 0) (k8 (kK bs) 0) (kU (kK bs) 0) (kS (kK bs) 0) (ka0 (kS (kK bs) 0)) (kZ (kK bs) 0) (kT (kK bs) 0) wk wr w wn wz zo zo rfl zo zo zo zo (BsW.ms (dL (qC : BsW bs)) _) zo zo zo zo) ?_
 refine kQ (qD 4 []) True [(3, rV 0 0), (4, rV 1 0), (6, rV 2 0), (7, bV false), (10, rV 4 0), (12, .e (yL (kK bs))), (13, uV (ka0 (kK bs))), (14, iV 0), (29, bV true)] trivial ?_
 refine zt ?_
 refine vY [.no, .no, .no] True [(3, rV 0 0), (4, rV 1 0), (6, rV 2 0), (7, bV true), (12, .e (yL (kK bs))), (13, uV (ka0 (kK bs))), (14, iV 0)] [(0, some (42, (aP wk wr w wn wz))), (1, some (42, y8)), (2, some (42, (k0x bs wk wr w wz)))] 5 trivial ?_
 refine u2 [.w, .no] (uZ (1 : Int)) [(3, rV 0 0), (4, rV 1 0), (6, rV 2 0), (7, bV true), (12, .e (yL (kK bs))), (13, uV (ka0 (kK bs))), (14, iV 1)] ⟨by omega, by omega⟩ ?_
 refine AWp.z ?_
 refine kX 0 hcx (fun (x : {x : Nat × Int × Int × List Int × Int // match x with | (j, yk, yr, u, yz) => (1 ≤ j ∧ j ≤ ka0 (kK bs)) ∧ (BE (kK bs) wk wr w wz j yk yr u yz) ∧ ((0 ≤ yk ∧ yk ≤ 7) ∧ (0 ≤ yr ∧ yr ≤ 2147483647) ∧ (0 ≤ yz ∧ yz ≤ 2147483647) ∧ ka0 u ≤ 1000000)}) => match x with | ⟨(j, yk, yr, u, yz), _⟩ => (⟨[(3, rV 0 0), (4, rV 1 0), (6, rV 2 0), (7, bV true), (12, .e (yL (kK bs))), (13, uV (ka0 (kK bs))), (14, uV j)], [(0, some (42, (aP wk wr w wn wz))), (1, some (42, y8)), (2, some (42, (eM yk yr u yz)))], 5⟩ : ES)) (fun x => match x with | ⟨(j, yk, yr, u, yz), _⟩ => ka0 (kK bs) - j) ⟨((1 : Nat), ((bS (kR (kK bs) 0) wk 7) : Int), ((y7 wr (iU bs)) : Int), ((eN w bs) : List Int), ((y7 wz (iT bs)) : Int)), ⟨zo, (BE.first rfl rfl rfl rfl), zo⟩⟩ [] (P := (kG 0) ∧ (kG 0) ∧ (kG 0) ∧ (true = true) ∧ (kJ (kP (kK bs))) ∧ (kG (ka0 (kK bs))) ∧ (kM (ka0 (kK bs) : Int)) ∧ (kM 1) ∧ (kJ [iD wk, iD wr, dl w wn, iD wz]) ∧ (kJ [iD 0, iD 0, qJ, iD 0]) ∧ (kJ [iD (bS (kR (kK bs) 0) wk 7), iD (y7 wr (iU bs)), dl (eN w bs) (ka0 (eN w bs)), iD (y7 wz (iT bs))])) zk ⟨rfl, rfl, rfl, (by rfl), rfl, rfl, rfl, rfl, rfl, rfl, rfl⟩ ?_
 rintro ⟨⟨j, yk, yr, u, yz⟩, hinv0⟩
 obtain ⟨hj, hE, hy⟩ : (1 ≤ j ∧ j ≤ ka0 (kK bs)) ∧ (BE (kK bs) wk wr w wz j yk yr u yz) ∧ ((0 ≤ yk ∧ yk ≤ 7) ∧ (0 ≤ yr ∧ yr ≤ 2147483647) ∧ (0 ≤ yz ∧ yz ≤ 2147483647) ∧ ka0 u ≤ 1000000) := hinv0
 refine qU (l := [(3, rV 0 0), (4, rV 1 0), (6, rV 2 0), (7, bV true), (12, .e (yL (kK bs))), (13, uV (ka0 (kK bs))), (14, uV j)]) (g := [(0, some (42, (aP wk wr w wn wz))), (1, some (42, y8)), (2, some (42, (eM yk yr u yz)))]) (nx := 5) rfl rfl rfl ?_
 by_cases hx12 : (((j : Nat) : Int) < (((ka0 (kK bs)) : Nat) : Int))
 ·refine kH [.b true] (((j : Int) < (ka0 (kK bs) : Int))) [(3, rV 0 0), (4, rV 1 0), (6, rV 2 0), (7, bV true), (12, .e (yL (kK bs))), (13, uV (ka0 (kK bs))), (14, uV j), (15, bV true)] [(0, some (42, (aP wk wr w wn wz))), (1, some (42, y8)), (2, some (42, (eM yk yr u yz)))] 5 zo ?_
  refine AW.seq ?_
  refine vI ?_
  refine AW.seq ?_
  refine AW.block ?_
  obtain ⟨hx13, hx14, hx15, hx16, hx17⟩ := BsW.at (dL (qC : BsW bs)) (j)
  have hx18 : ((1 : Nat) ≤ (ka0 (kS (kK bs) j))) := sN zo
  refine kH [.n j, .ds (yJ (kK bs) j), .no, .no] ((kM (j : Int)) ∧ (j < (ka0 (kK bs))) ∧ (List.take 4 (ka3 (j * 4) (kP (kK bs))) = (yJ (kK bs) j)) ∧ (((yJ (kK bs) j) : List D).length = 4)) [(3, rV 0 0), (4, rV 1 0), (6, rV 2 0), (7, bV true), (9, rV 5 0), (12, .e (yL (kK bs))), (13, uV (ka0 (kK bs))), (14, uV j)] [(0, some (42, (aP wk wr w wn wz))), (1, some (42, y8)), (2, some (42, (eM yk yr u yz))), (5, some (63, .ds (yJ (kK bs) j)))] 6 ⟨rfl, zo, (vH zo), rfl⟩ ?_
  have hx19 : (((0 : Int) ≤ (bS (kR (kK bs) j) wk 7)) ∧ ((bS (kR (kK bs) j) wk 7) ≤ 7)) := sR (kR (kK bs) j) wk 7
  have hx20 : (((0 : Int) ≤ (y7 wr (vK bs j))) ∧ ((y7 wr (vK bs j)) ≤ 2147483647)) := jB (zo)
  have hx21 : (((0 : Int) ≤ (y7 wz (vJ bs j))) ∧ ((y7 wz (vJ bs j)) ≤ 2147483647)) := jB (zo)
  have hx22 : ((ka0 (yP w bs j)) ≤ 1000000) := k9d ((BsW.ms (dL (qC : BsW bs)) _)) (ka0 (kS (kK bs) j))
  refine kH [.no, .no, .call [] (.e (.agg [iC (bS (kR (kK bs) j) wk 7), iC (y7 wr (vK bs j)), .d (dl (yP w bs j) (ka0 (yP w bs j))), iC (y7 wz (vJ bs j))])) [] 0 [] none, .no, .no] _ [(3, rV 0 0), (4, rV 1 0), (6, rV 2 0), (7, bV true), (10, rV 6 0), (12, .e (yL (kK bs))), (13, uV (ka0 (kK bs))), (14, uV j)] [(0, some (42, (aP wk wr w wn wz))), (1, some (42, y8)), (2, some (42, (eM yk yr u yz))), (6, some (42, (k4n bs j wk wr w wz)))] 7 (xS (kR (kK bs) j) (k8 (kK bs) j) (kU (kK bs) j) (kS (kK bs) j) (ka0 (kS (kK bs) j)) (kZ (kK bs) j) (kT (kK bs) j) wk wr w wn wz zo zo rfl zo zo zo zo (BsW.ms (dL (qC : BsW bs)) _) zo zo zo zo) ?_
  by_cases hx24 : ((o3 wk wr wz (bS (kR (kK bs) j) wk 7) (y7 wr (vK bs j)) (y7 wz (vJ bs j)) yk yr yz w (yP w bs j) u) < 0)
  ·have hx25 : ((((-1) : Int) ≤ (o3 wk wr wz (bS (kR (kK bs) j) wk 7) (y7 wr (vK bs j)) (y7 wz (vJ bs j)) yk yr yz w (yP w bs j) u)) ∧ ((o3 wk wr wz (bS (kR (kK bs) j) wk 7) (y7 wr (vK bs j)) (y7 wz (vJ bs j)) yk yr yz w (yP w bs j) u) ≤ 1)) := k26 ..
   refine kQ (qD 6 [.call [] (iV (o3 wk wr wz (bS (kR (kK bs) j) wk 7) (y7 wr (vK bs j)) (y7 wz (vJ bs j)) yk yr yz w (yP w bs j) u)) [] 0 [] none, .b true, .no]) ((_) ∧ (((o3 wk wr wz (bS (kR (kK bs) j) wk 7) (y7 wr (vK bs j)) (y7 wz (vJ bs j)) yk yr yz w (yP w bs j) u) < 0))) [(3, rV 0 0), (4, rV 1 0), (6, rV 2 0), (7, bV true), (10, rV 6 0), (12, .e (yL (kK bs))), (13, uV (ka0 (kK bs))), (14, uV j), (29, bV true)] ⟨(pA wk wr wz (bS (kR (kK bs) j) wk 7) (y7 wr (vK bs j)) (y7 wz (vJ bs j)) yk yr yz w (yP w bs j) u wn (ka0 (yP w bs j)) (ka0 u) zo rfl rfl zo zo zo zo zo zo zo zo zo), zo⟩ ?_
   refine zt ?_
   refine vY [.no, .no, .no] True [(3, rV 0 0), (4, rV 1 0), (6, rV 2 0), (7, bV true), (12, .e (yL (kK bs))), (13, uV (ka0 (kK bs))), (14, uV j)] [(0, some (42, (aP wk wr w wn wz))), (1, some (42, y8)), (2, some (42, (k4n bs j wk wr w wz)))] 7 trivial ?_
   refine u2 [.w, .no] (uZ ((j : Int) + 1)) [(3, rV 0 0), (4, rV 1 0), (6, rV 2 0), (7, bV true), (12, .e (yL (kK bs))), (13, uV (ka0 (kK bs))), (14, iV (↑j + 1))] ⟨by omega, by omega⟩ ?_
   exact kV ⟨(((j + 1) : Nat), ((bS (kR (kK bs) j) wk 7) : Int), ((y7 wr (vK bs j)) : Int), ((yP w bs j) : List Int), ((y7 wz (vJ bs j)) : Int)), ⟨zo, (by exact BE.y hE rfl rfl rfl rfl zo), zo⟩⟩ [] (P := (kG 0) ∧ (kG 0) ∧ (kG 0) ∧ (true = true) ∧ (kJ (kP (kK bs))) ∧ (kG (ka0 (kK bs))) ∧ (kM (ka0 (kK bs) : Int)) ∧ (bU j) ∧ (kJ [iD wk, iD wr, dl w wn, iD wz]) ∧ (kJ [iD 0, iD 0, qJ, iD 0]) ∧ (kJ [iD (bS (kR (kK bs) j) wk 7), iD (y7 wr (vK bs j)), dl (yP w bs j) (ka0 (yP w bs j)), iD (y7 wz (vJ bs j))])) zk ⟨rfl, rfl, rfl, (by rfl), rfl, rfl, rfl, (by rfl), rfl, rfl, rfl⟩ (show ka0 (kK bs) - (j + 1) < ka0 (kK bs) - j from zo)
  ·have hx26 : ((((-1) : Int) ≤ (o3 wk wr wz (bS (kR (kK bs) j) wk 7) (y7 wr (vK bs j)) (y7 wz (vJ bs j)) yk yr yz w (yP w bs j) u)) ∧ ((o3 wk wr wz (bS (kR (kK bs) j) wk 7) (y7 wr (vK bs j)) (y7 wz (vJ bs j)) yk yr yz w (yP w bs j) u) ≤ 1)) := k26 ..
   refine kQ (qD 6 [.call [] (iV (o3 wk wr wz (bS (kR (kK bs) j) wk 7) (y7 wr (vK bs j)) (y7 wz (vJ bs j)) yk yr yz w (yP w bs j) u)) [] 0 [] none, .b false, .no]) ((_) ∧ (¬ ((o3 wk wr wz (bS (kR (kK bs) j) wk 7) (y7 wr (vK bs j)) (y7 wz (vJ bs j)) yk yr yz w (yP w bs j) u) < 0))) [(3, rV 0 0), (4, rV 1 0), (6, rV 2 0), (7, bV true), (10, rV 6 0), (12, .e (yL (kK bs))), (13, uV (ka0 (kK bs))), (14, uV j), (29, bV false)] ⟨(pA wk wr wz (bS (kR (kK bs) j) wk 7) (y7 wr (vK bs j)) (y7 wz (vJ bs j)) yk yr yz w (yP w bs j) u wn (ka0 (yP w bs j)) (ka0 u) zo rfl rfl zo zo zo zo zo zo zo zo zo), zo⟩ ?_
   refine uP ?_
   refine vY [.w, .no] (uZ ((j : Int) + 1)) [(3, rV 0 0), (4, rV 1 0), (6, rV 2 0), (7, bV true), (12, .e (yL (kK bs))), (13, uV (ka0 (kK bs))), (14, iV (↑j + 1))] [(0, some (42, (aP wk wr w wn wz))), (1, some (42, y8)), (2, some (42, (eM yk yr u yz)))] 7 ⟨by omega, by omega⟩ ?_
   exact kV ⟨(((j + 1) : Nat), (yk : Int), (yr : Int), (u : List Int), (yz : Int)), ⟨zo, (by exact BE.n hE zo zo), zo⟩⟩ [] (P := (kG 0) ∧ (kG 0) ∧ (kG 0) ∧ (true = true) ∧ (kJ (kP (kK bs))) ∧ (kG (ka0 (kK bs))) ∧ (kM (ka0 (kK bs) : Int)) ∧ (bU j) ∧ (kJ [iD wk, iD wr, dl w wn, iD wz]) ∧ (kJ [iD 0, iD 0, qJ, iD 0]) ∧ (kJ [iD yk, iD yr, dl u (ka0 u), iD yz])) zk ⟨rfl, rfl, rfl, (by rfl), rfl, rfl, rfl, (by rfl), rfl, rfl, rfl⟩ (show ka0 (kK bs) - (j + 1) < ka0 (kK bs) - j from zo)
 ·refine kH [.b false] (¬ ((j : Int) < (ka0 (kK bs) : Int))) [(3, rV 0 0), (4, rV 1 0), (6, rV 2 0), (7, bV true), (12, .e (yL (kK bs))), (13, uV (ka0 (kK bs))), (14, uV j), (15, bV false)] [(0, some (42, (aP wk wr w wn wz))), (1, some (42, y8)), (2, some (42, (eM yk yr u yz)))] 5 zo ?_
  refine AW.seq ?_
  refine zf ?_
  refine AW.exit ?_
  refine kH [.no, .call [] (.e (.agg [iC yk, iC yr, .d (dl u (ka0 u)), iC yz])) [] 0 [] none, .no, .no, .no] _ [(4, rV 1 0), (5, bV true)] [(1, some (42, (eM yk yr u yz)))] 5 (xT yk yr u (ka0 u) yz rfl zo) ?_
  obtain ⟨hz1, hz2, hz3, hz4⟩ := hE.fin zo
  refine AW.ret ?_
  exact kA (.inr rfl) [] (P := (((nY bs wk wr w wz) : Int) = yk) ∧ (((nX bs wk wr w wz) : Int) = yr) ∧ (((dI .i64 (beM bs wk wr w wz)) : List D) = (dI .i64 u)) ∧ (((ka0 (beM bs wk wr w wz)) : Nat) = (ka0 u)) ∧ (((nW bs wk wr w wz) : Int) = yz) ∧ (true = true)) zk ⟨(by exact hz1), (by exact hz2), (by rw [hz3]), (by rw [hz3]), (by exact hz4), rfl⟩
end Go.Proofs.YtbicifcgghmhaaaGreat
