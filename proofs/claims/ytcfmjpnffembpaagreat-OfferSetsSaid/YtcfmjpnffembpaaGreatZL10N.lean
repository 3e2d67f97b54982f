/- The best choice, of the code. No statement is proved here. -/
import Derived.Test.YtcfmjpnffembpaaGreatZL10M
namespace Go.Proofs.YtcfmjpnffembpaaGreat
open Go.ChangeShapes Go.WideShapes Go.ChangeAt Go.RowKit
open List renaming drop → ka3, getD → ka1, length → ka0, length_append → ka9, length_cons → kb0, length_drop → kb5, length_map → kc0, length_nil → kb3, length_replicate → kb4, length_reverse → kb9, length_set → kc1, length_take → kb2
open Nat renaming le_of_ble_eq_true → ka4, mul_one → kc5
set_option linter.unusedVariables false
set_option linter.unusedSimpArgs false
set_option maxHeartbeats 4000000
set_option maxRecDepth 100000
theorem k7c (k r : Int) (m : List Int) (n : Nat) (hm : ka0 m = n) (h1 : n ≤ 1000000) : Fun 103 [.agg [iC k, iC r, .d (D.sl (dI .i64 m) n)]] (kE []) 0 (.e (.agg [iC k, iC r, .d (D.sl (dI .i64 m) n)])) (kE []) 0 := by
 refine Fun.mk (n := 8) Tryz.func103 rfl rfl (ka4 rfl) ?_
 intro cx hcx
 refine kI [.no, .no] True [(1, rV 0 0), (2, rV 1 0)] [(0, some (25, .ds [iD k, iD r, dl m n])), (1, some (25, .ds [iD 0, iD 0, qR]))] 2 trivial ?_
 refine kI [.no, .no, .call [] (oV 0 0 n 1) [(0, some (3, .ds (dI .i64 m)))] 1 [] none, .no, .no] _ [(1, rV 0 0), (2, rV 1 0)] [(0, some (25, .cs [iC k, iC r, .own 2 0 n 1 true])), (1, some (25, .ds [iD 0, iD 0, qR])), (2, some (3, .ds (dI .i64 m)))] 3 (cU m n zo zo) ?_
 refine kI [.no, .no] True [(2, rV 1 0)] [(1, some (25, .cs [iC k, iC r, .own 2 0 n 1 true])), (2, some (3, .ds (dI .i64 m)))] 3 trivial ?_
 refine AW.freeze 2 (l' := [(2, rV 1 0)]) (g' := [(1, some (25, .ds [iD k, iD r, dl m n]))]) rfl (FzS.cons rfl (.same _) FzS.nil) (FzG.to (bc := .cs [iC k, iC r, .own 2 0 n 1 true]) rfl (by rfl) (FzL.cons (.same _) (FzL.cons (.same _) (FzL.cons (@FzC.own 2 ((dI .i64 m) : List D) 0 n 1 true ((dI .i64 m) : List D) (by rw [List.drop_zero, kc5, List.take_of_length_le (by (simp only [qH, qE, uA, ka9, kb0, kb3, kb2, kb5, kb4, kc1, kc0, kb9, kc5] <;> omega))]) (by (simp only [qH, qE, uA, ka9, kb0, kb3, kb2, kb5, kb4, kc1, kc0, kb9, kc5] <;> omega))) FzL.nil))) FzG.nil) ?_
 refine AW.ret ?_
 exact kC (.inr rfl) [] (P := (kM k) ∧ (kM r) ∧ (kJ (dI .i64 m)) ∧ (kG n)) zk ⟨rfl, rfl, rfl, rfl⟩
theorem k7d (k r : Int) (m : List Int) (n : Nat) (z : Int) (hm : ka0 m = n) (h1 : n ≤ 1000000) : Fun 60 [.agg [iC k, iC r, .d (D.sl (dI .i64 m) n), iC z]] (kE []) 0 (.e (.agg [iC k, iC r, .d (D.sl (dI .i64 m) n), iC z])) (kE []) 0 := by
 refine Fun.mk (n := 8) Tryz.func60 rfl rfl (ka4 rfl) ?_
 intro cx hcx
 refine kI [.no, .no] True [(1, rV 0 0), (2, rV 1 0)] [(0, some (27, .ds [iD k, iD r, dl m n, iD z])), (1, some (27, .ds [iD 0, iD 0, qR, iD 0]))] 2 trivial ?_
 refine kN [.no, .no, .call [] (.e (.agg [iC k, iC r, .d (dl m n)])) [] 0 [] none, .no, .no] _ [(1, rV 0 0), (2, rV 1 0)] (k7c k r m n zo zo) ?_
 refine kI [.no, .no] True [(2, rV 1 0)] [(1, some (27, .ds [iD k, iD r, dl m n, iD z]))] 2 trivial ?_
 refine AW.ret ?_
 exact kC (.inr rfl) [] (P := (kM k) ∧ (kM r) ∧ (kJ (dI .i64 m)) ∧ (kG n) ∧ (kM z)) zk ⟨rfl, rfl, rfl, rfl, rfl⟩
theorem k1m (w a b : List Int) (o n m : Nat) (wk wr wz : Int) (ho : ka0 w = o) (hn : ka0 a = n) (hm : ka0 b = m) (h1 : o ≤ 1000000) (h2 : n ≤ 1000000) (h3 : m ≤ 1000000) : Fun 102 [.c (.d (D.sl (dI .i64 a) n)), .c (.d (D.sl (dI .i64 b) m)), .c (.ptr 0 0)] (kE [(0, some (27, .ds [iD wk, iD wr, D.sl (dI .i64 w) o, iD wz]))]) 1 (iV (yY w a b)) (kE [(0, some (27, .ds [iD wk, iD wr, D.sl (dI .i64 w) o, iD wz]))]) 1 := by
 refine Fun.mk (n := 12) Tryz.func102 rfl rfl (ka4 rfl) ?_
 intro cx hcx
 refine kI [.no] True [(0, sV .i64 a n), (1, sV .i64 b m), (2, rV 0 0)] [(0, some (27, .ds [iD wk, iD wr, dl w o, iD wz]))] 1 trivial ?_
 have hx1 : ((((-1) : Int) ≤ (yY w a b)) ∧ ((yY w a b) ≤ 1)) := b9 w a b
 refine kN (kT 5 [.call [] (iV (yY w a b)) [] 0 [] none, .no]) _ [(5, iV (yY w a b))] (k6y w a b o n m zo zo zo zo zo zo) ?_
 refine AW.ret ?_
 exact kC (.inr rfl) [] (P := (kM (yY w a b)) ∧ (kJ [iD wk, iD wr, dl w o, iD wz])) zk ⟨rfl, rfl⟩
abbrev eT (wk : Int) (wr : Int) (w : List Int) (wn : Nat) (wz : Int) : BC := .ds [iD wk, iD wr, D.sl (dI .i64 w) wn, iD wz]
theorem u6y (m : List (List Int)) (c : Nat) (wk wr : Int) (w : List Int) (wn : Nat) (wz : Int) (hc : ka0 m = c) (h3 : c ≤ 1000000) (h4 : 1 ≤ c) (hW : MsW m) (hw : ka0 w = wn) (h5 : wn ≤ 1000000) : Fun 101 [.c (.d (D.sl (kL m) c)), .c (.fn 102 [(0, 0)])] (kE [(0, some (27, .ds [iD wk, iD wr, D.sl (dI .i64 w) wn, iD wz]))]) 1 (sV .i64 (dC w m c) (ka0 (dC w m c))) (kE [(0, some (27, .ds [iD wk, iD wr, D.sl (dI .i64 w) wn, iD wz]))]) 1 := by
 refine Fun.mk (n := 33) Tryz.func101 rfl rfl (ka4 rfl) ?_
 intro cx hcx
 refine kI [.no] True [(0, qJ (kL m) c), (1, .e (.c (.fn 102 [(0, 0)])))] [(0, some (27, (eT wk wr w wn wz)))] 1 trivial ?_
 refine AW.seq ?_
 refine kN [.no, .no, .b false] (¬ ((c : Int) < 1)) [(0, qJ (kL m) c), (1, .e (.c (.fn 102 [(0, 0)]))), (9, bV false)] zo ?_
 refine q8 ?_
 have hx1 : ((ka0 (ka1 m 0 ([] : List Int))) ≤ 1000000) := MsW.at (kZ : MsW m) _
 refine kN [.no, .n 0, .d (dl (ka1 m 0 ([] : List Int)) (ka0 (ka1 m 0 ([] : List Int)))), .no] ((kM 0) ∧ ((0 : Nat) < c) ∧ ((ka3 0 (kL m))[0]? = some (dl (ka1 m 0 ([] : List Int)) (ka0 (ka1 m 0 ([] : List Int)))))) [(0, qJ (kL m) c), (1, .e (.c (.fn 102 [(0, 0)]))), (5, sV .i64 (ka1 m 0 ([] : List Int)) (ka0 (ka1 m 0 ([] : List Int))))] ⟨rfl, zo, (yE _ _ zo)⟩ ?_
 refine AW.seq ?_
 refine kN [.no] True [(0, qJ (kL m) c), (1, .e (.c (.fn 102 [(0, 0)]))), (5, sV .i64 (ka1 m 0 ([] : List Int)) (ka0 (ka1 m 0 ([] : List Int)))), (6, iV 1)] trivial ?_
 refine AW.block ?_
 refine kU 1 hcx (fun (x : {x : Nat × List Int // match x with | (j, u) => (1 ≤ j ∧ j ≤ c) ∧ (dC w m j = u) ∧ (ka0 u ≤ 1000000)}) => match x with | ⟨(j, u), _⟩ => (⟨[(0, qJ (kL m) c), (1, .e (.c (.fn 102 [(0, 0)]))), (5, sV .i64 u (ka0 u)), (6, uV j)], [(0, some (27, (eT wk wr w wn wz)))], 1⟩ : ES)) (fun x => match x with | ⟨(j, u), _⟩ => c - j) ⟨((1 : Nat), ((ka1 m 0 ([] : List Int)) : List Int)), ⟨zo, (u6e rfl), zo⟩⟩ [] (P := (kJ (kL m)) ∧ (kG c) ∧ (kJ (dI .i64 (ka1 m 0 ([] : List Int)))) ∧ (kG (ka0 (ka1 m 0 ([] : List Int)))) ∧ (kM 1) ∧ (kJ [iD wk, iD wr, dl w wn, iD wz])) zk ⟨rfl, rfl, rfl, rfl, rfl, rfl⟩ ?_
 rintro ⟨⟨j, u⟩, hinv0⟩
 obtain ⟨hj, hu, hul⟩ : (1 ≤ j ∧ j ≤ c) ∧ (dC w m j = u) ∧ (ka0 u ≤ 1000000) := hinv0
 refine qN (l := [(0, qJ (kL m) c), (1, .e (.c (.fn 102 [(0, 0)]))), (5, sV .i64 u (ka0 u)), (6, uV j)]) (g := [(0, some (27, (eT wk wr w wn wz)))]) (nx := 1) rfl rfl rfl ?_
 refine AW.seq ?_
 by_cases hx2 : (((j : Nat) : Int) < ((c : Nat) : Int))
 ·refine kI [.no, .no, .no, .b true] (((j : Int) < (c : Int))) [(0, qJ (kL m) c), (1, .e (.c (.fn 102 [(0, 0)]))), (5, sV .i64 u (ka0 u)), (6, uV j), (17, bV true)] [(0, some (27, (eT wk wr w wn wz)))] 1 zo ?_
  refine yW ?_
  refine AW.seq ?_
  refine AW.block ?_
  by_cases hx5 : ((yY w (ka1 m j ([] : List Int)) u) < 0)
  ·have hx6 : ((ka0 (ka1 m j ([] : List Int))) ≤ 1000000) := MsW.at (kZ : MsW m) _
   have hx7 : ((((-1) : Int) ≤ (yY w (ka1 m j ([] : List Int)) u)) ∧ ((yY w (ka1 m j ([] : List Int)) u) ≤ 1)) := b9 w (ka1 m j ([] : List Int)) u
   refine kN [.no, .no, .no, .n j, .d (dl (ka1 m j ([] : List Int)) (ka0 (ka1 m j ([] : List Int)))), .no, .call [0] (iV (yY w (ka1 m j ([] : List Int)) u)) [(0, some (27, (eT wk wr w wn wz)))] 1 [] none, .b true] ((kM (j : Int)) ∧ (j < c) ∧ ((ka3 j (kL m))[0]? = some (dl (ka1 m j ([] : List Int)) (ka0 (ka1 m j ([] : List Int))))) ∧ (_) ∧ (((yY w (ka1 m j ([] : List Int)) u) < 0))) [(0, qJ (kL m) c), (1, .e (.c (.fn 102 [(0, 0)]))), (5, sV .i64 u (ka0 u)), (6, uV j), (27, bV true)] ⟨rfl, zo, (yE _ _ zo), (k1m w (ka1 m j ([] : List Int)) u wn (ka0 (ka1 m j ([] : List Int))) (ka0 u) wk wr wz zo rfl rfl zo zo zo), zo⟩ ?_
   refine zt ?_
   refine uJ [.no, .no, .n j, .d (dl (ka1 m j ([] : List Int)) (ka0 (ka1 m j ([] : List Int)))), .no] ((kM (j : Int)) ∧ (j < c) ∧ ((ka3 j (kL m))[0]? = some (dl (ka1 m j ([] : List Int)) (ka0 (ka1 m j ([] : List Int)))))) [(0, qJ (kL m) c), (1, .e (.c (.fn 102 [(0, 0)]))), (5, sV .i64 (ka1 m j ([] : List Int)) (ka0 (ka1 m j ([] : List Int)))), (6, uV j)] ⟨rfl, zo, (yE _ _ zo)⟩ ?_
   refine uJ [.no, .w, .no] (uZ ((j : Int) + 1)) [(0, qJ (kL m) c), (1, .e (.c (.fn 102 [(0, 0)]))), (5, sV .i64 (ka1 m j ([] : List Int)) (ka0 (ka1 m j ([] : List Int)))), (6, iV (↑j + 1))] ⟨by omega, by omega⟩ ?_
   exact kX ⟨(((j + 1) : Nat), ((ka1 m j ([] : List Int)) : List Int)), ⟨zo, (by exact u6c hu zo rfl), zo⟩⟩ [] (P := (kJ (kL m)) ∧ (kG c) ∧ (kJ (dI .i64 (ka1 m j ([] : List Int)))) ∧ (kG (ka0 (ka1 m j ([] : List Int)))) ∧ (vX j) ∧ (kJ [iD wk, iD wr, dl w wn, iD wz])) zk ⟨rfl, rfl, rfl, rfl, (by rfl), rfl⟩ (show c - (j + 1) < c - j from zo)
  ·have hx8 : ((ka0 (ka1 m j ([] : List Int))) ≤ 1000000) := MsW.at (kZ : MsW m) _
   have hx9 : ((((-1) : Int) ≤ (yY w (ka1 m j ([] : List Int)) u)) ∧ ((yY w (ka1 m j ([] : List Int)) u) ≤ 1)) := b9 w (ka1 m j ([] : List Int)) u
   refine kN [.no, .no, .no, .n j, .d (dl (ka1 m j ([] : List Int)) (ka0 (ka1 m j ([] : List Int)))), .no, .call [0] (iV (yY w (ka1 m j ([] : List Int)) u)) [(0, some (27, (eT wk wr w wn wz)))] 1 [] none, .b false] ((kM (j : Int)) ∧ (j < c) ∧ ((ka3 j (kL m))[0]? = some (dl (ka1 m j ([] : List Int)) (ka0 (ka1 m j ([] : List Int))))) ∧ (_) ∧ (¬ ((yY w (ka1 m j ([] : List Int)) u) < 0))) [(0, qJ (kL m) c), (1, .e (.c (.fn 102 [(0, 0)]))), (5, sV .i64 u (ka0 u)), (6, uV j), (27, bV false)] ⟨rfl, zo, (yE _ _ zo), (k1m w (ka1 m j ([] : List Int)) u wn (ka0 (ka1 m j ([] : List Int))) (ka0 u) wk wr wz zo rfl rfl zo zo zo), zo⟩ ?_
   refine q8 ?_
   refine uJ [.no, .w, .no] (uZ ((j : Int) + 1)) [(0, qJ (kL m) c), (1, .e (.c (.fn 102 [(0, 0)]))), (5, sV .i64 u (ka0 u)), (6, iV (↑j + 1))] ⟨by omega, by omega⟩ ?_
   exact kX ⟨(((j + 1) : Nat), (u : List Int)), ⟨zo, (by exact u6d hu zo zo), zo⟩⟩ [] (P := (kJ (kL m)) ∧ (kG c) ∧ (kJ (dI .i64 u)) ∧ (kG (ka0 u)) ∧ (vX j) ∧ (kJ [iD wk, iD wr, dl w wn, iD wz])) zk ⟨rfl, rfl, rfl, rfl, (by rfl), rfl⟩ (show c - (j + 1) < c - j from zo)
 ·refine kI [.no, .no, .no, .b false] (¬ ((j : Int) < (c : Int))) [(0, qJ (kL m) c), (1, .e (.c (.fn 102 [(0, 0)]))), (5, sV .i64 u (ka0 u)), (6, uV j), (17, bV false)] [(0, some (27, (eT wk wr w wn wz)))] 1 zo ?_
  refine zf ?_
  refine AW.exit ?_
  refine kI [.no, .no] True [(4, sV .i64 u (ka0 u))] [(0, some (27, (eT wk wr w wn wz)))] 1 trivial ?_
  have hz2 : dC w m c = u := by have h9 := hu; rw [show j = c by omega] at h9; exact h9
  refine AW.ret ?_
  exact kC (.inr rfl) [] (P := (((dI .i64 (dC w m c)) : List D) = (dI .i64 u)) ∧ (((ka0 (dC w m c)) : Nat) = (ka0 u)) ∧ (kJ [iD wk, iD wr, dl w wn, iD wz])) zk ⟨(by rw [hz2]), (by rw [hz2]), rfl⟩
abbrev gQ : BC := .ds [iD 0, iD 0, D.lit (.slice none 0 0), iD 0]
abbrev jF (k : Int) (r : List Int) (rn : Nat) (m : List (List Int)) (c : Nat) (s : List Int) (sn : Nat) : BC := .ds [iD k, D.sl (dI .i64 r) rn, D.sl (kL m) c, D.sl (dI .i64 s) sn]
abbrev gP (wk : Int) (wr : Int) (w : List Int) (wn : Nat) (wz : Int) : BC := .ds [iD wk, iD wr, D.sl (dI .i64 w) wn, iD wz]
theorem w5 (k : Int) (r : List Int) (rn : Nat) (m : List (List Int)) (c : Nat) (s : List Int) (sn : Nat) (wk wr : Int) (w : List Int) (wn : Nat) (wz : Int) (hr : ka0 r = rn * 2) (hs : ka0 s = sn * 2) (hc : ka0 m = c) (h1 : rn ≤ 1000000) (h2 : sn ≤ 1000000) (h3 : c ≤ 1000000) (h4 : 1 ≤ c) (hW : MsW m) (hw : ka0 w = wn) (h5 : wn ≤ 1000000) (hwr : -9223372036854775808 ≤ wr ∧ wr ≤ 9223372036854775807) (hwz : -9223372036854775808 ≤ wz ∧ wz ≤ 9223372036854775807) : Fun 59 [.agg [iC k, .d (D.sl (dI .i64 r) rn), .d (D.sl (kL m) c), .d (D.sl (dI .i64 s) sn)], .agg [iC wk, iC wr, .d (D.sl (dI .i64 w) wn), iC wz]] (kE []) 0 (.e (.agg [iC (vR k wk 7), iC (uF wr (kB r rn)), .d (D.sl (dI .i64 (dC w m c)) (ka0 (dC w m c))), iC (uF wz (kB s sn))])) (kE []) 0 := by
 refine Fun.mk (n := 63) Tryz.func59 rfl rfl (ka4 rfl) ?_
 intro cx hcx
 refine kI [.no, .no, .no] True [(2, rV 0 0), (3, rV 1 0), (4, rV 2 0)] [(0, some (59, (jF k r rn m c s sn))), (1, some (27, (gP wk wr w wn wz))), (2, some (27, gQ))] 3 trivial ?_
 refine kN [.no] True [(2, rV 0 0), (3, rV 1 0), (4, rV 2 0), (5, iV 0)] trivial ?_
 refine AW.seq ?_
 refine kN [.no] True [(2, rV 0 0), (3, rV 1 0), (4, rV 2 0), (5, iV 0), (6, iV 1)] trivial ?_
 refine AW.block ?_
 refine kU 0 hcx (fun (x : {x : Nat × Int // match x with | (i, y) => (i ≤ 7 ∧ 0 ≤ y ∧ y ≤ 7) ∧ (vR k wk i = y)}) => match x with | ⟨(i, y), _⟩ => (⟨[(2, rV 0 0), (3, rV 1 0), (4, rV 2 0), (5, iV y), (6, iV ((i : Int) + 1))], [(0, some (59, (jF k r rn m c s sn))), (1, some (27, (gP wk wr w wn wz))), (2, some (27, gQ))], 3⟩ : ES)) (fun x => match x with | ⟨(i, y), _⟩ => 7 - i) ⟨((0 : Nat), (0 : Int)), ⟨zo, rfl⟩⟩ [] (P := (kG 0) ∧ (kG 0) ∧ (kG 0) ∧ (kM 0) ∧ (kM 1) ∧ (kJ [iD k, dl r rn, D.sl (kL m) c, dl s sn]) ∧ (kJ [iD wk, iD wr, dl w wn, iD wz]) ∧ (kJ [iD 0, iD 0, qR, iD 0])) zk ⟨rfl, rfl, rfl, rfl, rfl, rfl, rfl, rfl⟩ ?_
 rintro ⟨⟨i, y⟩, hinv0⟩
 obtain ⟨hi, hy⟩ : (i ≤ 7 ∧ 0 ≤ y ∧ y ≤ 7) ∧ (vR k wk i = y) := hinv0
 refine qN (l := [(2, rV 0 0), (3, rV 1 0), (4, rV 2 0), (5, iV y), (6, iV ((i : Int) + 1))]) (g := [(0, some (59, (jF k r rn m c s sn))), (1, some (27, (gP wk wr w wn wz))), (2, some (27, gQ))]) (nx := 3) rfl rfl rfl ?_
 refine AW.seq ?_
 by_cases hx1 : ((((i : Nat) : Int) + 1) ≤ 7)
 ·refine kI [.no, .b true] ((((i : Int) + 1) ≤ 7)) [(2, rV 0 0), (3, rV 1 0), (4, rV 2 0), (5, iV y), (6, iV (↑i + 1)), (13, bV true)] [(0, some (59, (jF k r rn m c s sn))), (1, some (27, (gP wk wr w wn wz))), (2, some (27, gQ))] 3 zo ?_
  refine yW ?_
  refine AW.seq ?_
  refine AW.block ?_
  by_cases hx2 : ((cG (k / (((2 ^ (i + 1)) : Nat) : Int))) = 1)
  ·by_cases hx3 : (y = 0)
   ·refine kN [.no, .no, .no, .n (i + 1), .i (cG (k / (((2 ^ (i + 1)) : Nat) : Int))), .b true, .no, .no, .b true, .no, .no, .no] (((((i : Int) + 1) : Int) = (((i + 1) : Nat) : Int)) ∧ ((i + 1) ≤ 64) ∧ (qI .and .i64 (k / (((2 ^ (i + 1)) : Nat) : Int)) 1 = (cG (k / (((2 ^ (i + 1)) : Nat) : Int)))) ∧ (((cG (k / (((2 ^ (i + 1)) : Nat) : Int))) = 1)) ∧ ((y = 0))) [(2, rV 0 0), (3, rV 1 0), (4, rV 2 0), (5, iV y), (6, iV (↑i + 1)), (34, bV true)] ⟨(by rfl), zo, rfl, zo, zo⟩ ?_
    refine zt ?_
    refine uJ [.no, .no] True [(2, rV 0 0), (3, rV 1 0), (4, rV 2 0), (5, iV (↑i + 1)), (6, iV (↑i + 1))] trivial ?_
    refine uJ [.no, .w, .no] (uZ (((i : Int) + 1) + 1)) [(2, rV 0 0), (3, rV 1 0), (4, rV 2 0), (5, iV (↑i + 1)), (6, iV ((↑i + 1) + 1))] ⟨by omega, by omega⟩ ?_
    exact kX ⟨(((i + 1) : Nat), (((i : Int) + 1) : Int)), ⟨zo, (by exact k9b hy (decide_eq_true ⟨by omega, by omega, by omega⟩) zo rfl)⟩⟩ [] (P := (kG 0) ∧ (kG 0) ∧ (kG 0) ∧ (kM ((i : Int) + 1)) ∧ ((((((i + 1) : Nat) : Int) + 1) : Int) = (((i : Int) + 1) + 1)) ∧ (kJ [iD k, dl r rn, D.sl (kL m) c, dl s sn]) ∧ (kJ [iD wk, iD wr, dl w wn, iD wz]) ∧ (kJ [iD 0, iD 0, qR, iD 0])) zk ⟨rfl, rfl, rfl, rfl, (by rfl), rfl, rfl, rfl⟩ (show 7 - (i + 1) < 7 - i from zo)
   ·by_cases hx5 : ((vQ wk (((i : Nat) : Int) + 1) y) < 0)
    ·have hx6 : ((((-1) : Int) ≤ (vQ wk (((i : Nat) : Int) + 1) y)) ∧ ((vQ wk (((i : Nat) : Int) + 1) y) ≤ 1)) := cT wk (((i : Nat) : Int) + 1) y
     refine kN (.no :: .no :: .no :: .n (i + 1) :: .i (cG (k / (((2 ^ (i + 1)) : Nat) : Int))) :: .b true :: .no :: .no :: .b false :: kT 6 [.call [] (iV (vQ wk ((i : Int) + 1) y)) [] 0 [] none, .b true, .no, .no]) (((((i : Int) + 1) : Int) = (((i + 1) : Nat) : Int)) ∧ ((i + 1) ≤ 64) ∧ (qI .and .i64 (k / (((2 ^ (i + 1)) : Nat) : Int)) 1 = (cG (k / (((2 ^ (i + 1)) : Nat) : Int)))) ∧ (((cG (k / (((2 ^ (i + 1)) : Nat) : Int))) = 1)) ∧ (¬ (y = 0)) ∧ (_) ∧ (((vQ wk ((i : Int) + 1) y) < 0))) [(2, rV 0 0), (3, rV 1 0), (4, rV 2 0), (5, iV y), (6, iV (↑i + 1)), (34, bV true)] ⟨(by rfl), zo, rfl, zo, zo, (sM wk ((i : Int) + 1) y), zo⟩ ?_
     refine zt ?_
     refine uJ [.no, .no] True [(2, rV 0 0), (3, rV 1 0), (4, rV 2 0), (5, iV (↑i + 1)), (6, iV (↑i + 1))] trivial ?_
     refine uJ [.no, .w, .no] (uZ (((i : Int) + 1) + 1)) [(2, rV 0 0), (3, rV 1 0), (4, rV 2 0), (5, iV (↑i + 1)), (6, iV ((↑i + 1) + 1))] ⟨by omega, by omega⟩ ?_
     exact kX ⟨(((i + 1) : Nat), (((i : Int) + 1) : Int)), ⟨zo, (by exact k9b hy (decide_eq_true ⟨by omega, by omega, by omega⟩) zo rfl)⟩⟩ [] (P := (kG 0) ∧ (kG 0) ∧ (kG 0) ∧ (kM ((i : Int) + 1)) ∧ ((((((i + 1) : Nat) : Int) + 1) : Int) = (((i : Int) + 1) + 1)) ∧ (kJ [iD k, dl r rn, D.sl (kL m) c, dl s sn]) ∧ (kJ [iD wk, iD wr, dl w wn, iD wz]) ∧ (kJ [iD 0, iD 0, qR, iD 0])) zk ⟨rfl, rfl, rfl, rfl, (by rfl), rfl, rfl, rfl⟩ (show 7 - (i + 1) < 7 - i from zo)
    ·have hx7 : ((((-1) : Int) ≤ (vQ wk (((i : Nat) : Int) + 1) y)) ∧ ((vQ wk (((i : Nat) : Int) + 1) y) ≤ 1)) := cT wk (((i : Nat) : Int) + 1) y
     refine kN (.no :: .no :: .no :: .n (i + 1) :: .i (cG (k / (((2 ^ (i + 1)) : Nat) : Int))) :: .b true :: .no :: .no :: .b false :: kT 6 [.call [] (iV (vQ wk ((i : Int) + 1) y)) [] 0 [] none, .b false, .no, .no]) (((((i : Int) + 1) : Int) = (((i + 1) : Nat) : Int)) ∧ ((i + 1) ≤ 64) ∧ (qI .and .i64 (k / (((2 ^ (i + 1)) : Nat) : Int)) 1 = (cG (k / (((2 ^ (i + 1)) : Nat) : Int)))) ∧ (((cG (k / (((2 ^ (i + 1)) : Nat) : Int))) = 1)) ∧ (¬ (y = 0)) ∧ (_) ∧ (¬ ((vQ wk ((i : Int) + 1) y) < 0))) [(2, rV 0 0), (3, rV 1 0), (4, rV 2 0), (5, iV y), (6, iV (↑i + 1)), (34, bV false)] ⟨(by rfl), zo, rfl, zo, zo, (sM wk ((i : Int) + 1) y), zo⟩ ?_
     refine q8 ?_
     refine uJ [.no, .w, .no] (uZ (((i : Int) + 1) + 1)) [(2, rV 0 0), (3, rV 1 0), (4, rV 2 0), (5, iV y), (6, iV ((↑i + 1) + 1))] ⟨by omega, by omega⟩ ?_
     exact kX ⟨(((i + 1) : Nat), (y : Int)), ⟨zo, (by exact u6f hy zo zo)⟩⟩ [] (P := (kG 0) ∧ (kG 0) ∧ (kG 0) ∧ (kM y) ∧ ((((((i + 1) : Nat) : Int) + 1) : Int) = (((i : Int) + 1) + 1)) ∧ (kJ [iD k, dl r rn, D.sl (kL m) c, dl s sn]) ∧ (kJ [iD wk, iD wr, dl w wn, iD wz]) ∧ (kJ [iD 0, iD 0, qR, iD 0])) zk ⟨rfl, rfl, rfl, rfl, (by rfl), rfl, rfl, rfl⟩ (show 7 - (i + 1) < 7 - i from zo)
  ·refine kN [.no, .no, .no, .n (i + 1), .i (cG (k / (((2 ^ (i + 1)) : Nat) : Int))), .b false, .no, .no] (((((i : Int) + 1) : Int) = (((i + 1) : Nat) : Int)) ∧ ((i + 1) ≤ 64) ∧ (qI .and .i64 (k / (((2 ^ (i + 1)) : Nat) : Int)) 1 = (cG (k / (((2 ^ (i + 1)) : Nat) : Int)))) ∧ (¬ ((cG (k / (((2 ^ (i + 1)) : Nat) : Int))) = 1))) [(2, rV 0 0), (3, rV 1 0), (4, rV 2 0), (5, iV y), (6, iV (↑i + 1)), (34, bV false)] ⟨(by rfl), zo, rfl, zo⟩ ?_
   refine q8 ?_
   refine uJ [.no, .w, .no] (uZ (((i : Int) + 1) + 1)) [(2, rV 0 0), (3, rV 1 0), (4, rV 2 0), (5, iV y), (6, iV ((↑i + 1) + 1))] ⟨by omega, by omega⟩ ?_
   exact kX ⟨(((i + 1) : Nat), (y : Int)), ⟨zo, (by exact u6g hy (decide_eq_false (fun e9 => by omega)))⟩⟩ [] (P := (kG 0) ∧ (kG 0) ∧ (kG 0) ∧ (kM y) ∧ ((((((i + 1) : Nat) : Int) + 1) : Int) = (((i : Int) + 1) + 1)) ∧ (kJ [iD k, dl r rn, D.sl (kL m) c, dl s sn]) ∧ (kJ [iD wk, iD wr, dl w wn, iD wz]) ∧ (kJ [iD 0, iD 0, qR, iD 0])) zk ⟨rfl, rfl, rfl, rfl, (by rfl), rfl, rfl, rfl⟩ (show 7 - (i + 1) < 7 - i from zo)
 ·refine kI [.no, .b false] (¬ (((i : Int) + 1) ≤ 7)) [(2, rV 0 0), (3, rV 1 0), (4, rV 2 0), (5, iV y), (6, iV (↑i + 1)), (13, bV false)] [(0, some (59, (jF k r rn m c s sn))), (1, some (27, (gP wk wr w wn wz))), (2, some (27, gQ))] 3 zo ?_
  refine zf ?_
  refine AW.exit ?_
  refine kI (kT 5 (.call [] (.tup [iE (uF wr (kB r rn)), .c (.d (D.lit (.bool (nrF wr (kB r rn)))))]) [] 0 [] none :: kT 5 [])) _ [(2, rV 0 0), (3, rV 1 0), (4, rV 2 0), (5, iV y), (7, iV (uF wr (kB r rn)))] [(0, some (59, (jF k r rn m c s sn))), (1, some (27, (gP wk wr w wn wz))), (2, some (27, gQ))] 3 (k75 r rn wr zo zo zo) ?_
  refine kN (kT 4 (.call [] (.tup [iE (uF wz (kB s sn)), .c (.d (D.lit (.bool (nrF wz (kB s sn)))))]) [] 0 [] none :: kT 5 [])) _ [(2, rV 0 0), (3, rV 1 0), (4, rV 2 0), (5, iV y), (7, iV (uF wr (kB r rn))), (9, iV (uF wz (kB s sn)))] (k75 s sn wz zo zo zo) ?_
  have hx8 : ((ka0 (dC w m c)) ≤ 1000000) := z4 (kZ : MsW m) c
  refine kI [.no, .no, .no, .call [1] (sV .i64 (dC w m c) (ka0 (dC w m c))) [(0, some (27, (gP wk wr w wn wz)))] 1 [] none, .no] _ [(4, rV 2 0), (5, iV y), (7, iV (uF wr (kB r rn))), (9, iV (uF wz (kB s sn))), (11, sV .i64 (dC w m c) (ka0 (dC w m c)))] [(2, some (27, gQ))] 3 (u6y m c wk wr w wn wz zo zo zo (kZ : MsW m) zo zo) ?_
  refine kI (kT 7 []) True [(4, rV 2 0)] [(2, some (27, .ds [iD y, iD (uF wr (kB r rn)), dl (dC w m c) (ka0 (dC w m c)), iD (uF wz (kB s sn))]))] 3 trivial ?_
  have hz1 : vR k wk 7 = y := by have h9 := hy; rw [show i = 7 by omega] at h9; exact h9
  refine AW.ret ?_
  exact kC (.inr rfl) [] (P := (((vR k wk 7) : Int) = y) ∧ (kM (uF wr (kB r rn))) ∧ (kJ (dI .i64 (dC w m c))) ∧ (kG (ka0 (dC w m c))) ∧ (kM (uF wz (kB s sn)))) zk ⟨(by exact hz1), rfl, rfl, rfl, rfl⟩
abbrev yR (w : List Int) (bs : List Bx) (j : Nat) := dC w (kY (kH bs) j) (ka0 (kY (kH bs) j))
abbrev eS (w : List Int) (bs : List Bx) := dC w (kY (kH bs) 0) (ka0 (kY (kH bs) 0))
abbrev vT (bs : List Bx) (j : Nat) := kB (qF (kH bs) j) (qB (kH bs) j)
abbrev vS (bs : List Bx) (j : Nat) := kB (qG (kH bs) j) (qC (kH bs) j)
abbrev jE (bs : List Bx) := kB (qF (kH bs) 0) (qB (kH bs) 0)
abbrev jD (bs : List Bx) := kB (qG (kH bs) 0) (qC (kH bs) 0)
abbrev vK : BC := .ds [iD 0, iD 0, D.lit (.slice none 0 0), iD 0]
abbrev k37 (bs : List Bx) (j : Nat) (wk : Int) (wr : Int) (w : List Int) (wz : Int) : BC := .ds [iD (vR (k9 (kH bs) j) wk 7), iD (uF wr (vT bs j)), D.sl (dI .i64 (yR w bs j)) (ka0 (yR w bs j)), iD (uF wz (vS bs j))]
abbrev aV (wk : Int) (wr : Int) (w : List Int) (wn : Nat) (wz : Int) : BC := .ds [iD wk, iD wr, D.sl (dI .i64 w) wn, iD wz]
abbrev eR (yk : Int) (yr : Int) (u : List Int) (yz : Int) : BC := .ds [iD yk, iD yr, D.sl (dI .i64 u) (ka0 u), iD yz]
abbrev k04 (bs : List Bx) (wk : Int) (wr : Int) (w : List Int) (wz : Int) : BC := .ds [iD (vR (k9 (kH bs) 0) wk 7), iD (uF wr (jE bs)), D.sl (dI .i64 (eS w bs)) (ka0 (eS w bs)), iD (uF wz (jD bs))]
theorem k9m (bs : List Bx) (n : Nat) (wk wr : Int) (w : List Int) (wn : Nat) (wz : Int) (hn : ka0 bs = n) (h1 : n ≤ 1000000) (hW : BsW bs) (hw : ka0 w = wn) (h5 : wn ≤ 1000000) (hwr : -9223372036854775808 ≤ wr ∧ wr ≤ 9223372036854775807) (hwz : -9223372036854775808 ≤ wz ∧ wz ≤ 9223372036854775807) (h9 : 1 ≤ ka0 (kH bs)) : Fun 26 [.c (.d (D.sl (kP bs) n)), .agg [iC wk, iC wr, .d (D.sl (dI .i64 w) wn), iC wz]] (kE []) 0 (.tup [.agg [iC (xI bs wk wr w wz), iC (tC bs wk wr w wz), .d (D.sl (dI .i64 (nO bs wk wr w wz)) (ka0 (nO bs wk wr w wz))), iC (xH bs wk wr w wz)], .c (.d (D.lit (.bool true)))]) (kE []) 0 := by
 refine Fun.mk (n := 35) Tryz.func26 rfl rfl (ka4 rfl) ?_
 intro cx hcx
 refine kI [.no, .no, .no] True [(0, .e (kQ bs n)), (3, rV 0 0), (4, rV 1 0)] [(0, some (27, (aV wk wr w wn wz))), (1, some (27, vK))] 2 trivial ?_
 refine kI [.no] True [(0, .e (kQ bs n)), (3, rV 0 0), (4, rV 1 0), (6, rV 2 0)] [(0, some (27, (aV wk wr w wn wz))), (1, some (27, vK)), (2, some (27, vK))] 3 trivial ?_
 refine kN [.no] True [(0, .e (kQ bs n)), (3, rV 0 0), (4, rV 1 0), (6, rV 2 0), (7, bV false)] trivial ?_
 refine AW.seq ?_
 have hx1 : ((ka0 (kH bs)) ≤ n) := (by have h9 := c9 bs; omega)
 refine kN [.no, .call [] (.e (qW (kH bs))) [] 0 [] none, .no, .no] _ [(3, rV 0 0), (4, rV 1 0), (6, rV 2 0), (7, bV false), (12, .e (qW (kH bs))), (13, uV (ka0 (kH bs))), (14, iV 0)] (i9 bs n zo zo (kZ : BsW bs)) ?_
 refine AW.block ?_
 refine sZ 1 ?_
 refine AWp.s ?_
 refine kI [.b true] (((0 : Int) < (ka0 (kH bs) : Int))) [(3, rV 0 0), (4, rV 1 0), (6, rV 2 0), (7, bV false), (12, .e (qW (kH bs))), (13, uV (ka0 (kH bs))), (14, iV 0), (15, bV true)] [(0, some (27, (aV wk wr w wn wz))), (1, some (27, vK)), (2, some (27, vK))] 3 zo ?_
 refine AW.seq ?_
 refine yW ?_
 refine AW.seq ?_
 refine AW.block ?_
 obtain ⟨hx2, hx3, hx4, hx5, hx6⟩ := BsW.at (aB (kZ : BsW bs)) (0)
 have hx7 : ((1 : Nat) ≤ (ka0 (kY (kH bs) 0))) := g6 zo
 refine kI [.n 0, .ds [iD (k9 (kH bs) 0), dl (qF (kH bs) 0) (qB (kH bs) 0), D.sl (kL (kY (kH bs) 0)) (ka0 (kY (kH bs) 0)), dl (qG (kH bs) 0) (qC (kH bs) 0)], .no, .no] ((kM 0) ∧ ((0 : Nat) < (ka0 (kH bs))) ∧ (List.take 4 (ka3 0 (kP (kH bs))) = [iD (k9 (kH bs) 0), dl (qF (kH bs) 0) (qB (kH bs) 0), D.sl (kL (kY (kH bs) 0)) (ka0 (kY (kH bs) 0)), dl (qG (kH bs) 0) (qC (kH bs) 0)]) ∧ (([iD (k9 (kH bs) 0), dl (qF (kH bs) 0) (qB (kH bs) 0), D.sl (kL (kY (kH bs) 0)) (ka0 (kY (kH bs) 0)), dl (qG (kH bs) 0) (qC (kH bs) 0)] : List D).length = 4)) [(3, rV 0 0), (4, rV 1 0), (6, rV 2 0), (7, bV false), (9, rV 3 0), (12, .e (qW (kH bs))), (13, uV (ka0 (kH bs))), (14, iV 0)] [(0, some (27, (aV wk wr w wn wz))), (1, some (27, vK)), (2, some (27, vK)), (3, some (59, .ds [iD (k9 (kH bs) 0), dl (qF (kH bs) 0) (qB (kH bs) 0), D.sl (kL (kY (kH bs) 0)) (ka0 (kY (kH bs) 0)), dl (qG (kH bs) 0) (qC (kH bs) 0)]))] 4 ⟨rfl, zo, (yF (i := 0) zo), rfl⟩ ?_
 have hx8 : (((0 : Int) ≤ (vR (k9 (kH bs) 0) wk 7)) ∧ ((vR (k9 (kH bs) 0) wk 7) ≤ 7)) := jX (k9 (kH bs) 0) wk 7
 have hx9 : (((0 : Int) ≤ (uF wr (jE bs))) ∧ ((uF wr (jE bs)) ≤ 2147483647)) := c7 (zo)
 have hx10 : (((0 : Int) ≤ (uF wz (jD bs))) ∧ ((uF wz (jD bs)) ≤ 2147483647)) := c7 (zo)
 have hx11 : ((ka0 (eS w bs)) ≤ 1000000) := z4 ((BsW.ms (aB (kZ : BsW bs)) _)) (ka0 (kY (kH bs) 0))
 refine kI [.no, .no, .call [] (.e (.agg [iC (vR (k9 (kH bs) 0) wk 7), iC (uF wr (jE bs)), .d (dl (eS w bs) (ka0 (eS w bs))), iC (uF wz (jD bs))])) [] 0 [] none, .no, .no] _ [(3, rV 0 0), (4, rV 1 0), (6, rV 2 0), (7, bV false), (10, rV 4 0), (12, .e (qW (kH bs))), (13, uV (ka0 (kH bs))), (14, iV 0)] [(0, some (27, (aV wk wr w wn wz))), (1, some (27, vK)), (2, some (27, vK)), (4, some (27, (k04 bs wk wr w wz)))] 5 (w5 (k9 (kH bs) 0) (qF (kH bs) 0) (qB (kH bs) 0) (kY (kH bs) 0) (ka0 (kY (kH bs) 0)) (qG (kH bs) 0) (qC (kH bs) 0) wk wr w wn wz zo zo rfl zo zo zo zo (BsW.ms (aB (kZ : BsW bs)) _) zo zo zo zo) ?_
 refine kN (kT 4 []) True [(3, rV 0 0), (4, rV 1 0), (6, rV 2 0), (7, bV false), (10, rV 4 0), (12, .e (qW (kH bs))), (13, uV (ka0 (kH bs))), (14, iV 0), (29, bV true)] trivial ?_
 refine zt ?_
 refine aD [.no, .no, .no] True [(3, rV 0 0), (4, rV 1 0), (6, rV 2 0), (7, bV true), (12, .e (qW (kH bs))), (13, uV (ka0 (kH bs))), (14, iV 0)] [(0, some (27, (aV wk wr w wn wz))), (1, some (27, vK)), (2, some (27, (k04 bs wk wr w wz)))] 5 trivial ?_
 refine uJ [.w, .no] (uZ (1 : Int)) [(3, rV 0 0), (4, rV 1 0), (6, rV 2 0), (7, bV true), (12, .e (qW (kH bs))), (13, uV (ka0 (kH bs))), (14, iV 1)] ⟨by omega, by omega⟩ ?_
 refine AWp.z ?_
 refine kU 0 hcx (fun (x : {x : Nat × Int × Int × List Int × Int // match x with | (j, yk, yr, u, yz) => (1 ≤ j ∧ j ≤ ka0 (kH bs)) ∧ (BE (kH bs) wk wr w wz j yk yr u yz) ∧ ((0 ≤ yk ∧ yk ≤ 7) ∧ (0 ≤ yr ∧ yr ≤ 2147483647) ∧ (0 ≤ yz ∧ yz ≤ 2147483647) ∧ ka0 u ≤ 1000000)}) => match x with | ⟨(j, yk, yr, u, yz), _⟩ => (⟨[(3, rV 0 0), (4, rV 1 0), (6, rV 2 0), (7, bV true), (12, .e (qW (kH bs))), (13, uV (ka0 (kH bs))), (14, uV j)], [(0, some (27, (aV wk wr w wn wz))), (1, some (27, vK)), (2, some (27, (eR yk yr u yz)))], 5⟩ : ES)) (fun x => match x with | ⟨(j, yk, yr, u, yz), _⟩ => ka0 (kH bs) - j) ⟨((1 : Nat), ((vR (k9 (kH bs) 0) wk 7) : Int), ((uF wr (jE bs)) : Int), ((eS w bs) : List Int), ((uF wz (jD bs)) : Int)), ⟨zo, (BE.first rfl rfl rfl rfl), zo⟩⟩ [] (P := (kG 0) ∧ (kG 0) ∧ (kG 0) ∧ (true = true) ∧ (kJ (kP (kH bs))) ∧ (kG (ka0 (kH bs))) ∧ (kM (ka0 (kH bs) : Int)) ∧ (kM 1) ∧ (kJ [iD wk, iD wr, dl w wn, iD wz]) ∧ (kJ [iD 0, iD 0, qR, iD 0]) ∧ (kJ [iD (vR (k9 (kH bs) 0) wk 7), iD (uF wr (jE bs)), dl (eS w bs) (ka0 (eS w bs)), iD (uF wz (jD bs))])) zk ⟨rfl, rfl, rfl, (by rfl), rfl, rfl, rfl, rfl, rfl, rfl, rfl⟩ ?_
 rintro ⟨⟨j, yk, yr, u, yz⟩, hinv0⟩
 obtain ⟨hj, hE, hy⟩ : (1 ≤ j ∧ j ≤ ka0 (kH bs)) ∧ (BE (kH bs) wk wr w wz j yk yr u yz) ∧ ((0 ≤ yk ∧ yk ≤ 7) ∧ (0 ≤ yr ∧ yr ≤ 2147483647) ∧ (0 ≤ yz ∧ yz ≤ 2147483647) ∧ ka0 u ≤ 1000000) := hinv0
 refine qN (l := [(3, rV 0 0), (4, rV 1 0), (6, rV 2 0), (7, bV true), (12, .e (qW (kH bs))), (13, uV (ka0 (kH bs))), (14, uV j)]) (g := [(0, some (27, (aV wk wr w wn wz))), (1, some (27, vK)), (2, some (27, (eR yk yr u yz)))]) (nx := 5) rfl rfl rfl ?_
 by_cases hx12 : (((j : Nat) : Int) < (((ka0 (kH bs)) : Nat) : Int))
 ·refine kI [.b true] (((j : Int) < (ka0 (kH bs) : Int))) [(3, rV 0 0), (4, rV 1 0), (6, rV 2 0), (7, bV true), (12, .e (qW (kH bs))), (13, uV (ka0 (kH bs))), (14, uV j), (15, bV true)] [(0, some (27, (aV wk wr w wn wz))), (1, some (27, vK)), (2, some (27, (eR yk yr u yz)))] 5 zo ?_
  refine AW.seq ?_
  refine yW ?_
  refine AW.seq ?_
  refine AW.block ?_
  obtain ⟨hx13, hx14, hx15, hx16, hx17⟩ := BsW.at (aB (kZ : BsW bs)) (j)
  have hx18 : ((1 : Nat) ≤ (ka0 (kY (kH bs) j))) := g6 zo
  refine kI [.n j, .ds (uY (kH bs) j), .no, .no] ((kM (j : Int)) ∧ (j < (ka0 (kH bs))) ∧ (List.take 4 (ka3 (j * 4) (kP (kH bs))) = (uY (kH bs) j)) ∧ (((uY (kH bs) j) : List D).length = 4)) [(3, rV 0 0), (4, rV 1 0), (6, rV 2 0), (7, bV true), (9, rV 5 0), (12, .e (qW (kH bs))), (13, uV (ka0 (kH bs))), (14, uV j)] [(0, some (27, (aV wk wr w wn wz))), (1, some (27, vK)), (2, some (27, (eR yk yr u yz))), (5, some (59, .ds (uY (kH bs) j)))] 6 ⟨rfl, zo, (yF zo), rfl⟩ ?_
  have hx19 : (((0 : Int) ≤ (vR (k9 (kH bs) j) wk 7)) ∧ ((vR (k9 (kH bs) j) wk 7) ≤ 7)) := jX (k9 (kH bs) j) wk 7
  have hx20 : (((0 : Int) ≤ (uF wr (vT bs j))) ∧ ((uF wr (vT bs j)) ≤ 2147483647)) := c7 (zo)
  have hx21 : (((0 : Int) ≤ (uF wz (vS bs j))) ∧ ((uF wz (vS bs j)) ≤ 2147483647)) := c7 (zo)
  have hx22 : ((ka0 (yR w bs j)) ≤ 1000000) := z4 ((BsW.ms (aB (kZ : BsW bs)) _)) (ka0 (kY (kH bs) j))
  refine kI [.no, .no, .call [] (.e (.agg [iC (vR (k9 (kH bs) j) wk 7), iC (uF wr (vT bs j)), .d (dl (yR w bs j) (ka0 (yR w bs j))), iC (uF wz (vS bs j))])) [] 0 [] none, .no, .no] _ [(3, rV 0 0), (4, rV 1 0), (6, rV 2 0), (7, bV true), (10, rV 6 0), (12, .e (qW (kH bs))), (13, uV (ka0 (kH bs))), (14, uV j)] [(0, some (27, (aV wk wr w wn wz))), (1, some (27, vK)), (2, some (27, (eR yk yr u yz))), (6, some (27, (k37 bs j wk wr w wz)))] 7 (w5 (k9 (kH bs) j) (qF (kH bs) j) (qB (kH bs) j) (kY (kH bs) j) (ka0 (kY (kH bs) j)) (qG (kH bs) j) (qC (kH bs) j) wk wr w wn wz zo zo rfl zo zo zo zo (BsW.ms (aB (kZ : BsW bs)) _) zo zo zo zo) ?_
  by_cases hx24 : ((fX wk wr wz (vR (k9 (kH bs) j) wk 7) (uF wr (vT bs j)) (uF wz (vS bs j)) yk yr yz w (yR w bs j) u) < 0)
  ·have hx25 : ((((-1) : Int) ≤ (fX wk wr wz (vR (k9 (kH bs) j) wk 7) (uF wr (vT bs j)) (uF wz (vS bs j)) yk yr yz w (yR w bs j) u)) ∧ ((fX wk wr wz (vR (k9 (kH bs) j) wk 7) (uF wr (vT bs j)) (uF wz (vS bs j)) yk yr yz w (yR w bs j) u) ≤ 1)) := lX ..
   refine kN (kT 6 [.call [] (iV (fX wk wr wz (vR (k9 (kH bs) j) wk 7) (uF wr (vT bs j)) (uF wz (vS bs j)) yk yr yz w (yR w bs j) u)) [] 0 [] none, .b true, .no]) ((_) ∧ (((fX wk wr wz (vR (k9 (kH bs) j) wk 7) (uF wr (vT bs j)) (uF wz (vS bs j)) yk yr yz w (yR w bs j) u) < 0))) [(3, rV 0 0), (4, rV 1 0), (6, rV 2 0), (7, bV true), (10, rV 6 0), (12, .e (qW (kH bs))), (13, uV (ka0 (kH bs))), (14, uV j), (29, bV true)] ⟨(o7 wk wr wz (vR (k9 (kH bs) j) wk 7) (uF wr (vT bs j)) (uF wz (vS bs j)) yk yr yz w (yR w bs j) u wn (ka0 (yR w bs j)) (ka0 u) zo rfl rfl zo zo zo zo zo zo zo zo zo), zo⟩ ?_
   refine zt ?_
   refine aD [.no, .no, .no] True [(3, rV 0 0), (4, rV 1 0), (6, rV 2 0), (7, bV true), (12, .e (qW (kH bs))), (13, uV (ka0 (kH bs))), (14, uV j)] [(0, some (27, (aV wk wr w wn wz))), (1, some (27, vK)), (2, some (27, (k37 bs j wk wr w wz)))] 7 trivial ?_
   refine uJ [.w, .no] (uZ ((j : Int) + 1)) [(3, rV 0 0), (4, rV 1 0), (6, rV 2 0), (7, bV true), (12, .e (qW (kH bs))), (13, uV (ka0 (kH bs))), (14, iV (↑j + 1))] ⟨by omega, by omega⟩ ?_
   exact kX ⟨(((j + 1) : Nat), ((vR (k9 (kH bs) j) wk 7) : Int), ((uF wr (vT bs j)) : Int), ((yR w bs j) : List Int), ((uF wz (vS bs j)) : Int)), ⟨zo, (by exact BE.y hE rfl rfl rfl rfl zo), zo⟩⟩ [] (P := (kG 0) ∧ (kG 0) ∧ (kG 0) ∧ (true = true) ∧ (kJ (kP (kH bs))) ∧ (kG (ka0 (kH bs))) ∧ (kM (ka0 (kH bs) : Int)) ∧ (vX j) ∧ (kJ [iD wk, iD wr, dl w wn, iD wz]) ∧ (kJ [iD 0, iD 0, qR, iD 0]) ∧ (kJ [iD (vR (k9 (kH bs) j) wk 7), iD (uF wr (vT bs j)), dl (yR w bs j) (ka0 (yR w bs j)), iD (uF wz (vS bs j))])) zk ⟨rfl, rfl, rfl, (by rfl), rfl, rfl, rfl, (by rfl), rfl, rfl, rfl⟩ (show ka0 (kH bs) - (j + 1) < ka0 (kH bs) - j from zo)
  ·have hx26 : ((((-1) : Int) ≤ (fX wk wr wz (vR (k9 (kH bs) j) wk 7) (uF wr (vT bs j)) (uF wz (vS bs j)) yk yr yz w (yR w bs j) u)) ∧ ((fX wk wr wz (vR (k9 (kH bs) j) wk 7) (uF wr (vT bs j)) (uF wz (vS bs j)) yk yr yz w (yR w bs j) u) ≤ 1)) := lX ..
   refine kN (kT 6 [.call [] (iV (fX wk wr wz (vR (k9 (kH bs) j) wk 7) (uF wr (vT bs j)) (uF wz (vS bs j)) yk yr yz w (yR w bs j) u)) [] 0 [] none, .b false, .no]) ((_) ∧ (¬ ((fX wk wr wz (vR (k9 (kH bs) j) wk 7) (uF wr (vT bs j)) (uF wz (vS bs j)) yk yr yz w (yR w bs j) u) < 0))) [(3, rV 0 0), (4, rV 1 0), (6, rV 2 0), (7, bV true), (10, rV 6 0), (12, .e (qW (kH bs))), (13, uV (ka0 (kH bs))), (14, uV j), (29, bV false)] ⟨(o7 wk wr wz (vR (k9 (kH bs) j) wk 7) (uF wr (vT bs j)) (uF wz (vS bs j)) yk yr yz w (yR w bs j) u wn (ka0 (yR w bs j)) (ka0 u) zo rfl rfl zo zo zo zo zo zo zo zo zo), zo⟩ ?_
   refine q8 ?_
   refine aD [.w, .no] (uZ ((j : Int) + 1)) [(3, rV 0 0), (4, rV 1 0), (6, rV 2 0), (7, bV true), (12, .e (qW (kH bs))), (13, uV (ka0 (kH bs))), (14, iV (↑j + 1))] [(0, some (27, (aV wk wr w wn wz))), (1, some (27, vK)), (2, some (27, (eR yk yr u yz)))] 7 ⟨by omega, by omega⟩ ?_
   exact kX ⟨(((j + 1) : Nat), (yk : Int), (yr : Int), (u : List Int), (yz : Int)), ⟨zo, (by exact BE.n hE zo zo), zo⟩⟩ [] (P := (kG 0) ∧ (kG 0) ∧ (kG 0) ∧ (true = true) ∧ (kJ (kP (kH bs))) ∧ (kG (ka0 (kH bs))) ∧ (kM (ka0 (kH bs) : Int)) ∧ (vX j) ∧ (kJ [iD wk, iD wr, dl w wn, iD wz]) ∧ (kJ [iD 0, iD 0, qR, iD 0]) ∧ (kJ [iD yk, iD yr, dl u (ka0 u), iD yz])) zk ⟨rfl, rfl, rfl, (by rfl), rfl, rfl, rfl, (by rfl), rfl, rfl, rfl⟩ (show ka0 (kH bs) - (j + 1) < ka0 (kH bs) - j from zo)
 ·refine kI [.b false] (¬ ((j : Int) < (ka0 (kH bs) : Int))) [(3, rV 0 0), (4, rV 1 0), (6, rV 2 0), (7, bV true), (12, .e (qW (kH bs))), (13, uV (ka0 (kH bs))), (14, uV j), (15, bV false)] [(0, some (27, (aV wk wr w wn wz))), (1, some (27, vK)), (2, some (27, (eR yk yr u yz)))] 5 zo ?_
  refine AW.seq ?_
  refine zf ?_
  refine AW.exit ?_
  refine kI [.no, .call [] (.e (.agg [iC yk, iC yr, .d (dl u (ka0 u)), iC yz])) [] 0 [] none, .no, .no, .no] _ [(4, rV 1 0), (5, bV true)] [(1, some (27, (eR yk yr u yz)))] 5 (k7d yk yr u (ka0 u) yz rfl zo) ?_
  obtain ⟨hz1, hz2, hz3, hz4⟩ := hE.fin zo
  refine AW.ret ?_
  exact kC (.inr rfl) [] (P := (((xI bs wk wr w wz) : Int) = yk) ∧ (((tC bs wk wr w wz) : Int) = yr) ∧ (((dI .i64 (nO bs wk wr w wz)) : List D) = (dI .i64 u)) ∧ (((ka0 (nO bs wk wr w wz)) : Nat) = (ka0 u)) ∧ (((xH bs wk wr w wz) : Int) = yz) ∧ (true = true)) zk ⟨(by exact hz1), (by exact hz2), (by rw [hz3]), (by rw [hz3]), (by exact hz4), rfl⟩
end Go.Proofs.YtcfmjpnffembpaaGreat
