/- The best choice, of the code. No statement is proved here. -/
import Derived.Test.YtcfmjpnffembpaaGreatZL10M
namespace Go.Proofs.YtcfmjpnffembpaaGreat
open Go.ChangeShapes Go.WideShapes Go.ChangeAt Go.RowKit
open List renaming drop → ka3, getD → ka1, length → ka0, length_append → ka6, length_cons → kb0, length_drop → kb3, length_map → kc5, length_nil → kb1, length_replicate → kb4, length_reverse → kc0, length_set → kb8, length_take → kb2
open Nat renaming le_of_ble_eq_true → ka4, mul_one → kc6
set_option linter.unusedVariables false
set_option linter.unusedSimpArgs false
set_option maxHeartbeats 4000000
set_option maxRecDepth 100000
theorem u15 (k r : Int) (m : List Int) (n : Nat) (hm : ka0 m = n) (h1 : n ≤ 1000000) : Fun 103 [.agg [iC k, iC r, .d (D.sl (dI .i64 m) n)]] (kH []) 0 (.e (.agg [iC k, iC r, .d (D.sl (dI .i64 m) n)])) (kH []) 0 := by
 refine Fun.mk (n := 8) Tryz.func103 rfl rfl (ka4 rfl) ?_
 intro cx hcx
 refine kK [.no, .no] True [(1, rV 0 0), (2, rV 1 0)] [(0, some (25, .ds [iD k, iD r, dl m n])), (1, some (25, .ds [iD 0, iD 0, qT]))] 2 trivial ?_
 refine kK [.no, .no, .call [] (oV 0 0 n 1) [(0, some (3, .ds (dI .i64 m)))] 1 [] none, .no, .no] _ [(1, rV 0 0), (2, rV 1 0)] [(0, some (25, .cs [iC k, iC r, .own 2 0 n 1 true])), (1, some (25, .ds [iD 0, iD 0, qT])), (2, some (3, .ds (dI .i64 m)))] 3 (gR m n zo zo) ?_
 refine kK [.no, .no] True [(2, rV 1 0)] [(1, some (25, .cs [iC k, iC r, .own 2 0 n 1 true])), (2, some (3, .ds (dI .i64 m)))] 3 trivial ?_
 refine AW.freeze 2 (l' := [(2, rV 1 0)]) (g' := [(1, some (25, .ds [iD k, iD r, dl m n]))]) rfl (FzS.cons rfl (.same _) FzS.nil) (FzG.to (bc := .cs [iC k, iC r, .own 2 0 n 1 true]) rfl (by rfl) (FzL.cons (.same _) (FzL.cons (.same _) (FzL.cons (@FzC.own 2 ((dI .i64 m) : List D) 0 n 1 true ((dI .i64 m) : List D) (by rw [List.drop_zero, kc6, List.take_of_length_le (by first | omega | (simp only [qC, qB, qQ, ka6, kb0, kb1, kb2, kb3, kb4, kb8, kc5, kc0, kc6] <;> omega))]) (by first | omega | (simp only [qC, qB, qQ, ka6, kb0, kb1, kb2, kb3, kb4, kb8, kc5, kc0, kc6] <;> omega) | rfl)) FzL.nil))) FzG.nil) ?_
 refine AW.ret ?_
 exact kA (.inr rfl) [] (P := (kN k) ∧ (kN r) ∧ (kM (dI .i64 m)) ∧ (kJ n)) zk ⟨rfl, rfl, rfl, rfl⟩
theorem u17 (k r : Int) (m : List Int) (n : Nat) (z : Int) (hm : ka0 m = n) (h1 : n ≤ 1000000) : Fun 60 [.agg [iC k, iC r, .d (D.sl (dI .i64 m) n), iC z]] (kH []) 0 (.e (.agg [iC k, iC r, .d (D.sl (dI .i64 m) n), iC z])) (kH []) 0 := by
 refine Fun.mk (n := 8) Tryz.func60 rfl rfl (ka4 rfl) ?_
 intro cx hcx
 refine kK [.no, .no] True [(1, rV 0 0), (2, rV 1 0)] [(0, some (27, .ds [iD k, iD r, dl m n, iD z])), (1, some (27, .ds [iD 0, iD 0, qT, iD 0]))] 2 trivial ?_
 refine kO [.no, .no, .call [] (.e (.agg [iC k, iC r, .d (dl m n)])) [] 0 [] none, .no, .no] _ [(1, rV 0 0), (2, rV 1 0)] (u15 k r m n zo zo) ?_
 refine kK [.no, .no] True [(2, rV 1 0)] [(1, some (27, .ds [iD k, iD r, dl m n, iD z]))] 2 trivial ?_
 refine AW.ret ?_
 exact kA (.inr rfl) [] (P := (kN k) ∧ (kN r) ∧ (kM (dI .i64 m)) ∧ (kJ n) ∧ (kN z)) zk ⟨rfl, rfl, rfl, rfl, rfl⟩
theorem k4o (w a b : List Int) (o n m : Nat) (wk wr wz : Int) (ho : ka0 w = o) (hn : ka0 a = n) (hm : ka0 b = m) (h1 : o ≤ 1000000) (h2 : n ≤ 1000000) (h3 : m ≤ 1000000) : Fun 102 [.c (.d (D.sl (dI .i64 a) n)), .c (.d (D.sl (dI .i64 b) m)), .c (.ptr 0 0)] (kH [(0, some (27, .ds [iD wk, iD wr, D.sl (dI .i64 w) o, iD wz]))]) 1 (iV (yP w a b)) (kH [(0, some (27, .ds [iD wk, iD wr, D.sl (dI .i64 w) o, iD wz]))]) 1 := by
 refine Fun.mk (n := 12) Tryz.func102 rfl rfl (ka4 rfl) ?_
 intro cx hcx
 refine kK [.no] True [(0, sV .i64 a n), (1, sV .i64 b m), (2, rV 0 0)] [(0, some (27, .ds [iD wk, iD wr, dl w o, iD wz]))] 1 trivial ?_
 have hx1 : ((((-1) : Int) ≤ (yP w a b)) ∧ ((yP w a b) ≤ 1)) := cK w a b
 refine kO (qE 5 [.call [] (iV (yP w a b)) [] 0 [] none, .no]) _ [(5, iV (yP w a b))] (u0r w a b o n m zo zo zo zo zo zo) ?_
 refine AW.ret ?_
 exact kA (.inr rfl) [] (P := (kN (yP w a b)) ∧ (kM [iD wk, iD wr, dl w o, iD wz])) zk ⟨rfl, rfl⟩
theorem lW {p : Prop} (h : p := by first | omega | (simp only [qC, qB, ka6, kb0, kb1, kb2, kb3] <;> omega)) : p := h
theorem cO {p : Prop} (h : p := by first | omega | assumption | simp) : p := h
theorem yB {p : Prop} (h : p := by first | omega | with_reducible assumption | (simp only [qC, qB, ka6, kb0, kb1, kb2, kb3, kb4, kb8] <;> omega) | rfl | assumption) : p := h
theorem fQ {p : Prop} (h : p := by first | rfl | omega | assumption | (simp; done) | (simp; omega)) : p := h
theorem fP {p : Prop} (h : p := by first | omega | (show _ < _; simp; omega)) : p := h
abbrev f6 (wk : Int) (wr : Int) (w : List Int) (wn : Nat) (wz : Int) : BC := .ds [iD wk, iD wr, D.sl (dI .i64 w) wn, iD wz]
theorem v1j (m : List (List Int)) (c : Nat) (wk wr : Int) (w : List Int) (wn : Nat) (wz : Int) (hc : ka0 m = c) (h3 : c ≤ 1000000) (h4 : 1 ≤ c) (hW : MsW m) (hw : ka0 w = wn) (h5 : wn ≤ 1000000) : Fun 101 [.c (.d (D.sl (kI m) c)), .c (.fn 102 [(0, 0)])] (kH [(0, some (27, .ds [iD wk, iD wr, D.sl (dI .i64 w) wn, iD wz]))]) 1 (sV .i64 (c9 w m c) (ka0 (c9 w m c))) (kH [(0, some (27, .ds [iD wk, iD wr, D.sl (dI .i64 w) wn, iD wz]))]) 1 := by
 refine Fun.mk (n := 33) Tryz.func101 rfl rfl (ka4 rfl) ?_
 intro cx hcx
 refine kK [.no] True [(0, kG (kI m) c), (1, .e (.c (.fn 102 [(0, 0)])))] [(0, some (27, (f6 wk wr w wn wz)))] 1 trivial ?_
 refine AW.seq ?_
 refine kO [.no, .no, .b false] (¬ ((c : Int) < 1)) [(0, kG (kI m) c), (1, .e (.c (.fn 102 [(0, 0)]))), (9, bV false)] zo ?_
 refine q8 ?_
 have hx1 : ((ka0 (ka1 m 0 ([] : List Int))) ≤ 1000000) := MsW.at (qD : MsW m) _
 refine kO [.no, .n 0, .d (dl (ka1 m 0 ([] : List Int)) (ka0 (ka1 m 0 ([] : List Int)))), .no] ((kN 0) ∧ ((0 : Nat) < c) ∧ ((ka3 0 (kI m))[0]? = some (dl (ka1 m 0 ([] : List Int)) (ka0 (ka1 m 0 ([] : List Int)))))) [(0, kG (kI m) c), (1, .e (.c (.fn 102 [(0, 0)]))), (5, sV .i64 (ka1 m 0 ([] : List Int)) (ka0 (ka1 m 0 ([] : List Int))))] ⟨rfl, zo, (vQ _ _ lW)⟩ ?_
 refine AW.seq ?_
 refine kO [.no] True [(0, kG (kI m) c), (1, .e (.c (.fn 102 [(0, 0)]))), (5, sV .i64 (ka1 m 0 ([] : List Int)) (ka0 (ka1 m 0 ([] : List Int)))), (6, iV 1)] trivial ?_
 refine AW.block ?_
 refine kY 1 hcx (fun (x : {x : Nat × List Int // match x with | (j, u) => (1 ≤ j ∧ j ≤ c) ∧ (c9 w m j = u) ∧ (ka0 u ≤ 1000000)}) => match x with | ⟨(j, u), _⟩ => (⟨[(0, kG (kI m) c), (1, .e (.c (.fn 102 [(0, 0)]))), (5, sV .i64 u (ka0 u)), (6, uV j)], [(0, some (27, (f6 wk wr w wn wz)))], 1⟩ : ES)) (fun x => match x with | ⟨(j, u), _⟩ => c - j) ⟨((1 : Nat), ((ka1 m 0 ([] : List Int)) : List Int)), ⟨cO, (u7q rfl), zo⟩⟩ [] (P := (kM (kI m)) ∧ (kJ c) ∧ (kM (dI .i64 (ka1 m 0 ([] : List Int)))) ∧ (kJ (ka0 (ka1 m 0 ([] : List Int)))) ∧ (kN 1) ∧ (kM [iD wk, iD wr, dl w wn, iD wz])) zk ⟨rfl, rfl, rfl, rfl, rfl, rfl⟩ ?_
 rintro ⟨⟨j, u⟩, hinv0⟩
 obtain ⟨hj, hu, hul⟩ : (1 ≤ j ∧ j ≤ c) ∧ (c9 w m j = u) ∧ (ka0 u ≤ 1000000) := hinv0
 refine qR (l := [(0, kG (kI m) c), (1, .e (.c (.fn 102 [(0, 0)]))), (5, sV .i64 u (ka0 u)), (6, uV j)]) (g := [(0, some (27, (f6 wk wr w wn wz)))]) (nx := 1) rfl rfl rfl ?_
 refine AW.seq ?_
 by_cases hx2 : (((j : Nat) : Int) < ((c : Nat) : Int))
 ·refine kK [.no, .no, .no, .b true] (((j : Int) < (c : Int))) [(0, kG (kI m) c), (1, .e (.c (.fn 102 [(0, 0)]))), (5, sV .i64 u (ka0 u)), (6, uV j), (17, bV true)] [(0, some (27, (f6 wk wr w wn wz)))] 1 zo ?_
  refine vB ?_
  refine AW.seq ?_
  refine AW.block ?_
  by_cases hx5 : ((yP w (ka1 m j ([] : List Int)) u) < 0)
  ·have hx6 : ((ka0 (ka1 m j ([] : List Int))) ≤ 1000000) := MsW.at (qD : MsW m) _
   have hx7 : ((((-1) : Int) ≤ (yP w (ka1 m j ([] : List Int)) u)) ∧ ((yP w (ka1 m j ([] : List Int)) u) ≤ 1)) := cK w (ka1 m j ([] : List Int)) u
   refine kO [.no, .no, .no, .n j, .d (dl (ka1 m j ([] : List Int)) (ka0 (ka1 m j ([] : List Int)))), .no, .call [0] (iV (yP w (ka1 m j ([] : List Int)) u)) [(0, some (27, (f6 wk wr w wn wz)))] 1 [] none, .b true] ((kN (j : Int)) ∧ (j < c) ∧ ((ka3 j (kI m))[0]? = some (dl (ka1 m j ([] : List Int)) (ka0 (ka1 m j ([] : List Int))))) ∧ (_) ∧ (((yP w (ka1 m j ([] : List Int)) u) < 0))) [(0, kG (kI m) c), (1, .e (.c (.fn 102 [(0, 0)]))), (5, sV .i64 u (ka0 u)), (6, uV j), (27, bV true)] ⟨rfl, zo, (vQ _ _ lW), (k4o w (ka1 m j ([] : List Int)) u wn (ka0 (ka1 m j ([] : List Int))) (ka0 u) wk wr wz zo rfl rfl zo yB zo), zo⟩ ?_
   refine zt ?_
   refine uT [.no, .no, .n j, .d (dl (ka1 m j ([] : List Int)) (ka0 (ka1 m j ([] : List Int)))), .no] ((kN (j : Int)) ∧ (j < c) ∧ ((ka3 j (kI m))[0]? = some (dl (ka1 m j ([] : List Int)) (ka0 (ka1 m j ([] : List Int)))))) [(0, kG (kI m) c), (1, .e (.c (.fn 102 [(0, 0)]))), (5, sV .i64 (ka1 m j ([] : List Int)) (ka0 (ka1 m j ([] : List Int)))), (6, uV j)] ⟨rfl, zo, (vQ _ _ lW)⟩ ?_
   refine uT [.no, .w, .no] ((-9223372036854775808) ≤ ((j : Int) + 1) ∧ ((j : Int) + 1) ≤ 9223372036854775807) [(0, kG (kI m) c), (1, .e (.c (.fn 102 [(0, 0)]))), (5, sV .i64 (ka1 m j ([] : List Int)) (ka0 (ka1 m j ([] : List Int)))), (6, iV (↑j + 1))] ⟨by omega, by omega⟩ ?_
   exact kW ⟨(((j + 1) : Nat), ((ka1 m j ([] : List Int)) : List Int)), ⟨cO, (by first | exact u0e hu zo rfl | exact u0f hu zo zo), (by first | omega | assumption)⟩⟩ [] (P := (kM (kI m)) ∧ (kJ c) ∧ (kM (dI .i64 (ka1 m j ([] : List Int)))) ∧ (kJ (ka0 (ka1 m j ([] : List Int)))) ∧ (((((j + 1) : Nat) : Int) : Int) = ((j : Int) + 1)) ∧ (kM [iD wk, iD wr, dl w wn, iD wz])) zk ⟨rfl, rfl, rfl, rfl, fQ, rfl⟩ (show c - (j + 1) < c - j from fP)
  ·have hx8 : ((ka0 (ka1 m j ([] : List Int))) ≤ 1000000) := MsW.at (qD : MsW m) _
   have hx9 : ((((-1) : Int) ≤ (yP w (ka1 m j ([] : List Int)) u)) ∧ ((yP w (ka1 m j ([] : List Int)) u) ≤ 1)) := cK w (ka1 m j ([] : List Int)) u
   refine kO [.no, .no, .no, .n j, .d (dl (ka1 m j ([] : List Int)) (ka0 (ka1 m j ([] : List Int)))), .no, .call [0] (iV (yP w (ka1 m j ([] : List Int)) u)) [(0, some (27, (f6 wk wr w wn wz)))] 1 [] none, .b false] ((kN (j : Int)) ∧ (j < c) ∧ ((ka3 j (kI m))[0]? = some (dl (ka1 m j ([] : List Int)) (ka0 (ka1 m j ([] : List Int))))) ∧ (_) ∧ (¬ ((yP w (ka1 m j ([] : List Int)) u) < 0))) [(0, kG (kI m) c), (1, .e (.c (.fn 102 [(0, 0)]))), (5, sV .i64 u (ka0 u)), (6, uV j), (27, bV false)] ⟨rfl, zo, (vQ _ _ lW), (k4o w (ka1 m j ([] : List Int)) u wn (ka0 (ka1 m j ([] : List Int))) (ka0 u) wk wr wz zo rfl rfl zo yB zo), zo⟩ ?_
   refine q8 ?_
   refine uT [.no, .w, .no] ((-9223372036854775808) ≤ ((j : Int) + 1) ∧ ((j : Int) + 1) ≤ 9223372036854775807) [(0, kG (kI m) c), (1, .e (.c (.fn 102 [(0, 0)]))), (5, sV .i64 u (ka0 u)), (6, iV (↑j + 1))] ⟨by omega, by omega⟩ ?_
   exact kW ⟨(((j + 1) : Nat), (u : List Int)), ⟨cO, (by first | exact u0e hu zo rfl | exact u0f hu zo zo), (by first | omega | assumption)⟩⟩ [] (P := (kM (kI m)) ∧ (kJ c) ∧ (kM (dI .i64 u)) ∧ (kJ (ka0 u)) ∧ (((((j + 1) : Nat) : Int) : Int) = ((j : Int) + 1)) ∧ (kM [iD wk, iD wr, dl w wn, iD wz])) zk ⟨rfl, rfl, rfl, rfl, fQ, rfl⟩ (show c - (j + 1) < c - j from fP)
 ·refine kK [.no, .no, .no, .b false] (¬ ((j : Int) < (c : Int))) [(0, kG (kI m) c), (1, .e (.c (.fn 102 [(0, 0)]))), (5, sV .i64 u (ka0 u)), (6, uV j), (17, bV false)] [(0, some (27, (f6 wk wr w wn wz)))] 1 zo ?_
  refine zf ?_
  refine AW.exit ?_
  refine kK [.no, .no] True [(4, sV .i64 u (ka0 u))] [(0, some (27, (f6 wk wr w wn wz)))] 1 trivial ?_
  have hz2 : c9 w m c = u := by have h9 := hu; rw [show j = c by omega] at h9; exact h9
  refine AW.ret ?_
  exact kA (.inr rfl) [] (P := (((dI .i64 (c9 w m c)) : List D) = (dI .i64 u)) ∧ (((ka0 (c9 w m c)) : Nat) = (ka0 u)) ∧ (kM [iD wk, iD wr, dl w wn, iD wz])) zk ⟨(by first | rfl | rw [hz2]), (by first | rfl | rw [hz2] | omega), rfl⟩
abbrev jC : BC := .ds [iD 0, iD 0, D.lit (.slice none 0 0), iD 0]
abbrev mE (k : Int) (r : List Int) (rn : Nat) (m : List (List Int)) (c : Nat) (s : List Int) (sn : Nat) : BC := .ds [iD k, D.sl (dI .i64 r) rn, D.sl (kI m) c, D.sl (dI .i64 s) sn]
abbrev jB (wk : Int) (wr : Int) (w : List Int) (wn : Nat) (wz : Int) : BC := .ds [iD wk, iD wr, D.sl (dI .i64 w) wn, iD wz]
theorem k13 (k : Int) (r : List Int) (rn : Nat) (m : List (List Int)) (c : Nat) (s : List Int) (sn : Nat) (wk wr : Int) (w : List Int) (wn : Nat) (wz : Int) (hr : ka0 r = rn * 2) (hs : ka0 s = sn * 2) (hc : ka0 m = c) (h1 : rn ≤ 1000000) (h2 : sn ≤ 1000000) (h3 : c ≤ 1000000) (h4 : 1 ≤ c) (hW : MsW m) (hw : ka0 w = wn) (h5 : wn ≤ 1000000) (hwr : -9223372036854775808 ≤ wr ∧ wr ≤ 9223372036854775807) (hwz : -9223372036854775808 ≤ wz ∧ wz ≤ 9223372036854775807) : Fun 59 [.agg [iC k, .d (D.sl (dI .i64 r) rn), .d (D.sl (kI m) c), .d (D.sl (dI .i64 s) sn)], .agg [iC wk, iC wr, .d (D.sl (dI .i64 w) wn), iC wz]] (kH []) 0 (.e (.agg [iC (vI k wk 7), iC (q9 wr (kC r rn)), .d (D.sl (dI .i64 (c9 w m c)) (ka0 (c9 w m c))), iC (q9 wz (kC s sn))])) (kH []) 0 := by
 refine Fun.mk (n := 63) Tryz.func59 rfl rfl (ka4 rfl) ?_
 intro cx hcx
 refine kK [.no, .no, .no] True [(2, rV 0 0), (3, rV 1 0), (4, rV 2 0)] [(0, some (59, (mE k r rn m c s sn))), (1, some (27, (jB wk wr w wn wz))), (2, some (27, jC))] 3 trivial ?_
 refine kO [.no] True [(2, rV 0 0), (3, rV 1 0), (4, rV 2 0), (5, iV 0)] trivial ?_
 refine AW.seq ?_
 refine kO [.no] True [(2, rV 0 0), (3, rV 1 0), (4, rV 2 0), (5, iV 0), (6, iV 1)] trivial ?_
 refine AW.block ?_
 refine kY 0 hcx (fun (x : {x : Nat × Int // match x with | (i, y) => (i ≤ 7 ∧ 0 ≤ y ∧ y ≤ 7) ∧ (vI k wk i = y)}) => match x with | ⟨(i, y), _⟩ => (⟨[(2, rV 0 0), (3, rV 1 0), (4, rV 2 0), (5, iV y), (6, iV ((i : Int) + 1))], [(0, some (59, (mE k r rn m c s sn))), (1, some (27, (jB wk wr w wn wz))), (2, some (27, jC))], 3⟩ : ES)) (fun x => match x with | ⟨(i, y), _⟩ => 7 - i) ⟨((0 : Nat), (0 : Int)), ⟨cO, rfl⟩⟩ [] (P := (kJ 0) ∧ (kJ 0) ∧ (kJ 0) ∧ (kN 0) ∧ (kN 1) ∧ (kM [iD k, dl r rn, D.sl (kI m) c, dl s sn]) ∧ (kM [iD wk, iD wr, dl w wn, iD wz]) ∧ (kM [iD 0, iD 0, qT, iD 0])) zk ⟨rfl, rfl, rfl, rfl, rfl, rfl, rfl, rfl⟩ ?_
 rintro ⟨⟨i, y⟩, hinv0⟩
 obtain ⟨hi, hy⟩ : (i ≤ 7 ∧ 0 ≤ y ∧ y ≤ 7) ∧ (vI k wk i = y) := hinv0
 refine qR (l := [(2, rV 0 0), (3, rV 1 0), (4, rV 2 0), (5, iV y), (6, iV ((i : Int) + 1))]) (g := [(0, some (59, (mE k r rn m c s sn))), (1, some (27, (jB wk wr w wn wz))), (2, some (27, jC))]) (nx := 3) rfl rfl rfl ?_
 refine AW.seq ?_
 by_cases hx1 : ((((i : Nat) : Int) + 1) ≤ 7)
 ·refine kK [.no, .b true] ((((i : Int) + 1) ≤ 7)) [(2, rV 0 0), (3, rV 1 0), (4, rV 2 0), (5, iV y), (6, iV (↑i + 1)), (13, bV true)] [(0, some (59, (mE k r rn m c s sn))), (1, some (27, (jB wk wr w wn wz))), (2, some (27, jC))] 3 zo ?_
  refine vB ?_
  refine AW.seq ?_
  refine AW.block ?_
  by_cases hx2 : ((dE (k / (((2 ^ (i + 1)) : Nat) : Int))) = 1)
  ·by_cases hx3 : (y = 0)
   ·refine kO [.no, .no, .no, .n (i + 1), .i (dE (k / (((2 ^ (i + 1)) : Nat) : Int))), .b true, .no, .no, .b true, .no, .no, .no] (((((i : Int) + 1) : Int) = (((i + 1) : Nat) : Int)) ∧ ((i + 1) ≤ 64) ∧ (qG .and .i64 (k / (((2 ^ (i + 1)) : Nat) : Int)) 1 = (dE (k / (((2 ^ (i + 1)) : Nat) : Int)))) ∧ (((dE (k / (((2 ^ (i + 1)) : Nat) : Int))) = 1)) ∧ ((y = 0))) [(2, rV 0 0), (3, rV 1 0), (4, rV 2 0), (5, iV y), (6, iV (↑i + 1)), (34, bV true)] ⟨(by first | rfl | omega), zo, rfl, zo, zo⟩ ?_
    refine zt ?_
    refine uT [.no, .no] True [(2, rV 0 0), (3, rV 1 0), (4, rV 2 0), (5, iV (↑i + 1)), (6, iV (↑i + 1))] trivial ?_
    refine uT [.no, .w, .no] ((-9223372036854775808) ≤ (((i : Int) + 1) + 1) ∧ (((i : Int) + 1) + 1) ≤ 9223372036854775807) [(2, rV 0 0), (3, rV 1 0), (4, rV 2 0), (5, iV (↑i + 1)), (6, iV ((↑i + 1) + 1))] ⟨by omega, by omega⟩ ?_
    exact kW ⟨(((i + 1) : Nat), (((i : Int) + 1) : Int)), ⟨cO, (by first | exact rS hy (decide_eq_true ⟨by omega, by omega, by omega⟩) zo rfl | exact xK hy (decide_eq_false (fun e9 => by omega)) | exact xJ hy zo zo)⟩⟩ [] (P := (kJ 0) ∧ (kJ 0) ∧ (kJ 0) ∧ (kN ((i : Int) + 1)) ∧ ((((((i + 1) : Nat) : Int) + 1) : Int) = (((i : Int) + 1) + 1)) ∧ (kM [iD k, dl r rn, D.sl (kI m) c, dl s sn]) ∧ (kM [iD wk, iD wr, dl w wn, iD wz]) ∧ (kM [iD 0, iD 0, qT, iD 0])) zk ⟨rfl, rfl, rfl, rfl, fQ, rfl, rfl, rfl⟩ (show 7 - (i + 1) < 7 - i from fP)
   ·by_cases hx5 : ((vJ wk (((i : Nat) : Int) + 1) y) < 0)
    ·have hx6 : ((((-1) : Int) ≤ (vJ wk (((i : Nat) : Int) + 1) y)) ∧ ((vJ wk (((i : Nat) : Int) + 1) y) ≤ 1)) := dJ wk (((i : Nat) : Int) + 1) y
     refine kO (.no :: .no :: .no :: .n (i + 1) :: .i (dE (k / (((2 ^ (i + 1)) : Nat) : Int))) :: .b true :: .no :: .no :: .b false :: qE 6 [.call [] (iV (vJ wk ((i : Int) + 1) y)) [] 0 [] none, .b true, .no, .no]) (((((i : Int) + 1) : Int) = (((i + 1) : Nat) : Int)) ∧ ((i + 1) ≤ 64) ∧ (qG .and .i64 (k / (((2 ^ (i + 1)) : Nat) : Int)) 1 = (dE (k / (((2 ^ (i + 1)) : Nat) : Int)))) ∧ (((dE (k / (((2 ^ (i + 1)) : Nat) : Int))) = 1)) ∧ (¬ (y = 0)) ∧ (_) ∧ (((vJ wk ((i : Int) + 1) y) < 0))) [(2, rV 0 0), (3, rV 1 0), (4, rV 2 0), (5, iV y), (6, iV (↑i + 1)), (34, bV true)] ⟨(by first | rfl | omega), zo, rfl, zo, zo, (xQ wk ((i : Int) + 1) y), zo⟩ ?_
     refine zt ?_
     refine uT [.no, .no] True [(2, rV 0 0), (3, rV 1 0), (4, rV 2 0), (5, iV (↑i + 1)), (6, iV (↑i + 1))] trivial ?_
     refine uT [.no, .w, .no] ((-9223372036854775808) ≤ (((i : Int) + 1) + 1) ∧ (((i : Int) + 1) + 1) ≤ 9223372036854775807) [(2, rV 0 0), (3, rV 1 0), (4, rV 2 0), (5, iV (↑i + 1)), (6, iV ((↑i + 1) + 1))] ⟨by omega, by omega⟩ ?_
     exact kW ⟨(((i + 1) : Nat), (((i : Int) + 1) : Int)), ⟨cO, (by first | exact rS hy (decide_eq_true ⟨by omega, by omega, by omega⟩) zo rfl | exact xK hy (decide_eq_false (fun e9 => by omega)) | exact xJ hy zo zo)⟩⟩ [] (P := (kJ 0) ∧ (kJ 0) ∧ (kJ 0) ∧ (kN ((i : Int) + 1)) ∧ ((((((i + 1) : Nat) : Int) + 1) : Int) = (((i : Int) + 1) + 1)) ∧ (kM [iD k, dl r rn, D.sl (kI m) c, dl s sn]) ∧ (kM [iD wk, iD wr, dl w wn, iD wz]) ∧ (kM [iD 0, iD 0, qT, iD 0])) zk ⟨rfl, rfl, rfl, rfl, fQ, rfl, rfl, rfl⟩ (show 7 - (i + 1) < 7 - i from fP)
    ·have hx7 : ((((-1) : Int) ≤ (vJ wk (((i : Nat) : Int) + 1) y)) ∧ ((vJ wk (((i : Nat) : Int) + 1) y) ≤ 1)) := dJ wk (((i : Nat) : Int) + 1) y
     refine kO (.no :: .no :: .no :: .n (i + 1) :: .i (dE (k / (((2 ^ (i + 1)) : Nat) : Int))) :: .b true :: .no :: .no :: .b false :: qE 6 [.call [] (iV (vJ wk ((i : Int) + 1) y)) [] 0 [] none, .b false, .no, .no]) (((((i : Int) + 1) : Int) = (((i + 1) : Nat) : Int)) ∧ ((i + 1) ≤ 64) ∧ (qG .and .i64 (k / (((2 ^ (i + 1)) : Nat) : Int)) 1 = (dE (k / (((2 ^ (i + 1)) : Nat) : Int)))) ∧ (((dE (k / (((2 ^ (i + 1)) : Nat) : Int))) = 1)) ∧ (¬ (y = 0)) ∧ (_) ∧ (¬ ((vJ wk ((i : Int) + 1) y) < 0))) [(2, rV 0 0), (3, rV 1 0), (4, rV 2 0), (5, iV y), (6, iV (↑i + 1)), (34, bV false)] ⟨(by first | rfl | omega), zo, rfl, zo, zo, (xQ wk ((i : Int) + 1) y), zo⟩ ?_
     refine q8 ?_
     refine uT [.no, .w, .no] ((-9223372036854775808) ≤ (((i : Int) + 1) + 1) ∧ (((i : Int) + 1) + 1) ≤ 9223372036854775807) [(2, rV 0 0), (3, rV 1 0), (4, rV 2 0), (5, iV y), (6, iV ((↑i + 1) + 1))] ⟨by omega, by omega⟩ ?_
     exact kW ⟨(((i + 1) : Nat), (y : Int)), ⟨cO, (by first | exact rS hy (decide_eq_true ⟨by omega, by omega, by omega⟩) zo rfl | exact xK hy (decide_eq_false (fun e9 => by omega)) | exact xJ hy zo zo)⟩⟩ [] (P := (kJ 0) ∧ (kJ 0) ∧ (kJ 0) ∧ (kN y) ∧ ((((((i + 1) : Nat) : Int) + 1) : Int) = (((i : Int) + 1) + 1)) ∧ (kM [iD k, dl r rn, D.sl (kI m) c, dl s sn]) ∧ (kM [iD wk, iD wr, dl w wn, iD wz]) ∧ (kM [iD 0, iD 0, qT, iD 0])) zk ⟨rfl, rfl, rfl, rfl, fQ, rfl, rfl, rfl⟩ (show 7 - (i + 1) < 7 - i from fP)
  ·refine kO [.no, .no, .no, .n (i + 1), .i (dE (k / (((2 ^ (i + 1)) : Nat) : Int))), .b false, .no, .no] (((((i : Int) + 1) : Int) = (((i + 1) : Nat) : Int)) ∧ ((i + 1) ≤ 64) ∧ (qG .and .i64 (k / (((2 ^ (i + 1)) : Nat) : Int)) 1 = (dE (k / (((2 ^ (i + 1)) : Nat) : Int)))) ∧ (¬ ((dE (k / (((2 ^ (i + 1)) : Nat) : Int))) = 1))) [(2, rV 0 0), (3, rV 1 0), (4, rV 2 0), (5, iV y), (6, iV (↑i + 1)), (34, bV false)] ⟨(by first | rfl | omega), zo, rfl, zo⟩ ?_
   refine q8 ?_
   refine uT [.no, .w, .no] ((-9223372036854775808) ≤ (((i : Int) + 1) + 1) ∧ (((i : Int) + 1) + 1) ≤ 9223372036854775807) [(2, rV 0 0), (3, rV 1 0), (4, rV 2 0), (5, iV y), (6, iV ((↑i + 1) + 1))] ⟨by omega, by omega⟩ ?_
   exact kW ⟨(((i + 1) : Nat), (y : Int)), ⟨cO, (by first | exact rS hy (decide_eq_true ⟨by omega, by omega, by omega⟩) zo rfl | exact xK hy (decide_eq_false (fun e9 => by omega)) | exact xJ hy zo zo)⟩⟩ [] (P := (kJ 0) ∧ (kJ 0) ∧ (kJ 0) ∧ (kN y) ∧ ((((((i + 1) : Nat) : Int) + 1) : Int) = (((i : Int) + 1) + 1)) ∧ (kM [iD k, dl r rn, D.sl (kI m) c, dl s sn]) ∧ (kM [iD wk, iD wr, dl w wn, iD wz]) ∧ (kM [iD 0, iD 0, qT, iD 0])) zk ⟨rfl, rfl, rfl, rfl, fQ, rfl, rfl, rfl⟩ (show 7 - (i + 1) < 7 - i from fP)
 ·refine kK [.no, .b false] (¬ (((i : Int) + 1) ≤ 7)) [(2, rV 0 0), (3, rV 1 0), (4, rV 2 0), (5, iV y), (6, iV (↑i + 1)), (13, bV false)] [(0, some (59, (mE k r rn m c s sn))), (1, some (27, (jB wk wr w wn wz))), (2, some (27, jC))] 3 zo ?_
  refine zf ?_
  refine AW.exit ?_
  refine kK (qE 5 (.call [] (.tup [iE (q9 wr (kC r rn)), .c (.d (D.lit (.bool (nrF wr (kC r rn)))))]) [] 0 [] none :: qE 5 [])) _ [(2, rV 0 0), (3, rV 1 0), (4, rV 2 0), (5, iV y), (7, iV (q9 wr (kC r rn)))] [(0, some (59, (mE k r rn m c s sn))), (1, some (27, (jB wk wr w wn wz))), (2, some (27, jC))] 3 (u0y r rn wr zo zo zo) ?_
  refine kO (qE 4 (.call [] (.tup [iE (q9 wz (kC s sn)), .c (.d (D.lit (.bool (nrF wz (kC s sn)))))]) [] 0 [] none :: qE 5 [])) _ [(2, rV 0 0), (3, rV 1 0), (4, rV 2 0), (5, iV y), (7, iV (q9 wr (kC r rn))), (9, iV (q9 wz (kC s sn)))] (u0y s sn wz zo zo zo) ?_
  have hx8 : ((ka0 (c9 w m c)) ≤ 1000000) := k2p (qD : MsW m) c
  refine kK [.no, .no, .no, .call [1] (sV .i64 (c9 w m c) (ka0 (c9 w m c))) [(0, some (27, (jB wk wr w wn wz)))] 1 [] none, .no] _ [(4, rV 2 0), (5, iV y), (7, iV (q9 wr (kC r rn))), (9, iV (q9 wz (kC s sn))), (11, sV .i64 (c9 w m c) (ka0 (c9 w m c)))] [(2, some (27, jC))] 3 (v1j m c wk wr w wn wz zo zo zo (qD : MsW m) zo zo) ?_
  refine kK (qE 7 []) True [(4, rV 2 0)] [(2, some (27, .ds [iD y, iD (q9 wr (kC r rn)), dl (c9 w m c) (ka0 (c9 w m c)), iD (q9 wz (kC s sn))]))] 3 trivial ?_
  have hz1 : vI k wk 7 = y := by have h9 := hy; rw [show i = 7 by omega] at h9; exact h9
  refine AW.ret ?_
  exact kA (.inr rfl) [] (P := (((vI k wk 7) : Int) = y) ∧ (kN (q9 wr (kC r rn))) ∧ (kM (dI .i64 (c9 w m c))) ∧ (kJ (ka0 (c9 w m c))) ∧ (kN (q9 wz (kC s sn)))) zk ⟨(by first | rfl | exact hz1 | omega), rfl, rfl, rfl, rfl⟩
abbrev yR (w : List Int) (bs : List Bx) (j : Nat) := c9 w (kL (kF bs) j) (ka0 (kL (kF bs) j))
abbrev f0 (w : List Int) (bs : List Bx) := c9 w (kL (kF bs) 0) (ka0 (kL (kF bs) 0))
abbrev vX (bs : List Bx) (j : Nat) := kC (kZ (kF bs) j) (kX (kF bs) j)
abbrev vW (bs : List Bx) (j : Nat) := kC (qA (kF bs) j) (k8 (kF bs) j)
abbrev mD (bs : List Bx) := kC (kZ (kF bs) 0) (kX (kF bs) 0)
abbrev mC (bs : List Bx) := kC (qA (kF bs) 0) (k8 (kF bs) 0)
abbrev vM : BC := .ds [iD 0, iD 0, D.lit (.slice none 0 0), iD 0]
abbrev k68 (bs : List Bx) (j : Nat) (wk : Int) (wr : Int) (w : List Int) (wz : Int) : BC := .ds [iD (vI (kQ (kF bs) j) wk 7), iD (q9 wr (vX bs j)), D.sl (dI .i64 (yR w bs j)) (ka0 (yR w bs j)), iD (q9 wz (vW bs j))]
abbrev a8 (wk : Int) (wr : Int) (w : List Int) (wn : Nat) (wz : Int) : BC := .ds [iD wk, iD wr, D.sl (dI .i64 w) wn, iD wz]
abbrev fZ (yk : Int) (yr : Int) (u : List Int) (yz : Int) : BC := .ds [iD yk, iD yr, D.sl (dI .i64 u) (ka0 u), iD yz]
abbrev k2z (bs : List Bx) (wk : Int) (wr : Int) (w : List Int) (wz : Int) : BC := .ds [iD (vI (kQ (kF bs) 0) wk 7), iD (q9 wr (mD bs)), D.sl (dI .i64 (f0 w bs)) (ka0 (f0 w bs)), iD (q9 wz (mC bs))]
theorem u3q (bs : List Bx) (n : Nat) (wk wr : Int) (w : List Int) (wn : Nat) (wz : Int) (hn : ka0 bs = n) (h1 : n ≤ 1000000) (hW : BsW bs) (hw : ka0 w = wn) (h5 : wn ≤ 1000000) (hwr : -9223372036854775808 ≤ wr ∧ wr ≤ 9223372036854775807) (hwz : -9223372036854775808 ≤ wz ∧ wz ≤ 9223372036854775807) (h9 : 1 ≤ ka0 (kF bs)) : Fun 26 [.c (.d (D.sl (kE bs) n)), .agg [iC wk, iC wr, .d (D.sl (dI .i64 w) wn), iC wz]] (kH []) 0 (.tup [.agg [iC (beK bs wk wr w wz), iC (zF bs wk wr w wz), .d (D.sl (dI .i64 (rE bs wk wr w wz)) (ka0 (rE bs wk wr w wz))), iC (beZ bs wk wr w wz)], .c (.d (D.lit (.bool true)))]) (kH []) 0 := by
 refine Fun.mk (n := 35) Tryz.func26 rfl rfl (ka4 rfl) ?_
 intro cx hcx
 refine kK [.no, .no, .no] True [(0, kG (kE bs) n), (3, rV 0 0), (4, rV 1 0)] [(0, some (27, (a8 wk wr w wn wz))), (1, some (27, vM))] 2 trivial ?_
 refine kK [.no] True [(0, kG (kE bs) n), (3, rV 0 0), (4, rV 1 0), (6, rV 2 0)] [(0, some (27, (a8 wk wr w wn wz))), (1, some (27, vM)), (2, some (27, vM))] 3 trivial ?_
 refine kO [.no] True [(0, kG (kE bs) n), (3, rV 0 0), (4, rV 1 0), (6, rV 2 0), (7, bV false)] trivial ?_
 refine AW.seq ?_
 have hx1 : ((ka0 (kF bs)) ≤ n) := (by have h9 := mV bs; omega)
 refine kO [.no, .call [] (kG (kE (kF bs)) (ka0 (kF bs))) [] 0 [] none, .no, .no] _ [(3, rV 0 0), (4, rV 1 0), (6, rV 2 0), (7, bV false), (12, kG (kE (kF bs)) (ka0 (kF bs))), (13, uV (ka0 (kF bs))), (14, iV 0)] (oH bs n zo zo (qD : BsW bs)) ?_
 refine AW.block ?_
 refine xY 1 ?_
 refine AWp.s ?_
 refine kK [.b true] (((0 : Int) < (ka0 (kF bs) : Int))) [(3, rV 0 0), (4, rV 1 0), (6, rV 2 0), (7, bV false), (12, kG (kE (kF bs)) (ka0 (kF bs))), (13, uV (ka0 (kF bs))), (14, iV 0), (15, bV true)] [(0, some (27, (a8 wk wr w wn wz))), (1, some (27, vM)), (2, some (27, vM))] 3 zo ?_
 refine AW.seq ?_
 refine vB ?_
 refine AW.seq ?_
 refine AW.block ?_
 obtain ⟨hx2, hx3, hx4, hx5, hx6⟩ := BsW.at (bK (qD : BsW bs)) (0)
 have hx7 : ((1 : Nat) ≤ (ka0 (kL (kF bs) 0))) := mU zo
 refine kK [.n 0, .ds [iD (kQ (kF bs) 0), dl (kZ (kF bs) 0) (kX (kF bs) 0), D.sl (kI (kL (kF bs) 0)) (ka0 (kL (kF bs) 0)), dl (qA (kF bs) 0) (k8 (kF bs) 0)], .no, .no] ((kN 0) ∧ ((0 : Nat) < (ka0 (kF bs))) ∧ (List.take 4 (ka3 0 (kE (kF bs))) = [iD (kQ (kF bs) 0), dl (kZ (kF bs) 0) (kX (kF bs) 0), D.sl (kI (kL (kF bs) 0)) (ka0 (kL (kF bs) 0)), dl (qA (kF bs) 0) (k8 (kF bs) 0)]) ∧ (([iD (kQ (kF bs) 0), dl (kZ (kF bs) 0) (kX (kF bs) 0), D.sl (kI (kL (kF bs) 0)) (ka0 (kL (kF bs) 0)), dl (qA (kF bs) 0) (k8 (kF bs) 0)] : List D).length = 4)) [(3, rV 0 0), (4, rV 1 0), (6, rV 2 0), (7, bV false), (9, rV 3 0), (12, kG (kE (kF bs)) (ka0 (kF bs))), (13, uV (ka0 (kF bs))), (14, iV 0)] [(0, some (27, (a8 wk wr w wn wz))), (1, some (27, vM)), (2, some (27, vM)), (3, some (59, .ds [iD (kQ (kF bs) 0), dl (kZ (kF bs) 0) (kX (kF bs) 0), D.sl (kI (kL (kF bs) 0)) (ka0 (kL (kF bs) 0)), dl (qA (kF bs) 0) (k8 (kF bs) 0)]))] 4 ⟨rfl, zo, (yV (i := 0) lW), rfl⟩ ?_
 have hx8 : (((0 : Int) ≤ (vI (kQ (kF bs) 0) wk 7)) ∧ ((vI (kQ (kF bs) 0) wk 7) ≤ 7)) := mW (kQ (kF bs) 0) wk 7
 have hx9 : (((0 : Int) ≤ (q9 wr (mD bs))) ∧ ((q9 wr (mD bs)) ≤ 2147483647)) := d3 (yB)
 have hx10 : (((0 : Int) ≤ (q9 wz (mC bs))) ∧ ((q9 wz (mC bs)) ≤ 2147483647)) := d3 (yB)
 have hx11 : ((ka0 (f0 w bs)) ≤ 1000000) := k2p ((BsW.ms (bK (qD : BsW bs)) _)) (ka0 (kL (kF bs) 0))
 refine kK [.no, .no, .call [] (.e (.agg [iC (vI (kQ (kF bs) 0) wk 7), iC (q9 wr (mD bs)), .d (dl (f0 w bs) (ka0 (f0 w bs))), iC (q9 wz (mC bs))])) [] 0 [] none, .no, .no] _ [(3, rV 0 0), (4, rV 1 0), (6, rV 2 0), (7, bV false), (10, rV 4 0), (12, kG (kE (kF bs)) (ka0 (kF bs))), (13, uV (ka0 (kF bs))), (14, iV 0)] [(0, some (27, (a8 wk wr w wn wz))), (1, some (27, vM)), (2, some (27, vM)), (4, some (27, (k2z bs wk wr w wz)))] 5 (k13 (kQ (kF bs) 0) (kZ (kF bs) 0) (kX (kF bs) 0) (kL (kF bs) 0) (ka0 (kL (kF bs) 0)) (qA (kF bs) 0) (k8 (kF bs) 0) wk wr w wn wz yB yB rfl yB yB yB yB (BsW.ms (bK (qD : BsW bs)) _) zo zo zo zo) ?_
 refine kO (qE 4 []) True [(3, rV 0 0), (4, rV 1 0), (6, rV 2 0), (7, bV false), (10, rV 4 0), (12, kG (kE (kF bs)) (ka0 (kF bs))), (13, uV (ka0 (kF bs))), (14, iV 0), (29, bV true)] trivial ?_
 refine zt ?_
 refine aH [.no, .no, .no] True [(3, rV 0 0), (4, rV 1 0), (6, rV 2 0), (7, bV true), (12, kG (kE (kF bs)) (ka0 (kF bs))), (13, uV (ka0 (kF bs))), (14, iV 0)] [(0, some (27, (a8 wk wr w wn wz))), (1, some (27, vM)), (2, some (27, (k2z bs wk wr w wz)))] 5 trivial ?_
 refine uT [.w, .no] ((-9223372036854775808) ≤ (1 : Int) ∧ (1 : Int) ≤ 9223372036854775807) [(3, rV 0 0), (4, rV 1 0), (6, rV 2 0), (7, bV true), (12, kG (kE (kF bs)) (ka0 (kF bs))), (13, uV (ka0 (kF bs))), (14, iV 1)] ⟨by omega, by omega⟩ ?_
 refine AWp.z ?_
 refine kY 0 hcx (fun (x : {x : Nat × Int × Int × List Int × Int // match x with | (j, yk, yr, u, yz) => (1 ≤ j ∧ j ≤ ka0 (kF bs)) ∧ (BE (kF bs) wk wr w wz j yk yr u yz) ∧ ((0 ≤ yk ∧ yk ≤ 7) ∧ (0 ≤ yr ∧ yr ≤ 2147483647) ∧ (0 ≤ yz ∧ yz ≤ 2147483647) ∧ ka0 u ≤ 1000000)}) => match x with | ⟨(j, yk, yr, u, yz), _⟩ => (⟨[(3, rV 0 0), (4, rV 1 0), (6, rV 2 0), (7, bV true), (12, kG (kE (kF bs)) (ka0 (kF bs))), (13, uV (ka0 (kF bs))), (14, uV j)], [(0, some (27, (a8 wk wr w wn wz))), (1, some (27, vM)), (2, some (27, (fZ yk yr u yz)))], 5⟩ : ES)) (fun x => match x with | ⟨(j, yk, yr, u, yz), _⟩ => ka0 (kF bs) - j) ⟨((1 : Nat), ((vI (kQ (kF bs) 0) wk 7) : Int), ((q9 wr (mD bs)) : Int), ((f0 w bs) : List Int), ((q9 wz (mC bs)) : Int)), ⟨cO, (BE.first rfl rfl rfl rfl), zo⟩⟩ [] (P := (kJ 0) ∧ (kJ 0) ∧ (kJ 0) ∧ (true = true) ∧ (kM (kE (kF bs))) ∧ (kJ (ka0 (kF bs))) ∧ (kN (ka0 (kF bs) : Int)) ∧ (kN 1) ∧ (kM [iD wk, iD wr, dl w wn, iD wz]) ∧ (kM [iD 0, iD 0, qT, iD 0]) ∧ (kM [iD (vI (kQ (kF bs) 0) wk 7), iD (q9 wr (mD bs)), dl (f0 w bs) (ka0 (f0 w bs)), iD (q9 wz (mC bs))])) zk ⟨rfl, rfl, rfl, (by first | rfl | assumption | simp), rfl, rfl, rfl, rfl, rfl, rfl, rfl⟩ ?_
 rintro ⟨⟨j, yk, yr, u, yz⟩, hinv0⟩
 obtain ⟨hj, hE, hy⟩ : (1 ≤ j ∧ j ≤ ka0 (kF bs)) ∧ (BE (kF bs) wk wr w wz j yk yr u yz) ∧ ((0 ≤ yk ∧ yk ≤ 7) ∧ (0 ≤ yr ∧ yr ≤ 2147483647) ∧ (0 ≤ yz ∧ yz ≤ 2147483647) ∧ ka0 u ≤ 1000000) := hinv0
 refine qR (l := [(3, rV 0 0), (4, rV 1 0), (6, rV 2 0), (7, bV true), (12, kG (kE (kF bs)) (ka0 (kF bs))), (13, uV (ka0 (kF bs))), (14, uV j)]) (g := [(0, some (27, (a8 wk wr w wn wz))), (1, some (27, vM)), (2, some (27, (fZ yk yr u yz)))]) (nx := 5) rfl rfl rfl ?_
 by_cases hx12 : (((j : Nat) : Int) < (((ka0 (kF bs)) : Nat) : Int))
 ·refine kK [.b true] (((j : Int) < (ka0 (kF bs) : Int))) [(3, rV 0 0), (4, rV 1 0), (6, rV 2 0), (7, bV true), (12, kG (kE (kF bs)) (ka0 (kF bs))), (13, uV (ka0 (kF bs))), (14, uV j), (15, bV true)] [(0, some (27, (a8 wk wr w wn wz))), (1, some (27, vM)), (2, some (27, (fZ yk yr u yz)))] 5 zo ?_
  refine AW.seq ?_
  refine vB ?_
  refine AW.seq ?_
  refine AW.block ?_
  obtain ⟨hx13, hx14, hx15, hx16, hx17⟩ := BsW.at (bK (qD : BsW bs)) (j)
  have hx18 : ((1 : Nat) ≤ (ka0 (kL (kF bs) j))) := mU zo
  refine kK [.n j, .ds [iD (kQ (kF bs) j), dl (kZ (kF bs) j) (kX (kF bs) j), D.sl (kI (kL (kF bs) j)) (ka0 (kL (kF bs) j)), dl (qA (kF bs) j) (k8 (kF bs) j)], .no, .no] ((kN (j : Int)) ∧ (j < (ka0 (kF bs))) ∧ (List.take 4 (ka3 (j * 4) (kE (kF bs))) = [iD (kQ (kF bs) j), dl (kZ (kF bs) j) (kX (kF bs) j), D.sl (kI (kL (kF bs) j)) (ka0 (kL (kF bs) j)), dl (qA (kF bs) j) (k8 (kF bs) j)]) ∧ (([iD (kQ (kF bs) j), dl (kZ (kF bs) j) (kX (kF bs) j), D.sl (kI (kL (kF bs) j)) (ka0 (kL (kF bs) j)), dl (qA (kF bs) j) (k8 (kF bs) j)] : List D).length = 4)) [(3, rV 0 0), (4, rV 1 0), (6, rV 2 0), (7, bV true), (9, rV 5 0), (12, kG (kE (kF bs)) (ka0 (kF bs))), (13, uV (ka0 (kF bs))), (14, uV j)] [(0, some (27, (a8 wk wr w wn wz))), (1, some (27, vM)), (2, some (27, (fZ yk yr u yz))), (5, some (59, .ds [iD (kQ (kF bs) j), dl (kZ (kF bs) j) (kX (kF bs) j), D.sl (kI (kL (kF bs) j)) (ka0 (kL (kF bs) j)), dl (qA (kF bs) j) (k8 (kF bs) j)]))] 6 ⟨rfl, zo, (yV lW), rfl⟩ ?_
  have hx19 : (((0 : Int) ≤ (vI (kQ (kF bs) j) wk 7)) ∧ ((vI (kQ (kF bs) j) wk 7) ≤ 7)) := mW (kQ (kF bs) j) wk 7
  have hx20 : (((0 : Int) ≤ (q9 wr (vX bs j))) ∧ ((q9 wr (vX bs j)) ≤ 2147483647)) := d3 (yB)
  have hx21 : (((0 : Int) ≤ (q9 wz (vW bs j))) ∧ ((q9 wz (vW bs j)) ≤ 2147483647)) := d3 (yB)
  have hx22 : ((ka0 (yR w bs j)) ≤ 1000000) := k2p ((BsW.ms (bK (qD : BsW bs)) _)) (ka0 (kL (kF bs) j))
  refine kK [.no, .no, .call [] (.e (.agg [iC (vI (kQ (kF bs) j) wk 7), iC (q9 wr (vX bs j)), .d (dl (yR w bs j) (ka0 (yR w bs j))), iC (q9 wz (vW bs j))])) [] 0 [] none, .no, .no] _ [(3, rV 0 0), (4, rV 1 0), (6, rV 2 0), (7, bV true), (10, rV 6 0), (12, kG (kE (kF bs)) (ka0 (kF bs))), (13, uV (ka0 (kF bs))), (14, uV j)] [(0, some (27, (a8 wk wr w wn wz))), (1, some (27, vM)), (2, some (27, (fZ yk yr u yz))), (6, some (27, (k68 bs j wk wr w wz)))] 7 (k13 (kQ (kF bs) j) (kZ (kF bs) j) (kX (kF bs) j) (kL (kF bs) j) (ka0 (kL (kF bs) j)) (qA (kF bs) j) (k8 (kF bs) j) wk wr w wn wz yB yB rfl yB yB yB yB (BsW.ms (bK (qD : BsW bs)) _) zo zo zo zo) ?_
  by_cases hx24 : ((d8 wk wr wz (vI (kQ (kF bs) j) wk 7) (q9 wr (vX bs j)) (q9 wz (vW bs j)) yk yr yz w (yR w bs j) u) < 0)
  ·have hx25 : ((((-1) : Int) ≤ (d8 wk wr wz (vI (kQ (kF bs) j) wk 7) (q9 wr (vX bs j)) (q9 wz (vW bs j)) yk yr yz w (yR w bs j) u)) ∧ ((d8 wk wr wz (vI (kQ (kF bs) j) wk 7) (q9 wr (vX bs j)) (q9 wz (vW bs j)) yk yr yz w (yR w bs j) u) ≤ 1)) := oB ..
   refine kO (qE 6 [.call [] (iV (d8 wk wr wz (vI (kQ (kF bs) j) wk 7) (q9 wr (vX bs j)) (q9 wz (vW bs j)) yk yr yz w (yR w bs j) u)) [] 0 [] none, .b true, .no]) ((_) ∧ (((d8 wk wr wz (vI (kQ (kF bs) j) wk 7) (q9 wr (vX bs j)) (q9 wz (vW bs j)) yk yr yz w (yR w bs j) u) < 0))) [(3, rV 0 0), (4, rV 1 0), (6, rV 2 0), (7, bV true), (10, rV 6 0), (12, kG (kE (kF bs)) (ka0 (kF bs))), (13, uV (ka0 (kF bs))), (14, uV j), (29, bV true)] ⟨(s0 wk wr wz (vI (kQ (kF bs) j) wk 7) (q9 wr (vX bs j)) (q9 wz (vW bs j)) yk yr yz w (yR w bs j) u wn (ka0 (yR w bs j)) (ka0 u) zo rfl rfl zo yB zo zo yB zo zo yB zo), zo⟩ ?_
   refine zt ?_
   refine aH [.no, .no, .no] True [(3, rV 0 0), (4, rV 1 0), (6, rV 2 0), (7, bV true), (12, kG (kE (kF bs)) (ka0 (kF bs))), (13, uV (ka0 (kF bs))), (14, uV j)] [(0, some (27, (a8 wk wr w wn wz))), (1, some (27, vM)), (2, some (27, (k68 bs j wk wr w wz)))] 7 trivial ?_
   refine uT [.w, .no] ((-9223372036854775808) ≤ ((j : Int) + 1) ∧ ((j : Int) + 1) ≤ 9223372036854775807) [(3, rV 0 0), (4, rV 1 0), (6, rV 2 0), (7, bV true), (12, kG (kE (kF bs)) (ka0 (kF bs))), (13, uV (ka0 (kF bs))), (14, iV (↑j + 1))] ⟨by omega, by omega⟩ ?_
   exact kW ⟨(((j + 1) : Nat), ((vI (kQ (kF bs) j) wk 7) : Int), ((q9 wr (vX bs j)) : Int), ((yR w bs j) : List Int), ((q9 wz (vW bs j)) : Int)), ⟨cO, (by first | exact BE.y hE rfl rfl rfl rfl zo | exact BE.n hE zo zo), (by first | omega | assumption)⟩⟩ [] (P := (kJ 0) ∧ (kJ 0) ∧ (kJ 0) ∧ (true = true) ∧ (kM (kE (kF bs))) ∧ (kJ (ka0 (kF bs))) ∧ (kN (ka0 (kF bs) : Int)) ∧ (((((j + 1) : Nat) : Int) : Int) = ((j : Int) + 1)) ∧ (kM [iD wk, iD wr, dl w wn, iD wz]) ∧ (kM [iD 0, iD 0, qT, iD 0]) ∧ (kM [iD (vI (kQ (kF bs) j) wk 7), iD (q9 wr (vX bs j)), dl (yR w bs j) (ka0 (yR w bs j)), iD (q9 wz (vW bs j))])) zk ⟨rfl, rfl, rfl, (by first | rfl | assumption | simp), rfl, rfl, rfl, fQ, rfl, rfl, rfl⟩ (show ka0 (kF bs) - (j + 1) < ka0 (kF bs) - j from fP)
  ·have hx26 : ((((-1) : Int) ≤ (d8 wk wr wz (vI (kQ (kF bs) j) wk 7) (q9 wr (vX bs j)) (q9 wz (vW bs j)) yk yr yz w (yR w bs j) u)) ∧ ((d8 wk wr wz (vI (kQ (kF bs) j) wk 7) (q9 wr (vX bs j)) (q9 wz (vW bs j)) yk yr yz w (yR w bs j) u) ≤ 1)) := oB ..
   refine kO (qE 6 [.call [] (iV (d8 wk wr wz (vI (kQ (kF bs) j) wk 7) (q9 wr (vX bs j)) (q9 wz (vW bs j)) yk yr yz w (yR w bs j) u)) [] 0 [] none, .b false, .no]) ((_) ∧ (¬ ((d8 wk wr wz (vI (kQ (kF bs) j) wk 7) (q9 wr (vX bs j)) (q9 wz (vW bs j)) yk yr yz w (yR w bs j) u) < 0))) [(3, rV 0 0), (4, rV 1 0), (6, rV 2 0), (7, bV true), (10, rV 6 0), (12, kG (kE (kF bs)) (ka0 (kF bs))), (13, uV (ka0 (kF bs))), (14, uV j), (29, bV false)] ⟨(s0 wk wr wz (vI (kQ (kF bs) j) wk 7) (q9 wr (vX bs j)) (q9 wz (vW bs j)) yk yr yz w (yR w bs j) u wn (ka0 (yR w bs j)) (ka0 u) zo rfl rfl zo yB zo zo yB zo zo yB zo), zo⟩ ?_
   refine q8 ?_
   refine aH [.w, .no] ((-9223372036854775808) ≤ ((j : Int) + 1) ∧ ((j : Int) + 1) ≤ 9223372036854775807) [(3, rV 0 0), (4, rV 1 0), (6, rV 2 0), (7, bV true), (12, kG (kE (kF bs)) (ka0 (kF bs))), (13, uV (ka0 (kF bs))), (14, iV (↑j + 1))] [(0, some (27, (a8 wk wr w wn wz))), (1, some (27, vM)), (2, some (27, (fZ yk yr u yz)))] 7 ⟨by omega, by omega⟩ ?_
   exact kW ⟨(((j + 1) : Nat), (yk : Int), (yr : Int), (u : List Int), (yz : Int)), ⟨cO, (by first | exact BE.y hE rfl rfl rfl rfl zo | exact BE.n hE zo zo), (by first | omega | assumption)⟩⟩ [] (P := (kJ 0) ∧ (kJ 0) ∧ (kJ 0) ∧ (true = true) ∧ (kM (kE (kF bs))) ∧ (kJ (ka0 (kF bs))) ∧ (kN (ka0 (kF bs) : Int)) ∧ (((((j + 1) : Nat) : Int) : Int) = ((j : Int) + 1)) ∧ (kM [iD wk, iD wr, dl w wn, iD wz]) ∧ (kM [iD 0, iD 0, qT, iD 0]) ∧ (kM [iD yk, iD yr, dl u (ka0 u), iD yz])) zk ⟨rfl, rfl, rfl, (by first | rfl | assumption | simp), rfl, rfl, rfl, fQ, rfl, rfl, rfl⟩ (show ka0 (kF bs) - (j + 1) < ka0 (kF bs) - j from fP)
 ·refine kK [.b false] (¬ ((j : Int) < (ka0 (kF bs) : Int))) [(3, rV 0 0), (4, rV 1 0), (6, rV 2 0), (7, bV true), (12, kG (kE (kF bs)) (ka0 (kF bs))), (13, uV (ka0 (kF bs))), (14, uV j), (15, bV false)] [(0, some (27, (a8 wk wr w wn wz))), (1, some (27, vM)), (2, some (27, (fZ yk yr u yz)))] 5 zo ?_
  refine AW.seq ?_
  refine zf ?_
  refine AW.exit ?_
  refine kK [.no, .call [] (.e (.agg [iC yk, iC yr, .d (dl u (ka0 u)), iC yz])) [] 0 [] none, .no, .no, .no] _ [(4, rV 1 0), (5, bV true)] [(1, some (27, (fZ yk yr u yz)))] 5 (u17 yk yr u (ka0 u) yz rfl zo) ?_
  obtain ⟨hz1, hz2, hz3, hz4⟩ := hE.fin zo
  refine AW.ret ?_
  exact kA (.inr rfl) [] (P := (((beK bs wk wr w wz) : Int) = yk) ∧ (((zF bs wk wr w wz) : Int) = yr) ∧ (((dI .i64 (rE bs wk wr w wz)) : List D) = (dI .i64 u)) ∧ (((ka0 (rE bs wk wr w wz)) : Nat) = (ka0 u)) ∧ (((beZ bs wk wr w wz) : Int) = yz) ∧ (true = true)) zk ⟨(by first | rfl | exact hz1 | exact hz2 | exact hz4 | rw [hz3] | omega), (by first | rfl | exact hz1 | exact hz2 | exact hz4 | rw [hz3] | omega), (by first | rfl | rw [hz3]), (by first | rfl | exact hz1 | exact hz2 | exact hz4 | rw [hz3] | omega), (by first | rfl | exact hz1 | exact hz2 | exact hz4 | rw [hz3] | omega), rfl⟩
end Go.Proofs.YtcfmjpnffembpaaGreat
