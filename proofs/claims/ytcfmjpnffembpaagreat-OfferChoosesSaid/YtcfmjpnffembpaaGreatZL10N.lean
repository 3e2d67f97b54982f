/- The best choice, of the code. No statement is proved here. -/
import Derived.Test.YtcfmjpnffembpaaGreatZL10M
namespace Go.Proofs.YtcfmjpnffembpaaGreat
open Go.ChangeShapes Go.WideShapes Go.ChangeAt Go.RowKit
open List renaming drop → ka4, getD → ka1, length → ka0, length_append → ka6, length_cons → ka8, length_drop → kb0, length_map → kc0, length_nil → kb3, length_replicate → kb4, length_reverse → kc1, length_set → kb8, length_take → ka9
open Nat renaming le_of_ble_eq_true → ka5, mul_one → kc5
set_option linter.unusedVariables false
set_option linter.unusedSimpArgs false
set_option maxHeartbeats 4000000
set_option maxRecDepth 100000
theorem k7r (k r : Int) (m : List Int) (n : Nat) (hm : ka0 m = n) (h1 : n ≤ 1000000) : Fun 103 [.agg [iC k, iC r, .d (D.sl (dI .i64 m) n)]] (kK []) 0 (.e (.agg [iC k, iC r, .d (D.sl (dI .i64 m) n)])) (kK []) 0 := by
 refine Fun.mk (n := 8) Tryz.func103 rfl rfl (ka5 rfl) ?_
 intro cx hcx
 refine kL [.no, .no] True [(1, rV 0 0), (2, rV 1 0)] [(0, some (25, .ds [iD k, iD r, dl m n])), (1, some (25, .ds [iD 0, iD 0, k9]))] 2 trivial ?_
 refine kL [.no, .no, .call [] (oV 0 0 n 1) [(0, some (3, .ds (dI .i64 m)))] 1 [] none, .no, .no] _ [(1, rV 0 0), (2, rV 1 0)] [(0, some (25, .cs [iC k, iC r, .own 2 0 n 1 true])), (1, some (25, .ds [iD 0, iD 0, k9])), (2, some (3, .ds (dI .i64 m)))] 3 (l1 m n zo zo) ?_
 refine kL [.no, .no] True [(2, rV 1 0)] [(1, some (25, .cs [iC k, iC r, .own 2 0 n 1 true])), (2, some (3, .ds (dI .i64 m)))] 3 trivial ?_
 refine AW.freeze 2 (l' := [(2, rV 1 0)]) (g' := [(1, some (25, .ds [iD k, iD r, dl m n]))]) rfl (FzS.cons rfl (.same _) FzS.nil) (FzG.to (bc := .cs [iC k, iC r, .own 2 0 n 1 true]) rfl (by rfl) (FzL.cons (.same _) (FzL.cons (.same _) (FzL.cons (@FzC.own 2 ((dI .i64 m) : List D) 0 n 1 true ((dI .i64 m) : List D) (by rw [List.drop_zero, kc5, List.take_of_length_le (by first | omega | (simp only [qC, qB, qX, ka6, ka8, kb3, ka9, kb0, kb4, kb8, kc0, kc1, kc5] <;> omega))]) (by first | omega | (simp only [qC, qB, qX, ka6, ka8, kb3, ka9, kb0, kb4, kb8, kc0, kc1, kc5] <;> omega) | rfl)) FzL.nil))) FzG.nil) ?_
 refine AW.ret ?_
 exact kD (.inr rfl) [] (P := (kO k) ∧ (kO r) ∧ (kM (dI .i64 m)) ∧ (kH n)) zk ⟨rfl, rfl, rfl, rfl⟩
theorem xL (k r : Int) (m : List Int) (n : Nat) (z : Int) (hm : ka0 m = n) (h1 : n ≤ 1000000) : Fun 60 [.agg [iC k, iC r, .d (D.sl (dI .i64 m) n), iC z]] (kK []) 0 (.e (.agg [iC k, iC r, .d (D.sl (dI .i64 m) n), iC z])) (kK []) 0 := by
 refine Fun.mk (n := 8) Tryz.func60 rfl rfl (ka5 rfl) ?_
 intro cx hcx
 refine kL [.no, .no] True [(1, rV 0 0), (2, rV 1 0)] [(0, some (27, .ds [iD k, iD r, dl m n, iD z])), (1, some (27, .ds [iD 0, iD 0, k9, iD 0]))] 2 trivial ?_
 refine kP [.no, .no, .call [] (.e (.agg [iC k, iC r, .d (dl m n)])) [] 0 [] none, .no, .no] _ [(1, rV 0 0), (2, rV 1 0)] (k7r k r m n zo zo) ?_
 refine kL [.no, .no] True [(2, rV 1 0)] [(1, some (27, .ds [iD k, iD r, dl m n, iD z]))] 2 trivial ?_
 refine AW.ret ?_
 exact kD (.inr rfl) [] (P := (kO k) ∧ (kO r) ∧ (kM (dI .i64 m)) ∧ (kH n) ∧ (kO z)) zk ⟨rfl, rfl, rfl, rfl, rfl⟩
theorem k2g (w a b : List Int) (o n m : Nat) (wk wr wz : Int) (ho : ka0 w = o) (hn : ka0 a = n) (hm : ka0 b = m) (h1 : o ≤ 1000000) (h2 : n ≤ 1000000) (h3 : m ≤ 1000000) : Fun 102 [.c (.d (D.sl (dI .i64 a) n)), .c (.d (D.sl (dI .i64 b) m)), .c (.ptr 0 0)] (kK [(0, some (27, .ds [iD wk, iD wr, D.sl (dI .i64 w) o, iD wz]))]) 1 (iV (yR w a b)) (kK [(0, some (27, .ds [iD wk, iD wr, D.sl (dI .i64 w) o, iD wz]))]) 1 := by
 refine Fun.mk (n := 12) Tryz.func102 rfl rfl (ka5 rfl) ?_
 intro cx hcx
 refine kL [.no] True [(0, sV .i64 a n), (1, sV .i64 b m), (2, rV 0 0)] [(0, some (27, .ds [iD wk, iD wr, dl w o, iD wz]))] 1 trivial ?_
 have hx1 : ((((-1) : Int) ≤ (yR w a b)) ∧ ((yR w a b) ≤ 1)) := bY w a b
 refine kP (qA 5 [.call [] (iV (yR w a b)) [] 0 [] none, .no]) _ [(5, iV (yR w a b))] (k7h w a b o n m zo zo zo zo zo zo) ?_
 refine AW.ret ?_
 exact kD (.inr rfl) [] (P := (kO (yR w a b)) ∧ (kM [iD wk, iD wr, dl w o, iD wz])) zk ⟨rfl, rfl⟩
theorem jS {p : Prop} (h : p := by first | omega | (simp only [qC, qB, ka6, ka8, kb3, ka9, kb0] <;> omega)) : p := h
theorem cA {p : Prop} (h : p := by first | omega | assumption | simp) : p := h
theorem u6 {p : Prop} (h : p := by first | omega | with_reducible assumption | (simp only [qC, qB, ka6, ka8, kb3, ka9, kb0, kb4, kb8] <;> omega) | rfl | assumption) : p := h
theorem eN {p : Prop} (h : p := by first | rfl | omega | assumption | (simp; done) | (simp; omega)) : p := h
theorem eM {p : Prop} (h : p := by first | omega | (show _ < _; simp; omega)) : p := h
abbrev eY (wk : Int) (wr : Int) (w : List Int) (wn : Nat) (wz : Int) : BC := .ds [iD wk, iD wr, D.sl (dI .i64 w) wn, iD wz]
theorem u60 (m : List (List Int)) (c : Nat) (wk wr : Int) (w : List Int) (wn : Nat) (wz : Int) (hc : ka0 m = c) (h3 : c ≤ 1000000) (h4 : 1 ≤ c) (hW : MsW m) (hw : ka0 w = wn) (h5 : wn ≤ 1000000) : Fun 101 [.c (.d (D.sl (kJ m) c)), .c (.fn 102 [(0, 0)])] (kK [(0, some (27, .ds [iD wk, iD wr, D.sl (dI .i64 w) wn, iD wz]))]) 1 (sV .i64 (dG w m c) (ka0 (dG w m c))) (kK [(0, some (27, .ds [iD wk, iD wr, D.sl (dI .i64 w) wn, iD wz]))]) 1 := by
 refine Fun.mk (n := 33) Tryz.func101 rfl rfl (ka5 rfl) ?_
 intro cx hcx
 refine kL [.no] True [(0, kI (kJ m) c), (1, .e (.c (.fn 102 [(0, 0)])))] [(0, some (27, (eY wk wr w wn wz)))] 1 trivial ?_
 refine AW.seq ?_
 refine kP [.no, .no, .b false] (¬ ((c : Int) < 1)) [(0, kI (kJ m) c), (1, .e (.c (.fn 102 [(0, 0)]))), (9, bV false)] zo ?_
 refine uB ?_
 have hx1 : ((ka0 (ka1 m 0 ([] : List Int))) ≤ 1000000) := MsW.at (qF : MsW m) _
 refine kP [.no, .n 0, .d (dl (ka1 m 0 ([] : List Int)) (ka0 (ka1 m 0 ([] : List Int)))), .no] ((kO 0) ∧ ((0 : Nat) < c) ∧ ((ka4 0 (kJ m))[0]? = some (dl (ka1 m 0 ([] : List Int)) (ka0 (ka1 m 0 ([] : List Int)))))) [(0, kI (kJ m) c), (1, .e (.c (.fn 102 [(0, 0)]))), (5, sV .i64 (ka1 m 0 ([] : List Int)) (ka0 (ka1 m 0 ([] : List Int))))] ⟨rfl, zo, (aB _ _ jS)⟩ ?_
 refine AW.seq ?_
 refine kP [.no] True [(0, kI (kJ m) c), (1, .e (.c (.fn 102 [(0, 0)]))), (5, sV .i64 (ka1 m 0 ([] : List Int)) (ka0 (ka1 m 0 ([] : List Int)))), (6, iV 1)] trivial ?_
 refine AW.block ?_
 refine kZ 1 hcx (fun (x : {x : Nat × List Int // match x with | (j, u) => (1 ≤ j ∧ j ≤ c) ∧ (dG w m j = u) ∧ (ka0 u ≤ 1000000)}) => match x with | ⟨(j, u), _⟩ => (⟨[(0, kI (kJ m) c), (1, .e (.c (.fn 102 [(0, 0)]))), (5, sV .i64 u (ka0 u)), (6, uV j)], [(0, some (27, (eY wk wr w wn wz)))], 1⟩ : ES)) (fun x => match x with | ⟨(j, u), _⟩ => c - j) ⟨((1 : Nat), ((ka1 m 0 ([] : List Int)) : List Int)), ⟨cA, (u5j rfl), zo⟩⟩ [] (P := (kM (kJ m)) ∧ (kH c) ∧ (kM (dI .i64 (ka1 m 0 ([] : List Int)))) ∧ (kH (ka0 (ka1 m 0 ([] : List Int)))) ∧ (kO 1) ∧ (kM [iD wk, iD wr, dl w wn, iD wz])) zk ⟨rfl, rfl, rfl, rfl, rfl, rfl⟩ ?_
 rintro ⟨⟨j, u⟩, hinv0⟩
 obtain ⟨hj, hu, hul⟩ : (1 ≤ j ∧ j ≤ c) ∧ (dG w m j = u) ∧ (ka0 u ≤ 1000000) := hinv0
 refine qT (l := [(0, kI (kJ m) c), (1, .e (.c (.fn 102 [(0, 0)]))), (5, sV .i64 u (ka0 u)), (6, uV j)]) (g := [(0, some (27, (eY wk wr w wn wz)))]) (nx := 1) rfl rfl rfl ?_
 refine AW.seq ?_
 by_cases hx2 : (((j : Nat) : Int) < ((c : Nat) : Int))
 ·refine kL [.no, .no, .no, .b true] (((j : Int) < (c : Int))) [(0, kI (kJ m) c), (1, .e (.c (.fn 102 [(0, 0)]))), (5, sV .i64 u (ka0 u)), (6, uV j), (17, bV true)] [(0, some (27, (eY wk wr w wn wz)))] 1 zo ?_
  refine vP ?_
  refine AW.seq ?_
  refine AW.block ?_
  by_cases hx5 : ((yR w (ka1 m j ([] : List Int)) u) < 0)
  ·have hx6 : ((ka0 (ka1 m j ([] : List Int))) ≤ 1000000) := MsW.at (qF : MsW m) _
   have hx7 : ((((-1) : Int) ≤ (yR w (ka1 m j ([] : List Int)) u)) ∧ ((yR w (ka1 m j ([] : List Int)) u) ≤ 1)) := bY w (ka1 m j ([] : List Int)) u
   refine kP [.no, .no, .no, .n j, .d (dl (ka1 m j ([] : List Int)) (ka0 (ka1 m j ([] : List Int)))), .no, .call [0] (iV (yR w (ka1 m j ([] : List Int)) u)) [(0, some (27, (eY wk wr w wn wz)))] 1 [] none, .b true] ((kO (j : Int)) ∧ (j < c) ∧ ((ka4 j (kJ m))[0]? = some (dl (ka1 m j ([] : List Int)) (ka0 (ka1 m j ([] : List Int))))) ∧ (_) ∧ (((yR w (ka1 m j ([] : List Int)) u) < 0))) [(0, kI (kJ m) c), (1, .e (.c (.fn 102 [(0, 0)]))), (5, sV .i64 u (ka0 u)), (6, uV j), (27, bV true)] ⟨rfl, zo, (aB _ _ jS), (k2g w (ka1 m j ([] : List Int)) u wn (ka0 (ka1 m j ([] : List Int))) (ka0 u) wk wr wz zo rfl rfl zo u6 zo), zo⟩ ?_
   refine zt ?_
   refine uS [.no, .no, .n j, .d (dl (ka1 m j ([] : List Int)) (ka0 (ka1 m j ([] : List Int)))), .no] ((kO (j : Int)) ∧ (j < c) ∧ ((ka4 j (kJ m))[0]? = some (dl (ka1 m j ([] : List Int)) (ka0 (ka1 m j ([] : List Int)))))) [(0, kI (kJ m) c), (1, .e (.c (.fn 102 [(0, 0)]))), (5, sV .i64 (ka1 m j ([] : List Int)) (ka0 (ka1 m j ([] : List Int)))), (6, uV j)] ⟨rfl, zo, (aB _ _ jS)⟩ ?_
   refine uS [.no, .w, .no] ((-9223372036854775808) ≤ ((j : Int) + 1) ∧ ((j : Int) + 1) ≤ 9223372036854775807) [(0, kI (kJ m) c), (1, .e (.c (.fn 102 [(0, 0)]))), (5, sV .i64 (ka1 m j ([] : List Int)) (ka0 (ka1 m j ([] : List Int)))), (6, iV (↑j + 1))] ⟨by omega, by omega⟩ ?_
   exact kW ⟨(((j + 1) : Nat), ((ka1 m j ([] : List Int)) : List Int)), ⟨cA, (by first | exact k9w hu zo rfl | exact k9x hu zo zo), (by first | omega | assumption)⟩⟩ [] (P := (kM (kJ m)) ∧ (kH c) ∧ (kM (dI .i64 (ka1 m j ([] : List Int)))) ∧ (kH (ka0 (ka1 m j ([] : List Int)))) ∧ (((((j + 1) : Nat) : Int) : Int) = ((j : Int) + 1)) ∧ (kM [iD wk, iD wr, dl w wn, iD wz])) zk ⟨rfl, rfl, rfl, rfl, eN, rfl⟩ (show c - (j + 1) < c - j from eM)
  ·have hx8 : ((ka0 (ka1 m j ([] : List Int))) ≤ 1000000) := MsW.at (qF : MsW m) _
   have hx9 : ((((-1) : Int) ≤ (yR w (ka1 m j ([] : List Int)) u)) ∧ ((yR w (ka1 m j ([] : List Int)) u) ≤ 1)) := bY w (ka1 m j ([] : List Int)) u
   refine kP [.no, .no, .no, .n j, .d (dl (ka1 m j ([] : List Int)) (ka0 (ka1 m j ([] : List Int)))), .no, .call [0] (iV (yR w (ka1 m j ([] : List Int)) u)) [(0, some (27, (eY wk wr w wn wz)))] 1 [] none, .b false] ((kO (j : Int)) ∧ (j < c) ∧ ((ka4 j (kJ m))[0]? = some (dl (ka1 m j ([] : List Int)) (ka0 (ka1 m j ([] : List Int))))) ∧ (_) ∧ (¬ ((yR w (ka1 m j ([] : List Int)) u) < 0))) [(0, kI (kJ m) c), (1, .e (.c (.fn 102 [(0, 0)]))), (5, sV .i64 u (ka0 u)), (6, uV j), (27, bV false)] ⟨rfl, zo, (aB _ _ jS), (k2g w (ka1 m j ([] : List Int)) u wn (ka0 (ka1 m j ([] : List Int))) (ka0 u) wk wr wz zo rfl rfl zo u6 zo), zo⟩ ?_
   refine uB ?_
   refine uS [.no, .w, .no] ((-9223372036854775808) ≤ ((j : Int) + 1) ∧ ((j : Int) + 1) ≤ 9223372036854775807) [(0, kI (kJ m) c), (1, .e (.c (.fn 102 [(0, 0)]))), (5, sV .i64 u (ka0 u)), (6, iV (↑j + 1))] ⟨by omega, by omega⟩ ?_
   exact kW ⟨(((j + 1) : Nat), (u : List Int)), ⟨cA, (by first | exact k9w hu zo rfl | exact k9x hu zo zo), (by first | omega | assumption)⟩⟩ [] (P := (kM (kJ m)) ∧ (kH c) ∧ (kM (dI .i64 u)) ∧ (kH (ka0 u)) ∧ (((((j + 1) : Nat) : Int) : Int) = ((j : Int) + 1)) ∧ (kM [iD wk, iD wr, dl w wn, iD wz])) zk ⟨rfl, rfl, rfl, rfl, eN, rfl⟩ (show c - (j + 1) < c - j from eM)
 ·refine kL [.no, .no, .no, .b false] (¬ ((j : Int) < (c : Int))) [(0, kI (kJ m) c), (1, .e (.c (.fn 102 [(0, 0)]))), (5, sV .i64 u (ka0 u)), (6, uV j), (17, bV false)] [(0, some (27, (eY wk wr w wn wz)))] 1 zo ?_
  refine zf ?_
  refine AW.exit ?_
  refine kL [.no, .no] True [(4, sV .i64 u (ka0 u))] [(0, some (27, (eY wk wr w wn wz)))] 1 trivial ?_
  have hz2 : dG w m c = u := by have h9 := hu; rw [show j = c by omega] at h9; exact h9
  refine AW.ret ?_
  exact kD (.inr rfl) [] (P := (((dI .i64 (dG w m c)) : List D) = (dI .i64 u)) ∧ (((ka0 (dG w m c)) : Nat) = (ka0 u)) ∧ (kM [iD wk, iD wr, dl w wn, iD wz])) zk ⟨(by first | rfl | rw [hz2]), (by first | rfl | rw [hz2] | omega), rfl⟩
abbrev gX : BC := .ds [iD 0, iD 0, D.lit (.slice none 0 0), iD 0]
abbrev lA (k : Int) (r : List Int) (rn : Nat) (m : List (List Int)) (c : Nat) (s : List Int) (sn : Nat) : BC := .ds [iD k, D.sl (dI .i64 r) rn, D.sl (kJ m) c, D.sl (dI .i64 s) sn]
abbrev gW (wk : Int) (wr : Int) (w : List Int) (wn : Nat) (wz : Int) : BC := .ds [iD wk, iD wr, D.sl (dI .i64 w) wn, iD wz]
theorem xK (k : Int) (r : List Int) (rn : Nat) (m : List (List Int)) (c : Nat) (s : List Int) (sn : Nat) (wk wr : Int) (w : List Int) (wn : Nat) (wz : Int) (hr : ka0 r = rn * 2) (hs : ka0 s = sn * 2) (hc : ka0 m = c) (h1 : rn ≤ 1000000) (h2 : sn ≤ 1000000) (h3 : c ≤ 1000000) (h4 : 1 ≤ c) (hW : MsW m) (hw : ka0 w = wn) (h5 : wn ≤ 1000000) (hwr : -9223372036854775808 ≤ wr ∧ wr ≤ 9223372036854775807) (hwz : -9223372036854775808 ≤ wz ∧ wz ≤ 9223372036854775807) : Fun 59 [.agg [iC k, .d (D.sl (dI .i64 r) rn), .d (D.sl (kJ m) c), .d (D.sl (dI .i64 s) sn)], .agg [iC wk, iC wr, .d (D.sl (dI .i64 w) wn), iC wz]] (kK []) 0 (.e (.agg [iC (vS k wk 7), iC (q8 wr (kB r rn)), .d (D.sl (dI .i64 (dG w m c)) (ka0 (dG w m c))), iC (q8 wz (kB s sn))])) (kK []) 0 := by
 refine Fun.mk (n := 63) Tryz.func59 rfl rfl (ka5 rfl) ?_
 intro cx hcx
 refine kL [.no, .no, .no] True [(2, rV 0 0), (3, rV 1 0), (4, rV 2 0)] [(0, some (59, (lA k r rn m c s sn))), (1, some (27, (gW wk wr w wn wz))), (2, some (27, gX))] 3 trivial ?_
 refine kP [.no] True [(2, rV 0 0), (3, rV 1 0), (4, rV 2 0), (5, iV 0)] trivial ?_
 refine AW.seq ?_
 refine kP [.no] True [(2, rV 0 0), (3, rV 1 0), (4, rV 2 0), (5, iV 0), (6, iV 1)] trivial ?_
 refine AW.block ?_
 refine kZ 0 hcx (fun (x : {x : Nat × Int // match x with | (i, y) => (i ≤ 7 ∧ 0 ≤ y ∧ y ≤ 7) ∧ (vS k wk i = y)}) => match x with | ⟨(i, y), _⟩ => (⟨[(2, rV 0 0), (3, rV 1 0), (4, rV 2 0), (5, iV y), (6, iV ((i : Int) + 1))], [(0, some (59, (lA k r rn m c s sn))), (1, some (27, (gW wk wr w wn wz))), (2, some (27, gX))], 3⟩ : ES)) (fun x => match x with | ⟨(i, y), _⟩ => 7 - i) ⟨((0 : Nat), (0 : Int)), ⟨cA, rfl⟩⟩ [] (P := (kH 0) ∧ (kH 0) ∧ (kH 0) ∧ (kO 0) ∧ (kO 1) ∧ (kM [iD k, dl r rn, D.sl (kJ m) c, dl s sn]) ∧ (kM [iD wk, iD wr, dl w wn, iD wz]) ∧ (kM [iD 0, iD 0, k9, iD 0])) zk ⟨rfl, rfl, rfl, rfl, rfl, rfl, rfl, rfl⟩ ?_
 rintro ⟨⟨i, y⟩, hinv0⟩
 obtain ⟨hi, hy⟩ : (i ≤ 7 ∧ 0 ≤ y ∧ y ≤ 7) ∧ (vS k wk i = y) := hinv0
 refine qT (l := [(2, rV 0 0), (3, rV 1 0), (4, rV 2 0), (5, iV y), (6, iV ((i : Int) + 1))]) (g := [(0, some (59, (lA k r rn m c s sn))), (1, some (27, (gW wk wr w wn wz))), (2, some (27, gX))]) (nx := 3) rfl rfl rfl ?_
 refine AW.seq ?_
 by_cases hx1 : ((((i : Nat) : Int) + 1) ≤ 7)
 ·refine kL [.no, .b true] ((((i : Int) + 1) ≤ 7)) [(2, rV 0 0), (3, rV 1 0), (4, rV 2 0), (5, iV y), (6, iV (↑i + 1)), (13, bV true)] [(0, some (59, (lA k r rn m c s sn))), (1, some (27, (gW wk wr w wn wz))), (2, some (27, gX))] 3 zo ?_
  refine vP ?_
  refine AW.seq ?_
  refine AW.block ?_
  by_cases hx2 : ((uG (k / (((2 ^ (i + 1)) : Nat) : Int))) = 1)
  ·by_cases hx3 : (y = 0)
   ·refine kP [.no, .no, .no, .n (i + 1), .i (uG (k / (((2 ^ (i + 1)) : Nat) : Int))), .b true, .no, .no, .b true, .no, .no, .no] (((((i : Int) + 1) : Int) = (((i + 1) : Nat) : Int)) ∧ ((i + 1) ≤ 64) ∧ (qG .and .i64 (k / (((2 ^ (i + 1)) : Nat) : Int)) 1 = (uG (k / (((2 ^ (i + 1)) : Nat) : Int)))) ∧ (((uG (k / (((2 ^ (i + 1)) : Nat) : Int))) = 1)) ∧ ((y = 0))) [(2, rV 0 0), (3, rV 1 0), (4, rV 2 0), (5, iV y), (6, iV (↑i + 1)), (34, bV true)] ⟨(by first | rfl | omega), zo, rfl, zo, zo⟩ ?_
    refine zt ?_
    refine uS [.no, .no] True [(2, rV 0 0), (3, rV 1 0), (4, rV 2 0), (5, iV (↑i + 1)), (6, iV (↑i + 1))] trivial ?_
    refine uS [.no, .w, .no] ((-9223372036854775808) ≤ (((i : Int) + 1) + 1) ∧ (((i : Int) + 1) + 1) ≤ 9223372036854775807) [(2, rV 0 0), (3, rV 1 0), (4, rV 2 0), (5, iV (↑i + 1)), (6, iV ((↑i + 1) + 1))] ⟨by omega, by omega⟩ ?_
    exact kW ⟨(((i + 1) : Nat), (((i : Int) + 1) : Int)), ⟨cA, (by first | exact w9 hy (decide_eq_true ⟨by omega, by omega, by omega⟩) zo rfl | exact xB hy (decide_eq_false (fun e9 => by omega)) | exact xA hy zo zo)⟩⟩ [] (P := (kH 0) ∧ (kH 0) ∧ (kH 0) ∧ (kO ((i : Int) + 1)) ∧ ((((((i + 1) : Nat) : Int) + 1) : Int) = (((i : Int) + 1) + 1)) ∧ (kM [iD k, dl r rn, D.sl (kJ m) c, dl s sn]) ∧ (kM [iD wk, iD wr, dl w wn, iD wz]) ∧ (kM [iD 0, iD 0, k9, iD 0])) zk ⟨rfl, rfl, rfl, rfl, eN, rfl, rfl, rfl⟩ (show 7 - (i + 1) < 7 - i from eM)
   ·by_cases hx5 : ((vR wk (((i : Nat) : Int) + 1) y) < 0)
    ·have hx6 : ((((-1) : Int) ≤ (vR wk (((i : Nat) : Int) + 1) y)) ∧ ((vR wk (((i : Nat) : Int) + 1) y) ≤ 1)) := cX wk (((i : Nat) : Int) + 1) y
     refine kP (.no :: .no :: .no :: .n (i + 1) :: .i (uG (k / (((2 ^ (i + 1)) : Nat) : Int))) :: .b true :: .no :: .no :: .b false :: qA 6 [.call [] (iV (vR wk ((i : Int) + 1) y)) [] 0 [] none, .b true, .no, .no]) (((((i : Int) + 1) : Int) = (((i + 1) : Nat) : Int)) ∧ ((i + 1) ≤ 64) ∧ (qG .and .i64 (k / (((2 ^ (i + 1)) : Nat) : Int)) 1 = (uG (k / (((2 ^ (i + 1)) : Nat) : Int)))) ∧ (((uG (k / (((2 ^ (i + 1)) : Nat) : Int))) = 1)) ∧ (¬ (y = 0)) ∧ (_) ∧ (((vR wk ((i : Int) + 1) y) < 0))) [(2, rV 0 0), (3, rV 1 0), (4, rV 2 0), (5, iV y), (6, iV (↑i + 1)), (34, bV true)] ⟨(by first | rfl | omega), zo, rfl, zo, zo, (s6 wk ((i : Int) + 1) y), zo⟩ ?_
     refine zt ?_
     refine uS [.no, .no] True [(2, rV 0 0), (3, rV 1 0), (4, rV 2 0), (5, iV (↑i + 1)), (6, iV (↑i + 1))] trivial ?_
     refine uS [.no, .w, .no] ((-9223372036854775808) ≤ (((i : Int) + 1) + 1) ∧ (((i : Int) + 1) + 1) ≤ 9223372036854775807) [(2, rV 0 0), (3, rV 1 0), (4, rV 2 0), (5, iV (↑i + 1)), (6, iV ((↑i + 1) + 1))] ⟨by omega, by omega⟩ ?_
     exact kW ⟨(((i + 1) : Nat), (((i : Int) + 1) : Int)), ⟨cA, (by first | exact w9 hy (decide_eq_true ⟨by omega, by omega, by omega⟩) zo rfl | exact xB hy (decide_eq_false (fun e9 => by omega)) | exact xA hy zo zo)⟩⟩ [] (P := (kH 0) ∧ (kH 0) ∧ (kH 0) ∧ (kO ((i : Int) + 1)) ∧ ((((((i + 1) : Nat) : Int) + 1) : Int) = (((i : Int) + 1) + 1)) ∧ (kM [iD k, dl r rn, D.sl (kJ m) c, dl s sn]) ∧ (kM [iD wk, iD wr, dl w wn, iD wz]) ∧ (kM [iD 0, iD 0, k9, iD 0])) zk ⟨rfl, rfl, rfl, rfl, eN, rfl, rfl, rfl⟩ (show 7 - (i + 1) < 7 - i from eM)
    ·have hx7 : ((((-1) : Int) ≤ (vR wk (((i : Nat) : Int) + 1) y)) ∧ ((vR wk (((i : Nat) : Int) + 1) y) ≤ 1)) := cX wk (((i : Nat) : Int) + 1) y
     refine kP (.no :: .no :: .no :: .n (i + 1) :: .i (uG (k / (((2 ^ (i + 1)) : Nat) : Int))) :: .b true :: .no :: .no :: .b false :: qA 6 [.call [] (iV (vR wk ((i : Int) + 1) y)) [] 0 [] none, .b false, .no, .no]) (((((i : Int) + 1) : Int) = (((i + 1) : Nat) : Int)) ∧ ((i + 1) ≤ 64) ∧ (qG .and .i64 (k / (((2 ^ (i + 1)) : Nat) : Int)) 1 = (uG (k / (((2 ^ (i + 1)) : Nat) : Int)))) ∧ (((uG (k / (((2 ^ (i + 1)) : Nat) : Int))) = 1)) ∧ (¬ (y = 0)) ∧ (_) ∧ (¬ ((vR wk ((i : Int) + 1) y) < 0))) [(2, rV 0 0), (3, rV 1 0), (4, rV 2 0), (5, iV y), (6, iV (↑i + 1)), (34, bV false)] ⟨(by first | rfl | omega), zo, rfl, zo, zo, (s6 wk ((i : Int) + 1) y), zo⟩ ?_
     refine uB ?_
     refine uS [.no, .w, .no] ((-9223372036854775808) ≤ (((i : Int) + 1) + 1) ∧ (((i : Int) + 1) + 1) ≤ 9223372036854775807) [(2, rV 0 0), (3, rV 1 0), (4, rV 2 0), (5, iV y), (6, iV ((↑i + 1) + 1))] ⟨by omega, by omega⟩ ?_
     exact kW ⟨(((i + 1) : Nat), (y : Int)), ⟨cA, (by first | exact w9 hy (decide_eq_true ⟨by omega, by omega, by omega⟩) zo rfl | exact xB hy (decide_eq_false (fun e9 => by omega)) | exact xA hy zo zo)⟩⟩ [] (P := (kH 0) ∧ (kH 0) ∧ (kH 0) ∧ (kO y) ∧ ((((((i + 1) : Nat) : Int) + 1) : Int) = (((i : Int) + 1) + 1)) ∧ (kM [iD k, dl r rn, D.sl (kJ m) c, dl s sn]) ∧ (kM [iD wk, iD wr, dl w wn, iD wz]) ∧ (kM [iD 0, iD 0, k9, iD 0])) zk ⟨rfl, rfl, rfl, rfl, eN, rfl, rfl, rfl⟩ (show 7 - (i + 1) < 7 - i from eM)
  ·refine kP [.no, .no, .no, .n (i + 1), .i (uG (k / (((2 ^ (i + 1)) : Nat) : Int))), .b false, .no, .no] (((((i : Int) + 1) : Int) = (((i + 1) : Nat) : Int)) ∧ ((i + 1) ≤ 64) ∧ (qG .and .i64 (k / (((2 ^ (i + 1)) : Nat) : Int)) 1 = (uG (k / (((2 ^ (i + 1)) : Nat) : Int)))) ∧ (¬ ((uG (k / (((2 ^ (i + 1)) : Nat) : Int))) = 1))) [(2, rV 0 0), (3, rV 1 0), (4, rV 2 0), (5, iV y), (6, iV (↑i + 1)), (34, bV false)] ⟨(by first | rfl | omega), zo, rfl, zo⟩ ?_
   refine uB ?_
   refine uS [.no, .w, .no] ((-9223372036854775808) ≤ (((i : Int) + 1) + 1) ∧ (((i : Int) + 1) + 1) ≤ 9223372036854775807) [(2, rV 0 0), (3, rV 1 0), (4, rV 2 0), (5, iV y), (6, iV ((↑i + 1) + 1))] ⟨by omega, by omega⟩ ?_
   exact kW ⟨(((i + 1) : Nat), (y : Int)), ⟨cA, (by first | exact w9 hy (decide_eq_true ⟨by omega, by omega, by omega⟩) zo rfl | exact xB hy (decide_eq_false (fun e9 => by omega)) | exact xA hy zo zo)⟩⟩ [] (P := (kH 0) ∧ (kH 0) ∧ (kH 0) ∧ (kO y) ∧ ((((((i + 1) : Nat) : Int) + 1) : Int) = (((i : Int) + 1) + 1)) ∧ (kM [iD k, dl r rn, D.sl (kJ m) c, dl s sn]) ∧ (kM [iD wk, iD wr, dl w wn, iD wz]) ∧ (kM [iD 0, iD 0, k9, iD 0])) zk ⟨rfl, rfl, rfl, rfl, eN, rfl, rfl, rfl⟩ (show 7 - (i + 1) < 7 - i from eM)
 ·refine kL [.no, .b false] (¬ (((i : Int) + 1) ≤ 7)) [(2, rV 0 0), (3, rV 1 0), (4, rV 2 0), (5, iV y), (6, iV (↑i + 1)), (13, bV false)] [(0, some (59, (lA k r rn m c s sn))), (1, some (27, (gW wk wr w wn wz))), (2, some (27, gX))] 3 zo ?_
  refine zf ?_
  refine AW.exit ?_
  refine kL (qA 5 (.call [] (.tup [iE (q8 wr (kB r rn)), .c (.d (D.lit (.bool (nrF wr (kB r rn)))))]) [] 0 [] none :: qA 5 [])) _ [(2, rV 0 0), (3, rV 1 0), (4, rV 2 0), (5, iV y), (7, iV (q8 wr (kB r rn)))] [(0, some (59, (lA k r rn m c s sn))), (1, some (27, (gW wk wr w wn wz))), (2, some (27, gX))] 3 (k7n r rn wr zo zo zo) ?_
  refine kP (qA 4 (.call [] (.tup [iE (q8 wz (kB s sn)), .c (.d (D.lit (.bool (nrF wz (kB s sn)))))]) [] 0 [] none :: qA 5 [])) _ [(2, rV 0 0), (3, rV 1 0), (4, rV 2 0), (5, iV y), (7, iV (q8 wr (kB r rn))), (9, iV (q8 wz (kB s sn)))] (k7n s sn wz zo zo zo) ?_
  have hx8 : ((ka0 (dG w m c)) ≤ 1000000) := k0d (qF : MsW m) c
  refine kL [.no, .no, .no, .call [1] (sV .i64 (dG w m c) (ka0 (dG w m c))) [(0, some (27, (gW wk wr w wn wz)))] 1 [] none, .no] _ [(4, rV 2 0), (5, iV y), (7, iV (q8 wr (kB r rn))), (9, iV (q8 wz (kB s sn))), (11, sV .i64 (dG w m c) (ka0 (dG w m c)))] [(2, some (27, gX))] 3 (u60 m c wk wr w wn wz zo zo zo (qF : MsW m) zo zo) ?_
  refine kL (qA 7 []) True [(4, rV 2 0)] [(2, some (27, .ds [iD y, iD (q8 wr (kB r rn)), dl (dG w m c) (ka0 (dG w m c)), iD (q8 wz (kB s sn))]))] 3 trivial ?_
  have hz1 : vS k wk 7 = y := by have h9 := hy; rw [show i = 7 by omega] at h9; exact h9
  refine AW.ret ?_
  exact kD (.inr rfl) [] (P := (((vS k wk 7) : Int) = y) ∧ (kO (q8 wr (kB r rn))) ∧ (kM (dI .i64 (dG w m c))) ∧ (kH (ka0 (dG w m c))) ∧ (kO (q8 wz (kB s sn)))) zk ⟨(by first | rfl | exact hz1 | omega), rfl, rfl, rfl, rfl⟩
abbrev yL (w : List Int) (bs : List Bx) (j : Nat) := dG w (kY (kE bs) j) (ka0 (kY (kE bs) j))
abbrev eX (w : List Int) (bs : List Bx) := dG w (kY (kE bs) 0) (ka0 (kY (kE bs) 0))
abbrev vU (bs : List Bx) (j : Nat) := kB (qR (kE bs) j) (qM (kE bs) j)
abbrev vT (bs : List Bx) (j : Nat) := kB (qS (kE bs) j) (qN (kE bs) j)
abbrev j9 (bs : List Bx) := kB (qR (kE bs) 0) (qM (kE bs) 0)
abbrev j8 (bs : List Bx) := kB (qS (kE bs) 0) (qN (kE bs) 0)
abbrev vI : BC := .ds [iD 0, iD 0, D.lit (.slice none 0 0), iD 0]
abbrev k3w (bs : List Bx) (j : Nat) (wk : Int) (wr : Int) (w : List Int) (wz : Int) : BC := .ds [iD (vS (qJ (kE bs) j) wk 7), iD (q8 wr (vU bs j)), D.sl (dI .i64 (yL w bs j)) (ka0 (yL w bs j)), iD (q8 wz (vT bs j))]
abbrev aQ (wk : Int) (wr : Int) (w : List Int) (wn : Nat) (wz : Int) : BC := .ds [iD wk, iD wr, D.sl (dI .i64 w) wn, iD wz]
abbrev eW (yk : Int) (yr : Int) (u : List Int) (yz : Int) : BC := .ds [iD yk, iD yr, D.sl (dI .i64 u) (ka0 u), iD yz]
abbrev k0m (bs : List Bx) (wk : Int) (wr : Int) (w : List Int) (wz : Int) : BC := .ds [iD (vS (qJ (kE bs) 0) wk 7), iD (q8 wr (j9 bs)), D.sl (dI .i64 (eX w bs)) (ka0 (eX w bs)), iD (q8 wz (j8 bs))]
theorem jK (bs : List Bx) (n : Nat) (wk wr : Int) (w : List Int) (wn : Nat) (wz : Int) (hn : ka0 bs = n) (h1 : n ≤ 1000000) (hW : BsW bs) (hw : ka0 w = wn) (h5 : wn ≤ 1000000) (hwr : -9223372036854775808 ≤ wr ∧ wr ≤ 9223372036854775807) (hwz : -9223372036854775808 ≤ wz ∧ wz ≤ 9223372036854775807) (h9 : 1 ≤ ka0 (kE bs)) : Fun 26 [.c (.d (D.sl (kF bs) n)), .agg [iC wk, iC wr, .d (D.sl (dI .i64 w) wn), iC wz]] (kK []) 0 (.tup [.agg [iC (vE bs wk wr w wz), iC (y8 bs wk wr w wz), .d (D.sl (dI .i64 (u1 bs wk wr w wz)) (ka0 (u1 bs wk wr w wz))), iC (vD bs wk wr w wz)], .c (.d (D.lit (.bool true)))]) (kK []) 0 := by
 refine Fun.mk (n := 35) Tryz.func26 rfl rfl (ka5 rfl) ?_
 intro cx hcx
 refine kL [.no, .no, .no] True [(0, kI (kF bs) n), (3, rV 0 0), (4, rV 1 0)] [(0, some (27, (aQ wk wr w wn wz))), (1, some (27, vI))] 2 trivial ?_
 refine kL [.no] True [(0, kI (kF bs) n), (3, rV 0 0), (4, rV 1 0), (6, rV 2 0)] [(0, some (27, (aQ wk wr w wn wz))), (1, some (27, vI)), (2, some (27, vI))] 3 trivial ?_
 refine kP [.no] True [(0, kI (kF bs) n), (3, rV 0 0), (4, rV 1 0), (6, rV 2 0), (7, bV false)] trivial ?_
 refine AW.seq ?_
 have hx1 : ((ka0 (kE bs)) ≤ n) := (by have h9 := eG bs; omega)
 refine kP [.no, .call [] (kI (kF (kE bs)) (ka0 (kE bs))) [] 0 [] none, .no, .no] _ [(3, rV 0 0), (4, rV 1 0), (6, rV 2 0), (7, bV false), (12, kI (kF (kE bs)) (ka0 (kE bs))), (13, uV (ka0 (kE bs))), (14, iV 0)] (jL bs n zo zo (qF : BsW bs)) ?_
 refine AW.block ?_
 refine tG 1 ?_
 refine AWp.s ?_
 refine kL [.b true] (((0 : Int) < (ka0 (kE bs) : Int))) [(3, rV 0 0), (4, rV 1 0), (6, rV 2 0), (7, bV false), (12, kI (kF (kE bs)) (ka0 (kE bs))), (13, uV (ka0 (kE bs))), (14, iV 0), (15, bV true)] [(0, some (27, (aQ wk wr w wn wz))), (1, some (27, vI)), (2, some (27, vI))] 3 zo ?_
 refine AW.seq ?_
 refine vP ?_
 refine AW.seq ?_
 refine AW.block ?_
 obtain ⟨hx2, hx3, hx4, hx5, hx6⟩ := BsW.at (aK (qF : BsW bs)) (0)
 have hx7 : ((1 : Nat) ≤ (ka0 (kY (kE bs) 0))) := lP zo
 refine kL [.n 0, .ds [iD (qJ (kE bs) 0), dl (qR (kE bs) 0) (qM (kE bs) 0), D.sl (kJ (kY (kE bs) 0)) (ka0 (kY (kE bs) 0)), dl (qS (kE bs) 0) (qN (kE bs) 0)], .no, .no] ((kO 0) ∧ ((0 : Nat) < (ka0 (kE bs))) ∧ (List.take 4 (ka4 0 (kF (kE bs))) = [iD (qJ (kE bs) 0), dl (qR (kE bs) 0) (qM (kE bs) 0), D.sl (kJ (kY (kE bs) 0)) (ka0 (kY (kE bs) 0)), dl (qS (kE bs) 0) (qN (kE bs) 0)]) ∧ (([iD (qJ (kE bs) 0), dl (qR (kE bs) 0) (qM (kE bs) 0), D.sl (kJ (kY (kE bs) 0)) (ka0 (kY (kE bs) 0)), dl (qS (kE bs) 0) (qN (kE bs) 0)] : List D).length = 4)) [(3, rV 0 0), (4, rV 1 0), (6, rV 2 0), (7, bV false), (9, rV 3 0), (12, kI (kF (kE bs)) (ka0 (kE bs))), (13, uV (ka0 (kE bs))), (14, iV 0)] [(0, some (27, (aQ wk wr w wn wz))), (1, some (27, vI)), (2, some (27, vI)), (3, some (59, .ds [iD (qJ (kE bs) 0), dl (qR (kE bs) 0) (qM (kE bs) 0), D.sl (kJ (kY (kE bs) 0)) (ka0 (kY (kE bs) 0)), dl (qS (kE bs) 0) (qN (kE bs) 0)]))] 4 ⟨rfl, zo, (cN (i := 0) jS), rfl⟩ ?_
 have hx8 : (((0 : Int) ≤ (vS (qJ (kE bs) 0) wk 7)) ∧ ((vS (qJ (kE bs) 0) wk 7) ≤ 7)) := lQ (qJ (kE bs) 0) wk 7
 have hx9 : (((0 : Int) ≤ (q8 wr (j9 bs))) ∧ ((q8 wr (j9 bs)) ≤ 2147483647)) := dD (u6)
 have hx10 : (((0 : Int) ≤ (q8 wz (j8 bs))) ∧ ((q8 wz (j8 bs)) ≤ 2147483647)) := dD (u6)
 have hx11 : ((ka0 (eX w bs)) ≤ 1000000) := k0d ((vM (aK (qF : BsW bs)) _)) (ka0 (kY (kE bs) 0))
 refine kL [.no, .no, .call [] (.e (.agg [iC (vS (qJ (kE bs) 0) wk 7), iC (q8 wr (j9 bs)), .d (dl (eX w bs) (ka0 (eX w bs))), iC (q8 wz (j8 bs))])) [] 0 [] none, .no, .no] _ [(3, rV 0 0), (4, rV 1 0), (6, rV 2 0), (7, bV false), (10, rV 4 0), (12, kI (kF (kE bs)) (ka0 (kE bs))), (13, uV (ka0 (kE bs))), (14, iV 0)] [(0, some (27, (aQ wk wr w wn wz))), (1, some (27, vI)), (2, some (27, vI)), (4, some (27, (k0m bs wk wr w wz)))] 5 (xK (qJ (kE bs) 0) (qR (kE bs) 0) (qM (kE bs) 0) (kY (kE bs) 0) (ka0 (kY (kE bs) 0)) (qS (kE bs) 0) (qN (kE bs) 0) wk wr w wn wz u6 u6 rfl u6 u6 u6 u6 (vM (aK (qF : BsW bs)) _) zo zo zo zo) ?_
 refine kP (qA 4 []) True [(3, rV 0 0), (4, rV 1 0), (6, rV 2 0), (7, bV false), (10, rV 4 0), (12, kI (kF (kE bs)) (ka0 (kE bs))), (13, uV (ka0 (kE bs))), (14, iV 0), (29, bV true)] trivial ?_
 refine zt ?_
 refine a5 [.no, .no, .no] True [(3, rV 0 0), (4, rV 1 0), (6, rV 2 0), (7, bV true), (12, kI (kF (kE bs)) (ka0 (kE bs))), (13, uV (ka0 (kE bs))), (14, iV 0)] [(0, some (27, (aQ wk wr w wn wz))), (1, some (27, vI)), (2, some (27, (k0m bs wk wr w wz)))] 5 trivial ?_
 refine uS [.w, .no] ((-9223372036854775808) ≤ (1 : Int) ∧ (1 : Int) ≤ 9223372036854775807) [(3, rV 0 0), (4, rV 1 0), (6, rV 2 0), (7, bV true), (12, kI (kF (kE bs)) (ka0 (kE bs))), (13, uV (ka0 (kE bs))), (14, iV 1)] ⟨by omega, by omega⟩ ?_
 refine AWp.z ?_
 refine kZ 0 hcx (fun (x : {x : Nat × Int × Int × List Int × Int // match x with | (j, yk, yr, u, yz) => (1 ≤ j ∧ j ≤ ka0 (kE bs)) ∧ (BE (kE bs) wk wr w wz j yk yr u yz) ∧ ((0 ≤ yk ∧ yk ≤ 7) ∧ (0 ≤ yr ∧ yr ≤ 2147483647) ∧ (0 ≤ yz ∧ yz ≤ 2147483647) ∧ ka0 u ≤ 1000000)}) => match x with | ⟨(j, yk, yr, u, yz), _⟩ => (⟨[(3, rV 0 0), (4, rV 1 0), (6, rV 2 0), (7, bV true), (12, kI (kF (kE bs)) (ka0 (kE bs))), (13, uV (ka0 (kE bs))), (14, uV j)], [(0, some (27, (aQ wk wr w wn wz))), (1, some (27, vI)), (2, some (27, (eW yk yr u yz)))], 5⟩ : ES)) (fun x => match x with | ⟨(j, yk, yr, u, yz), _⟩ => ka0 (kE bs) - j) ⟨((1 : Nat), ((vS (qJ (kE bs) 0) wk 7) : Int), ((q8 wr (j9 bs)) : Int), ((eX w bs) : List Int), ((q8 wz (j8 bs)) : Int)), ⟨cA, (BE.first rfl rfl rfl rfl), zo⟩⟩ [] (P := (kH 0) ∧ (kH 0) ∧ (kH 0) ∧ (true = true) ∧ (kM (kF (kE bs))) ∧ (kH (ka0 (kE bs))) ∧ (kO (ka0 (kE bs) : Int)) ∧ (kO 1) ∧ (kM [iD wk, iD wr, dl w wn, iD wz]) ∧ (kM [iD 0, iD 0, k9, iD 0]) ∧ (kM [iD (vS (qJ (kE bs) 0) wk 7), iD (q8 wr (j9 bs)), dl (eX w bs) (ka0 (eX w bs)), iD (q8 wz (j8 bs))])) zk ⟨rfl, rfl, rfl, (by first | rfl | assumption | simp), rfl, rfl, rfl, rfl, rfl, rfl, rfl⟩ ?_
 rintro ⟨⟨j, yk, yr, u, yz⟩, hinv0⟩
 obtain ⟨hj, hE, hy⟩ : (1 ≤ j ∧ j ≤ ka0 (kE bs)) ∧ (BE (kE bs) wk wr w wz j yk yr u yz) ∧ ((0 ≤ yk ∧ yk ≤ 7) ∧ (0 ≤ yr ∧ yr ≤ 2147483647) ∧ (0 ≤ yz ∧ yz ≤ 2147483647) ∧ ka0 u ≤ 1000000) := hinv0
 refine qT (l := [(3, rV 0 0), (4, rV 1 0), (6, rV 2 0), (7, bV true), (12, kI (kF (kE bs)) (ka0 (kE bs))), (13, uV (ka0 (kE bs))), (14, uV j)]) (g := [(0, some (27, (aQ wk wr w wn wz))), (1, some (27, vI)), (2, some (27, (eW yk yr u yz)))]) (nx := 5) rfl rfl rfl ?_
 by_cases hx12 : (((j : Nat) : Int) < (((ka0 (kE bs)) : Nat) : Int))
 ·refine kL [.b true] (((j : Int) < (ka0 (kE bs) : Int))) [(3, rV 0 0), (4, rV 1 0), (6, rV 2 0), (7, bV true), (12, kI (kF (kE bs)) (ka0 (kE bs))), (13, uV (ka0 (kE bs))), (14, uV j), (15, bV true)] [(0, some (27, (aQ wk wr w wn wz))), (1, some (27, vI)), (2, some (27, (eW yk yr u yz)))] 5 zo ?_
  refine AW.seq ?_
  refine vP ?_
  refine AW.seq ?_
  refine AW.block ?_
  obtain ⟨hx13, hx14, hx15, hx16, hx17⟩ := BsW.at (aK (qF : BsW bs)) (j)
  have hx18 : ((1 : Nat) ≤ (ka0 (kY (kE bs) j))) := lP zo
  refine kL [.n j, .ds [iD (qJ (kE bs) j), dl (qR (kE bs) j) (qM (kE bs) j), D.sl (kJ (kY (kE bs) j)) (ka0 (kY (kE bs) j)), dl (qS (kE bs) j) (qN (kE bs) j)], .no, .no] ((kO (j : Int)) ∧ (j < (ka0 (kE bs))) ∧ (List.take 4 (ka4 (j * 4) (kF (kE bs))) = [iD (qJ (kE bs) j), dl (qR (kE bs) j) (qM (kE bs) j), D.sl (kJ (kY (kE bs) j)) (ka0 (kY (kE bs) j)), dl (qS (kE bs) j) (qN (kE bs) j)]) ∧ (([iD (qJ (kE bs) j), dl (qR (kE bs) j) (qM (kE bs) j), D.sl (kJ (kY (kE bs) j)) (ka0 (kY (kE bs) j)), dl (qS (kE bs) j) (qN (kE bs) j)] : List D).length = 4)) [(3, rV 0 0), (4, rV 1 0), (6, rV 2 0), (7, bV true), (9, rV 5 0), (12, kI (kF (kE bs)) (ka0 (kE bs))), (13, uV (ka0 (kE bs))), (14, uV j)] [(0, some (27, (aQ wk wr w wn wz))), (1, some (27, vI)), (2, some (27, (eW yk yr u yz))), (5, some (59, .ds [iD (qJ (kE bs) j), dl (qR (kE bs) j) (qM (kE bs) j), D.sl (kJ (kY (kE bs) j)) (ka0 (kY (kE bs) j)), dl (qS (kE bs) j) (qN (kE bs) j)]))] 6 ⟨rfl, zo, (cN jS), rfl⟩ ?_
  have hx19 : (((0 : Int) ≤ (vS (qJ (kE bs) j) wk 7)) ∧ ((vS (qJ (kE bs) j) wk 7) ≤ 7)) := lQ (qJ (kE bs) j) wk 7
  have hx20 : (((0 : Int) ≤ (q8 wr (vU bs j))) ∧ ((q8 wr (vU bs j)) ≤ 2147483647)) := dD (u6)
  have hx21 : (((0 : Int) ≤ (q8 wz (vT bs j))) ∧ ((q8 wz (vT bs j)) ≤ 2147483647)) := dD (u6)
  have hx22 : ((ka0 (yL w bs j)) ≤ 1000000) := k0d ((vM (aK (qF : BsW bs)) _)) (ka0 (kY (kE bs) j))
  refine kL [.no, .no, .call [] (.e (.agg [iC (vS (qJ (kE bs) j) wk 7), iC (q8 wr (vU bs j)), .d (dl (yL w bs j) (ka0 (yL w bs j))), iC (q8 wz (vT bs j))])) [] 0 [] none, .no, .no] _ [(3, rV 0 0), (4, rV 1 0), (6, rV 2 0), (7, bV true), (10, rV 6 0), (12, kI (kF (kE bs)) (ka0 (kE bs))), (13, uV (ka0 (kE bs))), (14, uV j)] [(0, some (27, (aQ wk wr w wn wz))), (1, some (27, vI)), (2, some (27, (eW yk yr u yz))), (6, some (27, (k3w bs j wk wr w wz)))] 7 (xK (qJ (kE bs) j) (qR (kE bs) j) (qM (kE bs) j) (kY (kE bs) j) (ka0 (kY (kE bs) j)) (qS (kE bs) j) (qN (kE bs) j) wk wr w wn wz u6 u6 rfl u6 u6 u6 u6 (vM (aK (qF : BsW bs)) _) zo zo zo zo) ?_
  by_cases hx24 : ((vO wk wr wz (vS (qJ (kE bs) j) wk 7) (q8 wr (vU bs j)) (q8 wz (vT bs j)) yk yr yz w (yL w bs j) u) < 0)
  ·have hx25 : ((((-1) : Int) ≤ (vO wk wr wz (vS (qJ (kE bs) j) wk 7) (q8 wr (vU bs j)) (q8 wz (vT bs j)) yk yr yz w (yL w bs j) u)) ∧ ((vO wk wr wz (vS (qJ (kE bs) j) wk 7) (q8 wr (vU bs j)) (q8 wz (vT bs j)) yk yr yz w (yL w bs j) u) ≤ 1)) := aE ..
   refine kP (qA 6 [.call [] (iV (vO wk wr wz (vS (qJ (kE bs) j) wk 7) (q8 wr (vU bs j)) (q8 wz (vT bs j)) yk yr yz w (yL w bs j) u)) [] 0 [] none, .b true, .no]) ((_) ∧ (((vO wk wr wz (vS (qJ (kE bs) j) wk 7) (q8 wr (vU bs j)) (q8 wz (vT bs j)) yk yr yz w (yL w bs j) u) < 0))) [(3, rV 0 0), (4, rV 1 0), (6, rV 2 0), (7, bV true), (10, rV 6 0), (12, kI (kF (kE bs)) (ka0 (kE bs))), (13, uV (ka0 (kE bs))), (14, uV j), (29, bV true)] ⟨(b9 wk wr wz (vS (qJ (kE bs) j) wk 7) (q8 wr (vU bs j)) (q8 wz (vT bs j)) yk yr yz w (yL w bs j) u wn (ka0 (yL w bs j)) (ka0 u) zo rfl rfl zo u6 zo zo u6 zo zo u6 zo), zo⟩ ?_
   refine zt ?_
   refine a5 [.no, .no, .no] True [(3, rV 0 0), (4, rV 1 0), (6, rV 2 0), (7, bV true), (12, kI (kF (kE bs)) (ka0 (kE bs))), (13, uV (ka0 (kE bs))), (14, uV j)] [(0, some (27, (aQ wk wr w wn wz))), (1, some (27, vI)), (2, some (27, (k3w bs j wk wr w wz)))] 7 trivial ?_
   refine uS [.w, .no] ((-9223372036854775808) ≤ ((j : Int) + 1) ∧ ((j : Int) + 1) ≤ 9223372036854775807) [(3, rV 0 0), (4, rV 1 0), (6, rV 2 0), (7, bV true), (12, kI (kF (kE bs)) (ka0 (kE bs))), (13, uV (ka0 (kE bs))), (14, iV (↑j + 1))] ⟨by omega, by omega⟩ ?_
   exact kW ⟨(((j + 1) : Nat), ((vS (qJ (kE bs) j) wk 7) : Int), ((q8 wr (vU bs j)) : Int), ((yL w bs j) : List Int), ((q8 wz (vT bs j)) : Int)), ⟨cA, (by first | exact BE.y hE rfl rfl rfl rfl zo | exact BE.n hE zo zo), (by first | omega | assumption)⟩⟩ [] (P := (kH 0) ∧ (kH 0) ∧ (kH 0) ∧ (true = true) ∧ (kM (kF (kE bs))) ∧ (kH (ka0 (kE bs))) ∧ (kO (ka0 (kE bs) : Int)) ∧ (((((j + 1) : Nat) : Int) : Int) = ((j : Int) + 1)) ∧ (kM [iD wk, iD wr, dl w wn, iD wz]) ∧ (kM [iD 0, iD 0, k9, iD 0]) ∧ (kM [iD (vS (qJ (kE bs) j) wk 7), iD (q8 wr (vU bs j)), dl (yL w bs j) (ka0 (yL w bs j)), iD (q8 wz (vT bs j))])) zk ⟨rfl, rfl, rfl, (by first | rfl | assumption | simp), rfl, rfl, rfl, eN, rfl, rfl, rfl⟩ (show ka0 (kE bs) - (j + 1) < ka0 (kE bs) - j from eM)
  ·have hx26 : ((((-1) : Int) ≤ (vO wk wr wz (vS (qJ (kE bs) j) wk 7) (q8 wr (vU bs j)) (q8 wz (vT bs j)) yk yr yz w (yL w bs j) u)) ∧ ((vO wk wr wz (vS (qJ (kE bs) j) wk 7) (q8 wr (vU bs j)) (q8 wz (vT bs j)) yk yr yz w (yL w bs j) u) ≤ 1)) := aE ..
   refine kP (qA 6 [.call [] (iV (vO wk wr wz (vS (qJ (kE bs) j) wk 7) (q8 wr (vU bs j)) (q8 wz (vT bs j)) yk yr yz w (yL w bs j) u)) [] 0 [] none, .b false, .no]) ((_) ∧ (¬ ((vO wk wr wz (vS (qJ (kE bs) j) wk 7) (q8 wr (vU bs j)) (q8 wz (vT bs j)) yk yr yz w (yL w bs j) u) < 0))) [(3, rV 0 0), (4, rV 1 0), (6, rV 2 0), (7, bV true), (10, rV 6 0), (12, kI (kF (kE bs)) (ka0 (kE bs))), (13, uV (ka0 (kE bs))), (14, uV j), (29, bV false)] ⟨(b9 wk wr wz (vS (qJ (kE bs) j) wk 7) (q8 wr (vU bs j)) (q8 wz (vT bs j)) yk yr yz w (yL w bs j) u wn (ka0 (yL w bs j)) (ka0 u) zo rfl rfl zo u6 zo zo u6 zo zo u6 zo), zo⟩ ?_
   refine uB ?_
   refine a5 [.w, .no] ((-9223372036854775808) ≤ ((j : Int) + 1) ∧ ((j : Int) + 1) ≤ 9223372036854775807) [(3, rV 0 0), (4, rV 1 0), (6, rV 2 0), (7, bV true), (12, kI (kF (kE bs)) (ka0 (kE bs))), (13, uV (ka0 (kE bs))), (14, iV (↑j + 1))] [(0, some (27, (aQ wk wr w wn wz))), (1, some (27, vI)), (2, some (27, (eW yk yr u yz)))] 7 ⟨by omega, by omega⟩ ?_
   exact kW ⟨(((j + 1) : Nat), (yk : Int), (yr : Int), (u : List Int), (yz : Int)), ⟨cA, (by first | exact BE.y hE rfl rfl rfl rfl zo | exact BE.n hE zo zo), (by first | omega | assumption)⟩⟩ [] (P := (kH 0) ∧ (kH 0) ∧ (kH 0) ∧ (true = true) ∧ (kM (kF (kE bs))) ∧ (kH (ka0 (kE bs))) ∧ (kO (ka0 (kE bs) : Int)) ∧ (((((j + 1) : Nat) : Int) : Int) = ((j : Int) + 1)) ∧ (kM [iD wk, iD wr, dl w wn, iD wz]) ∧ (kM [iD 0, iD 0, k9, iD 0]) ∧ (kM [iD yk, iD yr, dl u (ka0 u), iD yz])) zk ⟨rfl, rfl, rfl, (by first | rfl | assumption | simp), rfl, rfl, rfl, eN, rfl, rfl, rfl⟩ (show ka0 (kE bs) - (j + 1) < ka0 (kE bs) - j from eM)
 ·refine kL [.b false] (¬ ((j : Int) < (ka0 (kE bs) : Int))) [(3, rV 0 0), (4, rV 1 0), (6, rV 2 0), (7, bV true), (12, kI (kF (kE bs)) (ka0 (kE bs))), (13, uV (ka0 (kE bs))), (14, uV j), (15, bV false)] [(0, some (27, (aQ wk wr w wn wz))), (1, some (27, vI)), (2, some (27, (eW yk yr u yz)))] 5 zo ?_
  refine AW.seq ?_
  refine zf ?_
  refine AW.exit ?_
  refine kL [.no, .call [] (.e (.agg [iC yk, iC yr, .d (dl u (ka0 u)), iC yz])) [] 0 [] none, .no, .no, .no] _ [(4, rV 1 0), (5, bV true)] [(1, some (27, (eW yk yr u yz)))] 5 (xL yk yr u (ka0 u) yz rfl zo) ?_
  obtain ⟨hz1, hz2, hz3, hz4⟩ := hE.fin zo
  refine AW.ret ?_
  exact kD (.inr rfl) [] (P := (((vE bs wk wr w wz) : Int) = yk) ∧ (((y8 bs wk wr w wz) : Int) = yr) ∧ (((dI .i64 (u1 bs wk wr w wz)) : List D) = (dI .i64 u)) ∧ (((ka0 (u1 bs wk wr w wz)) : Nat) = (ka0 u)) ∧ (((vD bs wk wr w wz) : Int) = yz) ∧ (true = true)) zk ⟨(by first | rfl | exact hz1 | exact hz2 | exact hz4 | rw [hz3] | omega), (by first | rfl | exact hz1 | exact hz2 | exact hz4 | rw [hz3] | omega), (by first | rfl | rw [hz3]), (by first | rfl | exact hz1 | exact hz2 | exact hz4 | rw [hz3] | omega), (by first | rfl | exact hz1 | exact hz2 | exact hz4 | rw [hz3] | omega), rfl⟩
abbrev nC : BC := .ds [iD 0, iD 0, D.lit (.slice none 0 0), iD 0]
theorem mZ (bs : List Bx) (n : Nat) (wk wr : Int) (w : List Int) (wn : Nat) (wz : Int) (hn : ka0 bs = n) (h1 : n ≤ 1000000) (hW : BsW bs) (hw : ka0 w = wn) (h5 : wn ≤ 1000000) (hwr : -9223372036854775808 ≤ wr ∧ wr ≤ 9223372036854775807) (hwz : -9223372036854775808 ≤ wz ∧ wz ≤ 9223372036854775807) (h9 : ka0 (kE bs) = 0) : Fun 26 [.c (.d (D.sl (kF bs) n)), .agg [iC wk, iC wr, .d (D.sl (dI .i64 w) wn), iC wz]] (kK []) 0 (.tup [.agg [iC 0, iC 0, .d (D.sl ([] : List D) 0), iC 0], .c (.d (D.lit (.bool false)))]) (kK []) 0 := by
 refine Fun.mk (n := 35) Tryz.func26 rfl rfl (ka5 rfl) ?_
 intro cx hcx
 refine kL [.no, .no, .no] True [(0, kI (kF bs) n), (3, rV 0 0), (4, rV 1 0)] [(0, some (27, .ds [iD wk, iD wr, dl w wn, iD wz])), (1, some (27, nC))] 2 trivial ?_
 refine kL [.no] True [(0, kI (kF bs) n), (3, rV 0 0), (4, rV 1 0), (6, rV 2 0)] [(0, some (27, .ds [iD wk, iD wr, dl w wn, iD wz])), (1, some (27, nC)), (2, some (27, nC))] 3 trivial ?_
 refine kP [.no] True [(0, kI (kF bs) n), (3, rV 0 0), (4, rV 1 0), (6, rV 2 0), (7, bV false)] trivial ?_
 refine AW.seq ?_
 have hx1 : ((ka0 (kE bs)) ≤ n) := (by have h9 := eG bs; omega)
 refine kP [.no, .call [] (kI (kF (kE bs)) (ka0 (kE bs))) [] 0 [] none, .no, .no] _ [(3, rV 0 0), (4, rV 1 0), (6, rV 2 0), (7, bV false), (12, kI (kF (kE bs)) (ka0 (kE bs))), (13, uV (ka0 (kE bs))), (14, iV 0)] (jL bs n zo zo (qF : BsW bs)) ?_
 refine AW.block ?_
 refine AW.rounds 1 ?_
 refine AWr.s ?_
 refine kL [.b false] (¬ ((0 : Int) < (ka0 (kE bs) : Int))) [(3, rV 0 0), (4, rV 1 0), (6, rV 2 0), (7, bV false), (12, kI (kF (kE bs)) (ka0 (kE bs))), (13, uV (ka0 (kE bs))), (14, iV 0), (15, bV false)] [(0, some (27, .ds [iD wk, iD wr, dl w wn, iD wz])), (1, some (27, nC)), (2, some (27, nC))] 3 zo ?_
 refine AW.seq ?_
 refine zf ?_
 refine AW.exit ?_
 refine eH (l' := [(3, rV 0 0), (4, rV 1 0), (6, rV 2 0), (7, bV false), (12, kI (kF (kE bs)) (ka0 (kE bs))), (13, uV (ka0 (kE bs))), (14, iV 0), (15, bV false)]) (g' := [(0, some (27, .ds [iD wk, iD wr, dl w wn, iD wz])), (1, some (27, .ds [iD 0, iD 0, D.sl ([] : List D) 0, iD 0])), (2, some (27, .ds [iD 0, iD 0, D.sl ([] : List D) 0, iD 0]))]) (NlS.cons rfl (.same _) (NlS.cons rfl (.same _) (NlS.cons rfl (.same _) (NlS.cons rfl (.same _) (NlS.cons rfl (.same _) (NlS.cons rfl (.same _) (NlS.cons rfl (.same _) (NlS.cons rfl (.same _) NlS.nil)))))))) (k7q rfl (NlG.to (bc := .ds [iD 0, iD 0, k9, iD 0]) rfl (NlL.cons (.same _) (NlL.cons (.same _) (NlL.cons (.nil) (NlL.cons (.same _) NlL.nil)))) (NlG.to (bc := .ds [iD 0, iD 0, k9, iD 0]) rfl (NlL.cons (.same _) (NlL.cons (.same _) (NlL.cons (.nil) (NlL.cons (.same _) NlL.nil)))) NlG.nil))) ?_
 refine kL [.no, .call [] (.e (.agg [iC 0, iC 0, .d (dl ([] : List Int) 0), iC 0])) [] 0 [] none, .no, .no, .no] _ [(4, rV 1 0), (5, bV false)] [(1, some (27, .ds [iD 0, iD 0, dl ([] : List Int) 0, iD 0]))] 3 (xL 0 0 ([] : List Int) 0 0 u6 zo) ?_
 refine AW.ret ?_
 exact kD (.inr rfl) [] (P := (kO 0) ∧ (kO 0) ∧ ((([] : List D) : List D) = (dI .i64 ([] : List Int))) ∧ (kH 0) ∧ (kO 0) ∧ (false = false)) zk ⟨rfl, rfl, (by first | rfl | with_reducible assumption | (simp only [b5, v6, yF]; rfl) | (congr 1; first | assumption | (simp; done) | omega)), rfl, rfl, rfl⟩
end Go.Proofs.YtcfmjpnffembpaaGreat
