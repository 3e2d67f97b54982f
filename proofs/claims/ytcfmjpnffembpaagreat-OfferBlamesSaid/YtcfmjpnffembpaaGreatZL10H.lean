/- Choices out of dice. No statement is proved here. -/
import Derived.Test.YtcfmjpnffembpaaGreatZL10G
namespace Go.Proofs.YtcfmjpnffembpaaGreat
open Go.ChangeShapes Go.WideShapes Go.ChangeAt Go.RowKit
open List renaming drop → ka3, getD → ka1, length → ka0, length_append → ka6, length_cons → kb0, length_drop → kb3, length_nil → kb1, length_replicate → kb4, length_set → kb8, length_take → kb2, take → ka5
open Nat renaming le_of_ble_eq_true → ka4
set_option linter.unusedVariables false
set_option linter.unusedSimpArgs false
set_option maxHeartbeats 4000000
set_option maxRecDepth 100000
theorem v1b (l : List Int) (hb : Byt l) : ∃ (ma : List Int) (u : List Int), (1 ≤ ka0 ma ∧ ka0 ma ≤ 6) ∧ (Byt u) ∧ (Fun 58 [.c (.ptr 0 0)] (kH [(0, some (95, .ds [D.sl (dI .u8 l) (ka0 l)]))]) 1 (sV .i64 ma (ka0 ma)) (kH [(0, some (95, .ds [D.sl (dI .u8 u) (ka0 u)]))]) 1) := ⟨(yG l), (kB l 7), (k3s hb), qH 7 hb, u5g l hb⟩
theorem u3l (bs : List Bx) (n : Nat) (wk wr : Int) (w : List Int) (wn : Nat) (wz : Int) (hn : ka0 bs = n) (h1 : n ≤ 1000000) (hW : BsW bs) (hw : ka0 w = wn) (h5 : wn ≤ 1000000) (hwr : -9223372036854775808 ≤ wr ∧ wr ≤ 9223372036854775807) (hwz : -9223372036854775808 ≤ wz ∧ wz ≤ 9223372036854775807) (h9 : 1 ≤ ka0 (kF bs)) : ∃ (ek : Int) (er : Int) (ez : Int) (em : List Int), (0 ≤ ek ∧ ek ≤ 7) ∧ (0 ≤ er ∧ er ≤ 2147483647) ∧ (0 ≤ ez ∧ ez ≤ 2147483647) ∧ (ka0 em ≤ 1000000) ∧ (Fun 27 [.c (.d (D.sl (kE bs) n)), .agg [iC wk, iC wr, .d (D.sl (dI .i64 w) wn), iC wz]] (kH []) 0 (.tup [.agg [iC ek, iC er, .d (D.sl (dI .i64 em) (ka0 em)), iC ez], .c (.d (D.lit (.bool true)))]) (kH []) 0) := ⟨(beK bs wk wr w wz), (zF bs wk wr w wz), (beZ bs wk wr w wz), (rE bs wk wr w wz), (k0t hW wk wr w wz).1, (k0t hW wk wr w wz).2.1, (k0t hW wk wr w wz).2.2.1, (k0t hW wk wr w wz).2.2.2, u3s bs n wk wr w wn wz hn h1 hW hw h5 hwr hwz h9⟩
abbrev yE := ([44100, 48000, 8000, 40000, 96000] : List Int)
abbrev qX (u2 : List Int) (n : Nat) := kD (kB (kB u2 5) 4) ((n : Nat) : Int)
abbrev yD := ([16, 64, 100, 1024, 2048] : List Int)
abbrev cE (u2 : List Int) (n : Nat) := kB (kB (kB u2 5) 4) ((n : Nat) : Int)
theorem dP {p : Prop} (h : p := by first | omega | with_reducible assumption | (simp only [qC, qB, ka6, kb0, kb1, kb2, kb3, kb4, kb8] <;> omega) | rfl | assumption) : p := h
theorem fS {p : Prop} (h : p := by first | omega | (simp only [qC, qB, qQ, ka6, kb0, kb1, kb2, kb3, kb4, kb8, List.length_map, List.length_reverse, Nat.mul_one] <;> omega) | rfl) : p := h
abbrev cD (l : List Int) (ma1 : List Int) (u2 : List Int) : BC := .ds [iD (1 + (((kD l 7) : Nat) : Int)), iD (ka1 yE (kD (kB l 7) 5) 0), D.sl (dI .i64 ma1) (ka0 ma1), iD (ka1 yD (kD u2 5) 0)]
abbrev bA : BC := .ds [iD 0, iD 0, D.lit (.slice none 0 0), iD 0]
abbrev fA (u2 : List Int) : BC := .ds [D.sl (dI .u8 (kB u2 5)) (ka0 (kB u2 5))]
abbrev tS (u2 : List Int) (n : Nat) : BC := .ds [D.sl (dI .u8 (kB (kB (kB u2 5) 4) ↑n)) (ka0 (kB (kB (kB u2 5) 4) ↑n))]
abbrev jD (u2 : List Int) : BC := .ds [D.sl (dI .u8 (kB (kB u2 5) 4)) (ka0 (kB (kB u2 5) 4))]
theorem p6 (l : List Int) (bs : List Bx) (n : Nat) (hb : Byt l) (hn : ka0 bs = n) (h1 : n ≤ 1000000) (hW : BsW bs) : ∃ (k : Int) (r : Int) (z : Int) (m : List Int) (q : List Int), ((0 ≤ k ∧ k ≤ 7) ∧ (0 ≤ r ∧ r ≤ 2147483647) ∧ (0 ≤ z ∧ z ≤ 2147483647) ∧ ka0 m ≤ 1000000) ∧ (Byt q) ∧ (Fun 25 [.c (.ptr 0 0), .c (.d (D.sl (kE bs) n))] (kH [(0, some (95, .ds [D.sl (dI .u8 l) (ka0 l)]))]) 1 (.e (.agg [iC k, iC r, .d (D.sl (dI .i64 m) (ka0 m)), iC z])) (kH [(0, some (95, .ds [D.sl (dI .u8 q) (ka0 q)]))]) 1) := by
 have hx1 : ((((((kD l 7) : Nat) : Int) < 7) ∨ ((kD l 7) = 0)) ∧ ((kD l 7) ≤ 255)) := qP l (7 : Int) (qD : Byt l)
 have hx2 : (Byt (kB l 7)) := qH (7 : Int) (qD : Byt l)
 have hx3 : ((((((kD (kB l 7) 5) : Nat) : Int) < 5) ∨ ((kD (kB l 7) 5) = 0)) ∧ ((kD (kB l 7) 5) ≤ 255)) := qP (kB l 7) (5 : Int) (qD : Byt (kB l 7))
 have hx4 : (Byt (kB (kB l 7) 5)) := qH (5 : Int) (qD : Byt (kB l 7))
 have hx5 : 8000 ≤ (ka1 yE (kD (kB l 7) 5) 0) ∧ (ka1 yE (kD (kB l 7) 5) 0) ≤ 96000 := k3w (l := yE) (a := 8000) (b := 96000) (by decide) _ (show _ < 5 by omega)
 obtain ⟨ma1, u2, hx6, hx7, hF2⟩ := (v1b (kB (kB l 7) 5) (qD : Byt (kB (kB l 7) 5)))
 have hx8 : ((((((kD u2 5) : Nat) : Int) < 5) ∨ ((kD u2 5) = 0)) ∧ ((kD u2 5) ≤ 255)) := qP u2 (5 : Int) (qD : Byt u2)
 have hx9 : (Byt (kB u2 5)) := qH (5 : Int) (qD : Byt u2)
 have hx10 : 16 ≤ (ka1 yD (kD u2 5) 0) ∧ (ka1 yD (kD u2 5) 0) ≤ 2048 := k3w (l := yD) (a := 16) (b := 2048) (by decide) _ (show _ < 5 by omega)
 by_cases hx11 : ((0 : Int) < ((n : Nat) : Int))
 ·by_cases hx14 : ((0 : Int) < (((kD (kB u2 5) 4) : Nat) : Int))
  ·have hx15 : ((((((kD (kB u2 5) 4) : Nat) : Int) < 4) ∨ ((kD (kB u2 5) 4) = 0)) ∧ ((kD (kB u2 5) 4) ≤ 255)) := qP (kB u2 5) (4 : Int) (qD : Byt (kB u2 5))
   have hx16 : (Byt (kB (kB u2 5) 4)) := qH (4 : Int) (qD : Byt (kB u2 5))
   by_cases hx19 : ((1 : Nat) ≤ (ka0 (kF (ka5 (n - (qX u2 n)) (ka3 (qX u2 n) bs)))))
   ·have hx20 : ((((((qX u2 n) : Nat) : Int) < ((n : Nat) : Int)) ∨ ((qX u2 n) = 0)) ∧ ((qX u2 n) ≤ 255)) := qP (kB (kB u2 5) 4) ((n : Nat) : Int) (qD : Byt (kB (kB u2 5) 4))
    have hx21 : (Byt (cE u2 n)) := qH ((n : Nat) : Int) (qD : Byt (kB (kB u2 5) 4))
    obtain ⟨ek7, er8, ez9, em10, hx22, hx23, hx24, hx25, hF10⟩ := (u3l (ka5 (n - (qX u2 n)) (ka3 (qX u2 n) bs)) (n - (qX u2 n)) (1 + (((kD l 7) : Nat) : Int)) (ka1 yE (kD (kB l 7) 5) 0) ma1 (ka0 ma1) (ka1 yD (kD u2 5) 0) dP dP (BsW.take (BsW.drop (qD : BsW bs) _) _) rfl zo dP dP dP)
    refine ⟨ek7, er8, ez9, em10, (cE u2 n), zo, (by assumption), ?_⟩
    refine Fun.mk (n := 47) Tryz.func25 rfl rfl (ka4 rfl) ?_
    intro cx hcx
    refine kK [.no] True [(0, rV 0 0), (1, kG (kE bs) n), (4, rV 1 0)] [(0, some (95, .ds [db l (ka0 l)])), (1, some (27, bA))] 2 trivial ?_
    refine kK [.no, .call [0] (uV (kD l 7)) [(0, some (95, .ds [db (kB l 7) (ka0 (kB l 7))]))] 1 [] none, .w, .no, .no, .call [0] (uV (kD (kB l 7) 5)) [(0, some (95, .ds [db (kB (kB l 7) 5) (ka0 (kB (kB l 7) 5))]))] 1 [] none, .n2 (kD (kB l 7) 5) (kD (kB l 7) 5), .d (D.lit (.int .i64 (ka1 yE (kD (kB l 7) 5) 0))), .no, .call [0] (sV .i64 ma1 (ka0 ma1)) [(0, some (95, .ds [db u2 (ka0 u2)]))] 1 [] none, .no, .no, .no, .call [0] (uV (kD u2 5)) [(0, some (95, (fA u2)))] 1 [] none, .n2 (kD u2 5) (kD u2 5), .d (D.lit (.int .i64 (ka1 yD (kD u2 5) 0))), .no, .no, .no] ((_) ∧ ((-9223372036854775808) ≤ (1 + (kD l 7 : Int)) ∧ (1 + (kD l 7 : Int)) ≤ 9223372036854775807) ∧ (_) ∧ (kN (kD (kB l 7) 5 : Int)) ∧ ((kD (kB l 7) 5) < 5) ∧ ((0 : Nat) + (kD (kB l 7) 5) * 1 = (kD (kB l 7) 5)) ∧ ([iD 44100, iD 48000, iD 8000, iD 40000, iD 96000][(kD (kB l 7) 5)]? = some (D.lit (.int .i64 (ka1 yE (kD (kB l 7) 5) 0)))) ∧ (_) ∧ (_) ∧ (kN (kD u2 5 : Int)) ∧ ((kD u2 5) < 5) ∧ ((0 : Nat) + (kD u2 5) * 1 = (kD u2 5)) ∧ ([iD 16, iD 64, iD 100, iD 1024, iD 2048][(kD u2 5)]? = some (D.lit (.int .i64 (ka1 yD (kD u2 5) 0))))) [(0, rV 0 0), (1, kG (kE bs) n), (4, rV 1 0), (5, rV 4 0)] [(0, some (95, (fA u2))), (1, some (27, bA)), (4, some (27, (cD l ma1 u2)))] 5 ⟨(uS l 7 (qD : Byt l)), ⟨by omega, by omega⟩, (uS (kB l 7) 5 (qD : Byt (kB l 7))), rfl, zo, zo, (c5 .i64 yE _ fS), hF2, (uS u2 5 (qD : Byt u2)), rfl, zo, zo, (c5 .i64 yD _ fS)⟩ ?_
    refine AW.seq ?_
    refine kK [.no, .no, .b true, .no, .no, .call [0] (uV (kD (kB u2 5) 4)) [(0, some (95, (jD u2)))] 1 [] none, .b true, .no] ((((0 : Int) < (n : Int))) ∧ (_) ∧ (((0 : Int) < (kD (kB u2 5) 4 : Int)))) [(0, rV 0 0), (1, kG (kE bs) n), (4, rV 1 0), (5, rV 4 0), (32, bV true)] [(0, some (95, (jD u2))), (1, some (27, bA)), (4, some (27, (cD l ma1 u2)))] 5 ⟨zo, (uS (kB u2 5) 4 (qD : Byt (kB u2 5))), zo⟩ ?_
    refine zt ?_
    refine kK (qE 4 (.call [0] (uV (qX u2 n)) [(0, some (95, .ds [db (cE u2 n) (ka0 (cE u2 n))]))] 1 [] none :: .sls (qX u2 n) n (n - (qX u2 n)) (kE (ka5 (n - (qX u2 n)) (ka3 (qX u2 n) bs))) :: .no :: .call [] (.tup [.agg [iC ek7, iC er8, .d (dl em10 (ka0 em10)), iC ez9], .c (.d (D.lit (.bool true)))]) [] 0 [] none :: qE 6 [])) ((_) ∧ (kN (qX u2 n : Int)) ∧ (n = n) ∧ ((qX u2 n) ≤ n) ∧ (n ≤ n) ∧ (n - (qX u2 n) = (n - (qX u2 n))) ∧ (ka5 ((n - (qX u2 n)) * 4) (ka3 ((qX u2 n) * 4) (kE bs)) = (kE (ka5 (n - (qX u2 n)) (ka3 (qX u2 n) bs)))) ∧ (_)) [(4, rV 1 0), (5, rV 4 0), (6, rV 5 0), (7, bV true)] [(0, some (95, (tS u2 n))), (1, some (27, bA)), (4, some (27, (cD l ma1 u2))), (5, some (27, .ds [iD ek7, iD er8, dl em10 (ka0 em10), iD ez9]))] 6 ⟨(uS (kB (kB u2 5) 4) (n : Int) (qD : Byt (kB (kB u2 5) 4))), rfl, rfl, zo, zo, zo, (by rw [lH, pO]), hF10⟩ ?_
    refine kO [.no] True [(4, rV 1 0), (5, rV 4 0), (6, rV 5 0), (44, bV true)] trivial ?_
    refine zt ?_
    refine kK [.no, .no] True [(4, rV 1 0)] [(0, some (95, (tS u2 n))), (1, some (27, .ds [iD ek7, iD er8, dl em10 (ka0 em10), iD ez9]))] 6 trivial ?_
    refine AW.ret ?_
    exact kA (.inr rfl) [] (P := (kN ek7) ∧ (kN er8) ∧ (kM (dI .i64 em10)) ∧ (kJ (ka0 em10)) ∧ (kN ez9) ∧ (kM [db (cE u2 n) (ka0 (cE u2 n))])) zk ⟨rfl, rfl, rfl, rfl, rfl, rfl⟩
   ·have hx20 : ((((((qX u2 n) : Nat) : Int) < ((n : Nat) : Int)) ∨ ((qX u2 n) = 0)) ∧ ((qX u2 n) ≤ 255)) := qP (kB (kB u2 5) 4) ((n : Nat) : Int) (qD : Byt (kB (kB u2 5) 4))
    have hx21 : (Byt (cE u2 n)) := qH ((n : Nat) : Int) (qD : Byt (kB (kB u2 5) 4))
    refine ⟨(1 + (((kD l 7) : Nat) : Int)), (ka1 yE (kD (kB l 7) 5) 0), (ka1 yD (kD u2 5) 0), ma1, (cE u2 n), zo, (by assumption), ?_⟩
    refine Fun.mk (n := 47) Tryz.func25 rfl rfl (ka4 rfl) ?_
    intro cx hcx
    refine kK [.no] True [(0, rV 0 0), (1, kG (kE bs) n), (4, rV 1 0)] [(0, some (95, .ds [db l (ka0 l)])), (1, some (27, bA))] 2 trivial ?_
    refine kK [.no, .call [0] (uV (kD l 7)) [(0, some (95, .ds [db (kB l 7) (ka0 (kB l 7))]))] 1 [] none, .w, .no, .no, .call [0] (uV (kD (kB l 7) 5)) [(0, some (95, .ds [db (kB (kB l 7) 5) (ka0 (kB (kB l 7) 5))]))] 1 [] none, .n2 (kD (kB l 7) 5) (kD (kB l 7) 5), .d (D.lit (.int .i64 (ka1 yE (kD (kB l 7) 5) 0))), .no, .call [0] (sV .i64 ma1 (ka0 ma1)) [(0, some (95, .ds [db u2 (ka0 u2)]))] 1 [] none, .no, .no, .no, .call [0] (uV (kD u2 5)) [(0, some (95, (fA u2)))] 1 [] none, .n2 (kD u2 5) (kD u2 5), .d (D.lit (.int .i64 (ka1 yD (kD u2 5) 0))), .no, .no, .no] ((_) ∧ ((-9223372036854775808) ≤ (1 + (kD l 7 : Int)) ∧ (1 + (kD l 7 : Int)) ≤ 9223372036854775807) ∧ (_) ∧ (kN (kD (kB l 7) 5 : Int)) ∧ ((kD (kB l 7) 5) < 5) ∧ ((0 : Nat) + (kD (kB l 7) 5) * 1 = (kD (kB l 7) 5)) ∧ ([iD 44100, iD 48000, iD 8000, iD 40000, iD 96000][(kD (kB l 7) 5)]? = some (D.lit (.int .i64 (ka1 yE (kD (kB l 7) 5) 0)))) ∧ (_) ∧ (_) ∧ (kN (kD u2 5 : Int)) ∧ ((kD u2 5) < 5) ∧ ((0 : Nat) + (kD u2 5) * 1 = (kD u2 5)) ∧ ([iD 16, iD 64, iD 100, iD 1024, iD 2048][(kD u2 5)]? = some (D.lit (.int .i64 (ka1 yD (kD u2 5) 0))))) [(0, rV 0 0), (1, kG (kE bs) n), (4, rV 1 0), (5, rV 4 0)] [(0, some (95, (fA u2))), (1, some (27, bA)), (4, some (27, (cD l ma1 u2)))] 5 ⟨(uS l 7 (qD : Byt l)), ⟨by omega, by omega⟩, (uS (kB l 7) 5 (qD : Byt (kB l 7))), rfl, zo, zo, (c5 .i64 yE _ fS), hF2, (uS u2 5 (qD : Byt u2)), rfl, zo, zo, (c5 .i64 yD _ fS)⟩ ?_
    refine AW.seq ?_
    refine kK [.no, .no, .b true, .no, .no, .call [0] (uV (kD (kB u2 5) 4)) [(0, some (95, (jD u2)))] 1 [] none, .b true, .no] ((((0 : Int) < (n : Int))) ∧ (_) ∧ (((0 : Int) < (kD (kB u2 5) 4 : Int)))) [(0, rV 0 0), (1, kG (kE bs) n), (4, rV 1 0), (5, rV 4 0), (32, bV true)] [(0, some (95, (jD u2))), (1, some (27, bA)), (4, some (27, (cD l ma1 u2)))] 5 ⟨zo, (uS (kB u2 5) 4 (qD : Byt (kB u2 5))), zo⟩ ?_
    refine zt ?_
    refine kK (qE 4 (.call [0] (uV (qX u2 n)) [(0, some (95, .ds [db (cE u2 n) (ka0 (cE u2 n))]))] 1 [] none :: .sls (qX u2 n) n (n - (qX u2 n)) (kE (ka5 (n - (qX u2 n)) (ka3 (qX u2 n) bs))) :: .no :: .call [] (.tup [.agg [iC 0, iC 0, .d (qT), iC 0], .c (.d (D.lit (.bool false)))]) [] 0 [] none :: qE 6 [])) ((_) ∧ (kN (qX u2 n : Int)) ∧ (n = n) ∧ ((qX u2 n) ≤ n) ∧ (n ≤ n) ∧ (n - (qX u2 n) = (n - (qX u2 n))) ∧ (ka5 ((n - (qX u2 n)) * 4) (ka3 ((qX u2 n) * 4) (kE bs)) = (kE (ka5 (n - (qX u2 n)) (ka3 (qX u2 n) bs)))) ∧ (_)) [(4, rV 1 0), (5, rV 4 0), (6, rV 5 0), (7, bV false)] [(0, some (95, (tS u2 n))), (1, some (27, bA)), (4, some (27, (cD l ma1 u2))), (5, some (27, bA))] 6 ⟨(uS (kB (kB u2 5) 4) (n : Int) (qD : Byt (kB (kB u2 5) 4))), rfl, rfl, zo, zo, zo, (by rw [lH, pO]), (u3t (ka5 (n - (qX u2 n)) (ka3 (qX u2 n) bs)) (n - (qX u2 n)) (1 + (kD l 7 : Int)) (ka1 yE (kD (kB l 7) 5) 0) ma1 (ka0 ma1) (ka1 yD (kD u2 5) 0) dP dP (BsW.take (BsW.drop (qD : BsW bs) _) _) rfl zo dP dP dP)⟩ ?_
    refine kO [.no] True [(4, rV 1 0), (5, rV 4 0), (6, rV 5 0), (44, bV false)] trivial ?_
    refine q8 ?_
    refine kK [.no, .no] True [(4, rV 1 0)] [(0, some (95, (tS u2 n))), (1, some (27, (cD l ma1 u2)))] 6 trivial ?_
    refine AW.ret ?_
    exact kA (.inr rfl) [] (P := (kN (1 + (kD l 7 : Int))) ∧ (kN (ka1 yE (kD (kB l 7) 5) 0)) ∧ (kM (dI .i64 ma1)) ∧ (kJ (ka0 ma1)) ∧ (kN (ka1 yD (kD u2 5) 0)) ∧ (kM [db (cE u2 n) (ka0 (cE u2 n))])) zk ⟨rfl, rfl, rfl, rfl, rfl, rfl⟩
  ·have hx15 : ((((((kD (kB u2 5) 4) : Nat) : Int) < 4) ∨ ((kD (kB u2 5) 4) = 0)) ∧ ((kD (kB u2 5) 4) ≤ 255)) := qP (kB u2 5) (4 : Int) (qD : Byt (kB u2 5))
   have hx16 : (Byt (kB (kB u2 5) 4)) := qH (4 : Int) (qD : Byt (kB u2 5))
   refine ⟨(1 + (((kD l 7) : Nat) : Int)), (ka1 yE (kD (kB l 7) 5) 0), (ka1 yD (kD u2 5) 0), ma1, (kB (kB u2 5) 4), zo, (by assumption), ?_⟩
   refine Fun.mk (n := 47) Tryz.func25 rfl rfl (ka4 rfl) ?_
   intro cx hcx
   refine kK [.no] True [(0, rV 0 0), (1, kG (kE bs) n), (4, rV 1 0)] [(0, some (95, .ds [db l (ka0 l)])), (1, some (27, bA))] 2 trivial ?_
   refine kK [.no, .call [0] (uV (kD l 7)) [(0, some (95, .ds [db (kB l 7) (ka0 (kB l 7))]))] 1 [] none, .w, .no, .no, .call [0] (uV (kD (kB l 7) 5)) [(0, some (95, .ds [db (kB (kB l 7) 5) (ka0 (kB (kB l 7) 5))]))] 1 [] none, .n2 (kD (kB l 7) 5) (kD (kB l 7) 5), .d (D.lit (.int .i64 (ka1 yE (kD (kB l 7) 5) 0))), .no, .call [0] (sV .i64 ma1 (ka0 ma1)) [(0, some (95, .ds [db u2 (ka0 u2)]))] 1 [] none, .no, .no, .no, .call [0] (uV (kD u2 5)) [(0, some (95, (fA u2)))] 1 [] none, .n2 (kD u2 5) (kD u2 5), .d (D.lit (.int .i64 (ka1 yD (kD u2 5) 0))), .no, .no, .no] ((_) ∧ ((-9223372036854775808) ≤ (1 + (kD l 7 : Int)) ∧ (1 + (kD l 7 : Int)) ≤ 9223372036854775807) ∧ (_) ∧ (kN (kD (kB l 7) 5 : Int)) ∧ ((kD (kB l 7) 5) < 5) ∧ ((0 : Nat) + (kD (kB l 7) 5) * 1 = (kD (kB l 7) 5)) ∧ ([iD 44100, iD 48000, iD 8000, iD 40000, iD 96000][(kD (kB l 7) 5)]? = some (D.lit (.int .i64 (ka1 yE (kD (kB l 7) 5) 0)))) ∧ (_) ∧ (_) ∧ (kN (kD u2 5 : Int)) ∧ ((kD u2 5) < 5) ∧ ((0 : Nat) + (kD u2 5) * 1 = (kD u2 5)) ∧ ([iD 16, iD 64, iD 100, iD 1024, iD 2048][(kD u2 5)]? = some (D.lit (.int .i64 (ka1 yD (kD u2 5) 0))))) [(0, rV 0 0), (1, kG (kE bs) n), (4, rV 1 0), (5, rV 4 0)] [(0, some (95, (fA u2))), (1, some (27, bA)), (4, some (27, (cD l ma1 u2)))] 5 ⟨(uS l 7 (qD : Byt l)), ⟨by omega, by omega⟩, (uS (kB l 7) 5 (qD : Byt (kB l 7))), rfl, zo, zo, (c5 .i64 yE _ fS), hF2, (uS u2 5 (qD : Byt u2)), rfl, zo, zo, (c5 .i64 yD _ fS)⟩ ?_
   refine AW.seq ?_
   refine kK [.no, .no, .b true, .no, .no, .call [0] (uV (kD (kB u2 5) 4)) [(0, some (95, (jD u2)))] 1 [] none, .b false, .no] ((((0 : Int) < (n : Int))) ∧ (_) ∧ (¬ ((0 : Int) < (kD (kB u2 5) 4 : Int)))) [(0, rV 0 0), (1, kG (kE bs) n), (4, rV 1 0), (5, rV 4 0), (32, bV false)] [(0, some (95, (jD u2))), (1, some (27, bA)), (4, some (27, (cD l ma1 u2)))] 5 ⟨zo, (uS (kB u2 5) 4 (qD : Byt (kB u2 5))), zo⟩ ?_
   refine q8 ?_
   refine kK [.no, .no] True [(4, rV 1 0)] [(0, some (95, (jD u2))), (1, some (27, (cD l ma1 u2)))] 5 trivial ?_
   refine AW.ret ?_
   exact kA (.inr rfl) [] (P := (kN (1 + (kD l 7 : Int))) ∧ (kN (ka1 yE (kD (kB l 7) 5) 0)) ∧ (kM (dI .i64 ma1)) ∧ (kJ (ka0 ma1)) ∧ (kN (ka1 yD (kD u2 5) 0)) ∧ (kM [db (kB (kB u2 5) 4) (ka0 (kB (kB u2 5) 4))])) zk ⟨rfl, rfl, rfl, rfl, rfl, rfl⟩
 ·refine ⟨(1 + (((kD l 7) : Nat) : Int)), (ka1 yE (kD (kB l 7) 5) 0), (ka1 yD (kD u2 5) 0), ma1, (kB u2 5), zo, (by assumption), ?_⟩
  refine Fun.mk (n := 47) Tryz.func25 rfl rfl (ka4 rfl) ?_
  intro cx hcx
  refine kK [.no] True [(0, rV 0 0), (1, kG (kE bs) n), (4, rV 1 0)] [(0, some (95, .ds [db l (ka0 l)])), (1, some (27, bA))] 2 trivial ?_
  refine kK [.no, .call [0] (uV (kD l 7)) [(0, some (95, .ds [db (kB l 7) (ka0 (kB l 7))]))] 1 [] none, .w, .no, .no, .call [0] (uV (kD (kB l 7) 5)) [(0, some (95, .ds [db (kB (kB l 7) 5) (ka0 (kB (kB l 7) 5))]))] 1 [] none, .n2 (kD (kB l 7) 5) (kD (kB l 7) 5), .d (D.lit (.int .i64 (ka1 yE (kD (kB l 7) 5) 0))), .no, .call [0] (sV .i64 ma1 (ka0 ma1)) [(0, some (95, .ds [db u2 (ka0 u2)]))] 1 [] none, .no, .no, .no, .call [0] (uV (kD u2 5)) [(0, some (95, (fA u2)))] 1 [] none, .n2 (kD u2 5) (kD u2 5), .d (D.lit (.int .i64 (ka1 yD (kD u2 5) 0))), .no, .no, .no] ((_) ∧ ((-9223372036854775808) ≤ (1 + (kD l 7 : Int)) ∧ (1 + (kD l 7 : Int)) ≤ 9223372036854775807) ∧ (_) ∧ (kN (kD (kB l 7) 5 : Int)) ∧ ((kD (kB l 7) 5) < 5) ∧ ((0 : Nat) + (kD (kB l 7) 5) * 1 = (kD (kB l 7) 5)) ∧ ([iD 44100, iD 48000, iD 8000, iD 40000, iD 96000][(kD (kB l 7) 5)]? = some (D.lit (.int .i64 (ka1 yE (kD (kB l 7) 5) 0)))) ∧ (_) ∧ (_) ∧ (kN (kD u2 5 : Int)) ∧ ((kD u2 5) < 5) ∧ ((0 : Nat) + (kD u2 5) * 1 = (kD u2 5)) ∧ ([iD 16, iD 64, iD 100, iD 1024, iD 2048][(kD u2 5)]? = some (D.lit (.int .i64 (ka1 yD (kD u2 5) 0))))) [(0, rV 0 0), (1, kG (kE bs) n), (4, rV 1 0), (5, rV 4 0)] [(0, some (95, (fA u2))), (1, some (27, bA)), (4, some (27, (cD l ma1 u2)))] 5 ⟨(uS l 7 (qD : Byt l)), ⟨by omega, by omega⟩, (uS (kB l 7) 5 (qD : Byt (kB l 7))), rfl, zo, zo, (c5 .i64 yE _ fS), hF2, (uS u2 5 (qD : Byt u2)), rfl, zo, zo, (c5 .i64 yD _ fS)⟩ ?_
  refine AW.seq ?_
  refine kO [.no, .no, .b false, .no, .no] (¬ ((0 : Int) < (n : Int))) [(0, rV 0 0), (1, kG (kE bs) n), (4, rV 1 0), (5, rV 4 0), (32, bV false)] zo ?_
  refine q8 ?_
  refine kK [.no, .no] True [(4, rV 1 0)] [(0, some (95, (fA u2))), (1, some (27, (cD l ma1 u2)))] 5 trivial ?_
  refine AW.ret ?_
  exact kA (.inr rfl) [] (P := (kN (1 + (kD l 7 : Int))) ∧ (kN (ka1 yE (kD (kB l 7) 5) 0)) ∧ (kM (dI .i64 ma1)) ∧ (kJ (ka0 ma1)) ∧ (kN (ka1 yD (kD u2 5) 0)) ∧ (kM [db (kB u2 5) (ka0 (kB u2 5))])) zk ⟨rfl, rfl, rfl, rfl, rfl, rfl⟩
end Go.Proofs.YtcfmjpnffembpaaGreat
