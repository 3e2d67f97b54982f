/- Choices out of dice. No statement is proved here. -/
import Derived.Test.YtcfmjpnffembpaaGreatZL10G
namespace Go.Proofs.YtcfmjpnffembpaaGreat
open Go.ChangeShapes Go.WideShapes Go.ChangeAt Go.RowKit
open List renaming drop → ka3, getD → ka1, length → ka0, length_append → ka9, length_cons → kb0, length_drop → kb5, length_nil → kb3, length_replicate → kb4, length_set → kc1, length_take → kb2, take → ka5
open Nat renaming le_of_ble_eq_true → ka4
set_option linter.unusedVariables false
set_option linter.unusedSimpArgs false
set_option maxHeartbeats 4000000
set_option maxRecDepth 100000
theorem u6s (l : List Int) (hb : Byt l) : ∃ (ma : List Int) (u : List Int), (1 ≤ ka0 ma ∧ ka0 ma ≤ 6) ∧ (Byt u) ∧ (Fun 58 [.c (.ptr 0 0)] (kE [(0, some (95, .ds [D.sl (dI .u8 l) (ka0 l)]))]) 1 (sV .i64 ma (ka0 ma)) (kE [(0, some (95, .ds [D.sl (dI .u8 u) (ka0 u)]))]) 1) := ⟨(yH l), (kD l 7), (k0r hb), qL 7 hb, u18 l hb⟩
theorem k9h (bs : List Bx) (n : Nat) (wk wr : Int) (w : List Int) (wn : Nat) (wz : Int) (hn : ka0 bs = n) (h1 : n ≤ 1000000) (hW : BsW bs) (hw : ka0 w = wn) (h5 : wn ≤ 1000000) (hwr : -9223372036854775808 ≤ wr ∧ wr ≤ 9223372036854775807) (hwz : -9223372036854775808 ≤ wz ∧ wz ≤ 9223372036854775807) (h9 : 1 ≤ ka0 (kH bs)) : ∃ (ek : Int) (er : Int) (ez : Int) (em : List Int), (0 ≤ ek ∧ ek ≤ 7) ∧ (0 ≤ er ∧ er ≤ 2147483647) ∧ (0 ≤ ez ∧ ez ≤ 2147483647) ∧ (ka0 em ≤ 1000000) ∧ (Fun 27 [.c (.d (D.sl (kP bs) n)), .agg [iC wk, iC wr, .d (D.sl (dI .i64 w) wn), iC wz]] (kE []) 0 (.tup [.agg [iC ek, iC er, .d (D.sl (dI .i64 em) (ka0 em)), iC ez], .c (.d (D.lit (.bool true)))]) (kE []) 0) := ⟨(xI bs wk wr w wz), (tC bs wk wr w wz), (xH bs wk wr w wz), (nO bs wk wr w wz), (wQ hW wk wr w wz).1, (wQ hW wk wr w wz).2.1, (wQ hW wk wr w wz).2.2.1, (wQ hW wk wr w wz).2.2.2, k9n bs n wk wr w wn wz hn h1 hW hw h5 hwr hwz h9⟩
abbrev yD := ([44100, 48000, 8000, 40000, 96000] : List Int)
abbrev qY (u2 : List Int) (n : Nat) := kA (kD (kD u2 5) 4) ((n : Nat) : Int)
abbrev yC := ([16, 64, 100, 1024, 2048] : List Int)
abbrev bU (u2 : List Int) (n : Nat) := kD (kD (kD u2 5) 4) ((n : Nat) : Int)
theorem eM {p : Prop} (h : p := by (simp only [qH, qE, uA, ka9, kb0, kb3, kb2, kb5, kb4, kc1, List.length_map, List.length_reverse, Nat.mul_one] <;> omega)) : p := h
abbrev bT (l : List Int) (ma1 : List Int) (u2 : List Int) : BC := .ds [iD (1 + (((kA l 7) : Nat) : Int)), iD (ka1 yD (kA (kD l 7) 5) 0), D.sl (dI .i64 ma1) (ka0 ma1), iD (ka1 yC (kA u2 5) 0)]
abbrev aW : BC := .ds [iD 0, iD 0, D.lit (.slice none 0 0), iD 0]
abbrev d3 (u2 : List Int) : BC := .ds [D.sl (dI .u8 (kD u2 5)) (ka0 (kD u2 5))]
abbrev pU (u2 : List Int) (n : Nat) : BC := .ds [D.sl (dI .u8 (kD (kD (kD u2 5) 4) ↑n)) (ka0 (kD (kD (kD u2 5) 4) ↑n))]
abbrev gS (u2 : List Int) : BC := .ds [D.sl (dI .u8 (kD (kD u2 5) 4)) (ka0 (kD (kD u2 5) 4))]
theorem nM (l : List Int) (bs : List Bx) (n : Nat) (hb : Byt l) (hn : ka0 bs = n) (h1 : n ≤ 1000000) (hW : BsW bs) : ∃ (k : Int) (r : Int) (z : Int) (m : List Int) (q : List Int), ((0 ≤ k ∧ k ≤ 7) ∧ (0 ≤ r ∧ r ≤ 2147483647) ∧ (0 ≤ z ∧ z ≤ 2147483647) ∧ ka0 m ≤ 1000000) ∧ (Byt q) ∧ (Fun 25 [.c (.ptr 0 0), .c (.d (D.sl (kP bs) n))] (kE [(0, some (95, .ds [D.sl (dI .u8 l) (ka0 l)]))]) 1 (.e (.agg [iC k, iC r, .d (D.sl (dI .i64 m) (ka0 m)), iC z])) (kE [(0, some (95, .ds [D.sl (dI .u8 q) (ka0 q)]))]) 1) := by
 have hx1 : ((((((kA l 7) : Nat) : Int) < 7) ∨ ((kA l 7) = 0)) ∧ ((kA l 7) ≤ 255)) := uG l (7 : Int) (kZ : Byt l)
 have hx2 : (Byt (kD l 7)) := qL (7 : Int) (kZ : Byt l)
 have hx3 : ((((((kA (kD l 7) 5) : Nat) : Int) < 5) ∨ ((kA (kD l 7) 5) = 0)) ∧ ((kA (kD l 7) 5) ≤ 255)) := uG (kD l 7) (5 : Int) (kZ : Byt (kD l 7))
 have hx4 : (Byt (kD (kD l 7) 5)) := qL (5 : Int) (kZ : Byt (kD l 7))
 have hx5 : 8000 ≤ (ka1 yD (kA (kD l 7) 5) 0) ∧ (ka1 yD (kA (kD l 7) 5) 0) ≤ 96000 := k0t (l := yD) (a := 8000) (b := 96000) (by decide) _ (show _ < 5 by omega)
 obtain ⟨ma1, u2, hx6, hx7, hF2⟩ := (u6s (kD (kD l 7) 5) (kZ : Byt (kD (kD l 7) 5)))
 have hx8 : ((((((kA u2 5) : Nat) : Int) < 5) ∨ ((kA u2 5) = 0)) ∧ ((kA u2 5) ≤ 255)) := uG u2 (5 : Int) (kZ : Byt u2)
 have hx9 : (Byt (kD u2 5)) := qL (5 : Int) (kZ : Byt u2)
 have hx10 : 16 ≤ (ka1 yC (kA u2 5) 0) ∧ (ka1 yC (kA u2 5) 0) ≤ 2048 := k0t (l := yC) (a := 16) (b := 2048) (by decide) _ (show _ < 5 by omega)
 by_cases hx11 : ((0 : Int) < ((n : Nat) : Int))
 ·by_cases hx14 : ((0 : Int) < (((kA (kD u2 5) 4) : Nat) : Int))
  ·have hx15 : ((((((kA (kD u2 5) 4) : Nat) : Int) < 4) ∨ ((kA (kD u2 5) 4) = 0)) ∧ ((kA (kD u2 5) 4) ≤ 255)) := uG (kD u2 5) (4 : Int) (kZ : Byt (kD u2 5))
   have hx16 : (Byt (kD (kD u2 5) 4)) := qL (4 : Int) (kZ : Byt (kD u2 5))
   by_cases hx19 : ((1 : Nat) ≤ (ka0 (kH (ka5 (n - (qY u2 n)) (ka3 (qY u2 n) bs)))))
   ·have hx20 : ((((((qY u2 n) : Nat) : Int) < ((n : Nat) : Int)) ∨ ((qY u2 n) = 0)) ∧ ((qY u2 n) ≤ 255)) := uG (kD (kD u2 5) 4) ((n : Nat) : Int) (kZ : Byt (kD (kD u2 5) 4))
    have hx21 : (Byt (bU u2 n)) := qL ((n : Nat) : Int) (kZ : Byt (kD (kD u2 5) 4))
    obtain ⟨ek7, er8, ez9, em10, hx22, hx23, hx24, hx25, hF10⟩ := (k9h (ka5 (n - (qY u2 n)) (ka3 (qY u2 n) bs)) (n - (qY u2 n)) (1 + (((kA l 7) : Nat) : Int)) (ka1 yD (kA (kD l 7) 5) 0) ma1 (ka0 ma1) (ka1 yC (kA u2 5) 0) (by (simp only [qH, qE, ka9, kb0, kb3, kb2, kb5, kb4, kc1] <;> omega)) zo (BsW.take (BsW.drop (kZ : BsW bs) _) _) rfl zo zo zo zo)
    refine ⟨ek7, er8, ez9, em10, (bU u2 n), zo, (by assumption), ?_⟩
    refine Fun.mk (n := 47) Tryz.func25 rfl rfl (ka4 rfl) ?_
    intro cx hcx
    refine kI [.no] True [(0, rV 0 0), (1, .e (kQ bs n)), (4, rV 1 0)] [(0, some (95, .ds [db l (ka0 l)])), (1, some (27, aW))] 2 trivial ?_
    refine kI [.no, .call [0] (uV (kA l 7)) [(0, some (95, .ds [db (kD l 7) (ka0 (kD l 7))]))] 1 [] none, .w, .no, .no, .call [0] (uV (kA (kD l 7) 5)) [(0, some (95, .ds [db (kD (kD l 7) 5) (ka0 (kD (kD l 7) 5))]))] 1 [] none, .n2 (kA (kD l 7) 5) (kA (kD l 7) 5), .d (D.lit (.int .i64 (ka1 yD (kA (kD l 7) 5) 0))), .no, .call [0] (sV .i64 ma1 (ka0 ma1)) [(0, some (95, .ds [db u2 (ka0 u2)]))] 1 [] none, .no, .no, .no, .call [0] (uV (kA u2 5)) [(0, some (95, (d3 u2)))] 1 [] none, .n2 (kA u2 5) (kA u2 5), .d (D.lit (.int .i64 (ka1 yC (kA u2 5) 0))), .no, .no, .no] ((_) ∧ (uZ (1 + (kA l 7 : Int))) ∧ (_) ∧ (kM (kA (kD l 7) 5 : Int)) ∧ ((kA (kD l 7) 5) < 5) ∧ ((0 : Nat) + (kA (kD l 7) 5) * 1 = (kA (kD l 7) 5)) ∧ ([iD 44100, iD 48000, iD 8000, iD 40000, iD 96000][(kA (kD l 7) 5)]? = some (D.lit (.int .i64 (ka1 yD (kA (kD l 7) 5) 0)))) ∧ (_) ∧ (_) ∧ (kM (kA u2 5 : Int)) ∧ ((kA u2 5) < 5) ∧ ((0 : Nat) + (kA u2 5) * 1 = (kA u2 5)) ∧ ([iD 16, iD 64, iD 100, iD 1024, iD 2048][(kA u2 5)]? = some (D.lit (.int .i64 (ka1 yC (kA u2 5) 0))))) [(0, rV 0 0), (1, .e (kQ bs n)), (4, rV 1 0), (5, rV 4 0)] [(0, some (95, (d3 u2))), (1, some (27, aW)), (4, some (27, (bT l ma1 u2)))] 5 ⟨(uQ l 7 (kZ : Byt l)), ⟨by omega, by omega⟩, (uQ (kD l 7) 5 (kZ : Byt (kD l 7))), rfl, zo, zo, (cI .i64 yD _ eM), hF2, (uQ u2 5 (kZ : Byt u2)), rfl, zo, zo, (cI .i64 yC _ eM)⟩ ?_
    refine AW.seq ?_
    refine kI [.no, .no, .b true, .no, .no, .call [0] (uV (kA (kD u2 5) 4)) [(0, some (95, (gS u2)))] 1 [] none, .b true, .no] ((((0 : Int) < (n : Int))) ∧ (_) ∧ (((0 : Int) < (kA (kD u2 5) 4 : Int)))) [(0, rV 0 0), (1, .e (kQ bs n)), (4, rV 1 0), (5, rV 4 0), (32, bV true)] [(0, some (95, (gS u2))), (1, some (27, aW)), (4, some (27, (bT l ma1 u2)))] 5 ⟨zo, (uQ (kD u2 5) 4 (kZ : Byt (kD u2 5))), zo⟩ ?_
    refine zt ?_
    refine kI (kT 4 (.call [0] (uV (qY u2 n)) [(0, some (95, .ds [db (bU u2 n) (ka0 (bU u2 n))]))] 1 [] none :: .sls (qY u2 n) n (n - (qY u2 n)) (kP (ka5 (n - (qY u2 n)) (ka3 (qY u2 n) bs))) :: .no :: .call [] (.tup [.agg [iC ek7, iC er8, .d (dl em10 (ka0 em10)), iC ez9], .c (.d (D.lit (.bool true)))]) [] 0 [] none :: kT 6 [])) ((_) ∧ (kM (qY u2 n : Int)) ∧ (n = n) ∧ ((qY u2 n) ≤ n) ∧ (n ≤ n) ∧ (n - (qY u2 n) = (n - (qY u2 n))) ∧ (ka5 ((n - (qY u2 n)) * 4) (ka3 ((qY u2 n) * 4) (kP bs)) = (kP (ka5 (n - (qY u2 n)) (ka3 (qY u2 n) bs)))) ∧ (_)) [(4, rV 1 0), (5, rV 4 0), (6, rV 5 0), (7, bV true)] [(0, some (95, (pU u2 n))), (1, some (27, aW)), (4, some (27, (bT l ma1 u2))), (5, some (27, .ds [iD ek7, iD er8, dl em10 (ka0 em10), iD ez9]))] 6 ⟨(uQ (kD (kD u2 5) 4) (n : Int) (kZ : Byt (kD (kD u2 5) 4))), rfl, rfl, zo, zo, zo, (by rw [iS, nA]), hF10⟩ ?_
    refine kN [.no] True [(4, rV 1 0), (5, rV 4 0), (6, rV 5 0), (44, bV true)] trivial ?_
    refine zt ?_
    refine kI [.no, .no] True [(4, rV 1 0)] [(0, some (95, (pU u2 n))), (1, some (27, .ds [iD ek7, iD er8, dl em10 (ka0 em10), iD ez9]))] 6 trivial ?_
    refine AW.ret ?_
    exact kC (.inr rfl) [] (P := (kM ek7) ∧ (kM er8) ∧ (kJ (dI .i64 em10)) ∧ (kG (ka0 em10)) ∧ (kM ez9) ∧ (kJ [db (bU u2 n) (ka0 (bU u2 n))])) zk ⟨rfl, rfl, rfl, rfl, rfl, rfl⟩
   ·have hx20 : ((((((qY u2 n) : Nat) : Int) < ((n : Nat) : Int)) ∨ ((qY u2 n) = 0)) ∧ ((qY u2 n) ≤ 255)) := uG (kD (kD u2 5) 4) ((n : Nat) : Int) (kZ : Byt (kD (kD u2 5) 4))
    have hx21 : (Byt (bU u2 n)) := qL ((n : Nat) : Int) (kZ : Byt (kD (kD u2 5) 4))
    refine ⟨(1 + (((kA l 7) : Nat) : Int)), (ka1 yD (kA (kD l 7) 5) 0), (ka1 yC (kA u2 5) 0), ma1, (bU u2 n), zo, (by assumption), ?_⟩
    refine Fun.mk (n := 47) Tryz.func25 rfl rfl (ka4 rfl) ?_
    intro cx hcx
    refine kI [.no] True [(0, rV 0 0), (1, .e (kQ bs n)), (4, rV 1 0)] [(0, some (95, .ds [db l (ka0 l)])), (1, some (27, aW))] 2 trivial ?_
    refine kI [.no, .call [0] (uV (kA l 7)) [(0, some (95, .ds [db (kD l 7) (ka0 (kD l 7))]))] 1 [] none, .w, .no, .no, .call [0] (uV (kA (kD l 7) 5)) [(0, some (95, .ds [db (kD (kD l 7) 5) (ka0 (kD (kD l 7) 5))]))] 1 [] none, .n2 (kA (kD l 7) 5) (kA (kD l 7) 5), .d (D.lit (.int .i64 (ka1 yD (kA (kD l 7) 5) 0))), .no, .call [0] (sV .i64 ma1 (ka0 ma1)) [(0, some (95, .ds [db u2 (ka0 u2)]))] 1 [] none, .no, .no, .no, .call [0] (uV (kA u2 5)) [(0, some (95, (d3 u2)))] 1 [] none, .n2 (kA u2 5) (kA u2 5), .d (D.lit (.int .i64 (ka1 yC (kA u2 5) 0))), .no, .no, .no] ((_) ∧ (uZ (1 + (kA l 7 : Int))) ∧ (_) ∧ (kM (kA (kD l 7) 5 : Int)) ∧ ((kA (kD l 7) 5) < 5) ∧ ((0 : Nat) + (kA (kD l 7) 5) * 1 = (kA (kD l 7) 5)) ∧ ([iD 44100, iD 48000, iD 8000, iD 40000, iD 96000][(kA (kD l 7) 5)]? = some (D.lit (.int .i64 (ka1 yD (kA (kD l 7) 5) 0)))) ∧ (_) ∧ (_) ∧ (kM (kA u2 5 : Int)) ∧ ((kA u2 5) < 5) ∧ ((0 : Nat) + (kA u2 5) * 1 = (kA u2 5)) ∧ ([iD 16, iD 64, iD 100, iD 1024, iD 2048][(kA u2 5)]? = some (D.lit (.int .i64 (ka1 yC (kA u2 5) 0))))) [(0, rV 0 0), (1, .e (kQ bs n)), (4, rV 1 0), (5, rV 4 0)] [(0, some (95, (d3 u2))), (1, some (27, aW)), (4, some (27, (bT l ma1 u2)))] 5 ⟨(uQ l 7 (kZ : Byt l)), ⟨by omega, by omega⟩, (uQ (kD l 7) 5 (kZ : Byt (kD l 7))), rfl, zo, zo, (cI .i64 yD _ eM), hF2, (uQ u2 5 (kZ : Byt u2)), rfl, zo, zo, (cI .i64 yC _ eM)⟩ ?_
    refine AW.seq ?_
    refine kI [.no, .no, .b true, .no, .no, .call [0] (uV (kA (kD u2 5) 4)) [(0, some (95, (gS u2)))] 1 [] none, .b true, .no] ((((0 : Int) < (n : Int))) ∧ (_) ∧ (((0 : Int) < (kA (kD u2 5) 4 : Int)))) [(0, rV 0 0), (1, .e (kQ bs n)), (4, rV 1 0), (5, rV 4 0), (32, bV true)] [(0, some (95, (gS u2))), (1, some (27, aW)), (4, some (27, (bT l ma1 u2)))] 5 ⟨zo, (uQ (kD u2 5) 4 (kZ : Byt (kD u2 5))), zo⟩ ?_
    refine zt ?_
    refine kI (kT 4 (.call [0] (uV (qY u2 n)) [(0, some (95, .ds [db (bU u2 n) (ka0 (bU u2 n))]))] 1 [] none :: .sls (qY u2 n) n (n - (qY u2 n)) (kP (ka5 (n - (qY u2 n)) (ka3 (qY u2 n) bs))) :: .no :: .call [] (.tup [.agg [iC 0, iC 0, .d (qR), iC 0], .c (.d (D.lit (.bool false)))]) [] 0 [] none :: kT 6 [])) ((_) ∧ (kM (qY u2 n : Int)) ∧ (n = n) ∧ ((qY u2 n) ≤ n) ∧ (n ≤ n) ∧ (n - (qY u2 n) = (n - (qY u2 n))) ∧ (ka5 ((n - (qY u2 n)) * 4) (ka3 ((qY u2 n) * 4) (kP bs)) = (kP (ka5 (n - (qY u2 n)) (ka3 (qY u2 n) bs)))) ∧ (_)) [(4, rV 1 0), (5, rV 4 0), (6, rV 5 0), (7, bV false)] [(0, some (95, (pU u2 n))), (1, some (27, aW)), (4, some (27, (bT l ma1 u2))), (5, some (27, aW))] 6 ⟨(uQ (kD (kD u2 5) 4) (n : Int) (kZ : Byt (kD (kD u2 5) 4))), rfl, rfl, zo, zo, zo, (by rw [iS, nA]), (k9o (ka5 (n - (qY u2 n)) (ka3 (qY u2 n) bs)) (n - (qY u2 n)) (1 + (kA l 7 : Int)) (ka1 yD (kA (kD l 7) 5) 0) ma1 (ka0 ma1) (ka1 yC (kA u2 5) 0) (by (simp only [qH, qE, ka9, kb0, kb3, kb2, kb5, kb4, kc1] <;> omega)) zo (BsW.take (BsW.drop (kZ : BsW bs) _) _) rfl zo zo zo zo)⟩ ?_
    refine kN [.no] True [(4, rV 1 0), (5, rV 4 0), (6, rV 5 0), (44, bV false)] trivial ?_
    refine q8 ?_
    refine kI [.no, .no] True [(4, rV 1 0)] [(0, some (95, (pU u2 n))), (1, some (27, (bT l ma1 u2)))] 6 trivial ?_
    refine AW.ret ?_
    exact kC (.inr rfl) [] (P := (kM (1 + (kA l 7 : Int))) ∧ (kM (ka1 yD (kA (kD l 7) 5) 0)) ∧ (kJ (dI .i64 ma1)) ∧ (kG (ka0 ma1)) ∧ (kM (ka1 yC (kA u2 5) 0)) ∧ (kJ [db (bU u2 n) (ka0 (bU u2 n))])) zk ⟨rfl, rfl, rfl, rfl, rfl, rfl⟩
  ·have hx15 : ((((((kA (kD u2 5) 4) : Nat) : Int) < 4) ∨ ((kA (kD u2 5) 4) = 0)) ∧ ((kA (kD u2 5) 4) ≤ 255)) := uG (kD u2 5) (4 : Int) (kZ : Byt (kD u2 5))
   have hx16 : (Byt (kD (kD u2 5) 4)) := qL (4 : Int) (kZ : Byt (kD u2 5))
   refine ⟨(1 + (((kA l 7) : Nat) : Int)), (ka1 yD (kA (kD l 7) 5) 0), (ka1 yC (kA u2 5) 0), ma1, (kD (kD u2 5) 4), zo, (by assumption), ?_⟩
   refine Fun.mk (n := 47) Tryz.func25 rfl rfl (ka4 rfl) ?_
   intro cx hcx
   refine kI [.no] True [(0, rV 0 0), (1, .e (kQ bs n)), (4, rV 1 0)] [(0, some (95, .ds [db l (ka0 l)])), (1, some (27, aW))] 2 trivial ?_
   refine kI [.no, .call [0] (uV (kA l 7)) [(0, some (95, .ds [db (kD l 7) (ka0 (kD l 7))]))] 1 [] none, .w, .no, .no, .call [0] (uV (kA (kD l 7) 5)) [(0, some (95, .ds [db (kD (kD l 7) 5) (ka0 (kD (kD l 7) 5))]))] 1 [] none, .n2 (kA (kD l 7) 5) (kA (kD l 7) 5), .d (D.lit (.int .i64 (ka1 yD (kA (kD l 7) 5) 0))), .no, .call [0] (sV .i64 ma1 (ka0 ma1)) [(0, some (95, .ds [db u2 (ka0 u2)]))] 1 [] none, .no, .no, .no, .call [0] (uV (kA u2 5)) [(0, some (95, (d3 u2)))] 1 [] none, .n2 (kA u2 5) (kA u2 5), .d (D.lit (.int .i64 (ka1 yC (kA u2 5) 0))), .no, .no, .no] ((_) ∧ (uZ (1 + (kA l 7 : Int))) ∧ (_) ∧ (kM (kA (kD l 7) 5 : Int)) ∧ ((kA (kD l 7) 5) < 5) ∧ ((0 : Nat) + (kA (kD l 7) 5) * 1 = (kA (kD l 7) 5)) ∧ ([iD 44100, iD 48000, iD 8000, iD 40000, iD 96000][(kA (kD l 7) 5)]? = some (D.lit (.int .i64 (ka1 yD (kA (kD l 7) 5) 0)))) ∧ (_) ∧ (_) ∧ (kM (kA u2 5 : Int)) ∧ ((kA u2 5) < 5) ∧ ((0 : Nat) + (kA u2 5) * 1 = (kA u2 5)) ∧ ([iD 16, iD 64, iD 100, iD 1024, iD 2048][(kA u2 5)]? = some (D.lit (.int .i64 (ka1 yC (kA u2 5) 0))))) [(0, rV 0 0), (1, .e (kQ bs n)), (4, rV 1 0), (5, rV 4 0)] [(0, some (95, (d3 u2))), (1, some (27, aW)), (4, some (27, (bT l ma1 u2)))] 5 ⟨(uQ l 7 (kZ : Byt l)), ⟨by omega, by omega⟩, (uQ (kD l 7) 5 (kZ : Byt (kD l 7))), rfl, zo, zo, (cI .i64 yD _ eM), hF2, (uQ u2 5 (kZ : Byt u2)), rfl, zo, zo, (cI .i64 yC _ eM)⟩ ?_
   refine AW.seq ?_
   refine kI [.no, .no, .b true, .no, .no, .call [0] (uV (kA (kD u2 5) 4)) [(0, some (95, (gS u2)))] 1 [] none, .b false, .no] ((((0 : Int) < (n : Int))) ∧ (_) ∧ (¬ ((0 : Int) < (kA (kD u2 5) 4 : Int)))) [(0, rV 0 0), (1, .e (kQ bs n)), (4, rV 1 0), (5, rV 4 0), (32, bV false)] [(0, some (95, (gS u2))), (1, some (27, aW)), (4, some (27, (bT l ma1 u2)))] 5 ⟨zo, (uQ (kD u2 5) 4 (kZ : Byt (kD u2 5))), zo⟩ ?_
   refine q8 ?_
   refine kI [.no, .no] True [(4, rV 1 0)] [(0, some (95, (gS u2))), (1, some (27, (bT l ma1 u2)))] 5 trivial ?_
   refine AW.ret ?_
   exact kC (.inr rfl) [] (P := (kM (1 + (kA l 7 : Int))) ∧ (kM (ka1 yD (kA (kD l 7) 5) 0)) ∧ (kJ (dI .i64 ma1)) ∧ (kG (ka0 ma1)) ∧ (kM (ka1 yC (kA u2 5) 0)) ∧ (kJ [db (kD (kD u2 5) 4) (ka0 (kD (kD u2 5) 4))])) zk ⟨rfl, rfl, rfl, rfl, rfl, rfl⟩
 ·refine ⟨(1 + (((kA l 7) : Nat) : Int)), (ka1 yD (kA (kD l 7) 5) 0), (ka1 yC (kA u2 5) 0), ma1, (kD u2 5), zo, (by assumption), ?_⟩
  refine Fun.mk (n := 47) Tryz.func25 rfl rfl (ka4 rfl) ?_
  intro cx hcx
  refine kI [.no] True [(0, rV 0 0), (1, .e (kQ bs n)), (4, rV 1 0)] [(0, some (95, .ds [db l (ka0 l)])), (1, some (27, aW))] 2 trivial ?_
  refine kI [.no, .call [0] (uV (kA l 7)) [(0, some (95, .ds [db (kD l 7) (ka0 (kD l 7))]))] 1 [] none, .w, .no, .no, .call [0] (uV (kA (kD l 7) 5)) [(0, some (95, .ds [db (kD (kD l 7) 5) (ka0 (kD (kD l 7) 5))]))] 1 [] none, .n2 (kA (kD l 7) 5) (kA (kD l 7) 5), .d (D.lit (.int .i64 (ka1 yD (kA (kD l 7) 5) 0))), .no, .call [0] (sV .i64 ma1 (ka0 ma1)) [(0, some (95, .ds [db u2 (ka0 u2)]))] 1 [] none, .no, .no, .no, .call [0] (uV (kA u2 5)) [(0, some (95, (d3 u2)))] 1 [] none, .n2 (kA u2 5) (kA u2 5), .d (D.lit (.int .i64 (ka1 yC (kA u2 5) 0))), .no, .no, .no] ((_) ∧ (uZ (1 + (kA l 7 : Int))) ∧ (_) ∧ (kM (kA (kD l 7) 5 : Int)) ∧ ((kA (kD l 7) 5) < 5) ∧ ((0 : Nat) + (kA (kD l 7) 5) * 1 = (kA (kD l 7) 5)) ∧ ([iD 44100, iD 48000, iD 8000, iD 40000, iD 96000][(kA (kD l 7) 5)]? = some (D.lit (.int .i64 (ka1 yD (kA (kD l 7) 5) 0)))) ∧ (_) ∧ (_) ∧ (kM (kA u2 5 : Int)) ∧ ((kA u2 5) < 5) ∧ ((0 : Nat) + (kA u2 5) * 1 = (kA u2 5)) ∧ ([iD 16, iD 64, iD 100, iD 1024, iD 2048][(kA u2 5)]? = some (D.lit (.int .i64 (ka1 yC (kA u2 5) 0))))) [(0, rV 0 0), (1, .e (kQ bs n)), (4, rV 1 0), (5, rV 4 0)] [(0, some (95, (d3 u2))), (1, some (27, aW)), (4, some (27, (bT l ma1 u2)))] 5 ⟨(uQ l 7 (kZ : Byt l)), ⟨by omega, by omega⟩, (uQ (kD l 7) 5 (kZ : Byt (kD l 7))), rfl, zo, zo, (cI .i64 yD _ eM), hF2, (uQ u2 5 (kZ : Byt u2)), rfl, zo, zo, (cI .i64 yC _ eM)⟩ ?_
  refine AW.seq ?_
  refine kN [.no, .no, .b false, .no, .no] (¬ ((0 : Int) < (n : Int))) [(0, rV 0 0), (1, .e (kQ bs n)), (4, rV 1 0), (5, rV 4 0), (32, bV false)] zo ?_
  refine q8 ?_
  refine kI [.no, .no] True [(4, rV 1 0)] [(0, some (95, (d3 u2))), (1, some (27, (bT l ma1 u2)))] 5 trivial ?_
  refine AW.ret ?_
  exact kC (.inr rfl) [] (P := (kM (1 + (kA l 7 : Int))) ∧ (kM (ka1 yD (kA (kD l 7) 5) 0)) ∧ (kJ (dI .i64 ma1)) ∧ (kG (ka0 ma1)) ∧ (kM (ka1 yC (kA u2 5) 0)) ∧ (kJ [db (kD u2 5) (ka0 (kD u2 5))])) zk ⟨rfl, rfl, rfl, rfl, rfl, rfl⟩
end Go.Proofs.YtcfmjpnffembpaaGreat
