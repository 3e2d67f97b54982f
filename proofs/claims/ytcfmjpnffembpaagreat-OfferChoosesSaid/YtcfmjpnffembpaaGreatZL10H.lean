/- Choices out of dice. No statement is proved here. -/
import Derived.Test.YtcfmjpnffembpaaGreatZL10G
namespace Go.Proofs.YtcfmjpnffembpaaGreat
open Go.ChangeShapes Go.WideShapes Go.ChangeAt Go.RowKit
open List renaming drop → ka4, getD → ka1, length → ka0, length_append → ka6, length_cons → ka8, length_drop → kb0, length_nil → kb3, length_replicate → kb4, length_set → kb8, length_take → ka9, take → ka3
open Nat renaming le_of_ble_eq_true → ka5
set_option linter.unusedVariables false
set_option linter.unusedSimpArgs false
set_option maxHeartbeats 4000000
set_option maxRecDepth 100000
theorem u5u (l : List Int) (hb : Byt l) : ∃ (ma : List Int) (u : List Int), (1 ≤ ka0 ma ∧ ka0 ma ≤ 6) ∧ (Byt u) ∧ (Fun 58 [.c (.ptr 0 0)] (kK [(0, some (95, .ds [D.sl (dI .u8 l) (ka0 l)]))]) 1 (sV .i64 ma (ka0 ma)) (kK [(0, some (95, .ds [D.sl (dI .u8 u) (ka0 u)]))]) 1) := ⟨(yB l), (kC l 7), (k1g hb), qK 7 hb, u1j l hb⟩
theorem u04 (bs : List Bx) (n : Nat) (wk wr : Int) (w : List Int) (wn : Nat) (wz : Int) (hn : ka0 bs = n) (h1 : n ≤ 1000000) (hW : BsW bs) (hw : ka0 w = wn) (h5 : wn ≤ 1000000) (hwr : -9223372036854775808 ≤ wr ∧ wr ≤ 9223372036854775807) (hwz : -9223372036854775808 ≤ wz ∧ wz ≤ 9223372036854775807) (h9 : 1 ≤ ka0 (kE bs)) : ∃ (ek : Int) (er : Int) (ez : Int) (em : List Int), (0 ≤ ek ∧ ek ≤ 7) ∧ (0 ≤ er ∧ er ≤ 2147483647) ∧ (0 ≤ ez ∧ ez ≤ 2147483647) ∧ (ka0 em ≤ 1000000) ∧ (Fun 27 [.c (.d (D.sl (kF bs) n)), .agg [iC wk, iC wr, .d (D.sl (dI .i64 w) wn), iC wz]] (kK []) 0 (.tup [.agg [iC ek, iC er, .d (D.sl (dI .i64 em) (ka0 em)), iC ez], .c (.d (D.lit (.bool true)))]) (kK []) 0) := ⟨(vE bs wk wr w wz), (y8 bs wk wr w wz), (vD bs wk wr w wz), (u1 bs wk wr w wz), (yX hW wk wr w wz).1, (yX hW wk wr w wz).2.1, (yX hW wk wr w wz).2.2.1, (yX hW wk wr w wz).2.2.2, jN bs n wk wr w wn wz hn h1 hW hw h5 hwr hwz h9⟩
abbrev u9 := ([44100, 48000, 8000, 40000, 96000] : List Int)
abbrev qU (u2 : List Int) (n : Nat) := kA (kC (kC u2 5) 4) ((n : Nat) : Int)
abbrev u7 := ([16, 64, 100, 1024, 2048] : List Int)
abbrev bM (u2 : List Int) (n : Nat) := kC (kC (kC u2 5) 4) ((n : Nat) : Int)
theorem c4 {p : Prop} (h : p := by first | omega | with_reducible assumption | (simp only [qC, qB, ka6, ka8, kb3, ka9, kb0, kb4, kb8] <;> omega) | rfl | assumption) : p := h
theorem eP {p : Prop} (h : p := by first | omega | (simp only [qC, qB, qX, ka6, ka8, kb3, ka9, kb0, kb4, kb8, List.length_map, List.length_reverse, Nat.mul_one] <;> omega) | rfl) : p := h
abbrev bL (l : List Int) (ma1 : List Int) (u2 : List Int) : BC := .ds [iD (1 + (((kA l 7) : Nat) : Int)), iD (ka1 u9 (kA (kC l 7) 5) 0), D.sl (dI .i64 ma1) (ka0 ma1), iD (ka1 u7 (kA u2 5) 0)]
abbrev aR : BC := .ds [iD 0, iD 0, D.lit (.slice none 0 0), iD 0]
abbrev d6 (u2 : List Int) : BC := .ds [D.sl (dI .u8 (kC u2 5)) (ka0 (kC u2 5))]
abbrev rL (u2 : List Int) (n : Nat) : BC := .ds [D.sl (dI .u8 (kC (kC (kC u2 5) 4) ↑n)) (ka0 (kC (kC (kC u2 5) 4) ↑n))]
abbrev gZ (u2 : List Int) : BC := .ds [D.sl (dI .u8 (kC (kC u2 5) 4)) (ka0 (kC (kC u2 5) 4))]
theorem jM (l : List Int) (bs : List Bx) (n : Nat) (hb : Byt l) (hn : ka0 bs = n) (h1 : n ≤ 1000000) (hW : BsW bs) : ∃ (k : Int) (r : Int) (z : Int) (m : List Int) (q : List Int), ((0 ≤ k ∧ k ≤ 7) ∧ (0 ≤ r ∧ r ≤ 2147483647) ∧ (0 ≤ z ∧ z ≤ 2147483647) ∧ ka0 m ≤ 1000000) ∧ (Byt q) ∧ (Fun 25 [.c (.ptr 0 0), .c (.d (D.sl (kF bs) n))] (kK [(0, some (95, .ds [D.sl (dI .u8 l) (ka0 l)]))]) 1 (.e (.agg [iC k, iC r, .d (D.sl (dI .i64 m) (ka0 m)), iC z])) (kK [(0, some (95, .ds [D.sl (dI .u8 q) (ka0 q)]))]) 1) := by
 have hx1 : ((((((kA l 7) : Nat) : Int) < 7) ∨ ((kA l 7) = 0)) ∧ ((kA l 7) ≤ 255)) := uA l (7 : Int) (qF : Byt l)
 have hx2 : (Byt (kC l 7)) := qK (7 : Int) (qF : Byt l)
 have hx3 : ((((((kA (kC l 7) 5) : Nat) : Int) < 5) ∨ ((kA (kC l 7) 5) = 0)) ∧ ((kA (kC l 7) 5) ≤ 255)) := uA (kC l 7) (5 : Int) (qF : Byt (kC l 7))
 have hx4 : (Byt (kC (kC l 7) 5)) := qK (5 : Int) (qF : Byt (kC l 7))
 have hx5 : 8000 ≤ (ka1 u9 (kA (kC l 7) 5) 0) ∧ (ka1 u9 (kA (kC l 7) 5) 0) ≤ 96000 := k1j (l := u9) (a := 8000) (b := 96000) (by decide) _ (show _ < 5 by omega)
 obtain ⟨ma1, u2, hx6, hx7, hF2⟩ := (u5u (kC (kC l 7) 5) (qF : Byt (kC (kC l 7) 5)))
 have hx8 : ((((((kA u2 5) : Nat) : Int) < 5) ∨ ((kA u2 5) = 0)) ∧ ((kA u2 5) ≤ 255)) := uA u2 (5 : Int) (qF : Byt u2)
 have hx9 : (Byt (kC u2 5)) := qK (5 : Int) (qF : Byt u2)
 have hx10 : 16 ≤ (ka1 u7 (kA u2 5) 0) ∧ (ka1 u7 (kA u2 5) 0) ≤ 2048 := k1j (l := u7) (a := 16) (b := 2048) (by decide) _ (show _ < 5 by omega)
 by_cases hx11 : ((0 : Int) < ((n : Nat) : Int))
 ·by_cases hx14 : ((0 : Int) < (((kA (kC u2 5) 4) : Nat) : Int))
  ·have hx15 : ((((((kA (kC u2 5) 4) : Nat) : Int) < 4) ∨ ((kA (kC u2 5) 4) = 0)) ∧ ((kA (kC u2 5) 4) ≤ 255)) := uA (kC u2 5) (4 : Int) (qF : Byt (kC u2 5))
   have hx16 : (Byt (kC (kC u2 5) 4)) := qK (4 : Int) (qF : Byt (kC u2 5))
   by_cases hx19 : ((1 : Nat) ≤ (ka0 (kE (ka3 (n - (qU u2 n)) (ka4 (qU u2 n) bs)))))
   ·have hx20 : ((((((qU u2 n) : Nat) : Int) < ((n : Nat) : Int)) ∨ ((qU u2 n) = 0)) ∧ ((qU u2 n) ≤ 255)) := uA (kC (kC u2 5) 4) ((n : Nat) : Int) (qF : Byt (kC (kC u2 5) 4))
    have hx21 : (Byt (bM u2 n)) := qK ((n : Nat) : Int) (qF : Byt (kC (kC u2 5) 4))
    obtain ⟨ek7, er8, ez9, em10, hx22, hx23, hx24, hx25, hF10⟩ := (u04 (ka3 (n - (qU u2 n)) (ka4 (qU u2 n) bs)) (n - (qU u2 n)) (1 + (((kA l 7) : Nat) : Int)) (ka1 u9 (kA (kC l 7) 5) 0) ma1 (ka0 ma1) (ka1 u7 (kA u2 5) 0) c4 c4 (BsW.take (BsW.drop (qF : BsW bs) _) _) rfl zo c4 c4 c4)
    refine ⟨ek7, er8, ez9, em10, (bM u2 n), zo, (by assumption), ?_⟩
    refine Fun.mk (n := 47) Tryz.func25 rfl rfl (ka5 rfl) ?_
    intro cx hcx
    refine kL [.no] True [(0, rV 0 0), (1, kI (kF bs) n), (4, rV 1 0)] [(0, some (95, .ds [db l (ka0 l)])), (1, some (27, aR))] 2 trivial ?_
    refine kL [.no, .call [0] (uV (kA l 7)) [(0, some (95, .ds [db (kC l 7) (ka0 (kC l 7))]))] 1 [] none, .w, .no, .no, .call [0] (uV (kA (kC l 7) 5)) [(0, some (95, .ds [db (kC (kC l 7) 5) (ka0 (kC (kC l 7) 5))]))] 1 [] none, .n2 (kA (kC l 7) 5) (kA (kC l 7) 5), .d (D.lit (.int .i64 (ka1 u9 (kA (kC l 7) 5) 0))), .no, .call [0] (sV .i64 ma1 (ka0 ma1)) [(0, some (95, .ds [db u2 (ka0 u2)]))] 1 [] none, .no, .no, .no, .call [0] (uV (kA u2 5)) [(0, some (95, (d6 u2)))] 1 [] none, .n2 (kA u2 5) (kA u2 5), .d (D.lit (.int .i64 (ka1 u7 (kA u2 5) 0))), .no, .no, .no] ((_) ∧ ((-9223372036854775808) ≤ (1 + (kA l 7 : Int)) ∧ (1 + (kA l 7 : Int)) ≤ 9223372036854775807) ∧ (_) ∧ (kO (kA (kC l 7) 5 : Int)) ∧ ((kA (kC l 7) 5) < 5) ∧ ((0 : Nat) + (kA (kC l 7) 5) * 1 = (kA (kC l 7) 5)) ∧ ([iD 44100, iD 48000, iD 8000, iD 40000, iD 96000][(kA (kC l 7) 5)]? = some (D.lit (.int .i64 (ka1 u9 (kA (kC l 7) 5) 0)))) ∧ (_) ∧ (_) ∧ (kO (kA u2 5 : Int)) ∧ ((kA u2 5) < 5) ∧ ((0 : Nat) + (kA u2 5) * 1 = (kA u2 5)) ∧ ([iD 16, iD 64, iD 100, iD 1024, iD 2048][(kA u2 5)]? = some (D.lit (.int .i64 (ka1 u7 (kA u2 5) 0))))) [(0, rV 0 0), (1, kI (kF bs) n), (4, rV 1 0), (5, rV 4 0)] [(0, some (95, (d6 u2))), (1, some (27, aR)), (4, some (27, (bL l ma1 u2)))] 5 ⟨(uQ l 7 (qF : Byt l)), ⟨by omega, by omega⟩, (uQ (kC l 7) 5 (qF : Byt (kC l 7))), rfl, zo, zo, (cL .i64 u9 _ eP), hF2, (uQ u2 5 (qF : Byt u2)), rfl, zo, zo, (cL .i64 u7 _ eP)⟩ ?_
    refine AW.seq ?_
    refine kL [.no, .no, .b true, .no, .no, .call [0] (uV (kA (kC u2 5) 4)) [(0, some (95, (gZ u2)))] 1 [] none, .b true, .no] ((((0 : Int) < (n : Int))) ∧ (_) ∧ (((0 : Int) < (kA (kC u2 5) 4 : Int)))) [(0, rV 0 0), (1, kI (kF bs) n), (4, rV 1 0), (5, rV 4 0), (32, bV true)] [(0, some (95, (gZ u2))), (1, some (27, aR)), (4, some (27, (bL l ma1 u2)))] 5 ⟨zo, (uQ (kC u2 5) 4 (qF : Byt (kC u2 5))), zo⟩ ?_
    refine zt ?_
    refine kL (qA 4 (.call [0] (uV (qU u2 n)) [(0, some (95, .ds [db (bM u2 n) (ka0 (bM u2 n))]))] 1 [] none :: .sls (qU u2 n) n (n - (qU u2 n)) (kF (ka3 (n - (qU u2 n)) (ka4 (qU u2 n) bs))) :: .no :: .call [] (.tup [.agg [iC ek7, iC er8, .d (dl em10 (ka0 em10)), iC ez9], .c (.d (D.lit (.bool true)))]) [] 0 [] none :: qA 6 [])) ((_) ∧ (kO (qU u2 n : Int)) ∧ (n = n) ∧ ((qU u2 n) ≤ n) ∧ (n ≤ n) ∧ (n - (qU u2 n) = (n - (qU u2 n))) ∧ (ka3 ((n - (qU u2 n)) * 4) (ka4 ((qU u2 n) * 4) (kF bs)) = (kF (ka3 (n - (qU u2 n)) (ka4 (qU u2 n) bs)))) ∧ (_)) [(4, rV 1 0), (5, rV 4 0), (6, rV 5 0), (7, bV true)] [(0, some (95, (rL u2 n))), (1, some (27, aR)), (4, some (27, (bL l ma1 u2))), (5, some (27, .ds [iD ek7, iD er8, dl em10 (ka0 em10), iD ez9]))] 6 ⟨(uQ (kC (kC u2 5) 4) (n : Int) (qF : Byt (kC (kC u2 5) 4))), rfl, rfl, zo, zo, zo, (by rw [i9, nZ]), hF10⟩ ?_
    refine kP [.no] True [(4, rV 1 0), (5, rV 4 0), (6, rV 5 0), (44, bV true)] trivial ?_
    refine zt ?_
    refine kL [.no, .no] True [(4, rV 1 0)] [(0, some (95, (rL u2 n))), (1, some (27, .ds [iD ek7, iD er8, dl em10 (ka0 em10), iD ez9]))] 6 trivial ?_
    refine AW.ret ?_
    exact kD (.inr rfl) [] (P := (kO ek7) ∧ (kO er8) ∧ (kM (dI .i64 em10)) ∧ (kH (ka0 em10)) ∧ (kO ez9) ∧ (kM [db (bM u2 n) (ka0 (bM u2 n))])) zk ⟨rfl, rfl, rfl, rfl, rfl, rfl⟩
   ·have hx20 : ((((((qU u2 n) : Nat) : Int) < ((n : Nat) : Int)) ∨ ((qU u2 n) = 0)) ∧ ((qU u2 n) ≤ 255)) := uA (kC (kC u2 5) 4) ((n : Nat) : Int) (qF : Byt (kC (kC u2 5) 4))
    have hx21 : (Byt (bM u2 n)) := qK ((n : Nat) : Int) (qF : Byt (kC (kC u2 5) 4))
    refine ⟨(1 + (((kA l 7) : Nat) : Int)), (ka1 u9 (kA (kC l 7) 5) 0), (ka1 u7 (kA u2 5) 0), ma1, (bM u2 n), zo, (by assumption), ?_⟩
    refine Fun.mk (n := 47) Tryz.func25 rfl rfl (ka5 rfl) ?_
    intro cx hcx
    refine kL [.no] True [(0, rV 0 0), (1, kI (kF bs) n), (4, rV 1 0)] [(0, some (95, .ds [db l (ka0 l)])), (1, some (27, aR))] 2 trivial ?_
    refine kL [.no, .call [0] (uV (kA l 7)) [(0, some (95, .ds [db (kC l 7) (ka0 (kC l 7))]))] 1 [] none, .w, .no, .no, .call [0] (uV (kA (kC l 7) 5)) [(0, some (95, .ds [db (kC (kC l 7) 5) (ka0 (kC (kC l 7) 5))]))] 1 [] none, .n2 (kA (kC l 7) 5) (kA (kC l 7) 5), .d (D.lit (.int .i64 (ka1 u9 (kA (kC l 7) 5) 0))), .no, .call [0] (sV .i64 ma1 (ka0 ma1)) [(0, some (95, .ds [db u2 (ka0 u2)]))] 1 [] none, .no, .no, .no, .call [0] (uV (kA u2 5)) [(0, some (95, (d6 u2)))] 1 [] none, .n2 (kA u2 5) (kA u2 5), .d (D.lit (.int .i64 (ka1 u7 (kA u2 5) 0))), .no, .no, .no] ((_) ∧ ((-9223372036854775808) ≤ (1 + (kA l 7 : Int)) ∧ (1 + (kA l 7 : Int)) ≤ 9223372036854775807) ∧ (_) ∧ (kO (kA (kC l 7) 5 : Int)) ∧ ((kA (kC l 7) 5) < 5) ∧ ((0 : Nat) + (kA (kC l 7) 5) * 1 = (kA (kC l 7) 5)) ∧ ([iD 44100, iD 48000, iD 8000, iD 40000, iD 96000][(kA (kC l 7) 5)]? = some (D.lit (.int .i64 (ka1 u9 (kA (kC l 7) 5) 0)))) ∧ (_) ∧ (_) ∧ (kO (kA u2 5 : Int)) ∧ ((kA u2 5) < 5) ∧ ((0 : Nat) + (kA u2 5) * 1 = (kA u2 5)) ∧ ([iD 16, iD 64, iD 100, iD 1024, iD 2048][(kA u2 5)]? = some (D.lit (.int .i64 (ka1 u7 (kA u2 5) 0))))) [(0, rV 0 0), (1, kI (kF bs) n), (4, rV 1 0), (5, rV 4 0)] [(0, some (95, (d6 u2))), (1, some (27, aR)), (4, some (27, (bL l ma1 u2)))] 5 ⟨(uQ l 7 (qF : Byt l)), ⟨by omega, by omega⟩, (uQ (kC l 7) 5 (qF : Byt (kC l 7))), rfl, zo, zo, (cL .i64 u9 _ eP), hF2, (uQ u2 5 (qF : Byt u2)), rfl, zo, zo, (cL .i64 u7 _ eP)⟩ ?_
    refine AW.seq ?_
    refine kL [.no, .no, .b true, .no, .no, .call [0] (uV (kA (kC u2 5) 4)) [(0, some (95, (gZ u2)))] 1 [] none, .b true, .no] ((((0 : Int) < (n : Int))) ∧ (_) ∧ (((0 : Int) < (kA (kC u2 5) 4 : Int)))) [(0, rV 0 0), (1, kI (kF bs) n), (4, rV 1 0), (5, rV 4 0), (32, bV true)] [(0, some (95, (gZ u2))), (1, some (27, aR)), (4, some (27, (bL l ma1 u2)))] 5 ⟨zo, (uQ (kC u2 5) 4 (qF : Byt (kC u2 5))), zo⟩ ?_
    refine zt ?_
    refine kL (qA 4 (.call [0] (uV (qU u2 n)) [(0, some (95, .ds [db (bM u2 n) (ka0 (bM u2 n))]))] 1 [] none :: .sls (qU u2 n) n (n - (qU u2 n)) (kF (ka3 (n - (qU u2 n)) (ka4 (qU u2 n) bs))) :: .no :: .call [] (.tup [.agg [iC 0, iC 0, .d (k9), iC 0], .c (.d (D.lit (.bool false)))]) [] 0 [] none :: qA 6 [])) ((_) ∧ (kO (qU u2 n : Int)) ∧ (n = n) ∧ ((qU u2 n) ≤ n) ∧ (n ≤ n) ∧ (n - (qU u2 n) = (n - (qU u2 n))) ∧ (ka3 ((n - (qU u2 n)) * 4) (ka4 ((qU u2 n) * 4) (kF bs)) = (kF (ka3 (n - (qU u2 n)) (ka4 (qU u2 n) bs)))) ∧ (_)) [(4, rV 1 0), (5, rV 4 0), (6, rV 5 0), (7, bV false)] [(0, some (95, (rL u2 n))), (1, some (27, aR)), (4, some (27, (bL l ma1 u2))), (5, some (27, aR))] 6 ⟨(uQ (kC (kC u2 5) 4) (n : Int) (qF : Byt (kC (kC u2 5) 4))), rfl, rfl, zo, zo, zo, (by rw [i9, nZ]), (jO (ka3 (n - (qU u2 n)) (ka4 (qU u2 n) bs)) (n - (qU u2 n)) (1 + (kA l 7 : Int)) (ka1 u9 (kA (kC l 7) 5) 0) ma1 (ka0 ma1) (ka1 u7 (kA u2 5) 0) c4 c4 (BsW.take (BsW.drop (qF : BsW bs) _) _) rfl zo c4 c4 c4)⟩ ?_
    refine kP [.no] True [(4, rV 1 0), (5, rV 4 0), (6, rV 5 0), (44, bV false)] trivial ?_
    refine uB ?_
    refine kL [.no, .no] True [(4, rV 1 0)] [(0, some (95, (rL u2 n))), (1, some (27, (bL l ma1 u2)))] 6 trivial ?_
    refine AW.ret ?_
    exact kD (.inr rfl) [] (P := (kO (1 + (kA l 7 : Int))) ∧ (kO (ka1 u9 (kA (kC l 7) 5) 0)) ∧ (kM (dI .i64 ma1)) ∧ (kH (ka0 ma1)) ∧ (kO (ka1 u7 (kA u2 5) 0)) ∧ (kM [db (bM u2 n) (ka0 (bM u2 n))])) zk ⟨rfl, rfl, rfl, rfl, rfl, rfl⟩
  ·have hx15 : ((((((kA (kC u2 5) 4) : Nat) : Int) < 4) ∨ ((kA (kC u2 5) 4) = 0)) ∧ ((kA (kC u2 5) 4) ≤ 255)) := uA (kC u2 5) (4 : Int) (qF : Byt (kC u2 5))
   have hx16 : (Byt (kC (kC u2 5) 4)) := qK (4 : Int) (qF : Byt (kC u2 5))
   refine ⟨(1 + (((kA l 7) : Nat) : Int)), (ka1 u9 (kA (kC l 7) 5) 0), (ka1 u7 (kA u2 5) 0), ma1, (kC (kC u2 5) 4), zo, (by assumption), ?_⟩
   refine Fun.mk (n := 47) Tryz.func25 rfl rfl (ka5 rfl) ?_
   intro cx hcx
   refine kL [.no] True [(0, rV 0 0), (1, kI (kF bs) n), (4, rV 1 0)] [(0, some (95, .ds [db l (ka0 l)])), (1, some (27, aR))] 2 trivial ?_
   refine kL [.no, .call [0] (uV (kA l 7)) [(0, some (95, .ds [db (kC l 7) (ka0 (kC l 7))]))] 1 [] none, .w, .no, .no, .call [0] (uV (kA (kC l 7) 5)) [(0, some (95, .ds [db (kC (kC l 7) 5) (ka0 (kC (kC l 7) 5))]))] 1 [] none, .n2 (kA (kC l 7) 5) (kA (kC l 7) 5), .d (D.lit (.int .i64 (ka1 u9 (kA (kC l 7) 5) 0))), .no, .call [0] (sV .i64 ma1 (ka0 ma1)) [(0, some (95, .ds [db u2 (ka0 u2)]))] 1 [] none, .no, .no, .no, .call [0] (uV (kA u2 5)) [(0, some (95, (d6 u2)))] 1 [] none, .n2 (kA u2 5) (kA u2 5), .d (D.lit (.int .i64 (ka1 u7 (kA u2 5) 0))), .no, .no, .no] ((_) ∧ ((-9223372036854775808) ≤ (1 + (kA l 7 : Int)) ∧ (1 + (kA l 7 : Int)) ≤ 9223372036854775807) ∧ (_) ∧ (kO (kA (kC l 7) 5 : Int)) ∧ ((kA (kC l 7) 5) < 5) ∧ ((0 : Nat) + (kA (kC l 7) 5) * 1 = (kA (kC l 7) 5)) ∧ ([iD 44100, iD 48000, iD 8000, iD 40000, iD 96000][(kA (kC l 7) 5)]? = some (D.lit (.int .i64 (ka1 u9 (kA (kC l 7) 5) 0)))) ∧ (_) ∧ (_) ∧ (kO (kA u2 5 : Int)) ∧ ((kA u2 5) < 5) ∧ ((0 : Nat) + (kA u2 5) * 1 = (kA u2 5)) ∧ ([iD 16, iD 64, iD 100, iD 1024, iD 2048][(kA u2 5)]? = some (D.lit (.int .i64 (ka1 u7 (kA u2 5) 0))))) [(0, rV 0 0), (1, kI (kF bs) n), (4, rV 1 0), (5, rV 4 0)] [(0, some (95, (d6 u2))), (1, some (27, aR)), (4, some (27, (bL l ma1 u2)))] 5 ⟨(uQ l 7 (qF : Byt l)), ⟨by omega, by omega⟩, (uQ (kC l 7) 5 (qF : Byt (kC l 7))), rfl, zo, zo, (cL .i64 u9 _ eP), hF2, (uQ u2 5 (qF : Byt u2)), rfl, zo, zo, (cL .i64 u7 _ eP)⟩ ?_
   refine AW.seq ?_
   refine kL [.no, .no, .b true, .no, .no, .call [0] (uV (kA (kC u2 5) 4)) [(0, some (95, (gZ u2)))] 1 [] none, .b false, .no] ((((0 : Int) < (n : Int))) ∧ (_) ∧ (¬ ((0 : Int) < (kA (kC u2 5) 4 : Int)))) [(0, rV 0 0), (1, kI (kF bs) n), (4, rV 1 0), (5, rV 4 0), (32, bV false)] [(0, some (95, (gZ u2))), (1, some (27, aR)), (4, some (27, (bL l ma1 u2)))] 5 ⟨zo, (uQ (kC u2 5) 4 (qF : Byt (kC u2 5))), zo⟩ ?_
   refine uB ?_
   refine kL [.no, .no] True [(4, rV 1 0)] [(0, some (95, (gZ u2))), (1, some (27, (bL l ma1 u2)))] 5 trivial ?_
   refine AW.ret ?_
   exact kD (.inr rfl) [] (P := (kO (1 + (kA l 7 : Int))) ∧ (kO (ka1 u9 (kA (kC l 7) 5) 0)) ∧ (kM (dI .i64 ma1)) ∧ (kH (ka0 ma1)) ∧ (kO (ka1 u7 (kA u2 5) 0)) ∧ (kM [db (kC (kC u2 5) 4) (ka0 (kC (kC u2 5) 4))])) zk ⟨rfl, rfl, rfl, rfl, rfl, rfl⟩
 ·refine ⟨(1 + (((kA l 7) : Nat) : Int)), (ka1 u9 (kA (kC l 7) 5) 0), (ka1 u7 (kA u2 5) 0), ma1, (kC u2 5), zo, (by assumption), ?_⟩
  refine Fun.mk (n := 47) Tryz.func25 rfl rfl (ka5 rfl) ?_
  intro cx hcx
  refine kL [.no] True [(0, rV 0 0), (1, kI (kF bs) n), (4, rV 1 0)] [(0, some (95, .ds [db l (ka0 l)])), (1, some (27, aR))] 2 trivial ?_
  refine kL [.no, .call [0] (uV (kA l 7)) [(0, some (95, .ds [db (kC l 7) (ka0 (kC l 7))]))] 1 [] none, .w, .no, .no, .call [0] (uV (kA (kC l 7) 5)) [(0, some (95, .ds [db (kC (kC l 7) 5) (ka0 (kC (kC l 7) 5))]))] 1 [] none, .n2 (kA (kC l 7) 5) (kA (kC l 7) 5), .d (D.lit (.int .i64 (ka1 u9 (kA (kC l 7) 5) 0))), .no, .call [0] (sV .i64 ma1 (ka0 ma1)) [(0, some (95, .ds [db u2 (ka0 u2)]))] 1 [] none, .no, .no, .no, .call [0] (uV (kA u2 5)) [(0, some (95, (d6 u2)))] 1 [] none, .n2 (kA u2 5) (kA u2 5), .d (D.lit (.int .i64 (ka1 u7 (kA u2 5) 0))), .no, .no, .no] ((_) ∧ ((-9223372036854775808) ≤ (1 + (kA l 7 : Int)) ∧ (1 + (kA l 7 : Int)) ≤ 9223372036854775807) ∧ (_) ∧ (kO (kA (kC l 7) 5 : Int)) ∧ ((kA (kC l 7) 5) < 5) ∧ ((0 : Nat) + (kA (kC l 7) 5) * 1 = (kA (kC l 7) 5)) ∧ ([iD 44100, iD 48000, iD 8000, iD 40000, iD 96000][(kA (kC l 7) 5)]? = some (D.lit (.int .i64 (ka1 u9 (kA (kC l 7) 5) 0)))) ∧ (_) ∧ (_) ∧ (kO (kA u2 5 : Int)) ∧ ((kA u2 5) < 5) ∧ ((0 : Nat) + (kA u2 5) * 1 = (kA u2 5)) ∧ ([iD 16, iD 64, iD 100, iD 1024, iD 2048][(kA u2 5)]? = some (D.lit (.int .i64 (ka1 u7 (kA u2 5) 0))))) [(0, rV 0 0), (1, kI (kF bs) n), (4, rV 1 0), (5, rV 4 0)] [(0, some (95, (d6 u2))), (1, some (27, aR)), (4, some (27, (bL l ma1 u2)))] 5 ⟨(uQ l 7 (qF : Byt l)), ⟨by omega, by omega⟩, (uQ (kC l 7) 5 (qF : Byt (kC l 7))), rfl, zo, zo, (cL .i64 u9 _ eP), hF2, (uQ u2 5 (qF : Byt u2)), rfl, zo, zo, (cL .i64 u7 _ eP)⟩ ?_
  refine AW.seq ?_
  refine kP [.no, .no, .b false, .no, .no] (¬ ((0 : Int) < (n : Int))) [(0, rV 0 0), (1, kI (kF bs) n), (4, rV 1 0), (5, rV 4 0), (32, bV false)] zo ?_
  refine uB ?_
  refine kL [.no, .no] True [(4, rV 1 0)] [(0, some (95, (d6 u2))), (1, some (27, (bL l ma1 u2)))] 5 trivial ?_
  refine AW.ret ?_
  exact kD (.inr rfl) [] (P := (kO (1 + (kA l 7 : Int))) ∧ (kO (ka1 u9 (kA (kC l 7) 5) 0)) ∧ (kM (dI .i64 ma1)) ∧ (kH (ka0 ma1)) ∧ (kO (ka1 u7 (kA u2 5) 0)) ∧ (kM [db (kC u2 5) (ka0 (kC u2 5))])) zk ⟨rfl, rfl, rfl, rfl, rfl, rfl⟩
end Go.Proofs.YtcfmjpnffembpaaGreat
