/- Lists of boxes of the reference. No statement is proved here. -/
import Derived.Test.YtcfmjpnffembpaaGreatZS10
namespace Go.Proofs.YtcfmjpnffembpaaGreat
open Go.ChangeShapes Go.WideShapes Go.ChangeAt Go.RowKit
open Bool renaming eq_false_or_eq_true → ka6
open Int renaming toNat → kd6
open List renaming drop → ka3, drop_zero → kd5, getD → ka1, length → ka0, length_append → ka9, length_cons → kb0, length_drop → kb5, length_map → kc0, length_nil → kb3, length_replicate → kb4, length_reverse → kb9, length_set → kc1, length_take → kb2, take → ka5, take_of_length_le → kb6
open Nat renaming le_of_ble_eq_true → ka4, mul_one → kc5, not_lt_zero → kd1
set_option linter.unusedVariables false
set_option linter.unusedSimpArgs false
/-! chapter 10: what lists have, of the reference -/
set_option maxHeartbeats 4000000
set_option maxRecDepth 100000
theorem u8p {bs : List Bx} {ck cr : Int} {cm : List Int} {cz : Int} {i : Nat} (hi : i < bs.length) (h : biE bs ck cr cm cz i = true) : dT bs ck cr cm cz = true := decide_eq_true ⟨i, hi, h⟩
theorem u8q {bs : List Bx} {ck cr : Int} {cm : List Int} {cz : Int} (h : ∀ i, i < bs.length → biE bs ck cr cm cz i = false) : dT bs ck cr cm cz = false := decide_eq_false fun ⟨i, hi, e⟩ => by
 rw [h i hi] at e; cases e
theorem k9g (b : Int) (q : Nat) (hq : q ≤ 64) : Fun 97 [iE b, iE ((q : Nat) : Int)] (kE []) 0 (qS (D.lit (.bool (rN b (q : Int))))) (kE []) 0 := by
 refine Fun.mk (n := 18) Tryz.func97 rfl rfl (ka4 rfl) ?_
 intro cx hcx
 refine kI [.no] True [(0, iV b), (1, uV q)] [] 0 trivial ?_
 by_cases hx1 : ((1 : Int) ≤ ((q : Nat) : Int))
 ·by_cases hx2 : (((q : Nat) : Int) ≤ 7)
  ·by_cases hx3 : ((cG (b / (((2 ^ q) : Nat) : Int))) = 1)
   ·refine kN (.no :: .b true :: .no :: .no :: .b true :: kT 4 [.n q, .i (cG (b / (((2 ^ q) : Nat) : Int))), .b true, .no, .no]) ((((1 : Int) ≤ (q : Int))) ∧ (((q : Int) ≤ 7)) ∧ (kM (q : Int)) ∧ (q ≤ 64) ∧ (qI .and .i64 (b / (((2 ^ q) : Nat) : Int)) 1 = (cG (b / (((2 ^ q) : Nat) : Int)))) ∧ (((cG (b / (((2 ^ q) : Nat) : Int))) = 1))) [(4, bV true)] ⟨zo, zo, rfl, zo, rfl, zo⟩ ?_
    refine AW.ret ?_
    exact kC (.inr rfl) [] (P := ((rN b (q : Int)) = true)) zk (by exact k25.trans (decide_eq_true ⟨by omega, by omega, by assumption⟩))
   ·refine kN (.no :: .b true :: .no :: .no :: .b true :: kT 4 [.n q, .i (cG (b / (((2 ^ q) : Nat) : Int))), .b false, .no, .no]) ((((1 : Int) ≤ (q : Int))) ∧ (((q : Int) ≤ 7)) ∧ (kM (q : Int)) ∧ (q ≤ 64) ∧ (qI .and .i64 (b / (((2 ^ q) : Nat) : Int)) 1 = (cG (b / (((2 ^ q) : Nat) : Int)))) ∧ (¬ ((cG (b / (((2 ^ q) : Nat) : Int))) = 1))) [(4, bV false)] ⟨zo, zo, rfl, zo, rfl, zo⟩ ?_
    refine AW.ret ?_
    exact kC (.inr rfl) [] (P := ((rN b (q : Int)) = false)) zk (by exact k25.trans (decide_eq_false (fun e9 => by omega)))
  ·refine kN [.no, .b true, .no, .no, .b false, .no, .no, .no, .no] ((((1 : Int) ≤ (q : Int))) ∧ (¬ ((q : Int) ≤ 7))) [(4, bV false)] ⟨zo, zo⟩ ?_
   refine AW.ret ?_
   exact kC (.inr rfl) [] (P := ((rN b (q : Int)) = false)) zk (by exact k25.trans (decide_eq_false (fun e9 => by omega)))
 ·refine kN (.no :: .b false :: kT 5 []) (¬ ((1 : Int) ≤ (q : Int))) [(4, bV false)] zo ?_
  refine AW.ret ?_
  exact kC (.inr rfl) [] (P := ((rN b (q : Int)) = false)) zk (by exact k25.trans (decide_eq_false (fun e9 => by omega)))
theorem k9f (b ck : Int) (hq : ¬ (1 ≤ ck ∧ ck ≤ 7)) : Fun 97 [iE b, iE ck] (kE []) 0 (qS (D.lit (.bool (rN b ck)))) (kE []) 0 := by
 refine Fun.mk (n := 18) Tryz.func97 rfl rfl (ka4 rfl) ?_
 intro cx hcx
 refine kI [.no] True [(0, iV b), (1, iV ck)] [] 0 trivial ?_
 by_cases hx1 : ((1 : Int) ≤ ck)
 ·refine kN [.no, .b true, .no, .no, .b false, .no, .no, .no, .no] ((((1 : Int) ≤ ck)) ∧ (¬ (ck ≤ 7))) [(4, bV false)] ⟨zo, zo⟩ ?_
  refine AW.ret ?_
  exact kC (.inr rfl) [] (P := ((rN b ck) = false)) zk (by exact k85 hq)
 ·refine kN (.no :: .b false :: kT 5 []) (¬ ((1 : Int) ≤ ck)) [(4, bV false)] zo ?_
  refine AW.ret ?_
  exact kC (.inr rfl) [] (P := ((rN b ck) = false)) zk (by exact k85 hq)
theorem nE (b ck : Int) : Fun 97 [iE b, iE ck] (kE []) 0 (qS (D.lit (.bool (rN b ck)))) (kE []) 0 := by
 by_cases h9 : 1 ≤ ck ∧ ck ≤ 7
 ·obtain ⟨q, rfl⟩ : ∃ q : Nat, ck = (q : Int) := ⟨kd6 ck, by omega⟩
  exact k9g b q (by omega)
 ·exact k9f b ck h9
theorem u6r (k : Int) (r : List Int) (rn : Nat) (m : List (List Int)) (c : Nat) (s : List Int) (sn : Nat) (ck cr : Int) (cm : List Int) (cn : Nat) (cz : Int) (hr : ka0 r = rn * 2) (hs : ka0 s = sn * 2) (hc : ka0 m = c) (h1 : rn ≤ 1000000) (h2 : sn ≤ 1000000) (h3 : c ≤ 1000000) (hW : MsW m) (h4 : ka0 cm = cn) (h5 : cn ≤ 1000000) : Fun 53 [.agg [iC k, .d (D.sl (dI .i64 r) rn), .d (D.sl (kL m) c), .d (D.sl (dI .i64 s) sn)], .agg [iC ck, iC cr, .d (D.sl (dI .i64 cm) cn), iC cz]] (kE []) 0 (qS (D.lit (.bool (eK k r rn m s sn ck cr cm cz)))) (kE []) 0 := by
 refine Fun.mk (n := 34) Tryz.func53 rfl rfl (ka4 rfl) ?_
 intro cx hcx
 refine kI [.no, .no, .no] True [(2, rV 0 0), (3, rV 1 0)] [(0, some (59, .ds [iD k, dl r rn, D.sl (kL m) c, dl s sn])), (1, some (27, .ds [iD ck, iD cr, dl cm cn, iD cz]))] 2 trivial ?_
 rcases ka6 (rN k ck) with hx1 | hx1
 ·rcases ka6 (gI (kB r rn) cr) with hx2 | hx2
  ·rcases ka6 (d9 m cm) with hx3 | hx3
   ·rcases ka6 (gI (kB s sn) cz) with hx4 | hx4
    ·refine kI (kT 5 (.call [] (bV true) [] 0 [] none :: kT 6 (.call [] (bV true) [] 0 [] none :: kT 7 (.call [] (bV true) [] 0 [] none :: kT 6 [.call [] (bV true) [] 0 [] none, .no, .no])))) ((Fun 97 [iE k, iE ck] (kE []) 0 (bV true) (kE []) 0) ∧ (Fun 98 [.agg [.d (dl r rn)], iE cr] (kE []) 0 (bV true) (kE []) 0) ∧ (Fun 83 [.c (.d (D.sl (kL m) c)), .c (.d (dl cm cn))] (kE []) 0 (bV true) (kE []) 0) ∧ (Fun 98 [.agg [.d (dl s sn)], iE cz] (kE []) 0 (bV true) (kE []) 0)) [(4, bV true)] [] 2 ⟨(by have h0 := (nE k ck); rw [hx1] at h0; exact h0), (by have h0 := (jZ r rn cr zo zo); rw [hx2] at h0; exact h0), (by have h0 := (eF m c cm cn zo zo zo zo (kZ : MsW m)); rw [hx3] at h0; exact h0), (by have h0 := (jZ s sn cz zo zo); rw [hx4] at h0; exact h0)⟩ ?_
     refine AW.ret ?_
     exact kC (.inr rfl) [] (P := ((eK k r rn m s sn ck cr cm cz) = true)) zk (by exact u6h (by assumption) (by assumption) (by assumption) (by assumption))
    ·refine kI (kT 5 (.call [] (bV true) [] 0 [] none :: kT 6 (.call [] (bV true) [] 0 [] none :: kT 7 (.call [] (bV true) [] 0 [] none :: kT 6 [.call [] (bV false) [] 0 [] none, .no, .no])))) ((Fun 97 [iE k, iE ck] (kE []) 0 (bV true) (kE []) 0) ∧ (Fun 98 [.agg [.d (dl r rn)], iE cr] (kE []) 0 (bV true) (kE []) 0) ∧ (Fun 83 [.c (.d (D.sl (kL m) c)), .c (.d (dl cm cn))] (kE []) 0 (bV true) (kE []) 0) ∧ (Fun 98 [.agg [.d (dl s sn)], iE cz] (kE []) 0 (bV false) (kE []) 0)) [(4, bV false)] [] 2 ⟨(by have h0 := (nE k ck); rw [hx1] at h0; exact h0), (by have h0 := (jZ r rn cr zo zo); rw [hx2] at h0; exact h0), (by have h0 := (eF m c cm cn zo zo zo zo (kZ : MsW m)); rw [hx3] at h0; exact h0), (by have h0 := (jZ s sn cz zo zo); rw [hx4] at h0; exact h0)⟩ ?_
     refine AW.ret ?_
     exact kC (.inr rfl) [] (P := ((eK k r rn m s sn ck cr cm cz) = false)) zk (by exact u6i (by assumption))
   ·refine kI (kT 5 (.call [] (bV true) [] 0 [] none :: kT 6 (.call [] (bV true) [] 0 [] none :: kT 7 (.call [] (bV false) [] 0 [] none :: kT 4 [])))) ((Fun 97 [iE k, iE ck] (kE []) 0 (bV true) (kE []) 0) ∧ (Fun 98 [.agg [.d (dl r rn)], iE cr] (kE []) 0 (bV true) (kE []) 0) ∧ (Fun 83 [.c (.d (D.sl (kL m) c)), .c (.d (dl cm cn))] (kE []) 0 (bV false) (kE []) 0)) [(4, bV false)] [] 2 ⟨(by have h0 := (nE k ck); rw [hx1] at h0; exact h0), (by have h0 := (jZ r rn cr zo zo); rw [hx2] at h0; exact h0), (by have h0 := (eF m c cm cn zo zo zo zo (kZ : MsW m)); rw [hx3] at h0; exact h0)⟩ ?_
    refine AW.ret ?_
    exact kC (.inr rfl) [] (P := ((eK k r rn m s sn ck cr cm cz) = false)) zk (by exact u6k (by assumption))
  ·refine kI (kT 5 (.call [] (bV true) [] 0 [] none :: kT 6 (.call [] (bV false) [] 0 [] none :: kT 6 []))) ((Fun 97 [iE k, iE ck] (kE []) 0 (bV true) (kE []) 0) ∧ (Fun 98 [.agg [.d (dl r rn)], iE cr] (kE []) 0 (bV false) (kE []) 0)) [(4, bV false)] [] 2 ⟨(by have h0 := (nE k ck); rw [hx1] at h0; exact h0), (by have h0 := (jZ r rn cr zo zo); rw [hx2] at h0; exact h0)⟩ ?_
   refine AW.ret ?_
   exact kC (.inr rfl) [] (P := ((eK k r rn m s sn ck cr cm cz) = false)) zk (by exact u6j (by assumption))
 ·refine kI (kT 5 (.call [] (bV false) [] 0 [] none :: kT 7 [])) (Fun 97 [iE k, iE ck] (kE []) 0 (bV false) (kE []) 0) [(4, bV false)] [] 2 (by have h0 := (nE k ck); rw [hx1] at h0; exact h0) ?_
  refine AW.ret ?_
  exact kC (.inr rfl) [] (P := ((eK k r rn m s sn ck cr cm cz) = false)) zk (by exact k9c (by assumption))
theorem o9 (bs : List Bx) (n : Nat) (ck cr : Int) (cm : List Int) (cn : Nat) (cz : Int) (hn : ka0 bs = n) (h1 : n ≤ 1000000) (hW : BsW bs) (h4 : ka0 cm = cn) (h5 : cn ≤ 1000000) : Fun 22 [.c (.d (D.sl (kP bs) n)), .agg [iC ck, iC cr, .d (D.sl (dI .i64 cm) cn), iC cz]] (kE []) 0 (qS (D.lit (.bool (dT (kH bs) ck cr cm cz)))) (kE []) 0 := by
 refine Fun.mk (n := 18) Tryz.func22 rfl rfl (ka4 rfl) ?_
 intro cx hcx
 refine kI [.no, .no] True [(0, .e (kQ bs n)), (3, rV 0 0)] [(0, some (27, .ds [iD ck, iD cr, dl cm cn, iD cz]))] 1 trivial ?_
 refine AW.seq ?_
 have hx1 : ((ka0 (kH bs)) ≤ n) := (by have h9 := c9 bs; omega)
 refine kN [.no, .call [] (.e (qW (kH bs))) [] 0 [] none, .no, .no] _ [(3, rV 0 0), (8, .e (qW (kH bs))), (9, uV (ka0 (kH bs))), (10, iV 0)] (sW bs n zo zo (kZ : BsW bs)) ?_
 refine AW.block ?_
 refine kU 0 hcx (fun (x : {x : Nat // match x with | z => (z ≤ ka0 (kH bs)) ∧ (∀ j, j < z → biE (kH bs) ck cr cm cz j = false)}) => match x with | ⟨z, _⟩ => (⟨[(3, rV 0 0), (8, .e (qW (kH bs))), (9, uV (ka0 (kH bs))), (10, uV z)], [(0, some (27, .ds [iD ck, iD cr, dl cm cn, iD cz]))], 1⟩ : ES)) (fun x => match x with | ⟨z, _⟩ => ka0 (kH bs) - z) ⟨(0 : Nat), ⟨zo, (fun j hj => absurd hj (kd1 j))⟩⟩ [] (P := (kG 0) ∧ (kJ (kP (kH bs))) ∧ (kG (ka0 (kH bs))) ∧ (kM (ka0 (kH bs) : Int)) ∧ (kM 0) ∧ (kJ [iD ck, iD cr, dl cm cn, iD cz])) zk ⟨rfl, rfl, rfl, rfl, rfl, rfl⟩ ?_
 rintro ⟨z, hinv0⟩
 obtain ⟨hz, ha⟩ : (z ≤ ka0 (kH bs)) ∧ (∀ j, j < z → biE (kH bs) ck cr cm cz j = false) := hinv0
 refine qN (l := [(3, rV 0 0), (8, .e (qW (kH bs))), (9, uV (ka0 (kH bs))), (10, uV z)]) (g := [(0, some (27, .ds [iD ck, iD cr, dl cm cn, iD cz]))]) (nx := 1) rfl rfl rfl ?_
 by_cases hx2 : (((z : Nat) : Int) < (((ka0 (kH bs)) : Nat) : Int))
 ·refine kI [.b true] (((z : Int) < (ka0 (kH bs) : Int))) [(3, rV 0 0), (8, .e (qW (kH bs))), (9, uV (ka0 (kH bs))), (10, uV z), (11, bV true)] [(0, some (27, .ds [iD ck, iD cr, dl cm cn, iD cz]))] 1 zo ?_
  refine AW.seq ?_
  refine yW ?_
  refine AW.seq ?_
  refine AW.block ?_
  obtain ⟨hx3, hx4, hx5, hx6, hx7⟩ := BsW.at (aB (kZ : BsW bs)) (z)
  have hx8 : ((1 : Nat) ≤ (ka0 (kY (kH bs) z))) := g6 zo
  refine kI [.n z, .ds (uY (kH bs) z), .no, .no] ((kM (z : Int)) ∧ (z < (ka0 (kH bs))) ∧ (ka5 4 (ka3 (z * 4) (kP (kH bs))) = (uY (kH bs) z)) ∧ (((uY (kH bs) z) : List D).length = 4)) [(3, rV 0 0), (6, rV 1 0), (8, .e (qW (kH bs))), (9, uV (ka0 (kH bs))), (10, uV z)] [(0, some (27, .ds [iD ck, iD cr, dl cm cn, iD cz])), (1, some (59, .ds (uY (kH bs) z)))] 2 ⟨rfl, zo, (yF zo), rfl⟩ ?_
  rcases ka6 (eK (k9 (kH bs) z) (qF (kH bs) z) (qB (kH bs) z) (kY (kH bs) z) (qG (kH bs) z) (qC (kH bs) z) ck cr cm cz) with hx9 | hx9
  ·refine kI [.no, .no, .call [] (bV true) [] 0 [] none] (Fun 53 [(b8 (kH bs) z), .agg [iC ck, iC cr, .d (dl cm cn), iC cz]] (kE []) 0 (bV true) (kE []) 0) [(3, rV 0 0), (8, .e (qW (kH bs))), (9, uV (ka0 (kH bs))), (10, uV z), (16, bV true)] [(0, some (27, .ds [iD ck, iD cr, dl cm cn, iD cz]))] 2 (by have h0 := (u6r (k9 (kH bs) z) (qF (kH bs) z) (qB (kH bs) z) (kY (kH bs) z) (ka0 (kY (kH bs) z)) (qG (kH bs) z) (qC (kH bs) z) ck cr cm cn cz zo zo rfl zo zo zo (BsW.ms (aB (kZ : BsW bs)) _) zo zo); rw [hx9] at h0; exact h0) ?_
   refine zt ?_
   refine kI [.no] True [(4, bV true)] [] 2 trivial ?_
   refine AW.ret ?_
   exact kC (.inr rfl) [] (P := ((dT (kH bs) ck cr cm cz) = true)) zk (by exact u8p (i := z) zo (by assumption))
  ·refine kI [.no, .no, .call [] (bV false) [] 0 [] none] (Fun 53 [(b8 (kH bs) z), .agg [iC ck, iC cr, .d (dl cm cn), iC cz]] (kE []) 0 (bV false) (kE []) 0) [(3, rV 0 0), (8, .e (qW (kH bs))), (9, uV (ka0 (kH bs))), (10, uV z), (16, bV false)] [(0, some (27, .ds [iD ck, iD cr, dl cm cn, iD cz]))] 2 (by have h0 := (u6r (k9 (kH bs) z) (qF (kH bs) z) (qB (kH bs) z) (kY (kH bs) z) (ka0 (kY (kH bs) z)) (qG (kH bs) z) (qC (kH bs) z) ck cr cm cn cz zo zo rfl zo zo zo (BsW.ms (aB (kZ : BsW bs)) _) zo zo); rw [hx9] at h0; exact h0) ?_
   refine q8 ?_
   refine uJ [.w, .no] (uZ ((z : Int) + 1)) [(3, rV 0 0), (8, .e (qW (kH bs))), (9, uV (ka0 (kH bs))), (10, iV (↑z + 1))] ⟨by omega, by omega⟩ ?_
   exact kX ⟨((z + 1) : Nat), ⟨zo, (fun j hj => (Nat.lt_succ_iff_lt_or_eq.1 hj).elim (ha j) (fun e9 => by subst e9; assumption))⟩⟩ [] (P := (kG 0) ∧ (kJ (kP (kH bs))) ∧ (kG (ka0 (kH bs))) ∧ (kM (ka0 (kH bs) : Int)) ∧ (vX z) ∧ (kJ [iD ck, iD cr, dl cm cn, iD cz])) zk ⟨rfl, rfl, rfl, rfl, (by rfl), rfl⟩ (show ka0 (kH bs) - (z + 1) < ka0 (kH bs) - z from zo)
 ·refine kI [.b false] (¬ ((z : Int) < (ka0 (kH bs) : Int))) [(3, rV 0 0), (8, .e (qW (kH bs))), (9, uV (ka0 (kH bs))), (10, uV z), (11, bV false)] [(0, some (27, .ds [iD ck, iD cr, dl cm cn, iD cz]))] 1 zo ?_
  refine AW.seq ?_
  refine zf ?_
  refine AW.exit ?_
  refine kI [.no] True [(4, bV false)] [] 1 trivial ?_
  refine AW.ret ?_
  exact kC (.inr rfl) [] (P := ((dT (kH bs) ck cr cm cz) = false)) zk (by exact u8q (fun j hj => ha j zo))
theorem pF {p : Prop} (h : p := by rw [kd5, kb6 (by (simp only [qH, qE, uA, ka9, kb0, kb3, kb2, kb5, kb4, kc1, kc0, kb9, kc5] <;> omega))]) : p := h
theorem bO {p : Prop} (h : p := by (simp only [qH, qE, uA, ka9, kb0, kb3, kb2, kb5, kb4, kc1, kc0, kb9, kc5] <;> omega)) : p := h
theorem u0t (a : Int)  : Fun 57 [iE a] (kE []) 0 (.e (.agg [.d (D.sl (dI .i64 ([a, a] : List Int)) 1)])) (kE []) 0 := by
 refine Fun.mk (n := 8) Tryz.func57 rfl rfl (ka4 rfl) ?_
 intro cx hcx
 refine kI [.no] True [(0, iV a), (2, rV 0 0)] [(0, some (56, .ds [qR]))] 1 trivial ?_
 refine kI (kT 6 []) True [(2, rV 0 0)] [(0, some (56, .cs [.own 1 0 1 2 true])), (1, some (77, .ds [iD a, iD a]))] 2 trivial ?_
 refine AW.freeze 1 (l' := [(2, rV 0 0)]) (g' := [(0, some (56, .ds [D.sl [iD a, iD a] 1]))]) rfl (FzS.cons rfl (.same _) FzS.nil) (FzG.to (bc := .cs [.own 1 0 1 2 true]) rfl (by rfl) (FzL.cons (@FzC.own 1 ([iD a, iD a] : List D) 0 (1 : Nat) 2 true ([iD a, iD a] : List D) pF bO) FzL.nil) FzG.nil) ?_
 refine AW.ret ?_
 exact kC (.inr rfl) [] (P := (((dI .i64 ([a, a] : List Int)) : List D) = [iD a, iD a]) ∧ (kG 1)) zk ⟨(by rfl), rfl⟩
@[reducible] def oE (k r : Int) (m : List Int) (z : Int) : List Bx := ([(uO (IntKind.i64.wrap (1 * (((2 ^ (kd6 k)) : Nat) : Int))) ([r, r] : List Int) 1 ([m] : List (List Int)) ([z, z] : List Int) 1)] : List Bx)
theorem wX (k r : Int) (m : List Int) (n : Nat) (z : Int) (hm : ka0 m = n) (h1 : n ≤ 1000000) : Fun 24 [.agg [iC k, iC r, .d (D.sl (dI .i64 m) n), iC z]] (kE []) 0 (.e (qW (bY k r m z))) (kE []) 0 := by
 refine Fun.mk (n := 33) Tryz.func24 rfl rfl (ka4 rfl) ?_
 intro cx hcx
 refine kI [.no, .no] True [(1, rV 0 0)] [(0, some (27, .ds [iD k, iD r, dl m n, iD z]))] 1 trivial ?_
 refine AW.seq ?_
 by_cases hx1 : (k < 1)
 ·obtain rfl : n = (ka0 m) := (by omega)
  refine kI [.no, .no, .no, .b true, .no, .no] ((k < 1)) [(1, rV 0 0), (13, bV true)] [(0, some (27, .ds [iD k, iD r, dl m (ka0 m), iD z]))] 1 zo ?_
  refine zt ?_
  refine kI [.no] True [(2, nV)] [] 1 trivial ?_
  have hz1 : bY k r m z = [] := if_neg (by omega)
  refine yV (l' := [(2, qJ ([] : List D) 0)]) (g' := []) (NlS.cons rfl (.e (.c .nil)) NlS.nil) NlG.nil ?_
  refine AW.ret ?_
  exact kC (.inr rfl) [] (P := (((kP (bY k r m z)) : List D) = ([] : List D)) ∧ (((ka0 (bY k r m z)) : Nat) = 0)) zk ⟨(by (rw [hz1]; rfl)), (by (rw [hz1]; rfl))⟩
 ·by_cases hx2 : ((7 : Int) < k)
  ·obtain rfl : n = (ka0 m) := (by omega)
   refine kI (.no :: .no :: .no :: .b false :: kT 4 [.b true, .no]) ((¬ (k < 1)) ∧ (((7 : Int) < k))) [(1, rV 0 0), (13, bV true)] [(0, some (27, .ds [iD k, iD r, dl m (ka0 m), iD z]))] 1 ⟨zo, zo⟩ ?_
   refine zt ?_
   refine kI [.no] True [(2, nV)] [] 1 trivial ?_
   have hz1 : bY k r m z = [] := if_neg (by omega)
   refine yV (l' := [(2, qJ ([] : List D) 0)]) (g' := []) (NlS.cons rfl (.e (.c .nil)) NlS.nil) NlG.nil ?_
   refine AW.ret ?_
   exact kC (.inr rfl) [] (P := (((kP (bY k r m z)) : List D) = ([] : List D)) ∧ (((ka0 (bY k r m z)) : Nat) = 0)) zk ⟨(by (rw [hz1]; rfl)), (by (rw [hz1]; rfl))⟩
  ·obtain rfl : n = (ka0 m) := (by omega)
   refine kI (.no :: .no :: .no :: .b false :: kT 4 [.b false, .no]) ((¬ (k < 1)) ∧ (¬ ((7 : Int) < k))) [(1, rV 0 0), (13, bV false)] [(0, some (27, .ds [iD k, iD r, dl m (ka0 m), iD z]))] 1 ⟨zo, zo⟩ ?_
   refine q8 ?_
   refine kI (.no :: .no :: .no :: .n2 (kd6 k) 0 :: .no :: .no :: .no :: .call [] (.e (.agg [.d (dl ([r, r] : List Int) 1)])) [] 0 [] none :: kT 6 [.call [] (.e (.agg [.d (dl ([z, z] : List Int) 1)])) [] 0 [] none, .no, .no, .no]) (((k : Int) = (kd6 k : Int)) ∧ ((kd6 k) ≤ 64) ∧ (_) ∧ (_)) [(3, oV 2 0 1 4)] [(1, some (23, .ds [dl m (ka0 m)])), (2, some (59, .cs [iC (IntKind.i64.wrap (1 * (((2 ^ (kd6 k)) : Nat) : Int))), .d (dl ([r, r] : List Int) 1), .own 1 0 1 1 true, .d (dl ([z, z] : List Int) 1)]))] 3 ⟨zo, zo, (u0t r), (u0t z)⟩ ?_
   refine AW.freeze 1 (l' := [(3, oV 2 0 1 4)]) (g' := [(2, some (59, .ds [iD (IntKind.i64.wrap (1 * (((2 ^ (kd6 k)) : Nat) : Int))), dl ([r, r] : List Int) 1, D.sl [dl m (ka0 m)] 1, dl ([z, z] : List Int) 1]))]) rfl (FzS.cons rfl (.same _) FzS.nil) (FzG.to (bc := .cs [iC (IntKind.i64.wrap (1 * (((2 ^ (kd6 k)) : Nat) : Int))), .d (dl ([r, r] : List Int) 1), .own 1 0 1 1 true, .d (dl ([z, z] : List Int) 1)]) rfl (by rfl) (FzL.cons (.same _) (FzL.cons (.same _) (FzL.cons (@FzC.own 1 ([dl m (ka0 m)] : List D) 0 (1 : Nat) 1 true ([dl m (ka0 m)] : List D) (by rw [kd5, kc5, kb6 (by (simp only [qH, qE, uA, ka9, kb0, kb3, kb2, kb5, kb4, kc1, kc0, kb9, kc5] <;> omega))]) bO) (FzL.cons (.same _) FzL.nil)))) FzG.nil) ?_
   refine AW.freeze 2 (l' := [(3, qJ [iD (IntKind.i64.wrap (1 * (((2 ^ (kd6 k)) : Nat) : Int))), dl ([r, r] : List Int) 1, D.sl [dl m (ka0 m)] 1, dl ([z, z] : List Int) 1] 1)]) (g' := []) rfl (FzS.cons rfl (.e (.c (@FzC.own 2 ([iD (IntKind.i64.wrap (1 * (((2 ^ (kd6 k)) : Nat) : Int))), dl ([r, r] : List Int) 1, D.sl [dl m (ka0 m)] 1, dl ([z, z] : List Int) 1] : List D) 0 (1 : Nat) 4 true ([iD (IntKind.i64.wrap (1 * (((2 ^ (kd6 k)) : Nat) : Int))), dl ([r, r] : List Int) 1, D.sl [dl m (ka0 m)] 1, dl ([z, z] : List Int) 1] : List D) pF bO))) FzS.nil) FzG.nil ?_
   rw [show ([iD (IntKind.i64.wrap (1 * (((2 ^ (kd6 k)) : Nat) : Int))), D.sl (dI .i64 ([r, r] : List Int)) 1, D.sl [D.sl (dI .i64 m) (ka0 m)] 1, D.sl (dI .i64 ([z, z] : List Int)) 1] : List D) = (kP (oE k r m z)) from rfl]
   have hx3 : BsW (oE k r m z) := k3f k r m z zo
   have hx4 : ((ka0 (kH (oE k r m z))) ≤ 1) := (by have h9 := c9 (oE k r m z); omega)
   refine kI [.no, .call [] (.e (qW (kH (oE k r m z)))) [] 0 [] none, .no] _ [(2, .e (qW (kH (oE k r m z))))] [] 3 (sW (oE k r m z) 1 (by (simp only [qH, qE, ka9, kb0, kb3, kb2, kb5, kb4, kc1] <;> omega)) zo (kZ : BsW (oE k r m z))) ?_
   have hz1 : bY k r m z = kH (siX k r m z) := if_pos (by omega)
   refine AW.ret ?_
   exact kC (.inr rfl) [] (P := (((kP (bY k r m z)) : List D) = (kP (kH (oE k r m z)))) ∧ (((ka0 (bY k r m z)) : Nat) = (ka0 (kH (oE k r m z))))) zk ⟨(by (rw [hz1]; rfl)), (by (rw [hz1]; rfl))⟩
abbrev mE (k : Int) (r : List Int) (rn : Nat) (m : List (List Int)) (c : Nat) (s : List Int) (sn : Nat) : BC := .ds [iD k, D.sl (dI .i64 r) rn, D.sl (kL m) c, D.sl (dI .i64 s) sn]
abbrev mD (k2 : Int) (r2 : List Int) (rn2 : Nat) (m2 : List (List Int)) (c2 : Nat) (s2 : List Int) (sn2 : Nat) : BC := .ds [iD k2, D.sl (dI .i64 r2) rn2, D.sl (kL m2) c2, D.sl (dI .i64 s2) sn2]
theorem o8 (k : Int) (r : List Int) (rn : Nat) (m : List (List Int)) (c : Nat) (s : List Int) (sn : Nat) (k2 : Int) (r2 : List Int) (rn2 : Nat) (m2 : List (List Int)) (c2 : Nat) (s2 : List Int) (sn2 : Nat) (hr : ka0 r = rn * 2) (hs : ka0 s = sn * 2) (hc : ka0 m = c) (h1 : rn ≤ 1000000) (h2 : sn ≤ 1000000) (h3 : c ≤ 1000000) (hW : MsW m) (hr2 : ka0 r2 = rn2 * 2) (hs2 : ka0 s2 = sn2 * 2) (hc2 : ka0 m2 = c2) (h12 : rn2 ≤ 1000000) (h22 : sn2 ≤ 1000000) (h32 : c2 ≤ 1000000) (hW2 : MsW m2) : Fun 41 [.agg [iC k, .d (D.sl (dI .i64 r) rn), .d (D.sl (kL m) c), .d (D.sl (dI .i64 s) sn)], .agg [iC k2, .d (D.sl (dI .i64 r2) rn2), .d (D.sl (kL m2) c2), .d (D.sl (dI .i64 s2) sn2)]] (kE []) 0 (qS (D.lit (.bool (jP k r rn m s sn k2 r2 rn2 m2 s2 sn2)))) (kE []) 0 := by
 refine Fun.mk (n := 40) Tryz.func41 rfl rfl (ka4 rfl) ?_
 intro cx hcx
 refine kI [.no, .no, .no] True [(2, rV 0 0), (3, rV 1 0)] [(0, some (59, (mE k r rn m c s sn))), (1, some (59, (mD k2 r2 rn2 m2 c2 s2 sn2)))] 2 trivial ?_
 refine AW.seq ?_
 refine kN (kT 4 []) True [(2, rV 0 0), (3, rV 1 0), (8, qJ (kL m) c), (9, uV c), (10, iV 0)] trivial ?_
 refine AW.block ?_
 refine kU 0 hcx (fun (x : {x : Nat // match x with | z => (z ≤ c) ∧ (∀ j, j < z → d9 m2 (ka1 m j []) = true)}) => match x with | ⟨z, _⟩ => (⟨[(2, rV 0 0), (3, rV 1 0), (8, qJ (kL m) c), (9, uV c), (10, uV z)], [(0, some (59, (mE k r rn m c s sn))), (1, some (59, (mD k2 r2 rn2 m2 c2 s2 sn2)))], 2⟩ : ES)) (fun x => match x with | ⟨z, _⟩ => c - z) ⟨(0 : Nat), ⟨zo, (fun j hj => absurd hj (kd1 j))⟩⟩ [] (P := (kG 0) ∧ (kG 0) ∧ (kJ (kL m)) ∧ (kG c) ∧ (kM (c : Int)) ∧ (kM 0) ∧ (kJ [iD k, dl r rn, D.sl (kL m) c, dl s sn]) ∧ (kJ [iD k2, dl r2 rn2, D.sl (kL m2) c2, dl s2 sn2])) zk ⟨rfl, rfl, rfl, rfl, rfl, rfl, rfl, rfl⟩ ?_
 rintro ⟨z, hinv0⟩
 obtain ⟨hz, ha⟩ : (z ≤ c) ∧ (∀ j, j < z → d9 m2 (ka1 m j []) = true) := hinv0
 refine qN (l := [(2, rV 0 0), (3, rV 1 0), (8, qJ (kL m) c), (9, uV c), (10, uV z)]) (g := [(0, some (59, (mE k r rn m c s sn))), (1, some (59, (mD k2 r2 rn2 m2 c2 s2 sn2)))]) (nx := 2) rfl rfl rfl ?_
 by_cases hx1 : (((z : Nat) : Int) < ((c : Nat) : Int))
 ·refine kI [.b true] (((z : Int) < (c : Int))) [(2, rV 0 0), (3, rV 1 0), (8, qJ (kL m) c), (9, uV c), (10, uV z), (11, bV true)] [(0, some (59, (mE k r rn m c s sn))), (1, some (59, (mD k2 r2 rn2 m2 c2 s2 sn2)))] 2 zo ?_
  refine AW.seq ?_
  refine yW ?_
  refine AW.seq ?_
  refine AW.block ?_
  have hx2 : ((ka0 (ka1 m z ([] : List Int))) ≤ 1000000) := MsW.at (kZ : MsW m) _
  refine kN [.n z, .d (dl (ka1 m z ([] : List Int)) (ka0 (ka1 m z ([] : List Int)))), .no] ((kM (z : Int)) ∧ (z < c) ∧ ((ka3 z (kL m))[0]? = some (dl (ka1 m z ([] : List Int)) (ka0 (ka1 m z ([] : List Int)))))) [(2, rV 0 0), (3, rV 1 0), (6, sV .i64 (ka1 m z ([] : List Int)) (ka0 (ka1 m z ([] : List Int)))), (8, qJ (kL m) c), (9, uV c), (10, uV z)] ⟨rfl, zo, (yE _ _ zo)⟩ ?_
  rcases ka6 (d9 m2 (ka1 m z ([] : List Int))) with hx3 | hx3
  ·refine kN [.no, .no, .no, .call [] (bV true) [] 0 [] none, .no] (Fun 83 [.c (.d (D.sl (kL m2) c2)), .c (.d (dl (ka1 m z ([] : List Int)) (ka0 (ka1 m z ([] : List Int)))))] (kE []) 0 (bV true) (kE []) 0) [(2, rV 0 0), (3, rV 1 0), (8, qJ (kL m) c), (9, uV c), (10, uV z), (18, bV false)] (by have h0 := (eF m2 c2 (ka1 m z ([] : List Int)) (ka0 (ka1 m z ([] : List Int))) zo rfl zo zo (kZ : MsW m2)); rw [hx3] at h0; exact h0) ?_
   refine q8 ?_
   refine uJ [.w, .no] (uZ ((z : Int) + 1)) [(2, rV 0 0), (3, rV 1 0), (8, qJ (kL m) c), (9, uV c), (10, iV (↑z + 1))] ⟨by omega, by omega⟩ ?_
   exact kX ⟨((z + 1) : Nat), ⟨zo, (fun j hj => (Nat.lt_succ_iff_lt_or_eq.1 hj).elim (ha j) (fun e9 => by subst e9; assumption))⟩⟩ [] (P := (kG 0) ∧ (kG 0) ∧ (kJ (kL m)) ∧ (kG c) ∧ (kM (c : Int)) ∧ (vX z) ∧ (kJ [iD k, dl r rn, D.sl (kL m) c, dl s sn]) ∧ (kJ [iD k2, dl r2 rn2, D.sl (kL m2) c2, dl s2 sn2])) zk ⟨rfl, rfl, rfl, rfl, rfl, (by rfl), rfl, rfl⟩ (show c - (z + 1) < c - z from zo)
  ·refine kN [.no, .no, .no, .call [] (bV false) [] 0 [] none, .no] (Fun 83 [.c (.d (D.sl (kL m2) c2)), .c (.d (dl (ka1 m z ([] : List Int)) (ka0 (ka1 m z ([] : List Int)))))] (kE []) 0 (bV false) (kE []) 0) [(2, rV 0 0), (3, rV 1 0), (8, qJ (kL m) c), (9, uV c), (10, uV z), (18, bV true)] (by have h0 := (eF m2 c2 (ka1 m z ([] : List Int)) (ka0 (ka1 m z ([] : List Int))) zo rfl zo zo (kZ : MsW m2)); rw [hx3] at h0; exact h0) ?_
   refine zt ?_
   refine kI [.no] True [(4, bV false)] [] 2 trivial ?_
   refine AW.ret ?_
   exact kC (.inr rfl) [] (P := ((jP k r rn m s sn k2 r2 rn2 m2 s2 sn2) = false)) zk (by exact u4p (u7g (j := z) hc zo (by assumption)))
 ·refine kI [.b false] (¬ ((z : Int) < (c : Int))) [(2, rV 0 0), (3, rV 1 0), (8, qJ (kL m) c), (9, uV c), (10, uV z), (11, bV false)] [(0, some (59, (mE k r rn m c s sn))), (1, some (59, (mD k2 r2 rn2 m2 c2 s2 sn2)))] 2 zo ?_
  refine AW.seq ?_
  refine zf ?_
  refine AW.exit ?_
  by_cases hx4 : ((gM k k2) = 0)
  ·rcases ka6 (n4 (kB r rn) (kB r2 rn2)) with hx5 | hx5
   ·rcases ka6 (n4 (kB s sn) (kB s2 sn2)) with hx6 | hx6
    ·refine kI (kT 4 (.i (gM k k2) :: .b true :: kT 5 (.call [] (bV true) [] 0 [] none :: kT 6 [.call [] (bV true) [] 0 [] none, .no, .no]))) ((qI .andNot .i64 k k2 = (gM k k2)) ∧ (((gM k k2) = 0)) ∧ (Fun 84 [.agg [.d (dl r rn)], .agg [.d (dl r2 rn2)]] (kE []) 0 (bV true) (kE []) 0) ∧ (Fun 84 [.agg [.d (dl s sn)], .agg [.d (dl s2 sn2)]] (kE []) 0 (bV true) (kE []) 0)) [(4, bV true)] [] 2 ⟨rfl, zo, (by have h0 := (dP r r2 rn rn2 zo zo zo zo); rw [hx5] at h0; exact h0), (by have h0 := (dP s s2 sn sn2 zo zo zo zo); rw [hx6] at h0; exact h0)⟩ ?_
     refine AW.ret ?_
     exact kC (.inr rfl) [] (P := ((jP k r rn m s sn k2 r2 rn2 m2 s2 sn2) = true)) zk (by exact u4m zo (by assumption) (u7j hc (fun j hj => ha j zo)) (by assumption))
    ·refine kI (kT 4 (.i (gM k k2) :: .b true :: kT 5 (.call [] (bV true) [] 0 [] none :: kT 6 [.call [] (bV false) [] 0 [] none, .no, .no]))) ((qI .andNot .i64 k k2 = (gM k k2)) ∧ (((gM k k2) = 0)) ∧ (Fun 84 [.agg [.d (dl r rn)], .agg [.d (dl r2 rn2)]] (kE []) 0 (bV true) (kE []) 0) ∧ (Fun 84 [.agg [.d (dl s sn)], .agg [.d (dl s2 sn2)]] (kE []) 0 (bV false) (kE []) 0)) [(4, bV false)] [] 2 ⟨rfl, zo, (by have h0 := (dP r r2 rn rn2 zo zo zo zo); rw [hx5] at h0; exact h0), (by have h0 := (dP s s2 sn sn2 zo zo zo zo); rw [hx6] at h0; exact h0)⟩ ?_
     refine AW.ret ?_
     exact kC (.inr rfl) [] (P := ((jP k r rn m s sn k2 r2 rn2 m2 s2 sn2) = false)) zk (by exact u4n (by assumption))
   ·refine kI (kT 4 (.i (gM k k2) :: .b true :: kT 5 (.call [] (bV false) [] 0 [] none :: kT 4 []))) ((qI .andNot .i64 k k2 = (gM k k2)) ∧ (((gM k k2) = 0)) ∧ (Fun 84 [.agg [.d (dl r rn)], .agg [.d (dl r2 rn2)]] (kE []) 0 (bV false) (kE []) 0)) [(4, bV false)] [] 2 ⟨rfl, zo, (by have h0 := (dP r r2 rn rn2 zo zo zo zo); rw [hx5] at h0; exact h0)⟩ ?_
    refine AW.ret ?_
    exact kC (.inr rfl) [] (P := ((jP k r rn m s sn k2 r2 rn2 m2 s2 sn2) = false)) zk (by exact u4o (by assumption))
  ·refine kI (kT 4 (.i (gM k k2) :: .b false :: kT 5 [])) ((qI .andNot .i64 k k2 = (gM k k2)) ∧ (¬ ((gM k k2) = 0))) [(4, bV false)] [] 2 ⟨rfl, zo⟩ ?_
   refine AW.ret ?_
   exact kC (.inr rfl) [] (P := ((jP k r rn m s sn k2 r2 rn2 m2 s2 sn2) = false)) zk (by exact u4q zo)
theorem xK {p : Prop} (h : p := by (simp only [qH, qE, ka9, kb0, kb3] <;> omega)) : p := h
abbrev bQ (xs : List Bx) (i : Nat) : BC := .ds [iD (k9 xs i), D.sl (dI .i64 (qF xs i)) (qB xs i), D.sl (kL (kY xs i)) (ka0 (kY xs i)), D.sl (dI .i64 (qG xs i)) (qC xs i)]
theorem k1g (xs : List Bx) (n : Nat) (hn : ka0 xs = n) (h1 : n ≤ 1000000) (hW : BsW xs) : Fun 15 [.c (.d (D.sl (kP xs) n))] (kE []) 0 (.tup [.c (.d (D.sl (kP (yA xs)) (ka0 (yA xs)))), iE (aA xs)]) (kE []) 0 := by
 refine Fun.mk (n := 54) Tryz.func15 rfl rfl (ka4 rfl) ?_
 intro cx hcx
 refine kI [.no, .no] True [(0, .e (kQ xs n))] [] 0 trivial ?_
 refine AW.seq ?_
 rcases ka6 (aJ xs) with hx1 | hx1
 ·refine kN [.no, .call [] (bV true) [] 0 [] none, .no] (Fun 19 [.c (.d (D.sl (kP xs) n))] (kE []) 0 (bV true) (kE []) 0) [(0, .e (kQ xs n)), (12, bV false)] (by have h0 := (vJ xs n zo zo (kZ : BsW xs)); rw [hx1] at h0; exact h0) ?_
  refine q8 ?_
  refine kN [.no] True [(0, .e (kQ xs n)), (4, nV)] trivial ?_
  refine AW.seq ?_
  refine kN [.no, .no, .no] True [(0, .e (kQ xs n)), (4, nV), (13, .e (kQ xs n)), (14, uV n), (15, iV 0)] trivial ?_
  refine AW.block ?_
  refine AW.adoptS 4 4 59 rfl ?_
  refine kU 0 hcx (fun (x : {x : Nat × Nat × List Bx // match x with | (i, q, o) => (i ≤ n ∧ q ≤ i) ∧ (s5 xs i = o) ∧ (ka0 o = q)}) => match x with | ⟨(i, q, o), _⟩ => (⟨[(0, .e (kQ xs n)), (4, oV 1 0 q 4), (13, .e (kQ xs n)), (14, uV n), (15, uV i)], [(1, some (59, .ds (kP o)))], 2⟩ : ES)) (fun x => match x with | ⟨(i, q, o), _⟩ => n - i) ⟨((0 : Nat), (0 : Nat), (([] : List Bx) : List Bx)), ⟨zo, rfl, rfl⟩⟩ [(1, 0)] (P := (kJ (kP xs)) ∧ (kG n) ∧ (kG 0) ∧ (kG 0) ∧ (kJ (kP xs)) ∧ (kG n) ∧ (kM (n : Int)) ∧ (kM 0) ∧ (((kP ([] : List Bx)) : List D) = ([] : List D))) zk ⟨rfl, rfl, rfl, rfl, rfl, rfl, rfl, rfl, (by rfl)⟩ ?_
  rintro ⟨⟨i, q, o⟩, hinv0⟩
  obtain ⟨hi, ho, hq⟩ : (i ≤ n ∧ q ≤ i) ∧ (s5 xs i = o) ∧ (ka0 o = q) := hinv0
  refine qN (l := [(0, .e (kQ xs n)), (4, oV 1 0 q 4), (13, .e (kQ xs n)), (14, uV n), (15, uV i)]) (g := [(1, some (59, .ds (kP o)))]) (nx := 2) rfl rfl rfl ?_
  by_cases hx2 : (((i : Nat) : Int) < ((n : Nat) : Int))
  ·refine kI [.b true] (((i : Int) < (n : Int))) [(0, .e (kQ xs n)), (4, oV 1 0 q 4), (13, .e (kQ xs n)), (14, uV n), (15, uV i), (16, bV true)] [(1, some (59, .ds (kP o)))] 2 zo ?_
   refine AW.seq ?_
   refine yW ?_
   refine AW.seq ?_
   refine AW.block ?_
   obtain ⟨hx3, hx4, hx5, hx6, hx7⟩ := BsW.at (kZ : BsW xs) (i)
   refine kI [.no, .n i, .ds (uY xs i), .no, .no, .no] ((kM (i : Int)) ∧ (i < n) ∧ (ka5 4 (ka3 (i * 4) (kP xs)) = (uY xs i)) ∧ (((uY xs i) : List D).length = 4)) [(0, .e (kQ xs n)), (4, oV 1 0 q 4), (5, uV i), (6, rV 2 0), (13, .e (kQ xs n)), (14, uV n), (15, uV i)] [(1, some (59, .ds (kP o))), (2, some (59, (bQ xs i)))] 3 ⟨rfl, zo, (yF zo), rfl⟩ ?_
   refine kN [.no] True [(0, .e (kQ xs n)), (4, oV 1 0 q 4), (5, uV i), (6, rV 2 0), (7, bV true), (13, .e (kQ xs n)), (14, uV n), (15, uV i)] trivial ?_
   refine AW.seq ?_
   refine kN [.no, .no, .no] True [(0, .e (kQ xs n)), (4, oV 1 0 q 4), (5, uV i), (6, rV 2 0), (7, bV true), (13, .e (kQ xs n)), (14, uV n), (15, uV i), (20, .e (kQ xs n)), (21, uV n), (22, iV 0)] trivial ?_
   refine AW.block ?_
   refine kU 0 hcx (fun (x : {x : Nat × Bool // match x with | (z, f) => (z ≤ n) ∧ (gzB xs i z = f)}) => match x with | ⟨(z, f), _⟩ => (⟨[(0, .e (kQ xs n)), (4, oV 1 0 q 4), (5, uV i), (6, rV 2 0), (7, qS (D.lit (.bool (f)))), (13, .e (kQ xs n)), (14, uV n), (15, uV i), (20, .e (kQ xs n)), (21, uV n), (22, uV z)], [(1, some (59, .ds (kP o))), (2, some (59, (bQ xs i)))], 3⟩ : ES)) (fun x => match x with | ⟨(z, f), _⟩ => n - z) ⟨((0 : Nat), (true : Bool)), ⟨zo, rfl⟩⟩ [] (P := (kJ (kP xs)) ∧ (kG n) ∧ (kG 0) ∧ (kG q) ∧ (kM (i : Int)) ∧ (kG 0) ∧ ((true) = true) ∧ (kJ (kP xs)) ∧ (kG n) ∧ (kM (n : Int)) ∧ (kM (i : Int)) ∧ (kJ (kP xs)) ∧ (kG n) ∧ (kM (n : Int)) ∧ (kM 0) ∧ (kJ (kP o)) ∧ (kJ (uY xs i))) zk ⟨rfl, rfl, rfl, rfl, rfl, rfl, (by rfl), rfl, rfl, rfl, rfl, rfl, rfl, rfl, rfl, rfl, rfl⟩ ?_
   rintro ⟨⟨z, f⟩, hinv1⟩
   obtain ⟨hz, hf⟩ : (z ≤ n) ∧ (gzB xs i z = f) := hinv1
   refine qN (l := [(0, .e (kQ xs n)), (4, oV 1 0 q 4), (5, uV i), (6, rV 2 0), (7, qS (D.lit (.bool (f)))), (13, .e (kQ xs n)), (14, uV n), (15, uV i), (20, .e (kQ xs n)), (21, uV n), (22, uV z)]) (g := [(1, some (59, .ds (kP o))), (2, some (59, (bQ xs i)))]) (nx := 3) rfl rfl rfl ?_
   by_cases hx8 : (((z : Nat) : Int) < ((n : Nat) : Int))
   ·refine kI [.b true] (((z : Int) < (n : Int))) [(0, .e (kQ xs n)), (4, oV 1 0 q 4), (5, uV i), (6, rV 2 0), (7, qS (D.lit (.bool (f)))), (13, .e (kQ xs n)), (14, uV n), (15, uV i), (20, .e (kQ xs n)), (21, uV n), (22, uV z), (23, bV true)] [(1, some (59, .ds (kP o))), (2, some (59, (bQ xs i)))] 3 zo ?_
    refine AW.seq ?_
    refine yW ?_
    refine AW.seq ?_
    refine AW.block ?_
    obtain ⟨hx9, hx10, hx11, hx12, hx13⟩ := BsW.at (kZ : BsW xs) (z)
    refine kI [.no, .n z, .ds (uY xs z), .no, .no, .no] ((kM (z : Int)) ∧ (z < n) ∧ (ka5 4 (ka3 (z * 4) (kP xs)) = (uY xs z)) ∧ (((uY xs z) : List D).length = 4)) [(0, .e (kQ xs n)), (4, oV 1 0 q 4), (5, uV i), (6, rV 2 0), (7, qS (D.lit (.bool (f)))), (8, uV z), (9, rV 3 0), (13, .e (kQ xs n)), (14, uV n), (15, uV i), (20, .e (kQ xs n)), (21, uV n), (22, uV z)] [(1, some (59, .ds (kP o))), (2, some (59, (bQ xs i))), (3, some (59, .ds (uY xs z)))] 4 ⟨rfl, zo, (yF zo), rfl⟩ ?_
    by_cases hx14 : (((i : Nat) : Int) ≠ ((z : Nat) : Int))
    ·rcases ka6 (jP (k9 xs i) (qF xs i) (qB xs i) (kY xs i) (qG xs i) (qC xs i) (k9 xs z) (qF xs z) (qB xs z) (kY xs z) (qG xs z) (qC xs z)) with hx15 | hx15
     ·by_cases hx16 : (((z : Nat) : Int) < ((i : Nat) : Int))
      ·refine kI [.no, .no, .b true, .no, .no, .no, .call [] (bV true) [] 0 [] none, .no, .no, .no, .no, .b true, .no, .no, .no] ((((i : Int) ≠ (z : Int))) ∧ (Fun 41 [(b8 xs i), (b8 xs z)] (kE []) 0 (bV true) (kE []) 0) ∧ (((z : Int) < (i : Int)))) [(0, .e (kQ xs n)), (4, oV 1 0 q 4), (5, uV i), (6, rV 2 0), (7, qS (D.lit (.bool (f)))), (13, .e (kQ xs n)), (14, uV n), (15, uV i), (20, .e (kQ xs n)), (21, uV n), (22, uV z), (45, bV true)] [(1, some (59, .ds (kP o))), (2, some (59, (bQ xs i)))] 4 ⟨zo, (by have h0 := (o8 (k9 xs i) (qF xs i) (qB xs i) (kY xs i) (ka0 (kY xs i)) (qG xs i) (qC xs i) (k9 xs z) (qF xs z) (qB xs z) (kY xs z) (ka0 (kY xs z)) (qG xs z) (qC xs z) zo zo rfl zo zo zo (BsW.ms (kZ : BsW xs) _) zo zo rfl zo zo zo (BsW.ms (kZ : BsW xs) _)); rw [hx15] at h0; exact h0), zo⟩ ?_
       refine zt ?_
       refine uJ [.no] True [(0, .e (kQ xs n)), (4, oV 1 0 q 4), (5, uV i), (6, rV 2 0), (7, bV false), (13, .e (kQ xs n)), (14, uV n), (15, uV i), (20, .e (kQ xs n)), (21, uV n), (22, uV z)] trivial ?_
       refine uJ [.w, .no] (uZ ((z : Int) + 1)) [(0, .e (kQ xs n)), (4, oV 1 0 q 4), (5, uV i), (6, rV 2 0), (7, bV false), (13, .e (kQ xs n)), (14, uV n), (15, uV i), (20, .e (kQ xs n)), (21, uV n), (22, iV (↑z + 1))] ⟨by omega, by omega⟩ ?_
       exact kX ⟨(((z + 1) : Nat), (false : Bool)), ⟨zo, (by exact u5q hf (by exact u5u zo (by assumption) zo))⟩⟩ [] (P := (kJ (kP xs)) ∧ (kG n) ∧ (kG 0) ∧ (kG q) ∧ (kM (i : Int)) ∧ (kG 0) ∧ ((false) = false) ∧ (kJ (kP xs)) ∧ (kG n) ∧ (kM (n : Int)) ∧ (kM (i : Int)) ∧ (kJ (kP xs)) ∧ (kG n) ∧ (kM (n : Int)) ∧ (vX z) ∧ (kJ (kP o)) ∧ (kJ (uY xs i))) zk ⟨rfl, rfl, rfl, rfl, rfl, rfl, (by rfl), rfl, rfl, rfl, rfl, rfl, rfl, rfl, (by rfl), rfl, rfl⟩ (show n - (z + 1) < n - z from zo)
      ·rcases ka6 (jP (k9 xs z) (qF xs z) (qB xs z) (kY xs z) (qG xs z) (qC xs z) (k9 xs i) (qF xs i) (qB xs i) (kY xs i) (qG xs i) (qC xs i)) with hx17 | hx17
       ·refine kI [.no, .no, .b true, .no, .no, .no, .call [] (bV true) [] 0 [] none, .no, .no, .no, .no, .b false, .no, .no, .no, .call [] (bV true) [] 0 [] none, .no, .no, .no] ((((i : Int) ≠ (z : Int))) ∧ (Fun 41 [(b8 xs i), (b8 xs z)] (kE []) 0 (bV true) (kE []) 0) ∧ (¬ ((z : Int) < (i : Int))) ∧ (Fun 41 [(b8 xs z), (b8 xs i)] (kE []) 0 (bV true) (kE []) 0)) [(0, .e (kQ xs n)), (4, oV 1 0 q 4), (5, uV i), (6, rV 2 0), (7, qS (D.lit (.bool (f)))), (13, .e (kQ xs n)), (14, uV n), (15, uV i), (20, .e (kQ xs n)), (21, uV n), (22, uV z), (45, bV false)] [(1, some (59, .ds (kP o))), (2, some (59, (bQ xs i)))] 4 ⟨zo, (by have h0 := (o8 (k9 xs i) (qF xs i) (qB xs i) (kY xs i) (ka0 (kY xs i)) (qG xs i) (qC xs i) (k9 xs z) (qF xs z) (qB xs z) (kY xs z) (ka0 (kY xs z)) (qG xs z) (qC xs z) zo zo rfl zo zo zo (BsW.ms (kZ : BsW xs) _) zo zo rfl zo zo zo (BsW.ms (kZ : BsW xs) _)); rw [hx15] at h0; exact h0), zo, (by have h0 := (o8 (k9 xs z) (qF xs z) (qB xs z) (kY xs z) (ka0 (kY xs z)) (qG xs z) (qC xs z) (k9 xs i) (qF xs i) (qB xs i) (kY xs i) (ka0 (kY xs i)) (qG xs i) (qC xs i) zo zo rfl zo zo zo (BsW.ms (kZ : BsW xs) _) zo zo rfl zo zo zo (BsW.ms (kZ : BsW xs) _)); rw [hx17] at h0; exact h0)⟩ ?_
        refine q8 ?_
        refine uJ [.w, .no] (uZ ((z : Int) + 1)) [(0, .e (kQ xs n)), (4, oV 1 0 q 4), (5, uV i), (6, rV 2 0), (7, qS (D.lit (.bool (f)))), (13, .e (kQ xs n)), (14, uV n), (15, uV i), (20, .e (kQ xs n)), (21, uV n), (22, iV (↑z + 1))] ⟨by omega, by omega⟩ ?_
        exact kX ⟨(((z + 1) : Nat), ((f) : Bool)), ⟨zo, (by exact u2f hf (by exact u5w (by assumption) zo))⟩⟩ [] (P := (kJ (kP xs)) ∧ (kG n) ∧ (kG 0) ∧ (kG q) ∧ (kM (i : Int)) ∧ (kG 0) ∧ (((f)) = (f)) ∧ (kJ (kP xs)) ∧ (kG n) ∧ (kM (n : Int)) ∧ (kM (i : Int)) ∧ (kJ (kP xs)) ∧ (kG n) ∧ (kM (n : Int)) ∧ (vX z) ∧ (kJ (kP o)) ∧ (kJ (uY xs i))) zk ⟨rfl, rfl, rfl, rfl, rfl, rfl, (by rfl), rfl, rfl, rfl, rfl, rfl, rfl, rfl, (by rfl), rfl, rfl⟩ (show n - (z + 1) < n - z from zo)
       ·refine kI [.no, .no, .b true, .no, .no, .no, .call [] (bV true) [] 0 [] none, .no, .no, .no, .no, .b false, .no, .no, .no, .call [] (bV false) [] 0 [] none, .no, .no, .no] ((((i : Int) ≠ (z : Int))) ∧ (Fun 41 [(b8 xs i), (b8 xs z)] (kE []) 0 (bV true) (kE []) 0) ∧ (¬ ((z : Int) < (i : Int))) ∧ (Fun 41 [(b8 xs z), (b8 xs i)] (kE []) 0 (bV false) (kE []) 0)) [(0, .e (kQ xs n)), (4, oV 1 0 q 4), (5, uV i), (6, rV 2 0), (7, qS (D.lit (.bool (f)))), (13, .e (kQ xs n)), (14, uV n), (15, uV i), (20, .e (kQ xs n)), (21, uV n), (22, uV z), (45, bV true)] [(1, some (59, .ds (kP o))), (2, some (59, (bQ xs i)))] 4 ⟨zo, (by have h0 := (o8 (k9 xs i) (qF xs i) (qB xs i) (kY xs i) (ka0 (kY xs i)) (qG xs i) (qC xs i) (k9 xs z) (qF xs z) (qB xs z) (kY xs z) (ka0 (kY xs z)) (qG xs z) (qC xs z) zo zo rfl zo zo zo (BsW.ms (kZ : BsW xs) _) zo zo rfl zo zo zo (BsW.ms (kZ : BsW xs) _)); rw [hx15] at h0; exact h0), zo, (by have h0 := (o8 (k9 xs z) (qF xs z) (qB xs z) (kY xs z) (ka0 (kY xs z)) (qG xs z) (qC xs z) (k9 xs i) (qF xs i) (qB xs i) (kY xs i) (ka0 (kY xs i)) (qG xs i) (qC xs i) zo zo rfl zo zo zo (BsW.ms (kZ : BsW xs) _) zo zo rfl zo zo zo (BsW.ms (kZ : BsW xs) _)); rw [hx17] at h0; exact h0)⟩ ?_
        refine zt ?_
        refine uJ [.no] True [(0, .e (kQ xs n)), (4, oV 1 0 q 4), (5, uV i), (6, rV 2 0), (7, bV false), (13, .e (kQ xs n)), (14, uV n), (15, uV i), (20, .e (kQ xs n)), (21, uV n), (22, uV z)] trivial ?_
        refine uJ [.w, .no] (uZ ((z : Int) + 1)) [(0, .e (kQ xs n)), (4, oV 1 0 q 4), (5, uV i), (6, rV 2 0), (7, bV false), (13, .e (kQ xs n)), (14, uV n), (15, uV i), (20, .e (kQ xs n)), (21, uV n), (22, iV (↑z + 1))] ⟨by omega, by omega⟩ ?_
        exact kX ⟨(((z + 1) : Nat), (false : Bool)), ⟨zo, (by exact u5q hf (by exact u5t zo (by assumption) (by assumption)))⟩⟩ [] (P := (kJ (kP xs)) ∧ (kG n) ∧ (kG 0) ∧ (kG q) ∧ (kM (i : Int)) ∧ (kG 0) ∧ ((false) = false) ∧ (kJ (kP xs)) ∧ (kG n) ∧ (kM (n : Int)) ∧ (kM (i : Int)) ∧ (kJ (kP xs)) ∧ (kG n) ∧ (kM (n : Int)) ∧ (vX z) ∧ (kJ (kP o)) ∧ (kJ (uY xs i))) zk ⟨rfl, rfl, rfl, rfl, rfl, rfl, (by rfl), rfl, rfl, rfl, rfl, rfl, rfl, rfl, (by rfl), rfl, rfl⟩ (show n - (z + 1) < n - z from zo)
     ·refine kI [.no, .no, .b true, .no, .no, .no, .call [] (bV false) [] 0 [] none, .no, .no, .no] ((((i : Int) ≠ (z : Int))) ∧ (Fun 41 [(b8 xs i), (b8 xs z)] (kE []) 0 (bV false) (kE []) 0)) [(0, .e (kQ xs n)), (4, oV 1 0 q 4), (5, uV i), (6, rV 2 0), (7, qS (D.lit (.bool (f)))), (13, .e (kQ xs n)), (14, uV n), (15, uV i), (20, .e (kQ xs n)), (21, uV n), (22, uV z), (45, bV false)] [(1, some (59, .ds (kP o))), (2, some (59, (bQ xs i)))] 4 ⟨zo, (by have h0 := (o8 (k9 xs i) (qF xs i) (qB xs i) (kY xs i) (ka0 (kY xs i)) (qG xs i) (qC xs i) (k9 xs z) (qF xs z) (qB xs z) (kY xs z) (ka0 (kY xs z)) (qG xs z) (qC xs z) zo zo rfl zo zo zo (BsW.ms (kZ : BsW xs) _) zo zo rfl zo zo zo (BsW.ms (kZ : BsW xs) _)); rw [hx15] at h0; exact h0)⟩ ?_
      refine q8 ?_
      refine uJ [.w, .no] (uZ ((z : Int) + 1)) [(0, .e (kQ xs n)), (4, oV 1 0 q 4), (5, uV i), (6, rV 2 0), (7, qS (D.lit (.bool (f)))), (13, .e (kQ xs n)), (14, uV n), (15, uV i), (20, .e (kQ xs n)), (21, uV n), (22, iV (↑z + 1))] ⟨by omega, by omega⟩ ?_
      exact kX ⟨(((z + 1) : Nat), ((f) : Bool)), ⟨zo, (by exact u2f hf (by exact u5v (by assumption)))⟩⟩ [] (P := (kJ (kP xs)) ∧ (kG n) ∧ (kG 0) ∧ (kG q) ∧ (kM (i : Int)) ∧ (kG 0) ∧ (((f)) = (f)) ∧ (kJ (kP xs)) ∧ (kG n) ∧ (kM (n : Int)) ∧ (kM (i : Int)) ∧ (kJ (kP xs)) ∧ (kG n) ∧ (kM (n : Int)) ∧ (vX z) ∧ (kJ (kP o)) ∧ (kJ (uY xs i))) zk ⟨rfl, rfl, rfl, rfl, rfl, rfl, (by rfl), rfl, rfl, rfl, rfl, rfl, rfl, rfl, (by rfl), rfl, rfl⟩ (show n - (z + 1) < n - z from zo)
    ·refine kI (.no :: .no :: .b false :: kT 4 []) (¬ ((i : Int) ≠ (z : Int))) [(0, .e (kQ xs n)), (4, oV 1 0 q 4), (5, uV i), (6, rV 2 0), (7, qS (D.lit (.bool (f)))), (13, .e (kQ xs n)), (14, uV n), (15, uV i), (20, .e (kQ xs n)), (21, uV n), (22, uV z), (45, bV false)] [(1, some (59, .ds (kP o))), (2, some (59, (bQ xs i)))] 4 zo ?_
     refine q8 ?_
     refine uJ [.w, .no] (uZ ((z : Int) + 1)) [(0, .e (kQ xs n)), (4, oV 1 0 q 4), (5, uV i), (6, rV 2 0), (7, qS (D.lit (.bool (f)))), (13, .e (kQ xs n)), (14, uV n), (15, uV i), (20, .e (kQ xs n)), (21, uV n), (22, iV (↑z + 1))] ⟨by omega, by omega⟩ ?_
     exact kX ⟨(((z + 1) : Nat), ((f) : Bool)), ⟨zo, (by exact u2f hf (by exact u5s zo))⟩⟩ [] (P := (kJ (kP xs)) ∧ (kG n) ∧ (kG 0) ∧ (kG q) ∧ (kM (i : Int)) ∧ (kG 0) ∧ (((f)) = (f)) ∧ (kJ (kP xs)) ∧ (kG n) ∧ (kM (n : Int)) ∧ (kM (i : Int)) ∧ (kJ (kP xs)) ∧ (kG n) ∧ (kM (n : Int)) ∧ (vX z) ∧ (kJ (kP o)) ∧ (kJ (uY xs i))) zk ⟨rfl, rfl, rfl, rfl, rfl, rfl, (by rfl), rfl, rfl, rfl, rfl, rfl, rfl, rfl, (by rfl), rfl, rfl⟩ (show n - (z + 1) < n - z from zo)
   ·refine kI [.b false] (¬ ((z : Int) < (n : Int))) [(0, .e (kQ xs n)), (4, oV 1 0 q 4), (5, uV i), (6, rV 2 0), (7, qS (D.lit (.bool (f)))), (13, .e (kQ xs n)), (14, uV n), (15, uV i), (20, .e (kQ xs n)), (21, uV n), (22, uV z), (23, bV false)] [(1, some (59, .ds (kP o))), (2, some (59, (bQ xs i)))] 3 zo ?_
    refine AW.seq ?_
    refine zf ?_
    refine AW.exit ?_
    refine kI [.no] True [(0, .e (kQ xs n)), (4, oV 1 0 q 4), (6, rV 2 0), (13, .e (kQ xs n)), (14, uV n), (15, uV i), (47, qS (D.lit (.bool (f))))] [(1, some (59, .ds (kP o))), (2, some (59, (bQ xs i)))] 3 trivial ?_
    rcases ka6 (f) with hx18 | hx18
    ·subst hx18
     refine zt ?_
     refine aD [.no, .no, .no, .ap none (q + 1) (kP (o ++ ([(uO (k9 xs i) (qF xs i) (qB xs i) (kY xs i) (qG xs i) (qC xs i))] : List Bx))), .no] (((uY xs i).length = 1 * 4) ∧ (((kP o) : List D).length = q * 4) ∧ ((q + 1) * 80 ≤ 140737488355328) ∧ (q + 1 = (q + 1)) ∧ (((kP o) : List D) ++ (uY xs i) = (kP (o ++ ([(uO (k9 xs i) (qF xs i) (qB xs i) (kY xs i) (qG xs i) (qC xs i))] : List Bx))))) [(0, .e (kQ xs n)), (4, oV 4 0 (q + 1) 4), (13, .e (kQ xs n)), (14, uV n), (15, uV i)] [(4, some (59, .ds (kP (o ++ ([(uO (k9 xs i) (qF xs i) (qB xs i) (kY xs i) (qG xs i) (qC xs i))] : List Bx)))))] 5 ⟨bO, bO, zo, zo, (fZ o (k9 xs i) (qF xs i) (qB xs i) (kY xs i) (ka0 (kY xs i)) (qG xs i) (qC xs i) (by rfl))⟩ ?_
     refine uJ [.w, .no] (uZ ((i : Int) + 1)) [(0, .e (kQ xs n)), (4, oV 4 0 (q + 1) 4), (13, .e (kQ xs n)), (14, uV n), (15, iV (↑i + 1))] ⟨by omega, by omega⟩ ?_
     exact kX ⟨(((i + 1) : Nat), ((q + 1) : Nat), ((o ++ ([(uO (k9 xs i) (qF xs i) (qB xs i) (kY xs i) (qG xs i) (qC xs i))] : List Bx)) : List Bx)), ⟨zo, (by exact u42 ho (k4u hf zo zo)), xK⟩⟩ [(1, 4)] (P := (kJ (kP xs)) ∧ (kG n) ∧ (kG 0) ∧ (kG (q + 1)) ∧ (kJ (kP xs)) ∧ (kG n) ∧ (kM (n : Int)) ∧ (vX i) ∧ (kJ (kP (o ++ ([(uO (k9 xs i) (qF xs i) (qB xs i) (kY xs i) (qG xs i) (qC xs i))] : List Bx))))) zk ⟨rfl, rfl, rfl, rfl, rfl, rfl, rfl, (by rfl), rfl⟩ (show n - (i + 1) < n - i from zo)
    ·subst hx18
     refine q8 ?_
     refine aD [.w, .no] (uZ ((i : Int) + 1)) [(0, .e (kQ xs n)), (4, oV 1 0 q 4), (13, .e (kQ xs n)), (14, uV n), (15, iV (↑i + 1))] [(1, some (59, .ds (kP o)))] 3 ⟨by omega, by omega⟩ ?_
     exact kX ⟨(((i + 1) : Nat), (q : Nat), (o : List Bx)), ⟨zo, (by exact u41 ho (k4u hf zo zo)), zo⟩⟩ [] (P := (kJ (kP xs)) ∧ (kG n) ∧ (kG 0) ∧ (kG q) ∧ (kJ (kP xs)) ∧ (kG n) ∧ (kM (n : Int)) ∧ (vX i) ∧ (kJ (kP o))) zk ⟨rfl, rfl, rfl, rfl, rfl, rfl, rfl, (by rfl), rfl⟩ (show n - (i + 1) < n - i from zo)
  ·refine kI [.b false] (¬ ((i : Int) < (n : Int))) [(0, .e (kQ xs n)), (4, oV 1 0 q 4), (13, .e (kQ xs n)), (14, uV n), (15, uV i), (16, bV false)] [(1, some (59, .ds (kP o)))] 2 zo ?_
   refine AW.seq ?_
   refine zf ?_
   refine AW.exit ?_
   refine kI [.no, .no, .no] True [(2, oV 1 0 q 4), (3, iV 0)] [(1, some (59, .ds (kP o)))] 2 trivial ?_
   refine AW.freeze 1 (l' := [(2, .e (kQ o q)), (3, iV 0)]) (g' := []) rfl (FzS.cons rfl (.e (.c (@FzC.own 1 ((kP o) : List D) 0 q 4 true ((kP o) : List D) pF bO))) (FzS.cons rfl (.same _) FzS.nil)) FzG.nil ?_
   obtain ⟨hz1, hz2⟩ := u00 hx1
   have hz3 : s5 xs (ka0 xs) = o := by have h9 := ho; rw [show i = ka0 xs by omega] at h9; exact h9
   refine AW.ret ?_
   exact kC (.inr rfl) [] (P := (((kP (yA xs)) : List D) = (kP o)) ∧ (((ka0 (yA xs)) : Nat) = q) ∧ (((aA xs) : Int) = 0)) zk ⟨(by (rw [hz1, hz3]; done)), (by (rw [hz1, hz3]; omega)), (by (rw [hz2]; done))⟩
 ·refine kN [.no, .call [] (bV false) [] 0 [] none, .no] (Fun 19 [.c (.d (D.sl (kP xs) n))] (kE []) 0 (bV false) (kE []) 0) [(0, .e (kQ xs n)), (12, bV true)] (by have h0 := (vJ xs n zo zo (kZ : BsW xs)); rw [hx1] at h0; exact h0) ?_
  refine zt ?_
  refine kN [.no, .no] True [(2, nV), (3, iV 1)] trivial ?_
  obtain ⟨hz1, hz2⟩ := u01 hx1
  refine yV (l' := [(2, qJ ([] : List D) 0), (3, iV 1)]) (g' := []) (NlS.cons rfl (.e (.c .nil)) (NlS.cons rfl (.same _) NlS.nil)) NlG.nil ?_
  refine AW.ret ?_
  exact kC (.inr rfl) [] (P := (((kP (yA xs)) : List D) = ([] : List D)) ∧ (((ka0 (yA xs)) : Nat) = 0) ∧ (((aA xs) : Int) = 1)) zk ⟨(by (rw [hz1]; rfl)), (by (rw [hz1]; rfl)), (by (rw [hz2]; done))⟩
theorem pE {p : Prop} (h : p := by exact decide_eq_false (by rw [u7f (by omega)]; decide)) : p := h
abbrev u9 : BC := .ds [iD 0, D.lit (.slice none 0 0), D.lit (.slice none 0 0), D.lit (.slice none 0 0)]
abbrev bI (k : Int) (k2 : Int) (r : List Int) (rn : Nat) (r2 : List Int) (rn2 : Nat) (o : List (List Int)) (q : Nat) (s : List Int) (sn : Nat) (s2 : List Int) (sn2 : Nat) : BC := .ds [iD (uR k k2), D.sl (dI .i64 (dN (kB r rn) (kB r2 rn2))) (qQ (kB r rn) (kB r2 rn2)), D.sl (kL o) q, D.sl (dI .i64 (dN (kB s sn) (kB s2 sn2))) (qQ (kB s sn) (kB s2 sn2))]
abbrev y7 (k : Int) (r : List Int) (rn : Nat) (m : List (List Int)) (c : Nat) (s : List Int) (sn : Nat) : BC := .ds [iD k, D.sl (dI .i64 r) rn, D.sl (kL m) c, D.sl (dI .i64 s) sn]
abbrev vE (k2 : Int) (r2 : List Int) (rn2 : Nat) (m2 : List (List Int)) (c2 : Nat) (s2 : List Int) (sn2 : Nat) : BC := .ds [iD k2, D.sl (dI .i64 r2) rn2, D.sl (kL m2) c2, D.sl (dI .i64 s2) sn2]
abbrev lO (k : Int) (k2 : Int) (r : List Int) (rn : Nat) (q : Nat) (s : List Int) (sn : Nat) : BC := .cs [iC (uR k k2), .d (D.sl (dI .i64 r) rn), .own 5 0 q 1 true, .d (D.sl (dI .i64 s) sn)]
abbrev pT (k : Int) (k2 : Int) (r : List Int) (rn : Nat) (r2 : List Int) (rn2 : Nat) (o : List (List Int)) (q : Nat) (s : List Int) (sn : Nat) : BC := .ds [iD (uR k k2), D.sl (dI .i64 (dN (kB r rn) (kB r2 rn2))) (qQ (kB r rn) (kB r2 rn2)), D.sl (kL o) q, D.sl (dI .i64 s) sn]
theorem sN (k : Int) (r : List Int) (rn : Nat) (m : List (List Int)) (c : Nat) (s : List Int) (sn : Nat) (k2 : Int) (r2 : List Int) (rn2 : Nat) (m2 : List (List Int)) (c2 : Nat) (s2 : List Int) (sn2 : Nat) (hr : ka0 r = rn * 2) (hs : ka0 s = sn * 2) (hc : ka0 m = c) (h1 : rn ≤ 1000000) (h2 : sn ≤ 1000000) (h3 : c ≤ 1000000) (hW : MsW m) (hr2 : ka0 r2 = rn2 * 2) (hs2 : ka0 s2 = sn2 * 2) (hc2 : ka0 m2 = c2) (h12 : rn2 ≤ 1000000) (h22 : sn2 ≤ 1000000) (h32 : c2 ≤ 1000000) (hW2 : MsW m2) : Fun 89 [.agg [iC k, .d (D.sl (dI .i64 r) rn), .d (D.sl (kL m) c), .d (D.sl (dI .i64 s) sn)], .agg [iC k2, .d (D.sl (dI .i64 r2) rn2), .d (D.sl (kL m2) c2), .d (D.sl (dI .i64 s2) sn2)], iE 15] (kE []) 0 (.tup [.agg [iC (uR k k2), .d (D.sl (dI .i64 (dN (kB r rn) (kB r2 rn2))) (qQ (kB r rn) (kB r2 rn2))), .d (D.sl (kL (uP m m2 c)) (ka0 (uP m m2 c))), .d (D.sl (dI .i64 (dN (kB s sn) (kB s2 sn2))) (qQ (kB s sn) (kB s2 sn2)))], .c (.d (D.lit (.bool (decide (smN (uR k k2) (ka0 (uP m m2 c)) (qQ (kB r rn) (kB r2 rn2)) (qQ (kB s sn) (kB s2 sn2)) = 1))))), .c (.d (D.lit (.bool (eJ (qQ (kB r rn) (kB r2 rn2)) (qQ (kB s sn) (kB s2 sn2))))))]) (kE []) 0 := by
 refine Fun.mk (n := 106) Tryz.func89 rfl rfl (ka4 rfl) ?_
 intro cx hcx
 refine kI (kT 5 []) True [(2, iV 15), (3, rV 0 0), (4, rV 1 0), (6, rV 2 0)] [(0, some (59, (y7 k r rn m c s sn))), (1, some (59, (vE k2 r2 rn2 m2 c2 s2 sn2))), (2, some (59, u9))] 3 trivial ?_
 refine kI [.no, .no, .no] True [(2, iV 15), (3, rV 0 0), (4, rV 1 0), (6, rV 2 0), (9, rV 3 0)] [(0, some (59, (y7 k r rn m c s sn))), (1, some (59, (vE k2 r2 rn2 m2 c2 s2 sn2))), (2, some (59, u9)), (3, some (59, (y7 k r rn m c s sn)))] 4 trivial ?_
 refine AW.seq ?_
 refine kN [.no, .i 1, .b true] ((qI .and .i64 15 1 = 1) ∧ (((1 : Int) ≠ 0))) [(2, iV 15), (3, rV 0 0), (4, rV 1 0), (6, rV 2 0), (9, rV 3 0), (16, bV true)] ⟨(by decide), zo⟩ ?_
 refine zt ?_
 refine aD (kT 4 [.i (uR k k2), .no, .no]) (qI .and .i64 k k2 = (uR k k2)) [(2, iV 15), (3, rV 0 0), (4, rV 1 0), (6, rV 2 0), (9, rV 3 0)] [(0, some (59, (y7 k r rn m c s sn))), (1, some (59, (vE k2 r2 rn2 m2 c2 s2 sn2))), (2, some (59, u9)), (3, some (59, .ds [iD (uR k k2), dl r rn, D.sl (kL m) c, dl s sn]))] 4 rfl ?_
 refine AW.seq ?_
 refine kN [.no, .i 4, .b true] ((qI .and .i64 15 4 = 4) ∧ (((4 : Int) ≠ 0))) [(2, iV 15), (3, rV 0 0), (4, rV 1 0), (6, rV 2 0), (9, rV 3 0), (25, bV true)] ⟨(by decide), zo⟩ ?_
 refine zt ?_
 refine kI [.no, .no] True [(2, iV 15), (3, rV 0 0), (4, rV 1 0), (6, rV 2 0), (9, rV 3 0)] [(0, some (59, (y7 k r rn m c s sn))), (1, some (59, (vE k2 r2 rn2 m2 c2 s2 sn2))), (2, some (59, u9)), (3, some (59, .ds [iD (uR k k2), dl r rn, qR, dl s sn]))] 4 trivial ?_
 refine kN (kT 4 []) True [(2, iV 15), (3, rV 0 0), (4, rV 1 0), (6, rV 2 0), (9, rV 3 0), (28, qJ (kL m) c), (29, uV c), (30, iV 0)] trivial ?_
 refine AW.block ?_
 refine pD 3 2 1 23 (cs' := [iC (uR k k2), .d (dl r rn), .own 4 0 0 1 true, .d (dl s sn)]) rfl rfl rfl ?_
 refine kU 0 hcx (fun (x : {x : Nat × Nat × List (List Int) // match x with | (z, q, o) => (z ≤ c ∧ q ≤ z) ∧ (uP m m2 z = o) ∧ (ka0 o = q) ∧ (MsW o)}) => match x with | ⟨(z, q, o), _⟩ => (⟨[(2, iV 15), (3, rV 0 0), (4, rV 1 0), (6, rV 2 0), (9, rV 3 0), (28, qJ (kL m) c), (29, uV c), (30, uV z)], [(0, some (59, (y7 k r rn m c s sn))), (1, some (59, (vE k2 r2 rn2 m2 c2 s2 sn2))), (2, some (59, u9)), (3, some (59, (lO k k2 r rn q s sn))), (5, some (23, .ds (kL o)))], 6⟩ : ES)) (fun x => match x with | ⟨(z, q, o), _⟩ => c - z) ⟨((0 : Nat), (0 : Nat), (([] : List (List Int)) : List (List Int))), ⟨zo, rfl, rfl, MsW.nil⟩⟩ [(5, 4)] (P := (kM 15) ∧ (kG 0) ∧ (kG 0) ∧ (kG 0) ∧ (kG 0) ∧ (kJ (kL m)) ∧ (kG c) ∧ (kM (c : Int)) ∧ (kM 0) ∧ (kJ [iD k, dl r rn, D.sl (kL m) c, dl s sn]) ∧ (kJ [iD k2, dl r2 rn2, D.sl (kL m2) c2, dl s2 sn2]) ∧ (kJ [iD 0, qR, qR, qR]) ∧ (kM (uR k k2)) ∧ (kJ (dI .i64 r)) ∧ (kG rn) ∧ (kG 0) ∧ (kG 0) ∧ (kJ (dI .i64 s)) ∧ (kG sn) ∧ (((kL ([] : List (List Int))) : List D) = ([] : List D))) zk ⟨rfl, rfl, rfl, rfl, rfl, rfl, rfl, rfl, rfl, rfl, rfl, rfl, rfl, rfl, rfl, rfl, rfl, rfl, rfl, (by rfl)⟩ ?_
 rintro ⟨⟨z, q, o⟩, hinv0⟩
 obtain ⟨hz, ho, hq, hO⟩ : (z ≤ c ∧ q ≤ z) ∧ (uP m m2 z = o) ∧ (ka0 o = q) ∧ (MsW o) := hinv0
 refine qN (l := [(2, iV 15), (3, rV 0 0), (4, rV 1 0), (6, rV 2 0), (9, rV 3 0), (28, qJ (kL m) c), (29, uV c), (30, uV z)]) (g := [(0, some (59, (y7 k r rn m c s sn))), (1, some (59, (vE k2 r2 rn2 m2 c2 s2 sn2))), (2, some (59, u9)), (3, some (59, (lO k k2 r rn q s sn))), (5, some (23, .ds (kL o)))]) (nx := 6) rfl rfl rfl ?_
 by_cases hx1 : (((z : Nat) : Int) < ((c : Nat) : Int))
 ·refine kI [.b true] (((z : Int) < (c : Int))) [(2, iV 15), (3, rV 0 0), (4, rV 1 0), (6, rV 2 0), (9, rV 3 0), (28, qJ (kL m) c), (29, uV c), (30, uV z), (31, bV true)] [(0, some (59, (y7 k r rn m c s sn))), (1, some (59, (vE k2 r2 rn2 m2 c2 s2 sn2))), (2, some (59, u9)), (3, some (59, (lO k k2 r rn q s sn))), (5, some (23, .ds (kL o)))] 6 zo ?_
  refine AW.seq ?_
  refine yW ?_
  refine AW.seq ?_
  refine AW.block ?_
  have hx2 : ((ka0 (ka1 m z ([] : List Int))) ≤ 1000000) := MsW.at (kZ : MsW m) _
  refine kN [.n z, .d (dl (ka1 m z ([] : List Int)) (ka0 (ka1 m z ([] : List Int)))), .no] ((kM (z : Int)) ∧ (z < c) ∧ ((ka3 z (kL m))[0]? = some (dl (ka1 m z ([] : List Int)) (ka0 (ka1 m z ([] : List Int)))))) [(2, iV 15), (3, rV 0 0), (4, rV 1 0), (6, rV 2 0), (9, rV 3 0), (11, sV .i64 (ka1 m z ([] : List Int)) (ka0 (ka1 m z ([] : List Int)))), (28, qJ (kL m) c), (29, uV c), (30, uV z)] ⟨rfl, zo, (yE _ _ zo)⟩ ?_
  rcases ka6 (d9 m2 (ka1 m z ([] : List Int))) with hx3 | hx3
  ·refine kN [.no, .no, .no, .call [] (bV true) [] 0 [] none] (Fun 83 [.c (.d (D.sl (kL m2) c2)), .c (.d (dl (ka1 m z ([] : List Int)) (ka0 (ka1 m z ([] : List Int)))))] (kE []) 0 (bV true) (kE []) 0) [(2, iV 15), (3, rV 0 0), (4, rV 1 0), (6, rV 2 0), (9, rV 3 0), (11, sV .i64 (ka1 m z ([] : List Int)) (ka0 (ka1 m z ([] : List Int)))), (28, qJ (kL m) c), (29, uV c), (30, uV z), (37, bV true)] (by have h0 := (eF m2 c2 (ka1 m z ([] : List Int)) (ka0 (ka1 m z ([] : List Int))) zo rfl zo zo (kZ : MsW m2)); rw [hx3] at h0; exact h0) ?_
   refine zt ?_
   refine aD (kT 4 [.ap none (q + 1) (kL (o ++ ([(ka1 m z ([] : List Int))] : List (List Int)))), .no, .no]) (([dl (ka1 m z ([] : List Int)) (ka0 (ka1 m z ([] : List Int)))].length = 1 * 1) ∧ (((kL o) : List D).length = q * 1) ∧ ((q + 1) * 24 ≤ 140737488355328) ∧ (q + 1 = (q + 1)) ∧ (((kL o) : List D) ++ [dl (ka1 m z ([] : List Int)) (ka0 (ka1 m z ([] : List Int)))] = (kL (o ++ ([(ka1 m z ([] : List Int))] : List (List Int)))))) [(2, iV 15), (3, rV 0 0), (4, rV 1 0), (6, rV 2 0), (9, rV 3 0), (28, qJ (kL m) c), (29, uV c), (30, uV z)] [(0, some (59, (y7 k r rn m c s sn))), (1, some (59, (vE k2 r2 rn2 m2 c2 s2 sn2))), (2, some (59, u9)), (3, some (59, .cs [iC (uR k k2), .d (dl r rn), .own 7 0 (q + 1) 1 true, .d (dl s sn)])), (7, some (23, .ds (kL (o ++ ([(ka1 m z ([] : List Int))] : List (List Int))))))] 8 ⟨bO, bO, zo, zo, (iJ o (ka1 m z ([] : List Int)) (ka0 (ka1 m z ([] : List Int))) (by rfl))⟩ ?_
   refine uJ [.w, .no] (uZ ((z : Int) + 1)) [(2, iV 15), (3, rV 0 0), (4, rV 1 0), (6, rV 2 0), (9, rV 3 0), (28, qJ (kL m) c), (29, uV c), (30, iV (↑z + 1))] ⟨by omega, by omega⟩ ?_
   exact kX ⟨(((z + 1) : Nat), ((q + 1) : Nat), ((o ++ ([(ka1 m z ([] : List Int))] : List (List Int))) : List (List Int))), ⟨zo, (by exact u0n ho (by assumption)), xK, (by exact MsW.snoc (by assumption) zo)⟩⟩ [(5, 7)] (P := (kM 15) ∧ (kG 0) ∧ (kG 0) ∧ (kG 0) ∧ (kG 0) ∧ (kJ (kL m)) ∧ (kG c) ∧ (kM (c : Int)) ∧ (vX z) ∧ (kJ [iD k, dl r rn, D.sl (kL m) c, dl s sn]) ∧ (kJ [iD k2, dl r2 rn2, D.sl (kL m2) c2, dl s2 sn2]) ∧ (kJ [iD 0, qR, qR, qR]) ∧ (kM (uR k k2)) ∧ (kJ (dI .i64 r)) ∧ (kG rn) ∧ (kG 0) ∧ (kG (q + 1)) ∧ (kJ (dI .i64 s)) ∧ (kG sn) ∧ (kJ (kL (o ++ ([(ka1 m z ([] : List Int))] : List (List Int)))))) zk ⟨rfl, rfl, rfl, rfl, rfl, rfl, rfl, rfl, (by rfl), rfl, rfl, rfl, rfl, rfl, rfl, rfl, rfl, rfl, rfl, rfl⟩ (show c - (z + 1) < c - z from zo)
  ·refine kN [.no, .no, .no, .call [] (bV false) [] 0 [] none] (Fun 83 [.c (.d (D.sl (kL m2) c2)), .c (.d (dl (ka1 m z ([] : List Int)) (ka0 (ka1 m z ([] : List Int)))))] (kE []) 0 (bV false) (kE []) 0) [(2, iV 15), (3, rV 0 0), (4, rV 1 0), (6, rV 2 0), (9, rV 3 0), (11, sV .i64 (ka1 m z ([] : List Int)) (ka0 (ka1 m z ([] : List Int)))), (28, qJ (kL m) c), (29, uV c), (30, uV z), (37, bV false)] (by have h0 := (eF m2 c2 (ka1 m z ([] : List Int)) (ka0 (ka1 m z ([] : List Int))) zo rfl zo zo (kZ : MsW m2)); rw [hx3] at h0; exact h0) ?_
   refine q8 ?_
   refine uJ [.w, .no] (uZ ((z : Int) + 1)) [(2, iV 15), (3, rV 0 0), (4, rV 1 0), (6, rV 2 0), (9, rV 3 0), (28, qJ (kL m) c), (29, uV c), (30, iV (↑z + 1))] ⟨by omega, by omega⟩ ?_
   exact kX ⟨(((z + 1) : Nat), (q : Nat), (o : List (List Int))), ⟨zo, (by exact u0o ho (by assumption)), zo, (by assumption)⟩⟩ [] (P := (kM 15) ∧ (kG 0) ∧ (kG 0) ∧ (kG 0) ∧ (kG 0) ∧ (kJ (kL m)) ∧ (kG c) ∧ (kM (c : Int)) ∧ (vX z) ∧ (kJ [iD k, dl r rn, D.sl (kL m) c, dl s sn]) ∧ (kJ [iD k2, dl r2 rn2, D.sl (kL m2) c2, dl s2 sn2]) ∧ (kJ [iD 0, qR, qR, qR]) ∧ (kM (uR k k2)) ∧ (kJ (dI .i64 r)) ∧ (kG rn) ∧ (kG 0) ∧ (kG q) ∧ (kJ (dI .i64 s)) ∧ (kG sn) ∧ (kJ (kL o))) zk ⟨rfl, rfl, rfl, rfl, rfl, rfl, rfl, rfl, (by rfl), rfl, rfl, rfl, rfl, rfl, rfl, rfl, rfl, rfl, rfl, rfl⟩ (show c - (z + 1) < c - z from zo)
 ·refine kI [.b false] (¬ ((z : Int) < (c : Int))) [(2, iV 15), (3, rV 0 0), (4, rV 1 0), (6, rV 2 0), (9, rV 3 0), (28, qJ (kL m) c), (29, uV c), (30, uV z), (31, bV false)] [(0, some (59, (y7 k r rn m c s sn))), (1, some (59, (vE k2 r2 rn2 m2 c2 s2 sn2))), (2, some (59, u9)), (3, some (59, (lO k k2 r rn q s sn))), (5, some (23, .ds (kL o)))] 6 zo ?_
  refine AW.seq ?_
  refine zf ?_
  refine AW.exit ?_
  refine AW.freeze 5 (l' := [(2, iV 15), (3, rV 0 0), (4, rV 1 0), (6, rV 2 0), (9, rV 3 0), (28, qJ (kL m) c), (29, uV c), (30, uV z), (31, bV false)]) (g' := [(0, some (59, (y7 k r rn m c s sn))), (1, some (59, (vE k2 r2 rn2 m2 c2 s2 sn2))), (2, some (59, u9)), (3, some (59, .ds [iD (uR k k2), dl r rn, D.sl (kL o) q, dl s sn]))]) rfl (FzS.cons rfl (.same _) (FzS.cons rfl (.same _) (FzS.cons rfl (.same _) (FzS.cons rfl (.same _) (FzS.cons rfl (.same _) (FzS.cons rfl (.same _) (FzS.cons rfl (.same _) (FzS.cons rfl (.same _) (FzS.cons rfl (.same _) FzS.nil))))))))) (qT rfl rfl (qT rfl rfl (qT rfl rfl (FzG.to (bc := .cs [iC (uR k k2), .d (dl r rn), .own 5 0 q 1 true, .d (dl s sn)]) rfl (by rfl) (FzL.cons (.same _) (FzL.cons (.same _) (FzL.cons (@FzC.own 5 ((kL o) : List D) 0 q 1 true ((kL o) : List D) (by rw [kd5, kc5, kb6 (by (simp only [qH, qE, uA, ka9, kb0, kb3, kb2, kb5, kb4, kc1, kc0, kb9, kc5] <;> omega))]) bO) (FzL.cons (.same _) FzL.nil)))) FzG.nil)))) ?_
  have hz1 : uP m m2 c = o := by have h9 := ho; rw [show z = c by omega] at h9; exact h9
  have hz2 : ka0 (uP m m2 c) = q := by rw [hz1]; exact hq
  refine kI [.no] True [(2, iV 15), (3, rV 0 0), (4, rV 1 0), (6, rV 2 0), (9, rV 3 0), (12, bV false)] [(0, some (59, (y7 k r rn m c s sn))), (1, some (59, (vE k2 r2 rn2 m2 c2 s2 sn2))), (2, some (59, u9)), (3, some (59, .ds [iD (uR k k2), dl r rn, D.sl (kL o) q, dl s sn]))] 6 trivial ?_
  refine gA hcx [(2, iV 15), (3, rV 0 0), (4, rV 1 0), (6, rV 2 0), (9, rV 3 0), (12, qS (D.lit (.bool (eJ (qQ (kB r rn) (kB r2 rn2)) 0))))] [(0, some (59, (y7 k r rn m c s sn))), (1, some (59, (vE k2 r2 rn2 m2 c2 s2 sn2))), (2, some (59, u9)), (3, some (59, (pT k k2 r rn r2 rn2 o q s sn)))] 6 ?_ ?_
  ·refine kI [.no, .i 2, .b true] ((qI .and .i64 15 2 = 2) ∧ (((2 : Int) ≠ 0))) [(2, iV 15), (3, rV 0 0), (4, rV 1 0), (6, rV 2 0), (9, rV 3 0), (12, bV false), (47, bV true)] [(0, some (59, (y7 k r rn m c s sn))), (1, some (59, (vE k2 r2 rn2 m2 c2 s2 sn2))), (2, some (59, u9)), (3, some (59, .ds [iD (uR k k2), dl r rn, D.sl (kL o) q, dl s sn]))] 6 ⟨(by decide), zo⟩ ?_
   refine zt ?_
   have hx4 : ((ka0 (dN (kB r rn) (kB r2 rn2))) = ((qQ (kB r rn) (kB r2 rn2)) * 2)) := bH _ _
   have hx5 : ((qQ (kB r rn) (kB r2 rn2)) ≤ ((kK r rn) + (kK r2 rn2))) := k6u (k8 (zo)) (k8 (zo)) (aI (zo)) (aI (zo))
   have hx6 : ((kK r rn) ≤ 64) := bD.1
   have hx7 : ((kK r2 rn2) ≤ 64) := bD.1
   refine kI (kT 4 [.call [] (sV .i64 (dN (kB r rn) (kB r2 rn2)) (qQ (kB r rn) (kB r2 rn2))) [] 0 [] none, .no, .no, .no]) _ [(2, iV 15), (3, rV 0 0), (4, rV 1 0), (6, rV 2 0), (9, rV 3 0), (12, bV false)] [(0, some (59, (y7 k r rn m c s sn))), (1, some (59, (vE k2 r2 rn2 m2 c2 s2 sn2))), (2, some (59, u9)), (3, some (59, (pT k k2 r rn r2 rn2 o q s sn)))] 6 (u0v r r2 rn rn2 zo zo zo zo) ?_
   by_cases hx8 : ((64 : Int) < (((qQ (kB r rn) (kB r2 rn2)) : Nat) : Int))
   ·refine uJ (kT 6 [.b true, .no, .no]) (((64 : Int) < (qQ (kB r rn) (kB r2 rn2) : Int))) [(2, iV 15), (3, rV 0 0), (4, rV 1 0), (6, rV 2 0), (9, rV 3 0), (12, bV true)] zo ?_
    exact kX () [] (P := (kM 15) ∧ (kG 0) ∧ (kG 0) ∧ (kG 0) ∧ (kG 0) ∧ ((eJ (qQ (kB r rn) (kB r2 rn2)) 0) = true) ∧ (kJ [iD k, dl r rn, D.sl (kL m) c, dl s sn]) ∧ (kJ [iD k2, dl r2 rn2, D.sl (kL m2) c2, dl s2 sn2]) ∧ (kJ [iD 0, qR, qR, qR]) ∧ (kJ [iD (uR k k2), dl (dN (kB r rn) (kB r2 rn2)) (qQ (kB r rn) (kB r2 rn2)), D.sl (kL o) q, dl s sn])) zk ⟨rfl, rfl, rfl, rfl, rfl, (by exact u21 zo), rfl, rfl, rfl, rfl⟩ True.intro
   ·refine uJ (kT 6 [.b false, .no, .no]) (¬ ((64 : Int) < (qQ (kB r rn) (kB r2 rn2) : Int))) [(2, iV 15), (3, rV 0 0), (4, rV 1 0), (6, rV 2 0), (9, rV 3 0), (12, bV false)] zo ?_
    exact kX () [] (P := (kM 15) ∧ (kG 0) ∧ (kG 0) ∧ (kG 0) ∧ (kG 0) ∧ ((eJ (qQ (kB r rn) (kB r2 rn2)) 0) = false) ∧ (kJ [iD k, dl r rn, D.sl (kL m) c, dl s sn]) ∧ (kJ [iD k2, dl r2 rn2, D.sl (kL m2) c2, dl s2 sn2]) ∧ (kJ [iD 0, qR, qR, qR]) ∧ (kJ [iD (uR k k2), dl (dN (kB r rn) (kB r2 rn2)) (qQ (kB r rn) (kB r2 rn2)), D.sl (kL o) q, dl s sn])) zk ⟨rfl, rfl, rfl, rfl, rfl, (by exact u4y zo), rfl, rfl, rfl, rfl⟩ True.intro
  ·refine gA hcx [(6, rV 2 0), (9, rV 3 0), (12, qS (D.lit (.bool (eJ (qQ (kB r rn) (kB r2 rn2)) (qQ (kB s sn) (kB s2 sn2))))))] [(2, some (59, u9)), (3, some (59, (bI k k2 r rn r2 rn2 o q s sn s2 sn2)))] 6 ?_ ?_
   ·refine kI [.no, .i 8, .b true] ((qI .and .i64 15 8 = 8) ∧ (((8 : Int) ≠ 0))) [(3, rV 0 0), (4, rV 1 0), (6, rV 2 0), (9, rV 3 0), (12, qS (D.lit (.bool (eJ (qQ (kB r rn) (kB r2 rn2)) 0)))), (65, bV true)] [(0, some (59, (y7 k r rn m c s sn))), (1, some (59, (vE k2 r2 rn2 m2 c2 s2 sn2))), (2, some (59, u9)), (3, some (59, (pT k k2 r rn r2 rn2 o q s sn)))] 6 ⟨(by decide), zo⟩ ?_
    refine zt ?_
    have hx9 : ((ka0 (dN (kB s sn) (kB s2 sn2))) = ((qQ (kB s sn) (kB s2 sn2)) * 2)) := bH _ _
    have hx10 : ((qQ (kB s sn) (kB s2 sn2)) ≤ ((kK s sn) + (kK s2 sn2))) := k6u (k8 (zo)) (k8 (zo)) (aI (zo)) (aI (zo))
    have hx11 : ((kK s sn) ≤ 64) := bD.1
    have hx12 : ((kK s2 sn2) ≤ 64) := bD.1
    refine kI (kT 4 [.call [] (sV .i64 (dN (kB s sn) (kB s2 sn2)) (qQ (kB s sn) (kB s2 sn2))) [] 0 [] none, .no, .no, .no]) _ [(6, rV 2 0), (9, rV 3 0), (12, qS (D.lit (.bool (eJ (qQ (kB r rn) (kB r2 rn2)) 0))))] [(2, some (59, u9)), (3, some (59, (bI k k2 r rn r2 rn2 o q s sn s2 sn2)))] 6 (u0v s s2 sn sn2 zo zo zo zo) ?_
    rcases ka6 (eJ (qQ (kB r rn) (kB r2 rn2)) 0) with hx13 | hx13
    ·rw [hx13]
     refine aD (kT 4 []) True [(6, rV 2 0), (9, rV 3 0), (12, bV true)] [(2, some (59, u9)), (3, some (59, (bI k k2 r rn r2 rn2 o q s sn s2 sn2)))] 6 trivial ?_
     exact kX () [] (P := (kG 0) ∧ (kG 0) ∧ ((eJ (qQ (kB r rn) (kB r2 rn2)) (qQ (kB s sn) (kB s2 sn2))) = true) ∧ (kJ [iD 0, qR, qR, qR]) ∧ (kJ [iD (uR k k2), dl (dN (kB r rn) (kB r2 rn2)) (qQ (kB r rn) (kB r2 rn2)), D.sl (kL o) q, dl (dN (kB s sn) (kB s2 sn2)) (qQ (kB s sn) (kB s2 sn2))])) zk ⟨rfl, rfl, (by exact u8f (by assumption)), rfl, rfl⟩ True.intro
    ·rw [hx13]
     by_cases hx14 : ((64 : Int) < (((qQ (kB s sn) (kB s2 sn2)) : Nat) : Int))
     ·refine aD (kT 6 [.b true, .no, .no]) (((64 : Int) < (qQ (kB s sn) (kB s2 sn2) : Int))) [(6, rV 2 0), (9, rV 3 0), (12, bV true)] [(2, some (59, u9)), (3, some (59, (bI k k2 r rn r2 rn2 o q s sn s2 sn2)))] 6 zo ?_
      exact kX () [] (P := (kG 0) ∧ (kG 0) ∧ ((eJ (qQ (kB r rn) (kB r2 rn2)) (qQ (kB s sn) (kB s2 sn2))) = true) ∧ (kJ [iD 0, qR, qR, qR]) ∧ (kJ [iD (uR k k2), dl (dN (kB r rn) (kB r2 rn2)) (qQ (kB r rn) (kB r2 rn2)), D.sl (kL o) q, dl (dN (kB s sn) (kB s2 sn2)) (qQ (kB s sn) (kB s2 sn2))])) zk ⟨rfl, rfl, (by exact u21 zo), rfl, rfl⟩ True.intro
     ·refine aD (kT 6 [.b false, .no, .no]) (¬ ((64 : Int) < (qQ (kB s sn) (kB s2 sn2) : Int))) [(6, rV 2 0), (9, rV 3 0), (12, bV false)] [(2, some (59, u9)), (3, some (59, (bI k k2 r rn r2 rn2 o q s sn s2 sn2)))] 6 zo ?_
      exact kX () [] (P := (kG 0) ∧ (kG 0) ∧ ((eJ (qQ (kB r rn) (kB r2 rn2)) (qQ (kB s sn) (kB s2 sn2))) = false) ∧ (kJ [iD 0, qR, qR, qR]) ∧ (kJ [iD (uR k k2), dl (dN (kB r rn) (kB r2 rn2)) (qQ (kB r rn) (kB r2 rn2)), D.sl (kL o) q, dl (dN (kB s sn) (kB s2 sn2)) (qQ (kB s sn) (kB s2 sn2))])) zk ⟨rfl, rfl, (by exact u8e (by assumption) zo), rfl, rfl⟩ True.intro
   ·by_cases hx15 : ((uR k k2) ≠ 0)
    ·by_cases hx16 : ((0 : Int) < ((q : Nat) : Int))
     ·by_cases hx17 : ((0 : Int) < (((qQ (kB r rn) (kB r2 rn2)) : Nat) : Int))
      ·by_cases hx18 : ((0 : Int) < (((qQ (kB s sn) (kB s2 sn2)) : Nat) : Int))
       ·refine kI (.no :: .no :: .no :: .b true :: kT 4 (.b true :: kT 6 (.b true :: kT 6 (.b true :: kT 5 [])))) ((((uR k k2) ≠ 0)) ∧ (((0 : Int) < (q : Int))) ∧ (((0 : Int) < (qQ (kB r rn) (kB r2 rn2) : Int))) ∧ (((0 : Int) < (qQ (kB s sn) (kB s2 sn2) : Int)))) [(6, rV 2 0), (7, bV true), (8, qS (D.lit (.bool (eJ (qQ (kB r rn) (kB r2 rn2)) (qQ (kB s sn) (kB s2 sn2))))))] [(2, some (59, (bI k k2 r rn r2 rn2 o q s sn s2 sn2)))] 6 ⟨zo, zo, zo, zo⟩ ?_
        refine AW.ret ?_
        exact kC (.inr rfl) [] (P := (kM (uR k k2)) ∧ (kJ (dI .i64 (dN (kB r rn) (kB r2 rn2)))) ∧ (kG (qQ (kB r rn) (kB r2 rn2))) ∧ (((kL (uP m m2 c)) : List D) = (kL o)) ∧ (((ka0 (uP m m2 c)) : Nat) = q) ∧ (kJ (dI .i64 (dN (kB s sn) (kB s2 sn2)))) ∧ (kG (qQ (kB s sn) (kB s2 sn2))) ∧ ((decide (smN (uR k k2) (ka0 (uP m m2 c)) (qQ (kB r rn) (kB r2 rn2)) (qQ (kB s sn) (kB s2 sn2)) = 1)) = true) ∧ ((eJ (qQ (kB r rn) (kB r2 rn2)) (qQ (kB s sn) (kB s2 sn2))) = (eJ (qQ (kB r rn) (kB r2 rn2)) (qQ (kB s sn) (kB s2 sn2))))) zk ⟨rfl, rfl, rfl, (by (rw [hz1]; done)), (by exact hz2), rfl, rfl, (by exact decide_eq_true (u7e zo)), rfl⟩
       ·refine kI (.no :: .no :: .no :: .b true :: kT 4 (.b true :: kT 6 (.b true :: kT 6 (.b false :: kT 5 [])))) ((((uR k k2) ≠ 0)) ∧ (((0 : Int) < (q : Int))) ∧ (((0 : Int) < (qQ (kB r rn) (kB r2 rn2) : Int))) ∧ (¬ ((0 : Int) < (qQ (kB s sn) (kB s2 sn2) : Int)))) [(6, rV 2 0), (7, bV false), (8, qS (D.lit (.bool (eJ (qQ (kB r rn) (kB r2 rn2)) (qQ (kB s sn) (kB s2 sn2))))))] [(2, some (59, (bI k k2 r rn r2 rn2 o q s sn s2 sn2)))] 6 ⟨zo, zo, zo, zo⟩ ?_
        refine AW.ret ?_
        exact kC (.inr rfl) [] (P := (kM (uR k k2)) ∧ (kJ (dI .i64 (dN (kB r rn) (kB r2 rn2)))) ∧ (kG (qQ (kB r rn) (kB r2 rn2))) ∧ (((kL (uP m m2 c)) : List D) = (kL o)) ∧ (((ka0 (uP m m2 c)) : Nat) = q) ∧ (kJ (dI .i64 (dN (kB s sn) (kB s2 sn2)))) ∧ (kG (qQ (kB s sn) (kB s2 sn2))) ∧ ((decide (smN (uR k k2) (ka0 (uP m m2 c)) (qQ (kB r rn) (kB r2 rn2)) (qQ (kB s sn) (kB s2 sn2)) = 1)) = false) ∧ ((eJ (qQ (kB r rn) (kB r2 rn2)) (qQ (kB s sn) (kB s2 sn2))) = (eJ (qQ (kB r rn) (kB r2 rn2)) (qQ (kB s sn) (kB s2 sn2))))) zk ⟨rfl, rfl, rfl, (by (rw [hz1]; done)), (by exact hz2), rfl, rfl, pE, rfl⟩
      ·refine kI (.no :: .no :: .no :: .b true :: kT 4 (.b true :: kT 6 (.b false :: kT 7 []))) ((((uR k k2) ≠ 0)) ∧ (((0 : Int) < (q : Int))) ∧ (¬ ((0 : Int) < (qQ (kB r rn) (kB r2 rn2) : Int)))) [(6, rV 2 0), (7, bV false), (8, qS (D.lit (.bool (eJ (qQ (kB r rn) (kB r2 rn2)) (qQ (kB s sn) (kB s2 sn2))))))] [(2, some (59, (bI k k2 r rn r2 rn2 o q s sn s2 sn2)))] 6 ⟨zo, zo, zo⟩ ?_
       refine AW.ret ?_
       exact kC (.inr rfl) [] (P := (kM (uR k k2)) ∧ (kJ (dI .i64 (dN (kB r rn) (kB r2 rn2)))) ∧ (kG (qQ (kB r rn) (kB r2 rn2))) ∧ (((kL (uP m m2 c)) : List D) = (kL o)) ∧ (((ka0 (uP m m2 c)) : Nat) = q) ∧ (kJ (dI .i64 (dN (kB s sn) (kB s2 sn2)))) ∧ (kG (qQ (kB s sn) (kB s2 sn2))) ∧ ((decide (smN (uR k k2) (ka0 (uP m m2 c)) (qQ (kB r rn) (kB r2 rn2)) (qQ (kB s sn) (kB s2 sn2)) = 1)) = false) ∧ ((eJ (qQ (kB r rn) (kB r2 rn2)) (qQ (kB s sn) (kB s2 sn2))) = (eJ (qQ (kB r rn) (kB r2 rn2)) (qQ (kB s sn) (kB s2 sn2))))) zk ⟨rfl, rfl, rfl, (by (rw [hz1]; done)), (by exact hz2), rfl, rfl, pE, rfl⟩
     ·refine kI (.no :: .no :: .no :: .b true :: kT 4 (.b false :: kT 9 [])) ((((uR k k2) ≠ 0)) ∧ (¬ ((0 : Int) < (q : Int)))) [(6, rV 2 0), (7, bV false), (8, qS (D.lit (.bool (eJ (qQ (kB r rn) (kB r2 rn2)) (qQ (kB s sn) (kB s2 sn2))))))] [(2, some (59, (bI k k2 r rn r2 rn2 o q s sn s2 sn2)))] 6 ⟨zo, zo⟩ ?_
      refine AW.ret ?_
      exact kC (.inr rfl) [] (P := (kM (uR k k2)) ∧ (kJ (dI .i64 (dN (kB r rn) (kB r2 rn2)))) ∧ (kG (qQ (kB r rn) (kB r2 rn2))) ∧ (((kL (uP m m2 c)) : List D) = (kL o)) ∧ (((ka0 (uP m m2 c)) : Nat) = q) ∧ (kJ (dI .i64 (dN (kB s sn) (kB s2 sn2)))) ∧ (kG (qQ (kB s sn) (kB s2 sn2))) ∧ ((decide (smN (uR k k2) (ka0 (uP m m2 c)) (qQ (kB r rn) (kB r2 rn2)) (qQ (kB s sn) (kB s2 sn2)) = 1)) = false) ∧ ((eJ (qQ (kB r rn) (kB r2 rn2)) (qQ (kB s sn) (kB s2 sn2))) = (eJ (qQ (kB r rn) (kB r2 rn2)) (qQ (kB s sn) (kB s2 sn2))))) zk ⟨rfl, rfl, rfl, (by (rw [hz1]; done)), (by exact hz2), rfl, rfl, pE, rfl⟩
    ·refine kI (.no :: .no :: .no :: .b false :: kT 10 []) (¬ ((uR k k2) ≠ 0)) [(6, rV 2 0), (7, bV false), (8, qS (D.lit (.bool (eJ (qQ (kB r rn) (kB r2 rn2)) (qQ (kB s sn) (kB s2 sn2))))))] [(2, some (59, (bI k k2 r rn r2 rn2 o q s sn s2 sn2)))] 6 zo ?_
     refine AW.ret ?_
     exact kC (.inr rfl) [] (P := (kM (uR k k2)) ∧ (kJ (dI .i64 (dN (kB r rn) (kB r2 rn2)))) ∧ (kG (qQ (kB r rn) (kB r2 rn2))) ∧ (((kL (uP m m2 c)) : List D) = (kL o)) ∧ (((ka0 (uP m m2 c)) : Nat) = q) ∧ (kJ (dI .i64 (dN (kB s sn) (kB s2 sn2)))) ∧ (kG (qQ (kB s sn) (kB s2 sn2))) ∧ ((decide (smN (uR k k2) (ka0 (uP m m2 c)) (qQ (kB r rn) (kB r2 rn2)) (qQ (kB s sn) (kB s2 sn2)) = 1)) = false) ∧ ((eJ (qQ (kB r rn) (kB r2 rn2)) (qQ (kB s sn) (kB s2 sn2))) = (eJ (qQ (kB r rn) (kB r2 rn2)) (qQ (kB s sn) (kB s2 sn2))))) zk ⟨rfl, rfl, rfl, (by (rw [hz1]; done)), (by exact hz2), rfl, rfl, pE, rfl⟩
abbrev qO (a : List Bx) (i : Nat) (b : List Bx) (j : Nat) := uP (kY a i) (kY b j) (ka0 (kY a i))
abbrev u4 (a : List Bx) (i : Nat) (b : List Bx) (j : Nat) := dN (kB (qF a i) (qB a i)) (kB (qF b j) (qB b j))
abbrev u3 (a : List Bx) (i : Nat) (b : List Bx) (j : Nat) := dN (kB (qG a i) (qC a i)) (kB (qG b j) (qC b j))
abbrev lN (a : List Bx) (i : Nat) (b : List Bx) (j : Nat) : BC := .ds [iD (uR (k9 a i) (k9 b j)), D.sl (dI .i64 (u4 a i b j)) (qQ (kB (qF a i) (qB a i)) (kB (qF b j) (qB b j))), D.sl (kL (qO a i b j)) (ka0 (qO a i b j)), D.sl (dI .i64 (u3 a i b j)) (qQ (kB (qG a i) (qC a i)) (kB (qG b j) (qC b j)))]
abbrev v4 (a : List Bx) (i : Nat) : BC := .ds [iD (k9 a i), D.sl (dI .i64 (qF a i)) (qB a i), D.sl (kL (kY a i)) (ka0 (kY a i)), D.sl (dI .i64 (qG a i)) (qC a i)]
theorem u39 (a b : List Bx) (n m : Nat) (hn : ka0 a = n) (hm : ka0 b = m) (h1 : n ≤ 1000) (h2 : m ≤ 1000) (hW : BsW a) (hV : BsW b) (va : aJ a = true) (vb : aJ b = true) : Fun 44 [.c (.d (D.sl (kP a) n)), .c (.d (D.sl (kP b) m)), iE 15] (kE []) 0 (.tup [.c (.d (D.sl (kP (yB a b)) (ka0 (yB a b)))), iE (aM a b)]) (kE []) 0 := by
 refine Fun.mk (n := 54) Tryz.func44 rfl rfl (ka4 rfl) ?_
 intro cx hcx
 refine kI [.no, .no] True [(0, .e (kQ a n)), (1, .e (kQ b m)), (2, iV 15)] [] 0 trivial ?_
 refine kN [.no] True [(0, .e (kQ a n)), (1, .e (kQ b m)), (2, iV 15), (8, nV)] trivial ?_
 refine AW.seq ?_
 refine kN [.no, .no, .no] True [(1, .e (kQ b m)), (2, iV 15), (8, nV), (16, .e (kQ a n)), (17, uV n), (18, iV 0)] trivial ?_
 refine AW.block ?_
 refine AW.adoptS 8 4 59 rfl ?_
 refine kU 0 hcx (fun (x : {x : Nat × Nat × List Bx // match x with | (i, q, o) => (i ≤ n) ∧ (CI a b i o) ∧ (ka0 o = q ∧ q ≤ 64) ∧ (BsW o)}) => match x with | ⟨(i, q, o), _⟩ => (⟨[(1, .e (kQ b m)), (2, iV 15), (8, oV 1 0 q 4), (16, .e (kQ a n)), (17, uV n), (18, uV i)], [(1, some (59, .ds (kP o)))], 2⟩ : ES)) (fun x => match x with | ⟨(i, q, o), _⟩ => n - i) ⟨((0 : Nat), (0 : Nat), (([] : List Bx) : List Bx)), ⟨zo, CI.zero a b, ⟨rfl, by omega⟩, BsW.nil⟩⟩ [(1, 0)] (P := (kJ (kP b)) ∧ (kG m) ∧ (kM 15) ∧ (kG 0) ∧ (kG 0) ∧ (kJ (kP a)) ∧ (kG n) ∧ (kM (n : Int)) ∧ (kM 0) ∧ (((kP ([] : List Bx)) : List D) = ([] : List D))) zk ⟨rfl, rfl, rfl, rfl, rfl, rfl, rfl, rfl, rfl, (by rfl)⟩ ?_
 rintro ⟨⟨i, q, o⟩, hinv0⟩
 obtain ⟨hi, hI, hq, hO⟩ : (i ≤ n) ∧ (CI a b i o) ∧ (ka0 o = q ∧ q ≤ 64) ∧ (BsW o) := hinv0
 refine qN (l := [(1, .e (kQ b m)), (2, iV 15), (8, oV 1 0 q 4), (16, .e (kQ a n)), (17, uV n), (18, uV i)]) (g := [(1, some (59, .ds (kP o)))]) (nx := 2) rfl rfl rfl ?_
 by_cases hx1 : (((i : Nat) : Int) < ((n : Nat) : Int))
 ·refine kI [.b true] (((i : Int) < (n : Int))) [(1, .e (kQ b m)), (2, iV 15), (8, oV 1 0 q 4), (16, .e (kQ a n)), (17, uV n), (18, uV i), (19, bV true)] [(1, some (59, .ds (kP o)))] 2 zo ?_
  refine AW.seq ?_
  refine yW ?_
  refine AW.seq ?_
  refine AW.block ?_
  obtain ⟨hx2, hx3, hx4, hx5, hx6⟩ := BsW.at (kZ : BsW a) (i)
  refine kI [.n i, .ds (uY a i), .no, .no] ((kM (i : Int)) ∧ (i < n) ∧ (ka5 4 (ka3 (i * 4) (kP a)) = (uY a i)) ∧ (((uY a i) : List D).length = 4)) [(1, .e (kQ b m)), (2, iV 15), (8, oV 1 0 q 4), (10, rV 2 0), (16, .e (kQ a n)), (17, uV n), (18, uV i)] [(1, some (59, .ds (kP o))), (2, some (59, (v4 a i)))] 3 ⟨rfl, zo, (yF zo), rfl⟩ ?_
  refine kN [.no, .no, .no] True [(1, .e (kQ b m)), (2, iV 15), (8, oV 1 0 q 4), (10, rV 2 0), (16, .e (kQ a n)), (17, uV n), (18, uV i), (22, .e (kQ b m)), (23, uV m), (24, iV 0)] trivial ?_
  refine AW.block ?_
  refine kU 0 hcx (fun (x : {x : Nat × Nat × List Bx // match x with | (j, p, x) => (j ≤ m) ∧ (CJ2 a b i j x) ∧ (ka0 x = p ∧ p ≤ 64) ∧ (BsW x)}) => match x with | ⟨(j, p, x), _⟩ => (⟨[(1, .e (kQ b m)), (2, iV 15), (8, oV 3 0 p 4), (10, rV 2 0), (16, .e (kQ a n)), (17, uV n), (18, uV i), (22, .e (kQ b m)), (23, uV m), (24, uV j)], [(3, some (59, .ds (kP x))), (2, some (59, (v4 a i)))], 4⟩ : ES)) (fun x => match x with | ⟨(j, p, x), _⟩ => m - j) ⟨((0 : Nat), (q : Nat), (o : List Bx)), ⟨zo, hI.in, (by assumption), hO⟩⟩ [(3, 1)] (P := (kJ (kP b)) ∧ (kG m) ∧ (kM 15) ∧ (kG 0) ∧ (kG q) ∧ (kG 0) ∧ (kJ (kP a)) ∧ (kG n) ∧ (kM (n : Int)) ∧ (kM (i : Int)) ∧ (kJ (kP b)) ∧ (kG m) ∧ (kM (m : Int)) ∧ (kM 0) ∧ (kJ (kP o)) ∧ (kJ (uY a i))) zk ⟨rfl, rfl, rfl, rfl, rfl, rfl, rfl, rfl, rfl, rfl, rfl, rfl, rfl, rfl, rfl, rfl⟩ ?_
  rintro ⟨⟨j, p, x⟩, hinv1⟩
  obtain ⟨hj, hJ, hp, hX⟩ : (j ≤ m) ∧ (CJ2 a b i j x) ∧ (ka0 x = p ∧ p ≤ 64) ∧ (BsW x) := hinv1
  refine qN (l := [(1, .e (kQ b m)), (2, iV 15), (8, oV 3 0 p 4), (10, rV 2 0), (16, .e (kQ a n)), (17, uV n), (18, uV i), (22, .e (kQ b m)), (23, uV m), (24, uV j)]) (g := [(3, some (59, .ds (kP x))), (2, some (59, (v4 a i)))]) (nx := 4) rfl rfl rfl ?_
  by_cases hx7 : (((j : Nat) : Int) < ((m : Nat) : Int))
  ·refine kI [.b true] (((j : Int) < (m : Int))) [(1, .e (kQ b m)), (2, iV 15), (8, oV 3 0 p 4), (10, rV 2 0), (16, .e (kQ a n)), (17, uV n), (18, uV i), (22, .e (kQ b m)), (23, uV m), (24, uV j), (25, bV true)] [(2, some (59, (v4 a i))), (3, some (59, .ds (kP x)))] 4 zo ?_
   refine AW.seq ?_
   refine yW ?_
   refine AW.seq ?_
   refine AW.block ?_
   obtain ⟨hx8, hx9, hx10, hx11, hx12⟩ := BsW.at (kZ : BsW b) (j)
   refine kI [.n j, .ds (uY b j), .no, .no] ((kM (j : Int)) ∧ (j < m) ∧ (ka5 4 (ka3 (j * 4) (kP b)) = (uY b j)) ∧ (((uY b j) : List D).length = 4)) [(1, .e (kQ b m)), (2, iV 15), (8, oV 3 0 p 4), (10, rV 2 0), (12, rV 4 0), (16, .e (kQ a n)), (17, uV n), (18, uV i), (22, .e (kQ b m)), (23, uV m), (24, uV j)] [(2, some (59, (v4 a i))), (3, some (59, .ds (kP x))), (4, some (59, .ds (uY b j)))] 5 ⟨rfl, zo, (yF zo), rfl⟩ ?_
   rcases ka6 (decide (smN (uR (k9 a i) (k9 b j)) (ka0 (qO a i b j)) (qQ (kB (qF a i) (qB a i)) (kB (qF b j) (qB b j))) (qQ (kB (qG a i) (qC a i)) (kB (qG b j) (qC b j))) = 1)) with hx13 | hx13
   ·have hx14 : ((smN (uR (k9 a i) (k9 b j)) (ka0 (qO a i b j)) (qQ (kB (qF a i) (qB a i)) (kB (qF b j) (qB b j))) (qQ (kB (qG a i) (qC a i)) (kB (qG b j) (qC b j)))) = 1) := of_decide_eq_true hx13
    rcases ka6 (eJ (qQ (kB (qF a i) (qB a i)) (kB (qF b j) (qB b j))) (qQ (kB (qG a i) (qC a i)) (kB (qG b j) (qC b j)))) with hx15 | hx15
    ·have hx16 : ((ka0 (qO a i b j)) ≤ (ka0 (kY a i))) := aO (kY a i) (kY b j) (ka0 (kY a i))
     have hx17 : ((ka0 (u4 a i b j)) = ((qQ (kB (qF a i) (qB a i)) (kB (qF b j) (qB b j))) * 2)) := bH _ _
     have hx18 : ((qQ (kB (qF a i) (qB a i)) (kB (qF b j) (qB b j))) ≤ 1000000) := dA (zo) (zo)
     have hx19 : ((ka0 (u3 a i b j)) = ((qQ (kB (qG a i) (qC a i)) (kB (qG b j) (qC b j))) * 2)) := bH _ _
     have hx20 : ((qQ (kB (qG a i) (qC a i)) (kB (qG b j) (qC b j))) ≤ 1000000) := dA (zo) (zo)
     have hx21 : (MsW (qO a i b j)) := gK ((BsW.ms (kZ : BsW a) _)) _ _
     refine kI (.no :: .no :: .no :: .call [] (.tup [.agg [iC (uR (k9 a i) (k9 b j)), .d (dl (u4 a i b j) (qQ (kB (qF a i) (qB a i)) (kB (qF b j) (qB b j)))), .d (D.sl (kL (qO a i b j)) (ka0 (qO a i b j))), .d (dl (u3 a i b j) (qQ (kB (qG a i) (qC a i)) (kB (qG b j) (qC b j))))], .c (.d (D.lit (.bool true))), .c (.d (D.lit (.bool true)))]) [] 0 [] none :: kT 8 []) (Fun 89 [(b8 a i), (b8 b j), iE 15] (kE []) 0 (.tup [.agg [iC (uR (k9 a i) (k9 b j)), .d (dl (u4 a i b j) (qQ (kB (qF a i) (qB a i)) (kB (qF b j) (qB b j)))), .d (D.sl (kL (qO a i b j)) (ka0 (qO a i b j))), .d (dl (u3 a i b j) (qQ (kB (qG a i) (qC a i)) (kB (qG b j) (qC b j))))], .c (.d (D.lit (.bool true))), .c (.d (D.lit (.bool true)))]) (kE []) 0) [(1, .e (kQ b m)), (2, iV 15), (8, oV 3 0 p 4), (10, rV 2 0), (13, rV 5 0), (14, bV true), (15, bV true), (16, .e (kQ a n)), (17, uV n), (18, uV i), (22, .e (kQ b m)), (23, uV m), (24, uV j)] [(2, some (59, (v4 a i))), (3, some (59, .ds (kP x))), (5, some (59, (lN a i b j)))] 6 (by have h0 := (sN (k9 a i) (qF a i) (qB a i) (kY a i) (ka0 (kY a i)) (qG a i) (qC a i) (k9 b j) (qF b j) (qB b j) (kY b j) (ka0 (kY b j)) (qG b j) (qC b j) zo zo rfl zo zo zo (BsW.ms (kZ : BsW a) _) zo zo rfl zo zo zo (BsW.ms (kZ : BsW b) _)); rw [hx13, hx15] at h0; exact h0) ?_
     refine AW.seq ?_
     refine kN [.no, .no] True [(1, .e (kQ b m)), (2, iV 15), (8, oV 3 0 p 4), (10, rV 2 0), (13, rV 5 0), (15, bV true), (16, .e (kQ a n)), (17, uV n), (18, uV i), (22, .e (kQ b m)), (23, uV m), (24, uV j), (37, bV false)] trivial ?_
     refine q8 ?_
     refine AW.seq ?_
     refine kN [.no, .no, .no] True [(1, .e (kQ b m)), (2, iV 15), (8, oV 3 0 p 4), (10, rV 2 0), (13, rV 5 0), (16, .e (kQ a n)), (17, uV n), (18, uV i), (22, .e (kQ b m)), (23, uV m), (24, uV j), (43, bV true)] trivial ?_
     refine zt ?_
     refine kI [.no, .no] True [(6, nV), (7, iV 3)] [] 6 trivial ?_
     obtain ⟨hz1, hz2⟩ := k3i hJ hW hV va vb (i := i) (j := j) zo zo zo (show nR a b i j = 1 by assumption) (by exact .inl (show mnE a b i j = true from by assumption))
     refine yV (l' := [(6, qJ ([] : List D) 0), (7, iV 3)]) (g' := []) (NlS.cons rfl (.e (.c .nil)) (NlS.cons rfl (.same _) NlS.nil)) NlG.nil ?_
     refine AW.ret ?_
     exact kC (.inr rfl) [] (P := (((kP (yB a b)) : List D) = ([] : List D)) ∧ (((ka0 (yB a b)) : Nat) = 0) ∧ (((aM a b) : Int) = 3)) zk ⟨(by (rw [hz1]; rfl)), (by (rw [hz1]; rfl)), (by exact hz2)⟩
    ·have hx22 : ((ka0 (qO a i b j)) ≤ (ka0 (kY a i))) := aO (kY a i) (kY b j) (ka0 (kY a i))
     have hx23 : ((ka0 (u4 a i b j)) = ((qQ (kB (qF a i) (qB a i)) (kB (qF b j) (qB b j))) * 2)) := bH _ _
     have hx24 : ((qQ (kB (qF a i) (qB a i)) (kB (qF b j) (qB b j))) ≤ 1000000) := dA (zo) (zo)
     have hx25 : ((ka0 (u3 a i b j)) = ((qQ (kB (qG a i) (qC a i)) (kB (qG b j) (qC b j))) * 2)) := bH _ _
     have hx26 : ((qQ (kB (qG a i) (qC a i)) (kB (qG b j) (qC b j))) ≤ 1000000) := dA (zo) (zo)
     have hx27 : (MsW (qO a i b j)) := gK ((BsW.ms (kZ : BsW a) _)) _ _
     refine kI (.no :: .no :: .no :: .call [] (.tup [.agg [iC (uR (k9 a i) (k9 b j)), .d (dl (u4 a i b j) (qQ (kB (qF a i) (qB a i)) (kB (qF b j) (qB b j)))), .d (D.sl (kL (qO a i b j)) (ka0 (qO a i b j))), .d (dl (u3 a i b j) (qQ (kB (qG a i) (qC a i)) (kB (qG b j) (qC b j))))], .c (.d (D.lit (.bool true))), .c (.d (D.lit (.bool false)))]) [] 0 [] none :: kT 8 []) (Fun 89 [(b8 a i), (b8 b j), iE 15] (kE []) 0 (.tup [.agg [iC (uR (k9 a i) (k9 b j)), .d (dl (u4 a i b j) (qQ (kB (qF a i) (qB a i)) (kB (qF b j) (qB b j)))), .d (D.sl (kL (qO a i b j)) (ka0 (qO a i b j))), .d (dl (u3 a i b j) (qQ (kB (qG a i) (qC a i)) (kB (qG b j) (qC b j))))], .c (.d (D.lit (.bool true))), .c (.d (D.lit (.bool false)))]) (kE []) 0) [(1, .e (kQ b m)), (2, iV 15), (8, oV 3 0 p 4), (10, rV 2 0), (13, rV 5 0), (14, bV true), (15, bV false), (16, .e (kQ a n)), (17, uV n), (18, uV i), (22, .e (kQ b m)), (23, uV m), (24, uV j)] [(2, some (59, (v4 a i))), (3, some (59, .ds (kP x))), (5, some (59, (lN a i b j)))] 6 (by have h0 := (sN (k9 a i) (qF a i) (qB a i) (kY a i) (ka0 (kY a i)) (qG a i) (qC a i) (k9 b j) (qF b j) (qB b j) (kY b j) (ka0 (kY b j)) (qG b j) (qC b j) zo zo rfl zo zo zo (BsW.ms (kZ : BsW a) _) zo zo rfl zo zo zo (BsW.ms (kZ : BsW b) _)); rw [hx13, hx15] at h0; exact h0) ?_
     refine AW.seq ?_
     refine kN [.no, .no] True [(1, .e (kQ b m)), (2, iV 15), (8, oV 3 0 p 4), (10, rV 2 0), (13, rV 5 0), (15, bV false), (16, .e (kQ a n)), (17, uV n), (18, uV i), (22, .e (kQ b m)), (23, uV m), (24, uV j), (37, bV false)] trivial ?_
     refine q8 ?_
     refine AW.seq ?_
     by_cases hx28 : ((64 : Int) ≤ ((p : Nat) : Int))
     ·refine kN (kT 4 [.b true, .no]) (((64 : Int) ≤ (p : Int))) [(1, .e (kQ b m)), (2, iV 15), (8, oV 3 0 p 4), (10, rV 2 0), (13, rV 5 0), (16, .e (kQ a n)), (17, uV n), (18, uV i), (22, .e (kQ b m)), (23, uV m), (24, uV j), (43, bV true)] zo ?_
      refine zt ?_
      refine kI [.no, .no] True [(6, nV), (7, iV 3)] [] 6 trivial ?_
      obtain ⟨hz1, hz2⟩ := k3i hJ hW hV va vb (i := i) (j := j) zo zo zo (show nR a b i j = 1 by assumption) (by exact .inr zo)
      refine yV (l' := [(6, qJ ([] : List D) 0), (7, iV 3)]) (g' := []) (NlS.cons rfl (.e (.c .nil)) (NlS.cons rfl (.same _) NlS.nil)) NlG.nil ?_
      refine AW.ret ?_
      exact kC (.inr rfl) [] (P := (((kP (yB a b)) : List D) = ([] : List D)) ∧ (((ka0 (yB a b)) : Nat) = 0) ∧ (((aM a b) : Int) = 3)) zk ⟨(by (rw [hz1]; rfl)), (by (rw [hz1]; rfl)), (by exact hz2)⟩
     ·refine kN (kT 4 [.b false, .no]) (¬ ((64 : Int) ≤ (p : Int))) [(1, .e (kQ b m)), (2, iV 15), (8, oV 3 0 p 4), (10, rV 2 0), (13, rV 5 0), (16, .e (kQ a n)), (17, uV n), (18, uV i), (22, .e (kQ b m)), (23, uV m), (24, uV j), (43, bV false)] zo ?_
      refine q8 ?_
      refine aD [.no, .no, .no, .ap none (p + 1) (kP (x ++ ([(uO (uR (k9 a i) (k9 b j)) (u4 a i b j) (qQ (kB (qF a i) (qB a i)) (kB (qF b j) (qB b j))) (qO a i b j) (u3 a i b j) (qQ (kB (qG a i) (qC a i)) (kB (qG b j) (qC b j))))] : List Bx))), .no] (([iD (uR (k9 a i) (k9 b j)), dl (u4 a i b j) (qQ (kB (qF a i) (qB a i)) (kB (qF b j) (qB b j))), D.sl (kL (qO a i b j)) (ka0 (qO a i b j)), dl (u3 a i b j) (qQ (kB (qG a i) (qC a i)) (kB (qG b j) (qC b j)))].length = 1 * 4) ∧ (((kP x) : List D).length = p * 4) ∧ ((p + 1) * 80 ≤ 140737488355328) ∧ (p + 1 = (p + 1)) ∧ (((kP x) : List D) ++ [iD (uR (k9 a i) (k9 b j)), dl (u4 a i b j) (qQ (kB (qF a i) (qB a i)) (kB (qF b j) (qB b j))), D.sl (kL (qO a i b j)) (ka0 (qO a i b j)), dl (u3 a i b j) (qQ (kB (qG a i) (qC a i)) (kB (qG b j) (qC b j)))] = (kP (x ++ ([(uO (uR (k9 a i) (k9 b j)) (u4 a i b j) (qQ (kB (qF a i) (qB a i)) (kB (qF b j) (qB b j))) (qO a i b j) (u3 a i b j) (qQ (kB (qG a i) (qC a i)) (kB (qG b j) (qC b j))))] : List Bx))))) [(1, .e (kQ b m)), (2, iV 15), (8, oV 7 0 (p + 1) 4), (10, rV 2 0), (16, .e (kQ a n)), (17, uV n), (18, uV i), (22, .e (kQ b m)), (23, uV m), (24, uV j)] [(2, some (59, (v4 a i))), (7, some (59, .ds (kP (x ++ ([(uO (uR (k9 a i) (k9 b j)) (u4 a i b j) (qQ (kB (qF a i) (qB a i)) (kB (qF b j) (qB b j))) (qO a i b j) (u3 a i b j) (qQ (kB (qG a i) (qC a i)) (kB (qG b j) (qC b j))))] : List Bx)))))] 8 ⟨bO, bO, zo, zo, (fZ x (uR (k9 a i) (k9 b j)) (u4 a i b j) (qQ (kB (qF a i) (qB a i)) (kB (qF b j) (qB b j))) (qO a i b j) (ka0 (qO a i b j)) (u3 a i b j) (qQ (kB (qG a i) (qC a i)) (kB (qG b j) (qC b j))) (by rfl))⟩ ?_
      refine uJ [.w, .no] (uZ ((j : Int) + 1)) [(1, .e (kQ b m)), (2, iV 15), (8, oV 7 0 (p + 1) 4), (10, rV 2 0), (16, .e (kQ a n)), (17, uV n), (18, uV i), (22, .e (kQ b m)), (23, uV m), (24, iV (↑j + 1))] ⟨by omega, by omega⟩ ?_
      exact kX ⟨(((j + 1) : Nat), ((p + 1) : Nat), ((x ++ ([(uO (uR (k9 a i) (k9 b j)) (u4 a i b j) (qQ (kB (qF a i) (qB a i)) (kB (qF b j) (qB b j))) (qO a i b j) (u3 a i b j) (qQ (kB (qG a i) (qC a i)) (kB (qG b j) (qC b j))))] : List Bx)) : List Bx)), ⟨zo, (by exact hJ.ry hW hV va vb zo zo (show nR a b i _ = 1 by assumption) (show mnE a b i _ = false from by assumption) zo), xK, (by exact hX.app (BsW.one (u7s hW hV _ _)))⟩⟩ [(3, 7)] (P := (kJ (kP b)) ∧ (kG m) ∧ (kM 15) ∧ (kG 0) ∧ (kG (p + 1)) ∧ (kG 0) ∧ (kJ (kP a)) ∧ (kG n) ∧ (kM (n : Int)) ∧ (kM (i : Int)) ∧ (kJ (kP b)) ∧ (kG m) ∧ (kM (m : Int)) ∧ (vX j) ∧ (kJ (kP (x ++ ([(uO (uR (k9 a i) (k9 b j)) (u4 a i b j) (qQ (kB (qF a i) (qB a i)) (kB (qF b j) (qB b j))) (qO a i b j) (u3 a i b j) (qQ (kB (qG a i) (qC a i)) (kB (qG b j) (qC b j))))] : List Bx)))) ∧ (kJ (uY a i))) zk ⟨rfl, rfl, rfl, rfl, rfl, rfl, rfl, rfl, rfl, rfl, rfl, rfl, rfl, (by rfl), rfl, rfl⟩ (show m - (j + 1) < m - j from zo)
   ·have hx29 : ¬ ((smN (uR (k9 a i) (k9 b j)) (ka0 (qO a i b j)) (qQ (kB (qF a i) (qB a i)) (kB (qF b j) (qB b j))) (qQ (kB (qG a i) (qC a i)) (kB (qG b j) (qC b j)))) = 1) := of_decide_eq_false hx13
    rcases ka6 (eJ (qQ (kB (qF a i) (qB a i)) (kB (qF b j) (qB b j))) (qQ (kB (qG a i) (qC a i)) (kB (qG b j) (qC b j)))) with hx30 | hx30
    ·have hx31 : ((ka0 (qO a i b j)) ≤ (ka0 (kY a i))) := aO (kY a i) (kY b j) (ka0 (kY a i))
     have hx32 : ((ka0 (u4 a i b j)) = ((qQ (kB (qF a i) (qB a i)) (kB (qF b j) (qB b j))) * 2)) := bH _ _
     have hx33 : ((qQ (kB (qF a i) (qB a i)) (kB (qF b j) (qB b j))) ≤ 1000000) := dA (zo) (zo)
     have hx34 : ((ka0 (u3 a i b j)) = ((qQ (kB (qG a i) (qC a i)) (kB (qG b j) (qC b j))) * 2)) := bH _ _
     have hx35 : ((qQ (kB (qG a i) (qC a i)) (kB (qG b j) (qC b j))) ≤ 1000000) := dA (zo) (zo)
     have hx36 : (MsW (qO a i b j)) := gK ((BsW.ms (kZ : BsW a) _)) _ _
     refine kI (.no :: .no :: .no :: .call [] (.tup [.agg [iC (uR (k9 a i) (k9 b j)), .d (dl (u4 a i b j) (qQ (kB (qF a i) (qB a i)) (kB (qF b j) (qB b j)))), .d (D.sl (kL (qO a i b j)) (ka0 (qO a i b j))), .d (dl (u3 a i b j) (qQ (kB (qG a i) (qC a i)) (kB (qG b j) (qC b j))))], .c (.d (D.lit (.bool false))), .c (.d (D.lit (.bool true)))]) [] 0 [] none :: kT 8 []) (Fun 89 [(b8 a i), (b8 b j), iE 15] (kE []) 0 (.tup [.agg [iC (uR (k9 a i) (k9 b j)), .d (dl (u4 a i b j) (qQ (kB (qF a i) (qB a i)) (kB (qF b j) (qB b j)))), .d (D.sl (kL (qO a i b j)) (ka0 (qO a i b j))), .d (dl (u3 a i b j) (qQ (kB (qG a i) (qC a i)) (kB (qG b j) (qC b j))))], .c (.d (D.lit (.bool false))), .c (.d (D.lit (.bool true)))]) (kE []) 0) [(1, .e (kQ b m)), (2, iV 15), (8, oV 3 0 p 4), (10, rV 2 0), (13, rV 5 0), (14, bV false), (15, bV true), (16, .e (kQ a n)), (17, uV n), (18, uV i), (22, .e (kQ b m)), (23, uV m), (24, uV j)] [(2, some (59, (v4 a i))), (3, some (59, .ds (kP x))), (5, some (59, (lN a i b j)))] 6 (by have h0 := (sN (k9 a i) (qF a i) (qB a i) (kY a i) (ka0 (kY a i)) (qG a i) (qC a i) (k9 b j) (qF b j) (qB b j) (kY b j) (ka0 (kY b j)) (qG b j) (qC b j) zo zo rfl zo zo zo (BsW.ms (kZ : BsW a) _) zo zo rfl zo zo zo (BsW.ms (kZ : BsW b) _)); rw [hx13, hx30] at h0; exact h0) ?_
     refine AW.seq ?_
     refine kN [.no, .no] True [(1, .e (kQ b m)), (2, iV 15), (8, oV 3 0 p 4), (10, rV 2 0), (13, rV 5 0), (15, bV true), (16, .e (kQ a n)), (17, uV n), (18, uV i), (22, .e (kQ b m)), (23, uV m), (24, uV j), (37, bV true)] trivial ?_
     refine zt ?_
     refine AW.exit ?_
     refine aD [.w, .no] (uZ ((j : Int) + 1)) [(1, .e (kQ b m)), (2, iV 15), (8, oV 3 0 p 4), (10, rV 2 0), (16, .e (kQ a n)), (17, uV n), (18, uV i), (22, .e (kQ b m)), (23, uV m), (24, iV (↑j + 1))] [(2, some (59, (v4 a i))), (3, some (59, .ds (kP x)))] 6 ⟨by omega, by omega⟩ ?_
     exact kX ⟨(((j + 1) : Nat), (p : Nat), (x : List Bx)), ⟨zo, (by exact hJ.rn hW hV va zo (show ¬ nR a b i _ = 1 by assumption)), (by assumption), (by assumption)⟩⟩ [] (P := (kJ (kP b)) ∧ (kG m) ∧ (kM 15) ∧ (kG 0) ∧ (kG p) ∧ (kG 0) ∧ (kJ (kP a)) ∧ (kG n) ∧ (kM (n : Int)) ∧ (kM (i : Int)) ∧ (kJ (kP b)) ∧ (kG m) ∧ (kM (m : Int)) ∧ (vX j) ∧ (kJ (kP x)) ∧ (kJ (uY a i))) zk ⟨rfl, rfl, rfl, rfl, rfl, rfl, rfl, rfl, rfl, rfl, rfl, rfl, rfl, (by rfl), rfl, rfl⟩ (show m - (j + 1) < m - j from zo)
    ·have hx37 : ((ka0 (qO a i b j)) ≤ (ka0 (kY a i))) := aO (kY a i) (kY b j) (ka0 (kY a i))
     have hx38 : ((ka0 (u4 a i b j)) = ((qQ (kB (qF a i) (qB a i)) (kB (qF b j) (qB b j))) * 2)) := bH _ _
     have hx39 : ((qQ (kB (qF a i) (qB a i)) (kB (qF b j) (qB b j))) ≤ 1000000) := dA (zo) (zo)
     have hx40 : ((ka0 (u3 a i b j)) = ((qQ (kB (qG a i) (qC a i)) (kB (qG b j) (qC b j))) * 2)) := bH _ _
     have hx41 : ((qQ (kB (qG a i) (qC a i)) (kB (qG b j) (qC b j))) ≤ 1000000) := dA (zo) (zo)
     have hx42 : (MsW (qO a i b j)) := gK ((BsW.ms (kZ : BsW a) _)) _ _
     refine kI (.no :: .no :: .no :: .call [] (.tup [.agg [iC (uR (k9 a i) (k9 b j)), .d (dl (u4 a i b j) (qQ (kB (qF a i) (qB a i)) (kB (qF b j) (qB b j)))), .d (D.sl (kL (qO a i b j)) (ka0 (qO a i b j))), .d (dl (u3 a i b j) (qQ (kB (qG a i) (qC a i)) (kB (qG b j) (qC b j))))], .c (.d (D.lit (.bool false))), .c (.d (D.lit (.bool false)))]) [] 0 [] none :: kT 8 []) (Fun 89 [(b8 a i), (b8 b j), iE 15] (kE []) 0 (.tup [.agg [iC (uR (k9 a i) (k9 b j)), .d (dl (u4 a i b j) (qQ (kB (qF a i) (qB a i)) (kB (qF b j) (qB b j)))), .d (D.sl (kL (qO a i b j)) (ka0 (qO a i b j))), .d (dl (u3 a i b j) (qQ (kB (qG a i) (qC a i)) (kB (qG b j) (qC b j))))], .c (.d (D.lit (.bool false))), .c (.d (D.lit (.bool false)))]) (kE []) 0) [(1, .e (kQ b m)), (2, iV 15), (8, oV 3 0 p 4), (10, rV 2 0), (13, rV 5 0), (14, bV false), (15, bV false), (16, .e (kQ a n)), (17, uV n), (18, uV i), (22, .e (kQ b m)), (23, uV m), (24, uV j)] [(2, some (59, (v4 a i))), (3, some (59, .ds (kP x))), (5, some (59, (lN a i b j)))] 6 (by have h0 := (sN (k9 a i) (qF a i) (qB a i) (kY a i) (ka0 (kY a i)) (qG a i) (qC a i) (k9 b j) (qF b j) (qB b j) (kY b j) (ka0 (kY b j)) (qG b j) (qC b j) zo zo rfl zo zo zo (BsW.ms (kZ : BsW a) _) zo zo rfl zo zo zo (BsW.ms (kZ : BsW b) _)); rw [hx13, hx30] at h0; exact h0) ?_
     refine AW.seq ?_
     refine kN [.no, .no] True [(1, .e (kQ b m)), (2, iV 15), (8, oV 3 0 p 4), (10, rV 2 0), (13, rV 5 0), (15, bV false), (16, .e (kQ a n)), (17, uV n), (18, uV i), (22, .e (kQ b m)), (23, uV m), (24, uV j), (37, bV true)] trivial ?_
     refine zt ?_
     refine AW.exit ?_
     refine aD [.w, .no] (uZ ((j : Int) + 1)) [(1, .e (kQ b m)), (2, iV 15), (8, oV 3 0 p 4), (10, rV 2 0), (16, .e (kQ a n)), (17, uV n), (18, uV i), (22, .e (kQ b m)), (23, uV m), (24, iV (↑j + 1))] [(2, some (59, (v4 a i))), (3, some (59, .ds (kP x)))] 6 ⟨by omega, by omega⟩ ?_
     exact kX ⟨(((j + 1) : Nat), (p : Nat), (x : List Bx)), ⟨zo, (by exact hJ.rn hW hV va zo (show ¬ nR a b i _ = 1 by assumption)), (by assumption), (by assumption)⟩⟩ [] (P := (kJ (kP b)) ∧ (kG m) ∧ (kM 15) ∧ (kG 0) ∧ (kG p) ∧ (kG 0) ∧ (kJ (kP a)) ∧ (kG n) ∧ (kM (n : Int)) ∧ (kM (i : Int)) ∧ (kJ (kP b)) ∧ (kG m) ∧ (kM (m : Int)) ∧ (vX j) ∧ (kJ (kP x)) ∧ (kJ (uY a i))) zk ⟨rfl, rfl, rfl, rfl, rfl, rfl, rfl, rfl, rfl, rfl, rfl, rfl, rfl, (by rfl), rfl, rfl⟩ (show m - (j + 1) < m - j from zo)
  ·refine kI [.b false] (¬ ((j : Int) < (m : Int))) [(1, .e (kQ b m)), (2, iV 15), (8, oV 3 0 p 4), (10, rV 2 0), (16, .e (kQ a n)), (17, uV n), (18, uV i), (22, .e (kQ b m)), (23, uV m), (24, uV j), (25, bV false)] [(2, some (59, (v4 a i))), (3, some (59, .ds (kP x)))] 4 zo ?_
   refine AW.seq ?_
   refine zf ?_
   refine AW.exit ?_
   refine aD [.w, .no] (uZ ((i : Int) + 1)) [(1, .e (kQ b m)), (2, iV 15), (8, oV 3 0 p 4), (16, .e (kQ a n)), (17, uV n), (18, iV (↑i + 1))] [(3, some (59, .ds (kP x)))] 4 ⟨by omega, by omega⟩ ?_
   exact kX ⟨(((i + 1) : Nat), (p : Nat), (x : List Bx)), ⟨zo, (hJ.out zo), (by assumption), (by assumption)⟩⟩ [(1, 3)] (P := (kJ (kP b)) ∧ (kG m) ∧ (kM 15) ∧ (kG 0) ∧ (kG p) ∧ (kJ (kP a)) ∧ (kG n) ∧ (kM (n : Int)) ∧ (vX i) ∧ (kJ (kP x))) zk ⟨rfl, rfl, rfl, rfl, rfl, rfl, rfl, rfl, (by rfl), rfl⟩ (show n - (i + 1) < n - i from zo)
 ·refine kI [.b false] (¬ ((i : Int) < (n : Int))) [(1, .e (kQ b m)), (2, iV 15), (8, oV 1 0 q 4), (16, .e (kQ a n)), (17, uV n), (18, uV i), (19, bV false)] [(1, some (59, .ds (kP o)))] 2 zo ?_
  refine AW.seq ?_
  refine zf ?_
  refine AW.exit ?_
  refine AW.freeze 1 (l' := [(1, .e (kQ b m)), (2, iV 15), (8, .e (kQ o q)), (16, .e (kQ a n)), (17, uV n), (18, uV i), (19, bV false)]) (g' := []) rfl (FzS.cons rfl (.same _) (FzS.cons rfl (.same _) (FzS.cons rfl (.e (.c (@FzC.own 1 ((kP o) : List D) 0 q 4 true ((kP o) : List D) pF bO))) (FzS.cons rfl (.same _) (FzS.cons rfl (.same _) (FzS.cons rfl (.same _) (FzS.cons rfl (.same _) FzS.nil))))))) FzG.nil ?_
  have hx43 : ((ka0 (yA o)) ≤ q) := (Nat.le_trans (e7 o) (Nat.le_of_eq (zo)))
  have hx44 : (((0 : Int) ≤ (aA o)) ∧ ((aA o) ≤ 1)) := b7 o
  refine kI (.no :: .call [] (.tup [.c (.d (D.sl (kP (yA o)) (ka0 (yA o)))), iE (aA o)]) [] 0 [] none :: kT 4 []) _ [(6, .e (qW (yA o))), (7, iV (aA o))] [] 2 (k1g o q zo zo (kZ : BsW o)) ?_
  obtain ⟨hz1, hz2⟩ := u5d va vb hI zo
  refine AW.ret ?_
  exact kC (.inr rfl) [] (P := (((kP (yB a b)) : List D) = (kP (yA o))) ∧ (((ka0 (yB a b)) : Nat) = (ka0 (yA o))) ∧ (((aM a b) : Int) = (aA o))) zk ⟨(by (rw [hz1]; done)), (by (rw [hz1]; done)), (by exact hz2)⟩
theorem k71 (a b : List Bx) (n m : Nat) (hn : ka0 a = n) (hm : ka0 b = m) (h1 : n ≤ 1000) (h2 : m ≤ 1000) (hW : BsW a) (hV : BsW b) : Fun 17 [.c (.d (D.sl (kP a) n)), .c (.d (D.sl (kP b) m))] (kE []) 0 (.tup [.c (.d (D.sl (kP (yB a b)) (ka0 (yB a b)))), iE (aM a b)]) (kE []) 0 := by
 refine Fun.mk (n := 19) Tryz.func17 rfl rfl (ka4 rfl) ?_
 intro cx hcx
 refine kI [.no, .no] True [(0, .e (kQ a n)), (1, .e (kQ b m))] [] 0 trivial ?_
 refine AW.seq ?_
 rcases ka6 (aJ a) with hx1 | hx1
 ·rcases ka6 (aJ b) with hx2 | hx2
  ·refine kN [.no, .call [] (bV true) [] 0 [] none, .no, .no, .no, .call [] (bV true) [] 0 [] none, .no, .no] ((Fun 19 [.c (.d (D.sl (kP a) n))] (kE []) 0 (bV true) (kE []) 0) ∧ (Fun 19 [.c (.d (D.sl (kP b) m))] (kE []) 0 (bV true) (kE []) 0)) [(0, .e (kQ a n)), (1, .e (kQ b m)), (13, bV false)] ⟨(by have h0 := (vJ a n zo zo (kZ : BsW a)); rw [hx1] at h0; exact h0), (by have h0 := (vJ b m zo zo (kZ : BsW b)); rw [hx2] at h0; exact h0)⟩ ?_
   refine q8 ?_
   have hx3 : (((0 : Int) ≤ (aM a b)) ∧ ((aM a b) ≤ 3)) := d8 a b
   have hx4 : ((ka0 (yB a b)) ≤ 64) := gV a b
   refine kN (.no :: .no :: .call [] (.tup [.c (.d (D.sl (kP (yB a b)) (ka0 (yB a b)))), iE (aM a b)]) [] 0 [] none :: kT 4 []) _ [(4, .e (qW (yB a b))), (5, iV (aM a b))] (u39 a b n m zo zo zo zo (kZ : BsW a) (kZ : BsW b) hx1 hx2) ?_
   refine AW.ret ?_
   exact kC (.inr rfl) [] (P := (kJ (kP (yB a b))) ∧ (kG (ka0 (yB a b))) ∧ (kM (aM a b))) zk ⟨rfl, rfl, rfl⟩
  ·refine kN [.no, .call [] (bV true) [] 0 [] none, .no, .no, .no, .call [] (bV false) [] 0 [] none, .no, .no] ((Fun 19 [.c (.d (D.sl (kP a) n))] (kE []) 0 (bV true) (kE []) 0) ∧ (Fun 19 [.c (.d (D.sl (kP b) m))] (kE []) 0 (bV false) (kE []) 0)) [(0, .e (kQ a n)), (1, .e (kQ b m)), (13, bV true)] ⟨(by have h0 := (vJ a n zo zo (kZ : BsW a)); rw [hx1] at h0; exact h0), (by have h0 := (vJ b m zo zo (kZ : BsW b)); rw [hx2] at h0; exact h0)⟩ ?_
   refine zt ?_
   refine kN [.no, .no] True [(4, nV), (5, iV 1)] trivial ?_
   obtain ⟨hz1, hz2⟩ := u5e hx2
   refine yV (l' := [(4, qJ ([] : List D) 0), (5, iV 1)]) (g' := []) (NlS.cons rfl (.e (.c .nil)) (NlS.cons rfl (.same _) NlS.nil)) NlG.nil ?_
   refine AW.ret ?_
   exact kC (.inr rfl) [] (P := (((kP (yB a b)) : List D) = ([] : List D)) ∧ (((ka0 (yB a b)) : Nat) = 0) ∧ (((aM a b) : Int) = 1)) zk ⟨(by (rw [hz1]; rfl)), (by (rw [hz1]; rfl)), (by exact hz2)⟩
 ·refine kN [.no, .call [] (bV false) [] 0 [] none, .no, .no, .no] (Fun 19 [.c (.d (D.sl (kP a) n))] (kE []) 0 (bV false) (kE []) 0) [(0, .e (kQ a n)), (1, .e (kQ b m)), (13, bV true)] (by have h0 := (vJ a n zo zo (kZ : BsW a)); rw [hx1] at h0; exact h0) ?_
  refine zt ?_
  refine kN [.no, .no] True [(4, nV), (5, iV 1)] trivial ?_
  obtain ⟨hz1, hz2⟩ := u5f hx1
  refine yV (l' := [(4, qJ ([] : List D) 0), (5, iV 1)]) (g' := []) (NlS.cons rfl (.e (.c .nil)) (NlS.cons rfl (.same _) NlS.nil)) NlG.nil ?_
  refine AW.ret ?_
  exact kC (.inr rfl) [] (P := (((kP (yB a b)) : List D) = ([] : List D)) ∧ (((ka0 (yB a b)) : Nat) = 0) ∧ (((aM a b) : Int) = 1)) zk ⟨(by (rw [hz1]; rfl)), (by (rw [hz1]; rfl)), (by exact hz2)⟩
end Go.Proofs.YtcfmjpnffembpaaGreat
