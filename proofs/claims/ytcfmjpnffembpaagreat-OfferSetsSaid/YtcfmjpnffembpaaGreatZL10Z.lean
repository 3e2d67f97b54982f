/- Lists that are the same. No statement is proved here. -/
import Derived.Test.YtcfmjpnffembpaaGreatZL10B
namespace Go.Proofs.YtcfmjpnffembpaaGreat
open Go.ChangeShapes Go.WideShapes Go.ChangeAt Go.RowKit
open Bool renaming eq_false_or_eq_true → ka6
open List renaming drop → ka3, getD → ka1, getD_eq_getElem?_getD → ka8, getElem?_eq_getElem → ka7, length → ka0, take → ka5
open Nat renaming le_of_ble_eq_true → ka4, not_lt_zero → kd1
set_option linter.unusedVariables false
set_option linter.unusedSimpArgs false
/-! chapter 10: lists of boxes that are the same -/
set_option maxHeartbeats 4000000
set_option maxRecDepth 100000
def sbB (k : Int) (r : List Int) (rn : Nat) (m : List (List Int)) (s : List Int) (sn : Nat) (k2 : Int) (r2 : List Int) (rn2 : Nat) (m2 : List (List Int)) (s2 : List Int) (sn2 : Nat) : Bool := decide (k = k2 ∧ r = r2 ∧ rn = rn2 ∧ m = m2 ∧ s = s2 ∧ sn = sn2)
theorem k9v {a b : List Int} (h : w8 a b = true) : a = b := of_decide_eq_true h
theorem k9u {a b : List Int} (h : w8 a b = false) : ¬ a = b := of_decide_eq_false h
section
variable {k : Int} {r : List Int} {rn : Nat} {m : List (List Int)} {s : List Int} {sn : Nat} {k2 : Int} {r2 : List Int} {rn2 : Nat} {m2 : List (List Int)} {s2 : List Int} {sn2 : Nat}
theorem u7m (h1 : k = k2) (hc : m.length = m2.length) (hr : w8 r r2 = true) (hs : w8 s s2 = true) (h : ∀ j, j < m.length → vO (ka1 m j []) (ka1 m2 j []) = true) (l1 : r.length = rn * 2) (l2 : r2.length = rn2 * 2) (l3 : s.length = sn * 2) (l4 : s2.length = sn2 * 2) : sbB k r rn m s sn k2 r2 rn2 m2 s2 sn2 = true := by
 have e1 := k9v hr
 have e2 := k9v hs
 refine decide_eq_true ⟨h1, e1, by rw [e1] at l1; omega, ?_, e2, by rw [e2] at l3; omega⟩
 refine List.ext_getElem hc fun j a b => ?_
 have h2 := k3e (h j a)
 rw [ka8, ka8, ka7 a, ka7 b] at h2
 exact h2
theorem u3x (h : ¬ (k = k2 ∧ m.length = m2.length)) : sbB k r rn m s sn k2 r2 rn2 m2 s2 sn2 = false := decide_eq_false fun e => h ⟨e.1, by rw [e.2.2.2.1]⟩
theorem u7o (h : w8 r r2 = false) : sbB k r rn m s sn k2 r2 rn2 m2 s2 sn2 = false := decide_eq_false fun e => k9u h e.2.1
theorem u7n (h : w8 s s2 = false) : sbB k r rn m s sn k2 r2 rn2 m2 s2 sn2 = false := decide_eq_false fun e => k9u h e.2.2.2.2.1
theorem u7p {j : Nat} (h : vO (ka1 m j []) (ka1 m2 j []) = false) : sbB k r rn m s sn k2 r2 rn2 m2 s2 sn2 = false := decide_eq_false fun e => k3c h (by rw [e.2.2.2.1])
end
def sbE (xs ys : List Bx) (i : Nat) : Bool := sbB (k9 xs i) (qF xs i) (qB xs i) (kY xs i) (qG xs i) (qC xs i) (k9 ys i) (qF ys i) (qB ys i) (kY ys i) (qG ys i) (qC ys i)
def xA (xs ys : List Bx) : Bool := decide (xs.length = ys.length ∧ ∀ i, i < xs.length → sbE xs ys i = true)
theorem u3y {xs ys : List Bx} (h1 : xs.length = ys.length) (h : ∀ i, i < xs.length → sbE xs ys i = true) : xA xs ys = true := decide_eq_true ⟨h1, h⟩
theorem u7q {xs ys : List Bx} (h1 : ¬ xs.length = ys.length) : xA xs ys = false := decide_eq_false fun e => h1 e.1
theorem u7r {xs ys : List Bx} {i : Nat} (hi : i < xs.length) (h : sbE xs ys i = false) : xA xs ys = false := decide_eq_false fun e => by
 have := e.2 i hi; rw [h] at this; cases this
theorem cM (a : List Bx) : xA a a = true := u3y rfl fun i _ => decide_eq_true ⟨rfl, rfl, rfl, rfl, rfl, rfl⟩
abbrev mC (k : Int) (r : List Int) (rn : Nat) (m : List (List Int)) (c : Nat) (s : List Int) (sn : Nat) : BC := .ds [iD k, D.sl (dI .i64 r) rn, D.sl (kL m) c, D.sl (dI .i64 s) sn]
abbrev mB (k2 : Int) (r2 : List Int) (rn2 : Nat) (m2 : List (List Int)) (c2 : Nat) (s2 : List Int) (sn2 : Nat) : BC := .ds [iD k2, D.sl (dI .i64 r2) rn2, D.sl (kL m2) c2, D.sl (dI .i64 s2) sn2]
theorem k6w (k : Int) (r : List Int) (rn : Nat) (m : List (List Int)) (c : Nat) (s : List Int) (sn : Nat) (k2 : Int) (r2 : List Int) (rn2 : Nat) (m2 : List (List Int)) (c2 : Nat) (s2 : List Int) (sn2 : Nat) (hr : ka0 r = rn * 2) (hs : ka0 s = sn * 2) (hc : ka0 m = c) (h1 : rn ≤ 1000000) (h2 : sn ≤ 1000000) (h3 : c ≤ 1000000) (hW : MsW m) (hr2 : ka0 r2 = rn2 * 2) (hs2 : ka0 s2 = sn2 * 2) (hc2 : ka0 m2 = c2) (h12 : rn2 ≤ 1000000) (h22 : sn2 ≤ 1000000) (h32 : c2 ≤ 1000000) (hW2 : MsW m2) : Fun 48 [.agg [iC k, .d (D.sl (dI .i64 r) rn), .d (D.sl (kL m) c), .d (D.sl (dI .i64 s) sn)], .agg [iC k2, .d (D.sl (dI .i64 r2) rn2), .d (D.sl (kL m2) c2), .d (D.sl (dI .i64 s2) sn2)]] (kE []) 0 (qS (D.lit (.bool (sbB k r rn m s sn k2 r2 rn2 m2 s2 sn2)))) (kE []) 0 := by
 refine Fun.mk (n := 55) Tryz.func48 rfl rfl (ka4 rfl) ?_
 intro cx hcx
 refine kI [.no, .no, .no] True [(2, rV 0 0), (3, rV 1 0)] [(0, some (59, (mC k r rn m c s sn))), (1, some (59, (mB k2 r2 rn2 m2 c2 s2 sn2)))] 2 trivial ?_
 refine AW.seq ?_
 by_cases hx1 : (k ≠ k2)
 ·refine kN (kT 4 (.b true :: kT 6 [])) ((k ≠ k2)) [(2, rV 0 0), (3, rV 1 0), (35, bV true)] zo ?_
  refine zt ?_
  refine kI [.no] True [(4, bV false)] [] 2 trivial ?_
  refine AW.ret ?_
  exact kC (.inr rfl) [] (P := ((sbB k r rn m s sn k2 r2 rn2 m2 s2 sn2) = false)) zk (by exact u3x zo)
 ·by_cases hx2 : (((c : Nat) : Int) ≠ ((c2 : Nat) : Int))
  ·refine kN (kT 4 (.b false :: kT 7 (.b true :: kT 5 []))) ((¬ (k ≠ k2)) ∧ (((c : Int) ≠ (c2 : Int)))) [(2, rV 0 0), (3, rV 1 0), (35, bV true)] ⟨zo, zo⟩ ?_
   refine zt ?_
   refine kI [.no] True [(4, bV false)] [] 2 trivial ?_
   refine AW.ret ?_
   exact kC (.inr rfl) [] (P := ((sbB k r rn m s sn k2 r2 rn2 m2 s2 sn2) = false)) zk (by exact u3x zo)
  ·rcases ka6 (w8 r r2) with hx3 | hx3
   ·rcases ka6 (w8 s s2) with hx4 | hx4
    ·refine kN (kT 4 (.b false :: kT 7 (.b false :: kT 6 (.call [] (bV true) [] 0 [] none :: kT 7 [.call [] (bV true) [] 0 [] none, .no, .no])))) ((¬ (k ≠ k2)) ∧ (¬ ((c : Int) ≠ (c2 : Int))) ∧ (Fun 93 [.agg [.d (dl r rn)], .agg [.d (dl r2 rn2)]] (kE []) 0 (bV true) (kE []) 0) ∧ (Fun 93 [.agg [.d (dl s sn)], .agg [.d (dl s2 sn2)]] (kE []) 0 (bV true) (kE []) 0)) [(2, rV 0 0), (3, rV 1 0), (35, bV false)] ⟨zo, zo, (by have h0 := (nH r r2 rn rn2 zo zo zo zo); rw [hx3] at h0; exact h0), (by have h0 := (nH s s2 sn sn2 zo zo zo zo); rw [hx4] at h0; exact h0)⟩ ?_
     refine q8 ?_
     refine AW.seq ?_
     refine kN (kT 4 []) True [(2, rV 0 0), (3, rV 1 0), (38, uV c), (39, iV 0)] trivial ?_
     refine AW.block ?_
     refine kU 0 hcx (fun (x : {x : Nat // match x with | z => (z ≤ c) ∧ (∀ j, j < z → vO (ka1 m j []) (ka1 m2 j []) = true)}) => match x with | ⟨z, _⟩ => (⟨[(2, rV 0 0), (3, rV 1 0), (38, uV c), (39, uV z)], [(0, some (59, (mC k r rn m c s sn))), (1, some (59, (mB k2 r2 rn2 m2 c2 s2 sn2)))], 2⟩ : ES)) (fun x => match x with | ⟨z, _⟩ => c - z) ⟨(0 : Nat), ⟨zo, (fun j hj => absurd hj (kd1 j))⟩⟩ [] (P := (kG 0) ∧ (kG 0) ∧ (kM (c : Int)) ∧ (kM 0) ∧ (kJ [iD k, dl r rn, D.sl (kL m) c, dl s sn]) ∧ (kJ [iD k2, dl r2 rn2, D.sl (kL m2) c2, dl s2 sn2])) zk ⟨rfl, rfl, rfl, rfl, rfl, rfl⟩ ?_
     rintro ⟨z, hinv0⟩
     obtain ⟨hz, ha⟩ : (z ≤ c) ∧ (∀ j, j < z → vO (ka1 m j []) (ka1 m2 j []) = true) := hinv0
     refine qN (l := [(2, rV 0 0), (3, rV 1 0), (38, uV c), (39, uV z)]) (g := [(0, some (59, (mC k r rn m c s sn))), (1, some (59, (mB k2 r2 rn2 m2 c2 s2 sn2)))]) (nx := 2) rfl rfl rfl ?_
     by_cases hx5 : (((z : Nat) : Int) < ((c : Nat) : Int))
     ·refine kI [.b true] (((z : Int) < (c : Int))) [(2, rV 0 0), (3, rV 1 0), (38, uV c), (39, uV z), (40, bV true)] [(0, some (59, (mC k r rn m c s sn))), (1, some (59, (mB k2 r2 rn2 m2 c2 s2 sn2)))] 2 zo ?_
      refine AW.seq ?_
      refine yW ?_
      refine AW.seq ?_
      refine AW.block ?_
      refine kN [.no, .no] True [(2, rV 0 0), (3, rV 1 0), (5, uV z), (38, uV c), (39, uV z)] trivial ?_
      rcases ka6 (vO (ka1 m z ([] : List Int)) (ka1 m2 z ([] : List Int))) with hx8 | hx8
      ·have hx9 : ((ka0 (ka1 m z ([] : List Int))) ≤ 1000000) := MsW.at (kZ : MsW m) _
       have hx10 : ((ka0 (ka1 m2 z ([] : List Int))) ≤ 1000000) := MsW.at (kZ : MsW m2) _
       refine kN [.no, .no, .no, .n z, .d (dl (ka1 m z ([] : List Int)) (ka0 (ka1 m z ([] : List Int)))), .no, .no, .no, .n z, .d (dl (ka1 m2 z ([] : List Int)) (ka0 (ka1 m2 z ([] : List Int)))), .call [] (bV true) [] 0 [] none, .no] ((kM (z : Int)) ∧ (z < c) ∧ ((ka3 z (kL m))[0]? = some (dl (ka1 m z ([] : List Int)) (ka0 (ka1 m z ([] : List Int))))) ∧ (kM (z : Int)) ∧ (z < c2) ∧ ((ka3 z (kL m2))[0]? = some (dl (ka1 m2 z ([] : List Int)) (ka0 (ka1 m2 z ([] : List Int))))) ∧ (Fun 94 [.c (.d (dl (ka1 m z ([] : List Int)) (ka0 (ka1 m z ([] : List Int))))), .c (.d (dl (ka1 m2 z ([] : List Int)) (ka0 (ka1 m2 z ([] : List Int)))))] (kE []) 0 (bV true) (kE []) 0)) [(2, rV 0 0), (3, rV 1 0), (38, uV c), (39, uV z), (53, bV false)] ⟨rfl, zo, (yE _ _ zo), rfl, zo, (yE _ _ zo), (by have h0 := (aL (ka1 m z ([] : List Int)) (ka1 m2 z ([] : List Int)) (ka0 (ka1 m z ([] : List Int))) (ka0 (ka1 m2 z ([] : List Int))) rfl rfl zo zo); rw [hx8] at h0; exact h0)⟩ ?_
       refine q8 ?_
       refine uJ [.w, .no] (uZ ((z : Int) + 1)) [(2, rV 0 0), (3, rV 1 0), (38, uV c), (39, iV (↑z + 1))] ⟨by omega, by omega⟩ ?_
       exact kX ⟨((z + 1) : Nat), ⟨zo, (fun j hj => (Nat.lt_succ_iff_lt_or_eq.1 hj).elim (ha j) (fun e9 => by subst e9; assumption))⟩⟩ [] (P := (kG 0) ∧ (kG 0) ∧ (kM (c : Int)) ∧ (vX z) ∧ (kJ [iD k, dl r rn, D.sl (kL m) c, dl s sn]) ∧ (kJ [iD k2, dl r2 rn2, D.sl (kL m2) c2, dl s2 sn2])) zk ⟨rfl, rfl, rfl, (by rfl), rfl, rfl⟩ (show c - (z + 1) < c - z from zo)
      ·have hx11 : ((ka0 (ka1 m z ([] : List Int))) ≤ 1000000) := MsW.at (kZ : MsW m) _
       have hx12 : ((ka0 (ka1 m2 z ([] : List Int))) ≤ 1000000) := MsW.at (kZ : MsW m2) _
       refine kN [.no, .no, .no, .n z, .d (dl (ka1 m z ([] : List Int)) (ka0 (ka1 m z ([] : List Int)))), .no, .no, .no, .n z, .d (dl (ka1 m2 z ([] : List Int)) (ka0 (ka1 m2 z ([] : List Int)))), .call [] (bV false) [] 0 [] none, .no] ((kM (z : Int)) ∧ (z < c) ∧ ((ka3 z (kL m))[0]? = some (dl (ka1 m z ([] : List Int)) (ka0 (ka1 m z ([] : List Int))))) ∧ (kM (z : Int)) ∧ (z < c2) ∧ ((ka3 z (kL m2))[0]? = some (dl (ka1 m2 z ([] : List Int)) (ka0 (ka1 m2 z ([] : List Int))))) ∧ (Fun 94 [.c (.d (dl (ka1 m z ([] : List Int)) (ka0 (ka1 m z ([] : List Int))))), .c (.d (dl (ka1 m2 z ([] : List Int)) (ka0 (ka1 m2 z ([] : List Int)))))] (kE []) 0 (bV false) (kE []) 0)) [(2, rV 0 0), (3, rV 1 0), (38, uV c), (39, uV z), (53, bV true)] ⟨rfl, zo, (yE _ _ zo), rfl, zo, (yE _ _ zo), (by have h0 := (aL (ka1 m z ([] : List Int)) (ka1 m2 z ([] : List Int)) (ka0 (ka1 m z ([] : List Int))) (ka0 (ka1 m2 z ([] : List Int))) rfl rfl zo zo); rw [hx8] at h0; exact h0)⟩ ?_
       refine zt ?_
       refine kI [.no] True [(4, bV false)] [] 2 trivial ?_
       refine AW.ret ?_
       exact kC (.inr rfl) [] (P := ((sbB k r rn m s sn k2 r2 rn2 m2 s2 sn2) = false)) zk (by exact u7p (j := z) (by assumption))
     ·refine kI [.b false] (¬ ((z : Int) < (c : Int))) [(2, rV 0 0), (3, rV 1 0), (38, uV c), (39, uV z), (40, bV false)] [(0, some (59, (mC k r rn m c s sn))), (1, some (59, (mB k2 r2 rn2 m2 c2 s2 sn2)))] 2 zo ?_
      refine AW.seq ?_
      refine zf ?_
      refine AW.exit ?_
      refine kI [.no] True [(4, bV true)] [] 2 trivial ?_
      refine AW.ret ?_
      exact kC (.inr rfl) [] (P := ((sbB k r rn m s sn k2 r2 rn2 m2 s2 sn2) = true)) zk (by exact u7m zo zo (by assumption) (by assumption) (fun j hj => ha j zo) hr hr2 hs hs2)
    ·refine kN (kT 4 (.b false :: kT 7 (.b false :: kT 6 (.call [] (bV true) [] 0 [] none :: kT 7 [.call [] (bV false) [] 0 [] none, .no, .no])))) ((¬ (k ≠ k2)) ∧ (¬ ((c : Int) ≠ (c2 : Int))) ∧ (Fun 93 [.agg [.d (dl r rn)], .agg [.d (dl r2 rn2)]] (kE []) 0 (bV true) (kE []) 0) ∧ (Fun 93 [.agg [.d (dl s sn)], .agg [.d (dl s2 sn2)]] (kE []) 0 (bV false) (kE []) 0)) [(2, rV 0 0), (3, rV 1 0), (35, bV true)] ⟨zo, zo, (by have h0 := (nH r r2 rn rn2 zo zo zo zo); rw [hx3] at h0; exact h0), (by have h0 := (nH s s2 sn sn2 zo zo zo zo); rw [hx4] at h0; exact h0)⟩ ?_
     refine zt ?_
     refine kI [.no] True [(4, bV false)] [] 2 trivial ?_
     refine AW.ret ?_
     exact kC (.inr rfl) [] (P := ((sbB k r rn m s sn k2 r2 rn2 m2 s2 sn2) = false)) zk (by exact u7n (by assumption))
   ·refine kN (kT 4 (.b false :: kT 7 (.b false :: kT 6 (.call [] (bV false) [] 0 [] none :: kT 4 [])))) ((¬ (k ≠ k2)) ∧ (¬ ((c : Int) ≠ (c2 : Int))) ∧ (Fun 93 [.agg [.d (dl r rn)], .agg [.d (dl r2 rn2)]] (kE []) 0 (bV false) (kE []) 0)) [(2, rV 0 0), (3, rV 1 0), (35, bV true)] ⟨zo, zo, (by have h0 := (nH r r2 rn rn2 zo zo zo zo); rw [hx3] at h0; exact h0)⟩ ?_
    refine zt ?_
    refine kI [.no] True [(4, bV false)] [] 2 trivial ?_
    refine AW.ret ?_
    exact kC (.inr rfl) [] (P := ((sbB k r rn m s sn k2 r2 rn2 m2 s2 sn2) = false)) zk (by exact u7o (by assumption))
theorem fI (xs ys : List Bx) (n m : Nat) (hn : ka0 xs = n) (hm : ka0 ys = m) (h1 : n ≤ 1000000) (h2 : m ≤ 1000000) (hW : BsW xs) (hV : BsW ys) : Fun 20 [.c (.d (D.sl (kP xs) n)), .c (.d (D.sl (kP ys) m))] (kE []) 0 (qS (D.lit (.bool (xA xs ys)))) (kE []) 0 := by
 refine Fun.mk (n := 27) Tryz.func20 rfl rfl (ka4 rfl) ?_
 intro cx hcx
 refine kI [.no] True [(0, .e (kQ xs n)), (1, .e (kQ ys m))] [] 0 trivial ?_
 refine AW.seq ?_
 by_cases hx1 : (((n : Nat) : Int) ≠ ((m : Nat) : Int))
 ·refine kN (kT 4 [.b true]) (((n : Int) ≠ (m : Int))) [(0, .e (kQ xs n)), (1, .e (kQ ys m)), (10, bV true)] zo ?_
  refine zt ?_
  refine kN [.no] True [(4, bV false)] trivial ?_
  refine AW.ret ?_
  exact kC (.inr rfl) [] (P := ((xA xs ys) = false)) zk (by exact u7q zo)
 ·refine kN (kT 4 [.b false]) (¬ ((n : Int) ≠ (m : Int))) [(0, .e (kQ xs n)), (1, .e (kQ ys m)), (10, bV false)] zo ?_
  refine q8 ?_
  refine AW.seq ?_
  refine kN [.no, .no, .no] True [(0, .e (kQ xs n)), (1, .e (kQ ys m)), (12, uV n), (13, iV 0)] trivial ?_
  refine AW.block ?_
  refine kU 0 hcx (fun (x : {x : Nat // match x with | z => (z ≤ n) ∧ (∀ j, j < z → sbE xs ys j = true)}) => match x with | ⟨z, _⟩ => (⟨[(0, .e (kQ xs n)), (1, .e (kQ ys m)), (12, uV n), (13, uV z)], [], 0⟩ : ES)) (fun x => match x with | ⟨z, _⟩ => n - z) ⟨(0 : Nat), ⟨zo, (fun j hj => absurd hj (kd1 j))⟩⟩ [] (P := (kJ (kP xs)) ∧ (kG n) ∧ (kJ (kP ys)) ∧ (kG m) ∧ (kM (n : Int)) ∧ (kM 0)) zk ⟨rfl, rfl, rfl, rfl, rfl, rfl⟩ ?_
  rintro ⟨z, hinv0⟩
  obtain ⟨hz, ha⟩ : (z ≤ n) ∧ (∀ j, j < z → sbE xs ys j = true) := hinv0
  refine qN (l := [(0, .e (kQ xs n)), (1, .e (kQ ys m)), (12, uV n), (13, uV z)]) (g := []) (nx := 0) rfl rfl rfl ?_
  by_cases hx2 : (((z : Nat) : Int) < ((n : Nat) : Int))
  ·refine kI [.b true] (((z : Int) < (n : Int))) [(0, .e (kQ xs n)), (1, .e (kQ ys m)), (12, uV n), (13, uV z), (14, bV true)] [] 0 zo ?_
   refine AW.seq ?_
   refine yW ?_
   refine AW.seq ?_
   refine AW.block ?_
   refine kN [.no, .no] True [(0, .e (kQ xs n)), (1, .e (kQ ys m)), (5, uV z), (12, uV n), (13, uV z)] trivial ?_
   rcases ka6 (sbB (k9 xs z) (qF xs z) (qB xs z) (kY xs z) (qG xs z) (qC xs z) (k9 ys z) (qF ys z) (qB ys z) (kY ys z) (qG ys z) (qC ys z)) with hx13 | hx13
   ·obtain ⟨hx14, hx15, hx16, hx17, hx18⟩ := BsW.at (kZ : BsW xs) (z)
    obtain ⟨hx19, hx20, hx21, hx22, hx23⟩ := BsW.at (kZ : BsW ys) (z)
    refine kI [.no, .no, .n z, .ds (uY xs z), .no, .no, .n z, .ds (uY ys z), .call [] (bV true) [] 0 [] none, .no] ((kM (z : Int)) ∧ (z < n) ∧ (ka5 4 (ka3 (z * 4) (kP xs)) = (uY xs z)) ∧ (((uY xs z) : List D).length = 4) ∧ (kM (z : Int)) ∧ (z < m) ∧ (ka5 4 (ka3 (z * 4) (kP ys)) = (uY ys z)) ∧ (((uY ys z) : List D).length = 4) ∧ (Fun 48 [(b8 xs z), (b8 ys z)] (kE []) 0 (bV true) (kE []) 0)) [(0, .e (kQ xs n)), (1, .e (kQ ys m)), (12, uV n), (13, uV z), (25, bV false)] [] 0 ⟨rfl, zo, (yF zo), rfl, rfl, zo, (yF zo), rfl, (by have h0 := (k6w (k9 xs z) (qF xs z) (qB xs z) (kY xs z) (ka0 (kY xs z)) (qG xs z) (qC xs z) (k9 ys z) (qF ys z) (qB ys z) (kY ys z) (ka0 (kY ys z)) (qG ys z) (qC ys z) zo zo rfl zo zo zo (BsW.ms (kZ : BsW xs) _) zo zo rfl zo zo zo (BsW.ms (kZ : BsW ys) _)); rw [hx13] at h0; exact h0)⟩ ?_
    refine q8 ?_
    refine uJ [.w, .no] (uZ ((z : Int) + 1)) [(0, .e (kQ xs n)), (1, .e (kQ ys m)), (12, uV n), (13, iV (↑z + 1))] ⟨by omega, by omega⟩ ?_
    exact kX ⟨((z + 1) : Nat), ⟨zo, (fun j hj => (Nat.lt_succ_iff_lt_or_eq.1 hj).elim (ha j) (fun e9 => by subst e9; assumption))⟩⟩ [] (P := (kJ (kP xs)) ∧ (kG n) ∧ (kJ (kP ys)) ∧ (kG m) ∧ (kM (n : Int)) ∧ (vX z)) zk ⟨rfl, rfl, rfl, rfl, rfl, (by rfl)⟩ (show n - (z + 1) < n - z from zo)
   ·obtain ⟨hx24, hx25, hx26, hx27, hx28⟩ := BsW.at (kZ : BsW xs) (z)
    obtain ⟨hx29, hx30, hx31, hx32, hx33⟩ := BsW.at (kZ : BsW ys) (z)
    refine kI [.no, .no, .n z, .ds (uY xs z), .no, .no, .n z, .ds (uY ys z), .call [] (bV false) [] 0 [] none, .no] ((kM (z : Int)) ∧ (z < n) ∧ (ka5 4 (ka3 (z * 4) (kP xs)) = (uY xs z)) ∧ (((uY xs z) : List D).length = 4) ∧ (kM (z : Int)) ∧ (z < m) ∧ (ka5 4 (ka3 (z * 4) (kP ys)) = (uY ys z)) ∧ (((uY ys z) : List D).length = 4) ∧ (Fun 48 [(b8 xs z), (b8 ys z)] (kE []) 0 (bV false) (kE []) 0)) [(0, .e (kQ xs n)), (1, .e (kQ ys m)), (12, uV n), (13, uV z), (25, bV true)] [] 0 ⟨rfl, zo, (yF zo), rfl, rfl, zo, (yF zo), rfl, (by have h0 := (k6w (k9 xs z) (qF xs z) (qB xs z) (kY xs z) (ka0 (kY xs z)) (qG xs z) (qC xs z) (k9 ys z) (qF ys z) (qB ys z) (kY ys z) (ka0 (kY ys z)) (qG ys z) (qC ys z) zo zo rfl zo zo zo (BsW.ms (kZ : BsW xs) _) zo zo rfl zo zo zo (BsW.ms (kZ : BsW ys) _)); rw [hx13] at h0; exact h0)⟩ ?_
    refine zt ?_
    refine kN [.no] True [(4, bV false)] trivial ?_
    refine AW.ret ?_
    exact kC (.inr rfl) [] (P := ((xA xs ys) = false)) zk (by exact u7r (i := z) zo (by assumption))
  ·refine kI [.b false] (¬ ((z : Int) < (n : Int))) [(0, .e (kQ xs n)), (1, .e (kQ ys m)), (12, uV n), (13, uV z), (14, bV false)] [] 0 zo ?_
   refine AW.seq ?_
   refine zf ?_
   refine AW.exit ?_
   refine kI [.no] True [(4, bV true)] [] 0 trivial ?_
   refine AW.ret ?_
   exact kC (.inr rfl) [] (P := ((xA xs ys) = true)) zk (by exact u3y zo (fun j hj => ha j zo))
end Go.Proofs.YtcfmjpnffembpaaGreat
