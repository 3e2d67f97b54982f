/- Lists with few boxes; raw lists. No statement is proved here. -/
import Derived.Test.YtcfmjpnffembpaaGreatZL10K
import Derived.Test.YtcfmjpnffembpaaGreatZOpenT
namespace Go.Proofs.YtcfmjpnffembpaaGreat
open Go.ChangeShapes Go.WideShapes Go.ChangeAt Go.RowKit
open List renaming flatten_cons → kg2, getD → ka1, getD_eq_getElem?_getD → ka8, getElem?_eq_getElem → ka7, length → ka0, length_map → kc0, map_cons → ke5, mem_of_getElem? → kd7
open Nat renaming le_of_ble_eq_true → ka4, not_lt_zero → kd1, zero_le → kd8
set_option linter.unusedVariables false
set_option linter.unusedSimpArgs false
/-! chapter 10: raw lists of boxes, raw choices; lists with few boxes -/
set_option maxHeartbeats 4000000
set_option maxRecDepth 100000
def tyS : Ty := .st (.fcons (.sl (.st (.fcons (.i .i64) (.fcons (.i .i64) .fnil)))) .fnil)
def tyB : Ty := .sl (.st (.fcons (.i .i64) (.fcons tyS (.fcons (.sl (.sl (.i .i64))) (.fcons tyS .fnil)))))
def tyC : Ty := .st (.fcons (.st (.fcons (.i .i64) (.fcons (.i .i64) (.fcons (.sl (.i .i64)) .fnil)))) (.fcons (.i .i64) .fnil))
def BxI (b : Bx) : Prop := ka0 b.r = b.rn * 2 ∧ ka0 b.s = b.sn * 2 ∧ b.rn ≤ 9223372036854775807 ∧ b.sn ≤ 9223372036854775807 ∧ ka0 b.m ≤ 9223372036854775807 ∧ ∀ l ∈ b.m, ka0 l ≤ 9223372036854775807
def BsI (xs : List Bx) : Prop := ∀ b ∈ xs, BxI b
def MsI (xs : List (List Int)) : Prop := ∀ l ∈ xs, ka0 l ≤ 9223372036854775807
theorem MsI.at {xs : List (List Int)} (h : MsI xs) (i : Nat) : ka0 (ka1 xs i []) ≤ 9223372036854775807 := by
 rw [ka8]
 cases e : xs[i]? with
 | none => exact kd8 _
 | some l => exact h l (kd7 e)
theorem BsI.get {xs : List Bx} (h : BsI xs) (i : Nat) : BxI (gL xs i) := by
 unfold gL
 rw [ka8]
 cases e : xs[i]? with
 | none => exact ⟨rfl, rfl, kd8 _, kd8 _, kd8 _, fun l h => by cases h⟩
 | some l => exact h l (kd7 e)
theorem BsI.at {xs : List Bx} (h : BsI xs) (i : Nat) : ka0 (qF xs i) = qB xs i * 2 ∧ ka0 (qG xs i) = qC xs i * 2 ∧ qB xs i ≤ 9223372036854775807 ∧ qC xs i ≤ 9223372036854775807 ∧ ka0 (kY xs i) ≤ 9223372036854775807 :=
 have h1 := h.get i
 ⟨h1.1, h1.2.1, h1.2.2.1, h1.2.2.2.1, h1.2.2.2.2.1⟩
theorem BsI.ms {xs : List Bx} (h : BsI xs) (i : Nat) : MsI (kY xs i) := (h.get i).2.2.2.2.2
theorem k06 {ds : List D} (h : WfD tyS ds) : ∃ (r : List Int) (n : Nat), ds = [D.sl (dI .i64 r) n] ∧ ka0 r = n * 2 ∧ n ≤ 9223372036854775807 := by
 obtain ⟨x, y, e, ⟨xs, ex, hl, hx⟩, rfl⟩ := h
 subst e; subst ex
 obtain ⟨ys, ey, _⟩ := fD (f := fun p : Int × Int => [D.lit (.int .i64 p.1), D.lit (.int .i64 p.2)]) (Q := fun _ => True) xs fun x hm => by
  obtain ⟨x1, y1, rfl, ⟨z1, rfl, _⟩, x2, y2, rfl, ⟨z2, rfl, _⟩, rfl⟩ := hx x hm
  exact ⟨(z1, z2), rfl, trivial⟩
 subst ey
 refine ⟨ys.flatMap fun p => [p.1, p.2], ys.length, ?_, ?_, by rw [kc0] at hl; exact hl⟩
 ·have e : ∀ ys : List (Int × Int), (ys.map fun p : Int × Int => [D.lit (.int .i64 p.1), D.lit (.int .i64 p.2)]).flatten = dI .i64 (ys.flatMap fun p => [p.1, p.2]) := fun ys => by
   induction ys with
   | nil => rfl
   | cons y ys ih => rw [ke5, kg2, ih]; rfl
  rw [e, kc0]; rfl
 ·have e : ∀ ys : List (Int × Int), ka0 (ys.flatMap fun p => [p.1, p.2]) = ys.length * 2 := fun ys => by
   induction ys with
   | nil => rfl
   | cons y ys ih => rw [List.flatMap_cons, List.length_append, ih]; show 2 + _ = (_ + 1) * 2; omega
  exact e ys
theorem k0u {ds : List D} (h : WfD (.sl (.i .i64)) ds) : ∃ l : List Int, ds = [D.sl (dI .i64 l) (ka0 l)] ∧ ka0 l ≤ 9223372036854775807 := by
 obtain ⟨xs, ex, hl, hx⟩ := h
 subst ex
 obtain ⟨ys, ey, _⟩ := fD (f := fun p : Int => [D.lit (.int .i64 p)]) (Q := fun _ => True) xs fun x hm => by
  obtain ⟨z1, rfl, _⟩ := hx x hm
  exact ⟨z1, rfl, trivial⟩
 subst ey
 refine ⟨ys, ?_, by rw [kc0] at hl; exact hl⟩
 have e : ∀ ys : List Int, (ys.map fun p : Int => [D.lit (.int .i64 p)]).flatten = dI .i64 ys := fun ys => by
  induction ys with
  | nil => rfl
  | cons y ys ih => rw [ke5, kg2, ih]; rfl
 rw [e, kc0]
theorem k7w {ds : List D} (h : WfD (.sl (.sl (.i .i64))) ds) : ∃ m : List (List Int), ds = [D.sl (kL m) (ka0 m)] ∧ ka0 m ≤ 9223372036854775807 ∧ MsI m := by
 obtain ⟨xs, ex, hl, hx⟩ := h
 subst ex
 obtain ⟨ys, ey, hq⟩ := fD (f := fun l : List Int => [D.sl (dI .i64 l) (ka0 l)]) (Q := fun l => ka0 l ≤ 9223372036854775807) xs fun x hm => k0u (hx x hm)
 subst ey
 refine ⟨ys, ?_, by rw [kc0] at hl; exact hl, hq⟩
 have e : ∀ ys : List (List Int), (ys.map fun l : List Int => [D.sl (dI .i64 l) (ka0 l)]).flatten = kL ys := fun ys => by
  induction ys with
  | nil => rfl
  | cons y ys ih => rw [ke5, kg2, ih]; rfl
 rw [e, kc0]
theorem k99 {w : World} {d : D} {v : Value} (h : InC w tyB d v) : ∃ xs : List Bx, d = D.sl (kP xs) (ka0 xs) ∧ ka0 xs ≤ 9223372036854775807 ∧ BsI xs := by
 obtain ⟨⟨xs, e, hl, hx⟩, _⟩ := h
 obtain ⟨ys, ey, hq⟩ := fD (f := bxR) (Q := BxI) xs fun x hm => by
  obtain ⟨x1, y1, rfl, ⟨z1, rfl, _⟩, x2, y2, rfl, h2, x3, y3, rfl, h3, x4, y4, rfl, h4, rfl⟩ := hx x hm
  obtain ⟨r, rn, rfl, r1, r2⟩ := k06 h2
  obtain ⟨m, rfl, m1, m2⟩ := k7w h3
  obtain ⟨s, sn, rfl, s1, s2⟩ := k06 h4
  exact ⟨⟨z1, r, rn, m, s, sn⟩, rfl, r1, s1, r2, s2, m1, m2⟩
 subst ey
 refine ⟨ys, ?_, by rw [kc0] at hl; exact hl, hq⟩
 have e2 : ∀ ys : List Bx, (ys.map bxR).flatten = kP ys := fun ys => by
  induction ys with
  | nil => rfl
  | cons y ys ih => rw [ke5, kg2, ih]; rfl
 rw [e2, kc0] at e
 exact (List.cons.inj e).1
theorem k96 {w : World} {ds : List D} {v : Value} (h : InA w tyC ds v) : ∃ (k r : Int) (m : List Int) (z : Int), ds = [D.lit (.int .i64 k), D.lit (.int .i64 r), D.sl (dI .i64 m) (ka0 m), D.lit (.int .i64 z)] ∧ (-9223372036854775808 ≤ k ∧ k ≤ 9223372036854775807) ∧ (-9223372036854775808 ≤ r ∧ r ≤ 9223372036854775807) ∧ ka0 m ≤ 9223372036854775807 ∧ (-9223372036854775808 ≤ z ∧ z ≤ 9223372036854775807) := by
 obtain ⟨⟨x1, y1, rfl, ⟨x2, y2, rfl, ⟨k, rfl, wk⟩, x3, y3, rfl, ⟨r, rfl, wr⟩, x4, y4, rfl, h4, rfl⟩, x5, y5, rfl, ⟨z, rfl, wz⟩, rfl⟩, _⟩ := h
 obtain ⟨m, rfl, m1⟩ := k0u h4
 exact ⟨k, r, m, z, rfl, bounds_i64 wk, bounds_i64 wr, m1, bounds_i64 wz⟩
def kbE (xs : List Bx) (i : Nat) : Bool := decide (qB xs i ≤ 70 ∧ qC xs i ≤ 70 ∧ ka0 (kY xs i) ≤ 20 ∧ ∀ j, j < ka0 (kY xs i) → ka0 (ka1 (kY xs i) j []) ≤ 12)
def kbB (xs : List Bx) : Bool := decide (ka0 xs ≤ 9 ∧ ∀ i, i < ka0 xs → kbE xs i = true)
theorem u8o {xs : List Bx} {i : Nat} (h : qB xs i ≤ 70 ∧ qC xs i ≤ 70 ∧ ka0 (kY xs i) ≤ 20) (h2 : ∀ j, j < ka0 (kY xs i) → ka0 (ka1 (kY xs i) j []) ≤ 12) : kbE xs i = true := decide_eq_true ⟨h.1, h.2.1, h.2.2, h2⟩
theorem u8l {xs : List Bx} (h : ka0 xs ≤ 9) (h2 : ∀ i, i < ka0 xs → kbE xs i = true) : kbB xs = true := decide_eq_true ⟨h, h2⟩
theorem u8m {xs : List Bx} (h : 9 < ka0 xs) : kbB xs = false := decide_eq_false fun e => by omega
theorem u26 {xs : List Bx} {i : Nat} (hi : i < ka0 xs) (h : ¬ (qB xs i ≤ 70 ∧ qC xs i ≤ 70 ∧ ka0 (kY xs i) ≤ 20)) : kbB xs = false := decide_eq_false fun e => h (by
 have h1 := of_decide_eq_true (e.2 i hi); exact ⟨h1.1, h1.2.1, h1.2.2.1⟩)
theorem u8n {xs : List Bx} {i j : Nat} (hi : i < ka0 xs) (hj : j < ka0 (kY xs i)) (h : ¬ ka0 (ka1 (kY xs i) j []) ≤ 12) : kbB xs = false := decide_eq_false fun e => h ((of_decide_eq_true (e.2 i hi)).2.2.2 j hj)
theorem u5b {xs : List Bx} (h : BsI xs) (hk : kbB xs = true) : BsW xs ∧ ka0 xs ≤ 9 := by
 have h1 := of_decide_eq_true hk
 refine ⟨fun b hb => ?_, h1.1⟩
 obtain ⟨i, hi, rfl⟩ := List.mem_iff_getElem.1 hb
 have e : gL xs i = xs[i] := by unfold gL; rw [ka8, ka7 hi]; rfl
 obtain ⟨k1, k2, k3, k4⟩ := of_decide_eq_true (h1.2 i hi)
 have h2 := h _ hb
 rw [← e] at h2 ⊢
 have k1 : (gL xs i).rn ≤ 70 := k1
 have k2 : (gL xs i).sn ≤ 70 := k2
 have k3 : (gL xs i).m.length ≤ 20 := k3
 refine ⟨h2.1, h2.2.1, by omega, by omega, by omega, fun l hl => ?_⟩
 obtain ⟨j, hj, rfl⟩ := List.mem_iff_getElem.1 hl
 have := k4 j hj
 have e2 : ka1 (kY xs i) j [] = (gL xs i).m[j] := by rw [ka8]; show ((gL xs i).m[j]?).getD [] = _; rw [ka7 hj]; rfl
 rw [e2] at this; omega
theorem nK (l : List Int) (n : Nat) (hl : ka0 l = n * 2) (hb : n ≤ 9223372036854775807) : Fun 35 [.agg [.d (D.sl (dI .i64 l) n)]] (kE []) 0 (qS (D.lit (.bool (decide (n ≤ 70))))) (kE []) 0 := by
 refine Fun.mk (n := 7) Tryz.func35 rfl rfl (ka4 rfl) ?_
 intro cx hcx
 refine kI [.no, .no] True [(1, rV 0 0)] [(0, some (56, .ds [dl l n]))] 1 trivial ?_
 by_cases hx1 : (((n : Nat) : Int) ≤ 70)
 ·refine kI [.no, .no, .no, .b true, .no] (((n : Int) ≤ 70)) [(2, bV true)] [] 1 zo ?_
  refine AW.ret ?_
  exact kC (.inr rfl) [] (P := ((decide (n ≤ 70)) = true)) zk (by exact decide_eq_true zo)
 ·refine kI [.no, .no, .no, .b false, .no] (¬ ((n : Int) ≤ 70)) [(2, bV false)] [] 1 zo ?_
  refine AW.ret ?_
  exact kC (.inr rfl) [] (P := ((decide (n ≤ 70)) = false)) zk (by exact decide_eq_false zo)
abbrev u1g (xs : List Bx) (i : Nat) : BC := .ds [iD (k9 xs i), D.sl (dI .i64 (qF xs i)) (qB xs i), D.sl (kL (kY xs i)) (ka0 (kY xs i)), D.sl (dI .i64 (qG xs i)) (qC xs i)]
theorem sT (xs : List Bx) (n : Nat) (hn : ka0 xs = n) (h1 : n ≤ 9223372036854775807) (hI : BsI xs) : Fun 12 [.c (.d (D.sl (kP xs) n)), iE 9] (kE []) 0 (qS (D.lit (.bool (kbB xs)))) (kE []) 0 := by
 refine Fun.mk (n := 47) Tryz.func12 rfl rfl (ka4 rfl) ?_
 intro cx hcx
 refine kI [.no] True [(0, .e (kQ xs n)), (1, iV 9)] [] 0 trivial ?_
 refine AW.seq ?_
 by_cases hx1 : ((9 : Int) < ((n : Nat) : Int))
 ·refine kN [.no, .no, .no, .b true] (((9 : Int) < (n : Int))) [(0, .e (kQ xs n)), (12, bV true)] zo ?_
  refine zt ?_
  refine kN [.no] True [(4, bV false)] trivial ?_
  refine AW.ret ?_
  exact kC (.inr rfl) [] (P := ((kbB xs) = false)) zk (by exact u8m zo)
 ·refine kN [.no, .no, .no, .b false] (¬ ((9 : Int) < (n : Int))) [(0, .e (kQ xs n)), (12, bV false)] zo ?_
  refine q8 ?_
  refine AW.seq ?_
  refine kN [.no, .no, .no] True [(13, .e (kQ xs n)), (14, uV n), (15, iV 0)] trivial ?_
  refine AW.block ?_
  refine kU 0 hcx (fun (x : {x : Nat // match x with | i => (i ≤ n) ∧ (∀ j, j < i → kbE xs j = true)}) => match x with | ⟨i, _⟩ => (⟨[(13, .e (kQ xs n)), (14, uV n), (15, uV i)], [], 0⟩ : ES)) (fun x => match x with | ⟨i, _⟩ => n - i) ⟨(0 : Nat), ⟨zo, (fun j hj => absurd hj (kd1 j))⟩⟩ [] (P := (kJ (kP xs)) ∧ (kG n) ∧ (kM (n : Int)) ∧ (kM 0)) zk ⟨rfl, rfl, rfl, rfl⟩ ?_
  rintro ⟨i, hinv0⟩
  obtain ⟨hi, ha⟩ : (i ≤ n) ∧ (∀ j, j < i → kbE xs j = true) := hinv0
  refine qN (l := [(13, .e (kQ xs n)), (14, uV n), (15, uV i)]) (g := []) (nx := 0) rfl rfl rfl ?_
  by_cases hx2 : (((i : Nat) : Int) < ((n : Nat) : Int))
  ·refine kI [.b true] (((i : Int) < (n : Int))) [(13, .e (kQ xs n)), (14, uV n), (15, uV i), (16, bV true)] [] 0 zo ?_
   refine AW.seq ?_
   refine yW ?_
   refine AW.seq ?_
   refine AW.block ?_
   obtain ⟨hx3, hx4, hx5, hx6, hx7⟩ := BsI.at (xs := xs) (by with_reducible assumption) (i)
   refine kI [.n i, .ds (uY xs i), .no, .no] ((kM (i : Int)) ∧ (i < n) ∧ (List.take 4 (List.drop (i * 4) (kP xs)) = (uY xs i)) ∧ (((uY xs i) : List D).length = 4)) [(6, rV 0 0), (13, .e (kQ xs n)), (14, uV n), (15, uV i)] [(0, some (59, (u1g xs i)))] 1 ⟨rfl, zo, (yF zo), rfl⟩ ?_
   refine AW.seq ?_
   rcases Bool.eq_false_or_eq_true (decide ((qB xs i) ≤ 70)) with hx8 | hx8
   ·have hx9 : ((qB xs i) ≤ 70) := of_decide_eq_true hx8
    rcases Bool.eq_false_or_eq_true (decide ((qC xs i) ≤ 70)) with hx10 | hx10
    ·have hx11 : ((qC xs i) ≤ 70) := of_decide_eq_true hx10
     by_cases hx12 : ((20 : Int) < (((ka0 (kY xs i)) : Nat) : Int))
     ·refine kN (.no :: .no :: .call [] (bV true) [] 0 [] none :: kT 4 (.call [] (bV true) [] 0 [] none :: kT 6 [.b true, .no])) ((Fun 35 [.agg [.d (dl (qF xs i) (qB xs i))]] (kE []) 0 (bV true) (kE []) 0) ∧ (Fun 35 [.agg [.d (dl (qG xs i) (qC xs i))]] (kE []) 0 (bV true) (kE []) 0) ∧ (((20 : Int) < (ka0 (kY xs i) : Int)))) [(6, rV 0 0), (13, .e (kQ xs n)), (14, uV n), (15, uV i), (34, bV true)] ⟨(by have h0 := (nK (qF xs i) (qB xs i) zo zo); rw [hx8] at h0; exact h0), (by have h0 := (nK (qG xs i) (qC xs i) zo zo); rw [hx10] at h0; exact h0), zo⟩ ?_
      refine zt ?_
      refine kI [.no] True [(4, bV false)] [] 1 trivial ?_
      refine AW.ret ?_
      exact kC (.inr rfl) [] (P := ((kbB xs) = false)) zk (by exact u26 (i := i) zo zo)
     ·refine kN (.no :: .no :: .call [] (bV true) [] 0 [] none :: kT 4 (.call [] (bV true) [] 0 [] none :: kT 6 [.b false, .no])) ((Fun 35 [.agg [.d (dl (qF xs i) (qB xs i))]] (kE []) 0 (bV true) (kE []) 0) ∧ (Fun 35 [.agg [.d (dl (qG xs i) (qC xs i))]] (kE []) 0 (bV true) (kE []) 0) ∧ (¬ ((20 : Int) < (ka0 (kY xs i) : Int)))) [(6, rV 0 0), (13, .e (kQ xs n)), (14, uV n), (15, uV i), (34, bV false)] ⟨(by have h0 := (nK (qF xs i) (qB xs i) zo zo); rw [hx8] at h0; exact h0), (by have h0 := (nK (qG xs i) (qC xs i) zo zo); rw [hx10] at h0; exact h0), zo⟩ ?_
      refine q8 ?_
      refine kI (kT 4 []) True [(13, .e (kQ xs n)), (14, uV n), (15, uV i), (36, qJ (kL (kY xs i)) (ka0 (kY xs i))), (37, uV (ka0 (kY xs i))), (38, iV 0)] [] 1 trivial ?_
      refine AW.block ?_
      refine kU 0 hcx (fun (x : {x : Nat // match x with | k => (k ≤ ka0 (kY xs i)) ∧ (∀ j, j < k → ka0 (ka1 (kY xs i) j []) ≤ 12)}) => match x with | ⟨k, _⟩ => (⟨[(13, .e (kQ xs n)), (14, uV n), (15, uV i), (36, qJ (kL (kY xs i)) (ka0 (kY xs i))), (37, uV (ka0 (kY xs i))), (38, uV k)], [], 1⟩ : ES)) (fun x => match x with | ⟨k, _⟩ => ka0 (kY xs i) - k) ⟨(0 : Nat), ⟨zo, (fun j hj => absurd hj (kd1 j))⟩⟩ [] (P := (kJ (kP xs)) ∧ (kG n) ∧ (kM (n : Int)) ∧ (kM (i : Int)) ∧ (kJ (kL (kY xs i))) ∧ (kG (ka0 (kY xs i))) ∧ (kM (ka0 (kY xs i) : Int)) ∧ (kM 0)) zk ⟨rfl, rfl, rfl, rfl, rfl, rfl, rfl, rfl⟩ ?_
      rintro ⟨k, hinv1⟩
      obtain ⟨hk, hm⟩ : (k ≤ ka0 (kY xs i)) ∧ (∀ j, j < k → ka0 (ka1 (kY xs i) j []) ≤ 12) := hinv1
      refine qN (l := [(13, .e (kQ xs n)), (14, uV n), (15, uV i), (36, qJ (kL (kY xs i)) (ka0 (kY xs i))), (37, uV (ka0 (kY xs i))), (38, uV k)]) (g := []) (nx := 1) rfl rfl rfl ?_
      by_cases hx13 : (((k : Nat) : Int) < (((ka0 (kY xs i)) : Nat) : Int))
      ·refine kI [.b true] (((k : Int) < (ka0 (kY xs i) : Int))) [(13, .e (kQ xs n)), (14, uV n), (15, uV i), (36, qJ (kL (kY xs i)) (ka0 (kY xs i))), (37, uV (ka0 (kY xs i))), (38, uV k), (39, bV true)] [] 1 zo ?_
       refine AW.seq ?_
       refine yW ?_
       refine AW.seq ?_
       refine AW.block ?_
       have hx14 : ((ka0 (ka1 (kY xs i) k ([] : List Int))) ≤ 9223372036854775807) := MsI.at (BsI.ms (by with_reducible assumption) _) _
       refine kN [.n k, .d (dl (ka1 (kY xs i) k ([] : List Int)) (ka0 (ka1 (kY xs i) k ([] : List Int)))), .no] ((kM (k : Int)) ∧ (k < (ka0 (kY xs i))) ∧ ((List.drop k (kL (kY xs i)))[0]? = some (dl (ka1 (kY xs i) k ([] : List Int)) (ka0 (ka1 (kY xs i) k ([] : List Int)))))) [(8, sV .i64 (ka1 (kY xs i) k ([] : List Int)) (ka0 (ka1 (kY xs i) k ([] : List Int)))), (13, .e (kQ xs n)), (14, uV n), (15, uV i), (36, qJ (kL (kY xs i)) (ka0 (kY xs i))), (37, uV (ka0 (kY xs i))), (38, uV k)] ⟨rfl, zo, (yE _ _ zo)⟩ ?_
       by_cases hx15 : ((12 : Int) < (((ka0 (ka1 (kY xs i) k ([] : List Int))) : Nat) : Int))
       ·refine kN [.no, .no, .b true] (((12 : Int) < (((ka0 (ka1 (kY xs i) k ([] : List Int))) : Nat) : Int))) [(13, .e (kQ xs n)), (14, uV n), (15, uV i), (36, qJ (kL (kY xs i)) (ka0 (kY xs i))), (37, uV (ka0 (kY xs i))), (38, uV k), (44, bV true)] zo ?_
        refine zt ?_
        refine kN [.no] True [(4, bV false)] trivial ?_
        refine AW.ret ?_
        exact kC (.inr rfl) [] (P := ((kbB xs) = false)) zk (by exact u8n (i := i) (j := k) zo zo zo)
       ·refine kN [.no, .no, .b false] (¬ ((12 : Int) < (((ka0 (ka1 (kY xs i) k ([] : List Int))) : Nat) : Int))) [(13, .e (kQ xs n)), (14, uV n), (15, uV i), (36, qJ (kL (kY xs i)) (ka0 (kY xs i))), (37, uV (ka0 (kY xs i))), (38, uV k), (44, bV false)] zo ?_
        refine q8 ?_
        refine uJ [.w, .no] (uZ ((k : Int) + 1)) [(13, .e (kQ xs n)), (14, uV n), (15, uV i), (36, qJ (kL (kY xs i)) (ka0 (kY xs i))), (37, uV (ka0 (kY xs i))), (38, iV (↑k + 1))] ⟨by omega, by omega⟩ ?_
        exact kX ⟨((k + 1) : Nat), ⟨zo, (fun j hj => (Nat.lt_succ_iff_lt_or_eq.1 hj).elim (hm j) (fun e9 => by subst e9; omega))⟩⟩ [] (P := (kJ (kP xs)) ∧ (kG n) ∧ (kM (n : Int)) ∧ (kM (i : Int)) ∧ (kJ (kL (kY xs i))) ∧ (kG (ka0 (kY xs i))) ∧ (kM (ka0 (kY xs i) : Int)) ∧ (vX k)) zk ⟨rfl, rfl, rfl, rfl, rfl, rfl, rfl, (by rfl)⟩ (show ka0 (kY xs i) - (k + 1) < ka0 (kY xs i) - k from zo)
      ·refine kI [.b false] (¬ ((k : Int) < (ka0 (kY xs i) : Int))) [(13, .e (kQ xs n)), (14, uV n), (15, uV i), (36, qJ (kL (kY xs i)) (ka0 (kY xs i))), (37, uV (ka0 (kY xs i))), (38, uV k), (39, bV false)] [] 1 zo ?_
       refine AW.seq ?_
       refine zf ?_
       refine AW.exit ?_
       refine aD [.w, .no] (uZ ((i : Int) + 1)) [(13, .e (kQ xs n)), (14, uV n), (15, iV (↑i + 1))] [] 1 ⟨by omega, by omega⟩ ?_
       exact kX ⟨((i + 1) : Nat), ⟨zo, (fun j hj => (Nat.lt_succ_iff_lt_or_eq.1 hj).elim (ha j) (fun e9 => by subst e9; exact u8o zo (fun q hq => hm q zo)))⟩⟩ [] (P := (kJ (kP xs)) ∧ (kG n) ∧ (kM (n : Int)) ∧ (vX i)) zk ⟨rfl, rfl, rfl, (by rfl)⟩ (show n - (i + 1) < n - i from zo)
    ·have hx16 : ¬ ((qC xs i) ≤ 70) := of_decide_eq_false hx10
     refine kN (.no :: .no :: .call [] (bV true) [] 0 [] none :: kT 4 (.call [] (bV false) [] 0 [] none :: kT 4 [])) ((Fun 35 [.agg [.d (dl (qF xs i) (qB xs i))]] (kE []) 0 (bV true) (kE []) 0) ∧ (Fun 35 [.agg [.d (dl (qG xs i) (qC xs i))]] (kE []) 0 (bV false) (kE []) 0)) [(6, rV 0 0), (13, .e (kQ xs n)), (14, uV n), (15, uV i), (34, bV true)] ⟨(by have h0 := (nK (qF xs i) (qB xs i) zo zo); rw [hx8] at h0; exact h0), (by have h0 := (nK (qG xs i) (qC xs i) zo zo); rw [hx10] at h0; exact h0)⟩ ?_
     refine zt ?_
     refine kI [.no] True [(4, bV false)] [] 1 trivial ?_
     refine AW.ret ?_
     exact kC (.inr rfl) [] (P := ((kbB xs) = false)) zk (by exact u26 (i := i) zo zo)
   ·have hx17 : ¬ ((qB xs i) ≤ 70) := of_decide_eq_false hx8
    refine kN (.no :: .no :: .call [] (bV false) [] 0 [] none :: kT 5 []) (Fun 35 [.agg [.d (dl (qF xs i) (qB xs i))]] (kE []) 0 (bV false) (kE []) 0) [(6, rV 0 0), (13, .e (kQ xs n)), (14, uV n), (15, uV i), (34, bV true)] (by have h0 := (nK (qF xs i) (qB xs i) zo zo); rw [hx8] at h0; exact h0) ?_
    refine zt ?_
    refine kI [.no] True [(4, bV false)] [] 1 trivial ?_
    refine AW.ret ?_
    exact kC (.inr rfl) [] (P := ((kbB xs) = false)) zk (by exact u26 (i := i) zo zo)
  ·refine kI [.b false] (¬ ((i : Int) < (n : Int))) [(13, .e (kQ xs n)), (14, uV n), (15, uV i), (16, bV false)] [] 0 zo ?_
   refine AW.seq ?_
   refine zf ?_
   refine AW.exit ?_
   refine kI [.no] True [(4, bV true)] [] 0 trivial ?_
   refine AW.ret ?_
   exact kC (.inr rfl) [] (P := ((kbB xs) = true)) zk (by exact u8l zo (fun j hj => ha j zo))
end Go.Proofs.YtcfmjpnffembpaaGreat
