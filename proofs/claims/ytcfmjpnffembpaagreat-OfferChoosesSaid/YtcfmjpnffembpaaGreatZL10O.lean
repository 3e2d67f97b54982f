/- Lists with few boxes; raw lists. No statement is proved here. -/
import Derived.Test.YtcfmjpnffembpaaGreatZL10K
import Derived.Test.YtcfmjpnffembpaaGreatZOpenT
namespace Go.Proofs.YtcfmjpnffembpaaGreat
open Go.ChangeShapes Go.WideShapes Go.ChangeAt Go.RowKit
open List renaming flatten_cons → kg2, getD → ka1, getD_eq_getElem?_getD → ka7, getElem?_eq_getElem → kb1, length → ka0, length_append → ka6, length_cons → ka8, length_drop → kb0, length_map → kc0, length_nil → kb3, length_take → ka9, map_cons → ke4, mem_of_getElem? → kd5
open Nat renaming le_of_ble_eq_true → ka5, not_lt_zero → kd3, zero_le → kd8
set_option linter.unusedVariables false
set_option linter.unusedSimpArgs false
/-! chapter 10: raw lists of boxes, raw choices; lists with few boxes -/
set_option maxHeartbeats 4000000
set_option maxRecDepth 100000
def tyS : Ty := .st (.fcons (.sl (.st (.fcons (.i .i64) (.fcons (.i .i64) .fnil)))) .fnil)
def tyB : Ty := .sl (.st (.fcons (.i .i64) (.fcons tyS (.fcons (.sl (.sl (.i .i64))) (.fcons tyS .fnil)))))
def tyC : Ty := .st (.fcons (.st (.fcons (.i .i64) (.fcons (.i .i64) (.fcons (.sl (.i .i64)) .fnil)))) (.fcons (.i .i64) .fnil))
def BxI (b : Bx) : Prop := ka0 b.r = b.rn * 2 ∧ ka0 b.s = b.sn * 2 ∧ b.rn ≤ 9223372036854775807 ∧ b.sn ≤ 9223372036854775807 ∧ ka0 b.m ≤ 9223372036854775807 ∧ ∀ l ∈ b.m, ka0 l ≤ 9223372036854775807
def BsI (xs : List Bx) : Prop := ∀ b ∈ xs, BxI b
def MsI (xs : List (List Int)) : Prop := ∀ l ∈ xs, ka0 l ≤ 9223372036854775807
theorem MsI.at {xs : List (List Int)} (h : MsI xs) (i : Nat) : ka0 (ka1 xs i []) ≤ 9223372036854775807 := by
 rw [ka7]
 cases e : xs[i]? with
 | none => exact kd8 _
 | some l => exact h l (kd5 e)
theorem BsI.get {xs : List Bx} (h : BsI xs) (i : Nat) : BxI (gO xs i) := by
 unfold gO
 rw [ka7]
 cases e : xs[i]? with
 | none => exact ⟨rfl, rfl, kd8 _, kd8 _, kd8 _, fun l h => by cases h⟩
 | some l => exact h l (kd5 e)
theorem BsI.at {xs : List Bx} (h : BsI xs) (i : Nat) : ka0 (qR xs i) = qM xs i * 2 ∧ ka0 (qS xs i) = qN xs i * 2 ∧ qM xs i ≤ 9223372036854775807 ∧ qN xs i ≤ 9223372036854775807 ∧ ka0 (kY xs i) ≤ 9223372036854775807 :=
 have h1 := h.get i
 ⟨h1.1, h1.2.1, h1.2.2.1, h1.2.2.2.1, h1.2.2.2.2.1⟩
theorem u3p {xs : List Bx} (h : BsI xs) (i : Nat) : MsI (kY xs i) := (h.get i).2.2.2.2.2
theorem k0o {ds : List D} (h : WfD tyS ds) : ∃ (r : List Int) (n : Nat), ds = [D.sl (dI .i64 r) n] ∧ ka0 r = n * 2 ∧ n ≤ 9223372036854775807 := by
 obtain ⟨x, y, e, ⟨xs, ex, hl, hx⟩, rfl⟩ := h
 subst e; subst ex
 obtain ⟨ys, ey, _⟩ := fG (f := fun p : Int × Int => [D.lit (.int .i64 p.1), D.lit (.int .i64 p.2)]) (Q := fun _ => True) xs fun x hm => by
  obtain ⟨x1, y1, rfl, ⟨z1, rfl, _⟩, x2, y2, rfl, ⟨z2, rfl, _⟩, rfl⟩ := hx x hm
  exact ⟨(z1, z2), rfl, trivial⟩
 subst ey
 refine ⟨ys.flatMap fun p => [p.1, p.2], ys.length, ?_, ?_, by rw [kc0] at hl; exact hl⟩
 ·have e : ∀ ys : List (Int × Int), (ys.map fun p : Int × Int => [D.lit (.int .i64 p.1), D.lit (.int .i64 p.2)]).flatten = dI .i64 (ys.flatMap fun p => [p.1, p.2]) := fun ys => by
   induction ys with
   | nil => rfl
   | cons y ys ih => rw [ke4, kg2, ih]; rfl
  rw [e, kc0]; rfl
 ·have e : ∀ ys : List (Int × Int), ka0 (ys.flatMap fun p => [p.1, p.2]) = ys.length * 2 := fun ys => by
   induction ys with
   | nil => rfl
   | cons y ys ih => rw [List.flatMap_cons, ka6, ih]; show 2 + _ = (_ + 1) * 2; omega
  exact e ys
theorem k1k {ds : List D} (h : WfD (.sl (.i .i64)) ds) : ∃ l : List Int, ds = [D.sl (dI .i64 l) (ka0 l)] ∧ ka0 l ≤ 9223372036854775807 := by
 obtain ⟨xs, ex, hl, hx⟩ := h
 subst ex
 obtain ⟨ys, ey, _⟩ := fG (f := fun p : Int => [D.lit (.int .i64 p)]) (Q := fun _ => True) xs fun x hm => by
  obtain ⟨z1, rfl, _⟩ := hx x hm
  exact ⟨z1, rfl, trivial⟩
 subst ey
 refine ⟨ys, ?_, by rw [kc0] at hl; exact hl⟩
 have e : ∀ ys : List Int, (ys.map fun p : Int => [D.lit (.int .i64 p)]).flatten = dI .i64 ys := fun ys => by
  induction ys with
  | nil => rfl
  | cons y ys ih => rw [ke4, kg2, ih]; rfl
 rw [e, kc0]
theorem k8k {ds : List D} (h : WfD (.sl (.sl (.i .i64))) ds) : ∃ m : List (List Int), ds = [D.sl (kJ m) (ka0 m)] ∧ ka0 m ≤ 9223372036854775807 ∧ MsI m := by
 obtain ⟨xs, ex, hl, hx⟩ := h
 subst ex
 obtain ⟨ys, ey, hq⟩ := fG (f := fun l : List Int => [D.sl (dI .i64 l) (ka0 l)]) (Q := fun l => ka0 l ≤ 9223372036854775807) xs fun x hm => k1k (hx x hm)
 subst ey
 refine ⟨ys, ?_, by rw [kc0] at hl; exact hl, hq⟩
 have e : ∀ ys : List (List Int), (ys.map fun l : List Int => [D.sl (dI .i64 l) (ka0 l)]).flatten = kJ ys := fun ys => by
  induction ys with
  | nil => rfl
  | cons y ys ih => rw [ke4, kg2, ih]; rfl
 rw [e, kc0]
theorem k9u {w : World} {d : D} {v : Value} (h : InC w tyB d v) : ∃ xs : List Bx, d = D.sl (kF xs) (ka0 xs) ∧ ka0 xs ≤ 9223372036854775807 ∧ BsI xs := by
 obtain ⟨⟨xs, e, hl, hx⟩, _⟩ := h
 obtain ⟨ys, ey, hq⟩ := fG (f := bxR) (Q := BxI) xs fun x hm => by
  obtain ⟨x1, y1, rfl, ⟨z1, rfl, _⟩, x2, y2, rfl, h2, x3, y3, rfl, h3, x4, y4, rfl, h4, rfl⟩ := hx x hm
  obtain ⟨r, rn, rfl, r1, r2⟩ := k0o h2
  obtain ⟨m, rfl, m1, m2⟩ := k8k h3
  obtain ⟨s, sn, rfl, s1, s2⟩ := k0o h4
  exact ⟨⟨z1, r, rn, m, s, sn⟩, rfl, r1, s1, r2, s2, m1, m2⟩
 subst ey
 refine ⟨ys, ?_, by rw [kc0] at hl; exact hl, hq⟩
 have e2 : ∀ ys : List Bx, (ys.map bxR).flatten = kF ys := fun ys => by
  induction ys with
  | nil => rfl
  | cons y ys ih => rw [ke4, kg2, ih]; rfl
 rw [e2, kc0] at e
 exact (List.cons.inj e).1
theorem k21 {w : World} {ds : List D} {v : Value} (h : InA w tyC ds v) : ∃ (k r : Int) (m : List Int) (z : Int), ds = [D.lit (.int .i64 k), D.lit (.int .i64 r), D.sl (dI .i64 m) (ka0 m), D.lit (.int .i64 z)] ∧ (-9223372036854775808 ≤ k ∧ k ≤ 9223372036854775807) ∧ (-9223372036854775808 ≤ r ∧ r ≤ 9223372036854775807) ∧ ka0 m ≤ 9223372036854775807 ∧ (-9223372036854775808 ≤ z ∧ z ≤ 9223372036854775807) := by
 obtain ⟨⟨x1, y1, rfl, ⟨x2, y2, rfl, ⟨k, rfl, wk⟩, x3, y3, rfl, ⟨r, rfl, wr⟩, x4, y4, rfl, h4, rfl⟩, x5, y5, rfl, ⟨z, rfl, wz⟩, rfl⟩, _⟩ := h
 obtain ⟨m, rfl, m1⟩ := k1k h4
 exact ⟨k, r, m, z, rfl, bounds_i64 wk, bounds_i64 wr, m1, bounds_i64 wz⟩
def kbE (xs : List Bx) (i : Nat) : Bool := decide (qM xs i ≤ 70 ∧ qN xs i ≤ 70 ∧ ka0 (kY xs i) ≤ 20 ∧ ∀ j, j < ka0 (kY xs i) → ka0 (ka1 (kY xs i) j []) ≤ 12)
def kbB (xs : List Bx) : Bool := decide (ka0 xs ≤ 9 ∧ ∀ i, i < ka0 xs → kbE xs i = true)
theorem u74 {xs : List Bx} {i : Nat} (h : qM xs i ≤ 70 ∧ qN xs i ≤ 70 ∧ ka0 (kY xs i) ≤ 20) (h2 : ∀ j, j < ka0 (kY xs i) → ka0 (ka1 (kY xs i) j []) ≤ 12) : kbE xs i = true := decide_eq_true ⟨h.1, h.2.1, h.2.2, h2⟩
theorem k2z {xs : List Bx} (h : ka0 xs ≤ 9) (h2 : ∀ i, i < ka0 xs → kbE xs i = true) : kbB xs = true := decide_eq_true ⟨h, h2⟩
theorem k30 {xs : List Bx} (h : 9 < ka0 xs) : kbB xs = false := decide_eq_false fun e => by omega
theorem k32 {xs : List Bx} {i : Nat} (hi : i < ka0 xs) (h : ¬ (qM xs i ≤ 70 ∧ qN xs i ≤ 70 ∧ ka0 (kY xs i) ≤ 20)) : kbB xs = false := decide_eq_false fun e => h (by
 have h1 := of_decide_eq_true (e.2 i hi); exact ⟨h1.1, h1.2.1, h1.2.2.1⟩)
theorem k31 {xs : List Bx} {i j : Nat} (hi : i < ka0 xs) (hj : j < ka0 (kY xs i)) (h : ¬ ka0 (ka1 (kY xs i) j []) ≤ 12) : kbB xs = false := decide_eq_false fun e => h ((of_decide_eq_true (e.2 i hi)).2.2.2 j hj)
theorem u51 {xs : List Bx} (h : BsI xs) (hk : kbB xs = true) : BsW xs ∧ ka0 xs ≤ 9 := by
 have h1 := of_decide_eq_true hk
 refine ⟨fun b hb => ?_, h1.1⟩
 obtain ⟨i, hi, rfl⟩ := List.mem_iff_getElem.1 hb
 have e : gO xs i = xs[i] := by unfold gO; rw [ka7, kb1 hi]; rfl
 obtain ⟨k1, k2, k3, k4⟩ := of_decide_eq_true (h1.2 i hi)
 have h2 := h _ hb
 rw [← e] at h2 ⊢
 have k1 : (gO xs i).rn ≤ 70 := k1
 have k2 : (gO xs i).sn ≤ 70 := k2
 have k3 : (gO xs i).m.length ≤ 20 := k3
 refine ⟨h2.1, h2.2.1, by omega, by omega, by omega, fun l hl => ?_⟩
 obtain ⟨j, hj, rfl⟩ := List.mem_iff_getElem.1 hl
 have := k4 j hj
 have e2 : ka1 (kY xs i) j [] = (gO xs i).m[j] := by rw [ka7]; show ((gO xs i).m[j]?).getD [] = _; rw [kb1 hj]; rfl
 rw [e2] at this; omega
theorem cS (k r z : Int) (m : List Int) : l3 k r z k r z m m = true := decide_eq_true ⟨rfl, rfl, rfl, rfl⟩
theorem oA (l : List Int) (n : Nat) (hl : ka0 l = n * 2) (hb : n ≤ 9223372036854775807) : Fun 35 [.agg [.d (D.sl (dI .i64 l) n)]] (kK []) 0 (qY (D.lit (.bool (decide (n ≤ 70))))) (kK []) 0 := by
 refine Fun.mk (n := 7) Tryz.func35 rfl rfl (ka5 rfl) ?_
 intro cx hcx
 refine kL [.no, .no] True [(1, rV 0 0)] [(0, some (56, .ds [dl l n]))] 1 trivial ?_
 by_cases hx1 : (((n : Nat) : Int) ≤ 70)
 ·refine kL [.no, .no, .no, .b true, .no] (((n : Int) ≤ 70)) [(2, bV true)] [] 1 zo ?_
  refine AW.ret ?_
  exact kD (.inr rfl) [] (P := ((decide (n ≤ 70)) = true)) zk (by first | rfl | assumption | exact decide_eq_true zo | exact decide_eq_false zo | (simp; omega))
 ·refine kL [.no, .no, .no, .b false, .no] (¬ ((n : Int) ≤ 70)) [(2, bV false)] [] 1 zo ?_
  refine AW.ret ?_
  exact kD (.inr rfl) [] (P := ((decide (n ≤ 70)) = false)) zk (by first | rfl | assumption | exact decide_eq_true zo | exact decide_eq_false zo | (simp; omega))
theorem aO {p : Prop} (h : p := by first | omega | with_reducible assumption | (simp only [qC, qB, ka6, ka8, kb3, ka9, kb0, List.length_replicate, List.length_set] <;> omega) | rfl | assumption) : p := h
abbrev u1n (xs : List Bx) (i : Nat) : BC := .ds [iD (qJ xs i), D.sl (dI .i64 (qR xs i)) (qM xs i), D.sl (kJ (kY xs i)) (ka0 (kY xs i)), D.sl (dI .i64 (qS xs i)) (qN xs i)]
theorem mY (xs : List Bx) (n : Nat) (hn : ka0 xs = n) (h1 : n ≤ 9223372036854775807) (hI : BsI xs) : Fun 12 [.c (.d (D.sl (kF xs) n)), iE 9] (kK []) 0 (qY (D.lit (.bool (kbB xs)))) (kK []) 0 := by
 refine Fun.mk (n := 47) Tryz.func12 rfl rfl (ka5 rfl) ?_
 intro cx hcx
 refine kL [.no] True [(0, kI (kF xs) n), (1, iV 9)] [] 0 trivial ?_
 refine AW.seq ?_
 by_cases hx1 : ((9 : Int) < ((n : Nat) : Int))
 ·refine kP [.no, .no, .no, .b true] (((9 : Int) < (n : Int))) [(0, kI (kF xs) n), (12, bV true)] zo ?_
  refine zt ?_
  refine kP [.no] True [(4, bV false)] trivial ?_
  refine AW.ret ?_
  exact kD (.inr rfl) [] (P := ((kbB xs) = false)) zk (by first | exact k2z zo (fun j hj => ha j zo) | exact k30 zo | exact k32 (i := i) zo zo | exact k31 (i := i) (j := k) zo zo zo)
 ·refine kP [.no, .no, .no, .b false] (¬ ((9 : Int) < (n : Int))) [(0, kI (kF xs) n), (12, bV false)] zo ?_
  refine uB ?_
  refine AW.seq ?_
  refine kP [.no, .no, .no] True [(13, kI (kF xs) n), (14, uV n), (15, iV 0)] trivial ?_
  refine AW.block ?_
  refine kZ 0 hcx (fun (x : {x : Nat // match x with | i => (i ≤ n) ∧ (∀ j, j < i → kbE xs j = true)}) => match x with | ⟨i, _⟩ => (⟨[(13, kI (kF xs) n), (14, uV n), (15, uV i)], [], 0⟩ : ES)) (fun x => match x with | ⟨i, _⟩ => n - i) ⟨(0 : Nat), ⟨(by first | omega | assumption | simp), (fun j hj => absurd hj (kd3 j))⟩⟩ [] (P := (kM (kF xs)) ∧ (kH n) ∧ (kO (n : Int)) ∧ (kO 0)) zk ⟨rfl, rfl, rfl, rfl⟩ ?_
  rintro ⟨i, hinv0⟩
  obtain ⟨hi, ha⟩ : (i ≤ n) ∧ (∀ j, j < i → kbE xs j = true) := hinv0
  refine qT (l := [(13, kI (kF xs) n), (14, uV n), (15, uV i)]) (g := []) (nx := 0) rfl rfl rfl ?_
  by_cases hx2 : (((i : Nat) : Int) < ((n : Nat) : Int))
  ·refine kL [.b true] (((i : Int) < (n : Int))) [(13, kI (kF xs) n), (14, uV n), (15, uV i), (16, bV true)] [] 0 zo ?_
   refine AW.seq ?_
   refine vP ?_
   refine AW.seq ?_
   refine AW.block ?_
   obtain ⟨hx3, hx4, hx5, hx6, hx7⟩ := BsI.at (xs := xs) (by with_reducible assumption) (i)
   refine kL [.n i, .ds [iD (qJ xs i), dl (qR xs i) (qM xs i), D.sl (kJ (kY xs i)) (ka0 (kY xs i)), dl (qS xs i) (qN xs i)], .no, .no] ((kO (i : Int)) ∧ (i < n) ∧ (List.take 4 (List.drop (i * 4) (kF xs)) = [iD (qJ xs i), dl (qR xs i) (qM xs i), D.sl (kJ (kY xs i)) (ka0 (kY xs i)), dl (qS xs i) (qN xs i)]) ∧ (([iD (qJ xs i), dl (qR xs i) (qM xs i), D.sl (kJ (kY xs i)) (ka0 (kY xs i)), dl (qS xs i) (qN xs i)] : List D).length = 4)) [(6, rV 0 0), (13, kI (kF xs) n), (14, uV n), (15, uV i)] [(0, some (59, (u1n xs i)))] 1 ⟨rfl, zo, (cN (by first | omega | (simp only [qC, qB, ka6, ka8, kb3, ka9, kb0] <;> omega))), rfl⟩ ?_
   refine AW.seq ?_
   rcases Bool.eq_false_or_eq_true (decide ((qM xs i) ≤ 70)) with hx8 | hx8
   ·have hx9 : ((qM xs i) ≤ 70) := of_decide_eq_true hx8
    rcases Bool.eq_false_or_eq_true (decide ((qN xs i) ≤ 70)) with hx10 | hx10
    ·have hx11 : ((qN xs i) ≤ 70) := of_decide_eq_true hx10
     by_cases hx12 : ((20 : Int) < (((ka0 (kY xs i)) : Nat) : Int))
     ·refine kP (.no :: .no :: .call [] (bV true) [] 0 [] none :: qA 4 (.call [] (bV true) [] 0 [] none :: qA 6 [.b true, .no])) ((Fun 35 [.agg [.d (dl (qR xs i) (qM xs i))]] (kK []) 0 (bV true) (kK []) 0) ∧ (Fun 35 [.agg [.d (dl (qS xs i) (qN xs i))]] (kK []) 0 (bV true) (kK []) 0) ∧ (((20 : Int) < (ka0 (kY xs i) : Int)))) [(6, rV 0 0), (13, kI (kF xs) n), (14, uV n), (15, uV i), (34, bV true)] ⟨(by have h0 := (oA (qR xs i) (qM xs i) aO aO); rw [hx8] at h0; exact h0), (by have h0 := (oA (qS xs i) (qN xs i) aO aO); rw [hx10] at h0; exact h0), zo⟩ ?_
      refine zt ?_
      refine kL [.no] True [(4, bV false)] [] 1 trivial ?_
      refine AW.ret ?_
      exact kD (.inr rfl) [] (P := ((kbB xs) = false)) zk (by first | exact k2z zo (fun j hj => ha j zo) | exact k30 zo | exact k32 (i := i) zo zo | exact k31 (i := i) (j := k) zo zo zo)
     ·refine kP (.no :: .no :: .call [] (bV true) [] 0 [] none :: qA 4 (.call [] (bV true) [] 0 [] none :: qA 6 [.b false, .no])) ((Fun 35 [.agg [.d (dl (qR xs i) (qM xs i))]] (kK []) 0 (bV true) (kK []) 0) ∧ (Fun 35 [.agg [.d (dl (qS xs i) (qN xs i))]] (kK []) 0 (bV true) (kK []) 0) ∧ (¬ ((20 : Int) < (ka0 (kY xs i) : Int)))) [(6, rV 0 0), (13, kI (kF xs) n), (14, uV n), (15, uV i), (34, bV false)] ⟨(by have h0 := (oA (qR xs i) (qM xs i) aO aO); rw [hx8] at h0; exact h0), (by have h0 := (oA (qS xs i) (qN xs i) aO aO); rw [hx10] at h0; exact h0), zo⟩ ?_
      refine uB ?_
      refine kL (qA 4 []) True [(13, kI (kF xs) n), (14, uV n), (15, uV i), (36, kI (kJ (kY xs i)) (ka0 (kY xs i))), (37, uV (ka0 (kY xs i))), (38, iV 0)] [] 1 trivial ?_
      refine AW.block ?_
      refine kZ 0 hcx (fun (x : {x : Nat // match x with | k => (k ≤ ka0 (kY xs i)) ∧ (∀ j, j < k → ka0 (ka1 (kY xs i) j []) ≤ 12)}) => match x with | ⟨k, _⟩ => (⟨[(13, kI (kF xs) n), (14, uV n), (15, uV i), (36, kI (kJ (kY xs i)) (ka0 (kY xs i))), (37, uV (ka0 (kY xs i))), (38, uV k)], [], 1⟩ : ES)) (fun x => match x with | ⟨k, _⟩ => ka0 (kY xs i) - k) ⟨(0 : Nat), ⟨(by first | omega | assumption | simp), (fun j hj => absurd hj (kd3 j))⟩⟩ [] (P := (kM (kF xs)) ∧ (kH n) ∧ (kO (n : Int)) ∧ (kO (i : Int)) ∧ (kM (kJ (kY xs i))) ∧ (kH (ka0 (kY xs i))) ∧ (kO (ka0 (kY xs i) : Int)) ∧ (kO 0)) zk ⟨rfl, rfl, rfl, rfl, rfl, rfl, rfl, rfl⟩ ?_
      rintro ⟨k, hinv1⟩
      obtain ⟨hk, hm⟩ : (k ≤ ka0 (kY xs i)) ∧ (∀ j, j < k → ka0 (ka1 (kY xs i) j []) ≤ 12) := hinv1
      refine qT (l := [(13, kI (kF xs) n), (14, uV n), (15, uV i), (36, kI (kJ (kY xs i)) (ka0 (kY xs i))), (37, uV (ka0 (kY xs i))), (38, uV k)]) (g := []) (nx := 1) rfl rfl rfl ?_
      by_cases hx13 : (((k : Nat) : Int) < (((ka0 (kY xs i)) : Nat) : Int))
      ·refine kL [.b true] (((k : Int) < (ka0 (kY xs i) : Int))) [(13, kI (kF xs) n), (14, uV n), (15, uV i), (36, kI (kJ (kY xs i)) (ka0 (kY xs i))), (37, uV (ka0 (kY xs i))), (38, uV k), (39, bV true)] [] 1 zo ?_
       refine AW.seq ?_
       refine vP ?_
       refine AW.seq ?_
       refine AW.block ?_
       have hx14 : ((ka0 (ka1 (kY xs i) k ([] : List Int))) ≤ 9223372036854775807) := MsI.at (u3p (by with_reducible assumption) _) _
       refine kP [.n k, .d (dl (ka1 (kY xs i) k ([] : List Int)) (ka0 (ka1 (kY xs i) k ([] : List Int)))), .no] ((kO (k : Int)) ∧ (k < (ka0 (kY xs i))) ∧ ((List.drop k (kJ (kY xs i)))[0]? = some (dl (ka1 (kY xs i) k ([] : List Int)) (ka0 (ka1 (kY xs i) k ([] : List Int)))))) [(8, sV .i64 (ka1 (kY xs i) k ([] : List Int)) (ka0 (ka1 (kY xs i) k ([] : List Int)))), (13, kI (kF xs) n), (14, uV n), (15, uV i), (36, kI (kJ (kY xs i)) (ka0 (kY xs i))), (37, uV (ka0 (kY xs i))), (38, uV k)] ⟨rfl, zo, (aB _ _ (by first | omega | (simp only [qC, qB, ka6, ka8, kb3, ka9, kb0] <;> omega)))⟩ ?_
       by_cases hx15 : ((12 : Int) < (((ka0 (ka1 (kY xs i) k ([] : List Int))) : Nat) : Int))
       ·refine kP [.no, .no, .b true] (((12 : Int) < (((ka0 (ka1 (kY xs i) k ([] : List Int))) : Nat) : Int))) [(13, kI (kF xs) n), (14, uV n), (15, uV i), (36, kI (kJ (kY xs i)) (ka0 (kY xs i))), (37, uV (ka0 (kY xs i))), (38, uV k), (44, bV true)] zo ?_
        refine zt ?_
        refine kP [.no] True [(4, bV false)] trivial ?_
        refine AW.ret ?_
        exact kD (.inr rfl) [] (P := ((kbB xs) = false)) zk (by first | exact k2z zo (fun j hj => ha j zo) | exact k30 zo | exact k32 (i := i) zo zo | exact k31 (i := i) (j := k) zo zo zo)
       ·refine kP [.no, .no, .b false] (¬ ((12 : Int) < (((ka0 (ka1 (kY xs i) k ([] : List Int))) : Nat) : Int))) [(13, kI (kF xs) n), (14, uV n), (15, uV i), (36, kI (kJ (kY xs i)) (ka0 (kY xs i))), (37, uV (ka0 (kY xs i))), (38, uV k), (44, bV false)] zo ?_
        refine uB ?_
        refine uS [.w, .no] ((-9223372036854775808) ≤ ((k : Int) + 1) ∧ ((k : Int) + 1) ≤ 9223372036854775807) [(13, kI (kF xs) n), (14, uV n), (15, uV i), (36, kI (kJ (kY xs i)) (ka0 (kY xs i))), (37, uV (ka0 (kY xs i))), (38, iV (↑k + 1))] ⟨by omega, by omega⟩ ?_
        exact kW ⟨((k + 1) : Nat), ⟨(by first | omega | assumption | simp), (fun j hj => (Nat.lt_succ_iff_lt_or_eq.1 hj).elim (hm j) (fun e9 => by subst e9; omega))⟩⟩ [] (P := (kM (kF xs)) ∧ (kH n) ∧ (kO (n : Int)) ∧ (kO (i : Int)) ∧ (kM (kJ (kY xs i))) ∧ (kH (ka0 (kY xs i))) ∧ (kO (ka0 (kY xs i) : Int)) ∧ (((((k + 1) : Nat) : Int) : Int) = ((k : Int) + 1))) zk ⟨rfl, rfl, rfl, rfl, rfl, rfl, rfl, (by first | rfl | omega | assumption | (simp; done) | (simp; omega))⟩ (show ka0 (kY xs i) - (k + 1) < ka0 (kY xs i) - k from (by first | omega | (show _ < _; simp; omega)))
      ·refine kL [.b false] (¬ ((k : Int) < (ka0 (kY xs i) : Int))) [(13, kI (kF xs) n), (14, uV n), (15, uV i), (36, kI (kJ (kY xs i)) (ka0 (kY xs i))), (37, uV (ka0 (kY xs i))), (38, uV k), (39, bV false)] [] 1 zo ?_
       refine AW.seq ?_
       refine zf ?_
       refine AW.exit ?_
       refine a5 [.w, .no] ((-9223372036854775808) ≤ ((i : Int) + 1) ∧ ((i : Int) + 1) ≤ 9223372036854775807) [(13, kI (kF xs) n), (14, uV n), (15, iV (↑i + 1))] [] 1 ⟨by omega, by omega⟩ ?_
       exact kW ⟨((i + 1) : Nat), ⟨(by first | omega | assumption | simp), (fun j hj => (Nat.lt_succ_iff_lt_or_eq.1 hj).elim (ha j) (fun e9 => by subst e9; exact u74 zo (fun q hq => hm q zo)))⟩⟩ [] (P := (kM (kF xs)) ∧ (kH n) ∧ (kO (n : Int)) ∧ (((((i + 1) : Nat) : Int) : Int) = ((i : Int) + 1))) zk ⟨rfl, rfl, rfl, (by first | rfl | omega | assumption | (simp; done) | (simp; omega))⟩ (show n - (i + 1) < n - i from (by first | omega | (show _ < _; simp; omega)))
    ·have hx16 : ¬ ((qN xs i) ≤ 70) := of_decide_eq_false hx10
     refine kP (.no :: .no :: .call [] (bV true) [] 0 [] none :: qA 4 (.call [] (bV false) [] 0 [] none :: qA 4 [])) ((Fun 35 [.agg [.d (dl (qR xs i) (qM xs i))]] (kK []) 0 (bV true) (kK []) 0) ∧ (Fun 35 [.agg [.d (dl (qS xs i) (qN xs i))]] (kK []) 0 (bV false) (kK []) 0)) [(6, rV 0 0), (13, kI (kF xs) n), (14, uV n), (15, uV i), (34, bV true)] ⟨(by have h0 := (oA (qR xs i) (qM xs i) aO aO); rw [hx8] at h0; exact h0), (by have h0 := (oA (qS xs i) (qN xs i) aO aO); rw [hx10] at h0; exact h0)⟩ ?_
     refine zt ?_
     refine kL [.no] True [(4, bV false)] [] 1 trivial ?_
     refine AW.ret ?_
     exact kD (.inr rfl) [] (P := ((kbB xs) = false)) zk (by first | exact k2z zo (fun j hj => ha j zo) | exact k30 zo | exact k32 (i := i) zo zo | exact k31 (i := i) (j := k) zo zo zo)
   ·have hx17 : ¬ ((qM xs i) ≤ 70) := of_decide_eq_false hx8
    refine kP (.no :: .no :: .call [] (bV false) [] 0 [] none :: qA 5 []) (Fun 35 [.agg [.d (dl (qR xs i) (qM xs i))]] (kK []) 0 (bV false) (kK []) 0) [(6, rV 0 0), (13, kI (kF xs) n), (14, uV n), (15, uV i), (34, bV true)] (by have h0 := (oA (qR xs i) (qM xs i) aO aO); rw [hx8] at h0; exact h0) ?_
    refine zt ?_
    refine kL [.no] True [(4, bV false)] [] 1 trivial ?_
    refine AW.ret ?_
    exact kD (.inr rfl) [] (P := ((kbB xs) = false)) zk (by first | exact k2z zo (fun j hj => ha j zo) | exact k30 zo | exact k32 (i := i) zo zo | exact k31 (i := i) (j := k) zo zo zo)
  ·refine kL [.b false] (¬ ((i : Int) < (n : Int))) [(13, kI (kF xs) n), (14, uV n), (15, uV i), (16, bV false)] [] 0 zo ?_
   refine AW.seq ?_
   refine zf ?_
   refine AW.exit ?_
   refine kL [.no] True [(4, bV true)] [] 0 trivial ?_
   refine AW.ret ?_
   exact kD (.inr rfl) [] (P := ((kbB xs) = true)) zk (by first | exact k2z zo (fun j hj => ha j zo) | exact k30 zo | exact k32 (i := i) zo zo | exact k31 (i := i) (j := k) zo zo zo)
end Go.Proofs.YtcfmjpnffembpaaGreat
