/- Choices compared. No statement is proved here. -/
import Derived.Test.YtcfmjpnffembpaaGreatZL06
namespace Go.Proofs.YtcfmjpnffembpaaGreat
open Go.ChangeShapes Go.WideShapes Go.ChangeAt Go.RowKit
open Bool renaming eq_false_or_eq_true → ka6
open List renaming drop → ka3, drop_eq_getElem_cons → kd2, drop_eq_nil_of_le → kf3, getD → ka1, getD_eq_getElem?_getD → ka8, getElem?_eq_getElem → ka7, length → ka0
open Nat renaming le_of_ble_eq_true → ka4
set_option linter.unusedVariables false
set_option linter.unusedSimpArgs false
/-! chapter 10: how choices are compared -/
set_option maxHeartbeats 4000000
set_option maxRecDepth 100000
structure Cmp {α : Type} (f : α → α → Int) : Prop where
 anti : ∀ a b, f a b = - f b a
 tr : ∀ a b c, f a b ≤ 0 → f b c ≤ 0 → f a c ≤ 0
theorem Cmp.zero {α : Type} {f : α → α → Int} (h : Cmp f) (a : α) : f a a = 0 := by
 have := h.anti a a; omega
def vG (a b : Int) : Int := if a = 0 then b else a
theorem k0i {a b : Int} (h : ¬ a = 0) : vG a b = a := if_neg h
theorem j7 {a b : Int} (h : a = 0) : vG a b = b := if_pos h
def uB (a b : Int) : Int := if a < b then -1 else if a = b then 0 else 1
theorem lB {a b : Int} : uB a b = 0 ↔ a = b := by
 unfold uB; (repeat' split) <;> omega
theorem fY (a b : Int) : -1 ≤ uB a b ∧ uB a b ≤ 1 := by
 unfold uB; (repeat' split) <;> omega
def bF (p q : Bool) : Int := if p = q then 0 else if p = true then -1 else 1
theorem k4w {p q : Bool} : bF p q = 0 ↔ p = q := by
 cases p <;> cases q <;> decide
theorem eA (p q : Bool) : -1 ≤ bF p q ∧ bF p q ≤ 1 := by
 cases p <;> cases q <;> decide
theorem Cmp.first {α : Type} (p : α → Bool) : Cmp (fun a b => bF (p a) (p b)) :=
 ⟨fun a b => by cases p a <;> cases p b <;> decide, fun a b c => by cases p a <;> cases p b <;> cases p c <;> decide⟩
def dS : List Int → List Int → Int
 | [], [] => 0
 | [], _ :: _ => -1
 | _ :: _, [] => 1
 | a :: r, b :: s => vG (uB a b) (dS r s)
theorem rL : ∀ (a b : List Int), -1 ≤ dS a b ∧ dS a b ≤ 1
 | [], [] => by decide
 | [], _ :: _ => by simp [dS]
 | _ :: _, [] => by simp [dS]
 | a :: r, b :: s => by
  have h1 := fY a b; have h2 := rL r s
  show -1 ≤ vG _ _ ∧ vG _ _ ≤ 1
  unfold vG; split <;> omega
theorem rK {a b : List Int} {k : Nat} {x : Int} (h : x = dS (ka3 k a) (ka3 k b)) (h1 : k < a.length) (h2 : k < b.length) (h3 : uB (ka1 a k 0) (ka1 b k 0) = 0) : x = dS (ka3 (k + 1) a) (ka3 (k + 1) b) := by
 have e1 : ka1 a k 0 = a[k] := by rw [ka8, ka7 h1]; rfl
 have e2 : ka1 b k 0 = b[k] := by rw [ka8, ka7 h2]; rfl
 rw [h, kd2 h1, kd2 h2]
 show vG (uB a[k] b[k]) _ = _
 rw [e1, e2] at h3
 exact j7 h3
theorem k4i {a b : List Int} {k : Nat} {x : Int} (h : x = dS (ka3 k a) (ka3 k b)) (h1 : k < a.length) (h2 : k < b.length) (h3 : ¬ uB (ka1 a k 0) (ka1 b k 0) = 0) : x = uB (ka1 a k 0) (ka1 b k 0) := by
 have e1 : ka1 a k 0 = a[k] := by rw [ka8, ka7 h1]; rfl
 have e2 : ka1 b k 0 = b[k] := by rw [ka8, ka7 h2]; rfl
 rw [h, kd2 h1, kd2 h2]
 show vG (uB a[k] b[k]) _ = _
 rw [e1, e2] at h3 ⊢
 exact k0i h3
theorem u56 {a b : List Int} {k : Nat} {x : Int} (h : x = dS (ka3 k a) (ka3 k b)) (h1 : k < a.length) (h2 : b.length ≤ k) : x = 1 := by
 rw [h, kd2 h1, kf3 h2]; rfl
theorem u54 {a b : List Int} {k : Nat} {x : Int} (h : x = dS (ka3 k a) (ka3 k b)) (h1 : a.length ≤ k) (h2 : k < b.length) : x = -1 := by
 rw [h, kd2 h2, kf3 h1]; rfl
theorem k4j {a b : List Int} {k : Nat} {x : Int} (h : x = dS (ka3 k a) (ka3 k b)) (h1 : a.length ≤ k) (h2 : b.length ≤ k) : x = 0 := by
 rw [h, kf3 h2, kf3 h1]; rfl
theorem u55 {a b : List Int} {k : Nat} {x : Int} (h : x = dS (ka3 k a) (ka3 k b)) (h1 : k < a.length) (h2 : k < b.length) (h3 : ka1 a k 0 < ka1 b k 0) : x = -1 := by
 rw [k4i h h1 h2 (fun e => by have := lB.1 e; omega)]; unfold uB; exact if_pos h3
theorem u57 {a b : List Int} {k : Nat} {x : Int} (h : x = dS (ka3 k a) (ka3 k b)) (h1 : k < a.length) (h2 : k < b.length) (h3 : ka1 b k 0 < ka1 a k 0) : x = 1 := by
 rw [k4i h h1 h2 (fun e => by have := lB.1 e; omega)]; unfold uB; rw [if_neg (by omega), if_neg (by omega)]
def v3 (a b : Int) : Int := if a > b then a - b else b - a
theorem k1b (a b : Int) : 0 ≤ v3 a b := by unfold v3; split <;> omega
theorem dL (a b : Int) : v3 a b = v3 b a := by unfold v3; (repeat' split) <;> omega
def aH (w a b : Int) : Int := vG (uB (v3 w a) (v3 w b)) (uB a b)
def vQ (w a b : Int) : Int := vG (bF (decide (a = w)) (decide (b = w))) (uB b a)
def gC (w m : List Int) : Int := ((yZ w m (ka0 m)).length : Int)
def yY (w a b : List Int) : Int := vG (bF (vO a w) (vO b w)) (vG (uB (gC w b) (gC w a)) (vG (uB (a.length : Int) (b.length : Int)) (dS a b)))
theorem cO {a b : Int} (h1 : -1 ≤ a ∧ a ≤ 1) (h2 : -1 ≤ b ∧ b ≤ 1) : -1 ≤ vG a b ∧ vG a b ≤ 1 := by
 unfold vG; split <;> assumption
theorem cQ (w a b : Int) : -1 ≤ aH w a b ∧ aH w a b ≤ 1 := cO (fY _ _) (fY _ _)
theorem cT (w a b : Int) : -1 ≤ vQ w a b ∧ vQ w a b ≤ 1 := cO (eA _ _) (fY _ _)
theorem b9 (w a b : List Int) : -1 ≤ yY w a b ∧ yY w a b ≤ 1 := cO (eA _ _) (cO (fY _ _) (cO (fY _ _) (rL _ _)))
theorem u8d {w a b : List Int} (h1 : vO a w = true) (h2 : vO b w = false) : yY w a b = -1 := by
 unfold yY; rw [h1, h2]; rfl
theorem u8c {w a b : List Int} (h1 : vO a w = false) (h2 : vO b w = true) : yY w a b = 1 := by
 unfold yY; rw [h1, h2]; rfl
theorem u4w {w a b : List Int} {p q : Int} (hp : p = gC w b) (hq : q = gC w a) (h : vO a w = vO b w) (hc : ¬ uB p q = 0) : yY w a b = uB p q := by
 subst hp; subst hq
 unfold yY; rw [j7 (k4w.2 h), k0i hc]
theorem u4v {w a b : List Int} {p q : Int} (hp : p = gC w b) (hq : q = gC w a) {n m : Nat} (h : vO a w = vO b w) (hc : uB p q = 0) (hn : a.length = n) (hm : b.length = m) (hl : ¬ uB (n : Int) (m : Int) = 0) : yY w a b = uB (n : Int) (m : Int) := by
 subst hp; subst hq
 unfold yY; rw [j7 (k4w.2 h), j7 hc, hn, hm, k0i hl]
theorem k23 {w a b : List Int} {p q : Int} (hp : p = gC w b) (hq : q = gC w a) {n m : Nat} {x : Int} (h : vO a w = vO b w) (hc : uB p q = 0) (hn : a.length = n) (hm : b.length = m) (hl : uB (n : Int) (m : Int) = 0) (hx : dS a b = x) : yY w a b = x := by
 subst hp; subst hq
 unfold yY; rw [j7 (k4w.2 h), j7 hc, hn, hm, j7 hl, hx]
theorem u63 {a b : Int} (h : a < b) : uB a b = -1 := if_pos h
theorem u65 {a b : Int} (h : b < a) : uB a b = 1 := by unfold uB; rw [if_neg (by omega), if_neg (by omega)]
theorem u87 {w a b : Int} (h : ¬ uB (v3 a w) (v3 b w) = 0) : aH w a b = uB (v3 a w) (v3 b w) := by
 unfold aH; rw [dL w a, dL w b]; exact k0i h
theorem u1z {w a b x : Int} (h : uB (v3 a w) (v3 b w) = 0) (hx : uB a b = x) : aH w a b = x := by
 unfold aH; rw [dL w a, dL w b, j7 h]; exact hx
theorem lM {a b : Int} (ha : -9223372036854775808 ≤ a ∧ a ≤ 9223372036854775807) (hb : -9223372036854775808 ≤ b ∧ b ≤ 9223372036854775807) (h : b ≤ a) : IntKind.u64.wrap (IntKind.u64.wrap a - IntKind.u64.wrap b) = a - b := by
 show ((a % 18446744073709551616) - (b % 18446744073709551616)) % 18446744073709551616 = a - b
 omega
theorem u97 {a b : Int} (ha : -9223372036854775808 ≤ a ∧ a ≤ 9223372036854775807) (hb : -9223372036854775808 ≤ b ∧ b ≤ 9223372036854775807) : v3 a b = IntKind.u64.wrap (IntKind.u64.wrap (max a b) - IntKind.u64.wrap (min a b)) := by
 unfold v3
 by_cases h : a > b
 ·rw [if_pos h, Int.max_eq_left (by omega), Int.min_eq_right (by omega), lM ha hb (by omega)]
 ·rw [if_neg h, Int.max_eq_right (by omega), Int.min_eq_left (by omega), lM hb ha (by omega)]
theorem u96 {a b : Int} (ha : -9223372036854775808 ≤ a ∧ a ≤ 9223372036854775807) (hb : -9223372036854775808 ≤ b ∧ b ≤ 9223372036854775807) (h : b < a) : v3 a b = IntKind.u64.wrap (IntKind.u64.wrap a - IntKind.u64.wrap b) := by
 unfold v3; rw [if_pos h, lM ha hb (by omega)]
theorem u95 {a b : Int} (ha : -9223372036854775808 ≤ a ∧ a ≤ 9223372036854775807) (hb : -9223372036854775808 ≤ b ∧ b ≤ 9223372036854775807) (h : ¬ b < a) : v3 a b = IntKind.u64.wrap (IntKind.u64.wrap b - IntKind.u64.wrap a) := by
 unfold v3; rw [if_neg h, lM hb ha (by omega)]
structure Co where
 k : Int
 r : Int
 m : List Int
 s : Int
def coV (w a b : Co) : Int := vG (vQ w.k a.k b.k) (vG (aH w.r a.r b.r) (vG (yY w.m a.m b.m) (aH w.s a.s b.s)))
theorem k95 (w a b : Co) : -1 ≤ coV w a b ∧ coV w a b ≤ 1 := cO (cT _ _ _) (cO (cQ _ _ _) (cO (b9 _ _ _) (cQ _ _ _)))
def fX (wk wr wz ak ar az bk br bz : Int) (w a b : List Int) : Int := vG (vQ wk ak bk) (vG (aH wr ar br) (vG (yY w a b) (aH wz az bz)))
theorem lX (wk wr wz ak ar az bk br bz : Int) (w a b : List Int) : -1 ≤ fX wk wr wz ak ar az bk br bz w a b ∧ fX wk wr wz ak ar az bk br bz w a b ≤ 1 := k95 ⟨wk, wr, w, wz⟩ ⟨ak, ar, a, az⟩ ⟨bk, br, b, bz⟩
theorem o6 (a : Int)  : Fun 139 [iE a] (kE []) 0 (bV false) (kE []) 0 := by
 refine Fun.mk (n := 6) Tryz.func139 rfl rfl (ka4 rfl) ?_
 intro cx hcx
 refine kI [.no] True [(0, iV a)] [] 0 trivial ?_
 refine kN [.no, .no, .b false, .no] (¬ (a ≠ a)) [(2, bV false)] zo ?_
 refine AW.ret ?_
 exact kC (.inr rfl) [] (P := (false = false)) zk rfl
theorem dV {p : Prop} (h : p := by (unfold uB; (repeat' split) <;> omega)) : p := h
theorem aQ (a b : Int)  : Fun 107 [iE a, iE b] (kE []) 0 (iV (uB a b)) (kE []) 0 := by
 refine Fun.mk (n := 20) Tryz.func107 rfl rfl (ka4 rfl) ?_
 intro cx hcx
 refine kI [.no] True [(0, iV a), (1, iV b)] [] 0 trivial ?_
 refine kN [.no, .call [] (bV false) [] 0 [] none, .no] _ [(0, iV a), (1, iV b), (5, bV false)] (o6 a) ?_
 refine kN [.no, .call [] (bV false) [] 0 [] none, .no] _ [(0, iV a), (1, iV b), (5, bV false), (6, bV false)] (o6 b) ?_
 refine AW.seq ?_
 refine kN [.no] True [(0, iV a), (1, iV b), (6, bV false), (11, bV false)] trivial ?_
 refine q8 ?_
 refine AW.seq ?_
 refine kN [.no] True [(0, iV a), (1, iV b), (13, bV false)] trivial ?_
 refine q8 ?_
 refine AW.seq ?_
 by_cases hx1 : (a < b)
 ·refine kN [.no, .no, .b true] ((a < b)) [(0, iV a), (1, iV b), (16, bV true)] zo ?_
  refine zt ?_
  refine kN [.no] True [(4, iV (-1))] trivial ?_
  refine AW.ret ?_
  exact kC (.inr rfl) [] (P := (((uB a b) : Int) = (-1))) zk dV
 ·refine kN [.no, .no, .b false] (¬ (a < b)) [(0, iV a), (1, iV b), (16, bV false)] zo ?_
  refine q8 ?_
  refine AW.seq ?_
  by_cases hx2 : (b < a)
  ·refine kN [.no, .no, .b true] ((b < a)) [(19, bV true)] zo ?_
   refine zt ?_
   refine kN [.no] True [(4, iV 1)] trivial ?_
   refine AW.ret ?_
   exact kC (.inr rfl) [] (P := (((uB a b) : Int) = 1)) zk dV
  ·refine kN [.no, .no, .b false] (¬ (b < a)) [(19, bV false)] zo ?_
   refine q8 ?_
   refine kN [.no] True [(4, iV 0)] trivial ?_
   refine AW.ret ?_
   exact kC (.inr rfl) [] (P := (((uB a b) : Int) = 0)) zk dV
theorem o5 (a : Int)  : Fun 140 [.c (.d (D.lit (.int .u64 a)))] (kE []) 0 (bV false) (kE []) 0 := by
 refine Fun.mk (n := 6) Tryz.func140 rfl rfl (ka4 rfl) ?_
 intro cx hcx
 refine kI [.no] True [(0, qS (D.lit (.int .u64 a)))] [] 0 trivial ?_
 refine kN [.no, .no, .b false, .no] (¬ (a ≠ a)) [(2, bV false)] zo ?_
 refine AW.ret ?_
 exact kC (.inr rfl) [] (P := (false = false)) zk rfl
theorem k2t (a b : Int)  : Fun 108 [.c (.d (D.lit (.int .u64 a))), .c (.d (D.lit (.int .u64 b)))] (kE []) 0 (iV (uB a b)) (kE []) 0 := by
 refine Fun.mk (n := 20) Tryz.func108 rfl rfl (ka4 rfl) ?_
 intro cx hcx
 refine kI [.no] True [(0, qS (D.lit (.int .u64 a))), (1, qS (D.lit (.int .u64 b)))] [] 0 trivial ?_
 refine kN [.no, .call [] (bV false) [] 0 [] none, .no] _ [(0, qS (D.lit (.int .u64 a))), (1, qS (D.lit (.int .u64 b))), (5, bV false)] (o5 a) ?_
 refine kN [.no, .call [] (bV false) [] 0 [] none, .no] _ [(0, qS (D.lit (.int .u64 a))), (1, qS (D.lit (.int .u64 b))), (5, bV false), (6, bV false)] (o5 b) ?_
 refine AW.seq ?_
 refine kN [.no] True [(0, qS (D.lit (.int .u64 a))), (1, qS (D.lit (.int .u64 b))), (6, bV false), (11, bV false)] trivial ?_
 refine q8 ?_
 refine AW.seq ?_
 refine kN [.no] True [(0, qS (D.lit (.int .u64 a))), (1, qS (D.lit (.int .u64 b))), (13, bV false)] trivial ?_
 refine q8 ?_
 refine AW.seq ?_
 by_cases hx1 : (a < b)
 ·refine kN [.no, .no, .b true] ((a < b)) [(0, qS (D.lit (.int .u64 a))), (1, qS (D.lit (.int .u64 b))), (16, bV true)] zo ?_
  refine zt ?_
  refine kN [.no] True [(4, iV (-1))] trivial ?_
  refine AW.ret ?_
  exact kC (.inr rfl) [] (P := (((uB a b) : Int) = (-1))) zk dV
 ·refine kN [.no, .no, .b false] (¬ (a < b)) [(0, qS (D.lit (.int .u64 a))), (1, qS (D.lit (.int .u64 b))), (16, bV false)] zo ?_
  refine q8 ?_
  refine AW.seq ?_
  by_cases hx2 : (b < a)
  ·refine kN [.no, .no, .b true] ((b < a)) [(19, bV true)] zo ?_
   refine zt ?_
   refine kN [.no] True [(4, iV 1)] trivial ?_
   refine AW.ret ?_
   exact kC (.inr rfl) [] (P := (((uB a b) : Int) = 1)) zk dV
  ·refine kN [.no, .no, .b false] (¬ (b < a)) [(19, bV false)] zo ?_
   refine q8 ?_
   refine kN [.no] True [(4, iV 0)] trivial ?_
   refine AW.ret ?_
   exact kC (.inr rfl) [] (P := (((uB a b) : Int) = 0)) zk dV
theorem k2p   : Fun 106 [.c (.d (D.lit (.bool true))), .c (.d (D.lit (.bool true)))] (kE []) 0 (iV 0) (kE []) 0 := by
 refine Fun.mk (n := 11) Tryz.func106 rfl rfl (ka4 rfl) ?_
 intro cx hcx
 refine kI [.no] True [(0, bV true), (1, bV true)] [] 0 trivial ?_
 refine AW.seq ?_
 refine AW.block ?_
 refine kN (kT 4 []) True [(0, bV true), (5, bV true)] trivial ?_
 refine zt ?_
 refine kN [.no] True [(4, iV 0)] trivial ?_
 refine AW.ret ?_
 exact kC (.inr rfl) [] (P := (kM 0)) zk rfl
theorem k2q   : Fun 106 [.c (.d (D.lit (.bool true))), .c (.d (D.lit (.bool false)))] (kE []) 0 (iV (-1)) (kE []) 0 := by
 refine Fun.mk (n := 11) Tryz.func106 rfl rfl (ka4 rfl) ?_
 intro cx hcx
 refine kI [.no] True [(0, bV true), (1, bV false)] [] 0 trivial ?_
 refine AW.seq ?_
 refine AW.block ?_
 refine kN (kT 4 []) True [(0, bV true), (5, bV false)] trivial ?_
 refine zf ?_
 refine kN [.no, .no] True [(9, bV true)] trivial ?_
 refine zt ?_
 refine kN [.no] True [(4, iV (-1))] trivial ?_
 refine AW.ret ?_
 exact kC (.inr rfl) [] (P := (kM (-1))) zk rfl
theorem k2r   : Fun 106 [.c (.d (D.lit (.bool false))), .c (.d (D.lit (.bool true)))] (kE []) 0 (iV 1) (kE []) 0 := by
 refine Fun.mk (n := 11) Tryz.func106 rfl rfl (ka4 rfl) ?_
 intro cx hcx
 refine kI [.no] True [(0, bV false), (1, bV true)] [] 0 trivial ?_
 refine AW.seq ?_
 refine AW.block ?_
 refine kN (kT 4 []) True [(0, bV false), (5, bV false)] trivial ?_
 refine zf ?_
 refine kN [.no, .no] True [(9, bV false)] trivial ?_
 refine q8 ?_
 refine kN [.no] True [(4, iV 1)] trivial ?_
 refine AW.ret ?_
 exact kC (.inr rfl) [] (P := (kM 1)) zk rfl
theorem k2s   : Fun 106 [.c (.d (D.lit (.bool false))), .c (.d (D.lit (.bool false)))] (kE []) 0 (iV 0) (kE []) 0 := by
 refine Fun.mk (n := 11) Tryz.func106 rfl rfl (ka4 rfl) ?_
 intro cx hcx
 refine kI [.no] True [(0, bV false), (1, bV false)] [] 0 trivial ?_
 refine AW.seq ?_
 refine AW.block ?_
 refine kN (kT 4 []) True [(0, bV false), (5, bV true)] trivial ?_
 refine zt ?_
 refine kN [.no] True [(4, iV 0)] trivial ?_
 refine AW.ret ?_
 exact kC (.inr rfl) [] (P := (kM 0)) zk rfl
theorem iZ (p q : Bool) : Fun 106 [.c (.d (D.lit (.bool (p)))), .c (.d (D.lit (.bool (q))))] (kE []) 0 (iV (bF p q)) (kE []) 0 := by
 cases p <;> cases q
 ·exact k2s
 ·exact k2r
 ·exact k2q
 ·exact k2p
theorem k6z (a b : Int) (ha : -9223372036854775808 ≤ a ∧ a ≤ 9223372036854775807) (hb : -9223372036854775808 ≤ b ∧ b ≤ 9223372036854775807) : Fun 109 [iE a, iE b] (kE []) 0 (qS (D.lit (.int .u64 (v3 a b)))) (kE []) 0 := by
 refine Fun.mk (n := 14) Tryz.func109 rfl rfl (ka4 rfl) ?_
 intro cx hcx
 refine kI [.no] True [(0, iV a), (1, iV b)] [] 0 trivial ?_
 refine kN (kT 10 []) True [(4, qS (D.lit (.int .u64 (IntKind.u64.wrap ((IntKind.u64.wrap (max a b)) - (IntKind.u64.wrap (min a b)))))))] trivial ?_
 refine AW.ret ?_
 exact kC (.inr rfl) [] (P := (((v3 a b) : Int) = (IntKind.u64.wrap ((IntKind.u64.wrap (max a b)) - (IntKind.u64.wrap (min a b)))))) zk (by exact u97 ha hb)
theorem k70 (a b : Int) (ha : -9223372036854775808 ≤ a ∧ a ≤ 9223372036854775807) (hb : -9223372036854775808 ≤ b ∧ b ≤ 9223372036854775807) : Fun 115 [iE a, iE b] (kE []) 0 (qS (D.lit (.int .u64 (v3 a b)))) (kE []) 0 := by
 refine Fun.mk (n := 18) Tryz.func115 rfl rfl (ka4 rfl) ?_
 intro cx hcx
 refine kI [.no] True [(0, iV a), (1, iV b)] [] 0 trivial ?_
 refine AW.seq ?_
 by_cases hx1 : (b < a)
 ·refine kN [.no, .no, .b true] ((b < a)) [(0, iV a), (1, iV b), (7, bV true)] zo ?_
  refine zt ?_
  refine kN (kT 6 []) True [(4, qS (D.lit (.int .u64 (IntKind.u64.wrap ((IntKind.u64.wrap a) - (IntKind.u64.wrap b))))))] trivial ?_
  refine AW.ret ?_
  exact kC (.inr rfl) [] (P := (((v3 a b) : Int) = (IntKind.u64.wrap ((IntKind.u64.wrap a) - (IntKind.u64.wrap b))))) zk (by exact u96 ha hb zo)
 ·refine kN [.no, .no, .b false] (¬ (b < a)) [(0, iV a), (1, iV b), (7, bV false)] zo ?_
  refine q8 ?_
  refine kN (kT 6 []) True [(4, qS (D.lit (.int .u64 (IntKind.u64.wrap ((IntKind.u64.wrap b) - (IntKind.u64.wrap a))))))] trivial ?_
  refine AW.ret ?_
  exact kC (.inr rfl) [] (P := (((v3 a b) : Int) = (IntKind.u64.wrap ((IntKind.u64.wrap b) - (IntKind.u64.wrap a))))) zk (by exact u95 ha hb zo)
theorem iY (a b : Int)  : Fun 114 [.c (.d (D.lit (.int .u64 a))), .c (.d (D.lit (.int .u64 b)))] (kE []) 0 (iV (uB a b)) (kE []) 0 := by
 refine Fun.mk (n := 13) Tryz.func114 rfl rfl (ka4 rfl) ?_
 intro cx hcx
 refine kI [.no] True [(0, qS (D.lit (.int .u64 a))), (1, qS (D.lit (.int .u64 b)))] [] 0 trivial ?_
 refine AW.seq ?_
 refine AW.block ?_
 by_cases hx1 : (a < b)
 ·refine kN [.no, .no, .b true, .no] ((a < b)) [(0, qS (D.lit (.int .u64 a))), (1, qS (D.lit (.int .u64 b))), (5, bV true)] zo ?_
  refine zt ?_
  refine kN [.no] True [(4, iV (-1))] trivial ?_
  refine AW.ret ?_
  exact kC (.inr rfl) [] (P := (((uB a b) : Int) = (-1))) zk dV
 ·refine kN [.no, .no, .b false, .no] (¬ (a < b)) [(0, qS (D.lit (.int .u64 a))), (1, qS (D.lit (.int .u64 b))), (5, bV false)] zo ?_
  refine zf ?_
  by_cases hx2 : (b < a)
  ·refine kN [.no, .no, .b true, .no] ((b < a)) [(9, bV true)] zo ?_
   refine zt ?_
   refine kN [.no] True [(4, iV 1)] trivial ?_
   refine AW.ret ?_
   exact kC (.inr rfl) [] (P := (((uB a b) : Int) = 1)) zk dV
  ·refine kN [.no, .no, .b false, .no] (¬ (b < a)) [(9, bV false)] zo ?_
   refine q8 ?_
   refine kN [.no] True [(4, iV 0)] trivial ?_
   refine AW.ret ?_
   exact kC (.inr rfl) [] (P := (((uB a b) : Int) = 0)) zk dV
theorem eN {p : Prop} (h : p := by unfold vG; (repeat' split) <;> omega) : p := h
theorem wW (x y : Int)  : Fun 105 [.c (.own 0 0 2 1 true)] (kE [(0, some (3, .ds [iD x, iD y]))]) 1 (iV (vG x y)) (kE [(0, some (3, .ds [iD x, iD y]))]) 1 := by
 refine Fun.mk (n := 18) Tryz.func105 rfl rfl (ka4 rfl) ?_
 intro cx hcx
 refine kI [.no] True [(0, oV 0 0 2 1)] [(0, some (3, .ds [iD x, iD y]))] 1 trivial ?_
 refine kN [.no] True [(0, oV 0 0 2 1), (3, iV 0)] trivial ?_
 refine AW.seq ?_
 refine kN [.no, .no, .no] True [(3, iV 0), (6, oV 0 0 2 1), (7, iV 2), (8, iV 0)] trivial ?_
 refine AW.block ?_
 refine AW.rounds 3 ?_
 refine AWr.s ?_
 refine kI [.b true] (((0 : Int) < 2)) [(3, iV 0), (6, oV 0 0 2 1), (7, iV 2), (8, iV 0), (9, bV true)] [(0, some (3, .ds [iD x, iD y]))] 1 zo ?_
 refine AW.seq ?_
 refine yW ?_
 refine AW.seq ?_
 refine AW.block ?_
 refine kN [.n2 0 0, .no, .no] ((kM 0) ∧ ((0 : Nat) < 2) ∧ ((0 : Nat) + 0 * 1 = 0)) [(3, iV 0), (5, iV x), (6, oV 0 0 2 1), (7, iV 2), (8, iV 0)] ⟨rfl, zo, zo⟩ ?_
 by_cases hx1 : (x ≠ 0)
 ·refine kN [.no, .no, .b true] ((x ≠ 0)) [(3, iV 0), (5, iV x), (6, oV 0 0 2 1), (7, iV 2), (8, iV 0), (14, bV true)] zo ?_
  refine zt ?_
  refine kN [.no, .no] True [(2, iV x)] trivial ?_
  refine AW.ret ?_
  exact kC (.inr rfl) [] (P := (((vG x y) : Int) = x) ∧ (kJ [iD x, iD y])) zk ⟨eN, rfl⟩
 ·refine kN [.no, .no, .b false] (¬ (x ≠ 0)) [(3, iV 0), (5, iV x), (6, oV 0 0 2 1), (7, iV 2), (8, iV 0), (14, bV false)] zo ?_
  refine q8 ?_
  refine uJ [.w, .no] (uZ (1 : Int)) [(3, iV 0), (6, oV 0 0 2 1), (7, iV 2), (8, iV 1)] ⟨by omega, by omega⟩ ?_
  refine AWr.s ?_
  refine kI [.b true] (((1 : Int) < 2)) [(3, iV 0), (6, oV 0 0 2 1), (7, iV 2), (8, iV 1), (9, bV true)] [(0, some (3, .ds [iD x, iD y]))] 1 zo ?_
  refine AW.seq ?_
  refine yW ?_
  refine AW.seq ?_
  refine AW.block ?_
  refine kN [.n2 1 1, .no, .no] ((kM 1) ∧ ((1 : Nat) < 2) ∧ ((0 : Nat) + 1 * 1 = 1)) [(3, iV 0), (5, iV y), (6, oV 0 0 2 1), (7, iV 2), (8, iV 1)] ⟨rfl, zo, zo⟩ ?_
  by_cases hx2 : (y ≠ 0)
  ·refine kN [.no, .no, .b true] ((y ≠ 0)) [(3, iV 0), (5, iV y), (6, oV 0 0 2 1), (7, iV 2), (8, iV 1), (14, bV true)] zo ?_
   refine zt ?_
   refine kN [.no, .no] True [(2, iV y)] trivial ?_
   refine AW.ret ?_
   exact kC (.inr rfl) [] (P := (((vG x y) : Int) = y) ∧ (kJ [iD x, iD y])) zk ⟨eN, rfl⟩
  ·refine kN [.no, .no, .b false] (¬ (y ≠ 0)) [(3, iV 0), (5, iV y), (6, oV 0 0 2 1), (7, iV 2), (8, iV 1), (14, bV false)] zo ?_
   refine q8 ?_
   refine uJ [.w, .no] (uZ (2 : Int)) [(3, iV 0), (6, oV 0 0 2 1), (7, iV 2), (8, iV 2)] ⟨by omega, by omega⟩ ?_
   refine AWr.s ?_
   refine kI [.b false] (¬ ((2 : Int) < 2)) [(3, iV 0), (6, oV 0 0 2 1), (7, iV 2), (8, iV 2), (9, bV false)] [(0, some (3, .ds [iD x, iD y]))] 1 zo ?_
   refine AW.seq ?_
   refine zf ?_
   refine AW.exit ?_
   refine kI [.no, .no] True [(2, iV 0)] [(0, some (3, .ds [iD x, iD y]))] 1 trivial ?_
   refine AW.ret ?_
   exact kC (.inr rfl) [] (P := (((vG x y) : Int) = 0) ∧ (kJ [iD x, iD y])) zk ⟨eN, rfl⟩
theorem u6q (x y z u : Int)  : Fun 105 [.c (.own 0 0 4 1 true)] (kE [(0, some (3, .ds [iD x, iD y, iD z, iD u]))]) 1 (iV (vG x (vG y (vG z u)))) (kE [(0, some (3, .ds [iD x, iD y, iD z, iD u]))]) 1 := by
 refine Fun.mk (n := 18) Tryz.func105 rfl rfl (ka4 rfl) ?_
 intro cx hcx
 refine kI [.no] True [(0, oV 0 0 4 1)] [(0, some (3, .ds [iD x, iD y, iD z, iD u]))] 1 trivial ?_
 refine kN [.no] True [(0, oV 0 0 4 1), (3, iV 0)] trivial ?_
 refine AW.seq ?_
 refine kN [.no, .no, .no] True [(3, iV 0), (6, oV 0 0 4 1), (7, iV 4), (8, iV 0)] trivial ?_
 refine AW.block ?_
 refine AW.rounds 5 ?_
 refine AWr.s ?_
 refine kI [.b true] (((0 : Int) < 4)) [(3, iV 0), (6, oV 0 0 4 1), (7, iV 4), (8, iV 0), (9, bV true)] [(0, some (3, .ds [iD x, iD y, iD z, iD u]))] 1 zo ?_
 refine AW.seq ?_
 refine yW ?_
 refine AW.seq ?_
 refine AW.block ?_
 refine kN [.n2 0 0, .no, .no] ((kM 0) ∧ ((0 : Nat) < 4) ∧ ((0 : Nat) + 0 * 1 = 0)) [(3, iV 0), (5, iV x), (6, oV 0 0 4 1), (7, iV 4), (8, iV 0)] ⟨rfl, zo, zo⟩ ?_
 by_cases hx1 : (x ≠ 0)
 ·refine kN [.no, .no, .b true] ((x ≠ 0)) [(3, iV 0), (5, iV x), (6, oV 0 0 4 1), (7, iV 4), (8, iV 0), (14, bV true)] zo ?_
  refine zt ?_
  refine kN [.no, .no] True [(2, iV x)] trivial ?_
  refine AW.ret ?_
  exact kC (.inr rfl) [] (P := (((vG x (vG y (vG z u))) : Int) = x) ∧ (kJ [iD x, iD y, iD z, iD u])) zk ⟨eN, rfl⟩
 ·refine kN [.no, .no, .b false] (¬ (x ≠ 0)) [(3, iV 0), (5, iV x), (6, oV 0 0 4 1), (7, iV 4), (8, iV 0), (14, bV false)] zo ?_
  refine q8 ?_
  refine uJ [.w, .no] (uZ (1 : Int)) [(3, iV 0), (6, oV 0 0 4 1), (7, iV 4), (8, iV 1)] ⟨by omega, by omega⟩ ?_
  refine AWr.s ?_
  refine kI [.b true] (((1 : Int) < 4)) [(3, iV 0), (6, oV 0 0 4 1), (7, iV 4), (8, iV 1), (9, bV true)] [(0, some (3, .ds [iD x, iD y, iD z, iD u]))] 1 zo ?_
  refine AW.seq ?_
  refine yW ?_
  refine AW.seq ?_
  refine AW.block ?_
  refine kN [.n2 1 1, .no, .no] ((kM 1) ∧ ((1 : Nat) < 4) ∧ ((0 : Nat) + 1 * 1 = 1)) [(3, iV 0), (5, iV y), (6, oV 0 0 4 1), (7, iV 4), (8, iV 1)] ⟨rfl, zo, zo⟩ ?_
  by_cases hx2 : (y ≠ 0)
  ·refine kN [.no, .no, .b true] ((y ≠ 0)) [(3, iV 0), (5, iV y), (6, oV 0 0 4 1), (7, iV 4), (8, iV 1), (14, bV true)] zo ?_
   refine zt ?_
   refine kN [.no, .no] True [(2, iV y)] trivial ?_
   refine AW.ret ?_
   exact kC (.inr rfl) [] (P := (((vG x (vG y (vG z u))) : Int) = y) ∧ (kJ [iD x, iD y, iD z, iD u])) zk ⟨eN, rfl⟩
  ·refine kN [.no, .no, .b false] (¬ (y ≠ 0)) [(3, iV 0), (5, iV y), (6, oV 0 0 4 1), (7, iV 4), (8, iV 1), (14, bV false)] zo ?_
   refine q8 ?_
   refine uJ [.w, .no] (uZ (2 : Int)) [(3, iV 0), (6, oV 0 0 4 1), (7, iV 4), (8, iV 2)] ⟨by omega, by omega⟩ ?_
   refine AWr.s ?_
   refine kI [.b true] (((2 : Int) < 4)) [(3, iV 0), (6, oV 0 0 4 1), (7, iV 4), (8, iV 2), (9, bV true)] [(0, some (3, .ds [iD x, iD y, iD z, iD u]))] 1 zo ?_
   refine AW.seq ?_
   refine yW ?_
   refine AW.seq ?_
   refine AW.block ?_
   refine kN [.n2 2 2, .no, .no] ((kM 2) ∧ ((2 : Nat) < 4) ∧ ((0 : Nat) + 2 * 1 = 2)) [(3, iV 0), (5, iV z), (6, oV 0 0 4 1), (7, iV 4), (8, iV 2)] ⟨rfl, zo, zo⟩ ?_
   by_cases hx3 : (z ≠ 0)
   ·refine kN [.no, .no, .b true] ((z ≠ 0)) [(3, iV 0), (5, iV z), (6, oV 0 0 4 1), (7, iV 4), (8, iV 2), (14, bV true)] zo ?_
    refine zt ?_
    refine kN [.no, .no] True [(2, iV z)] trivial ?_
    refine AW.ret ?_
    exact kC (.inr rfl) [] (P := (((vG x (vG y (vG z u))) : Int) = z) ∧ (kJ [iD x, iD y, iD z, iD u])) zk ⟨eN, rfl⟩
   ·refine kN [.no, .no, .b false] (¬ (z ≠ 0)) [(3, iV 0), (5, iV z), (6, oV 0 0 4 1), (7, iV 4), (8, iV 2), (14, bV false)] zo ?_
    refine q8 ?_
    refine uJ [.w, .no] (uZ (3 : Int)) [(3, iV 0), (6, oV 0 0 4 1), (7, iV 4), (8, iV 3)] ⟨by omega, by omega⟩ ?_
    refine AWr.s ?_
    refine kI [.b true] (((3 : Int) < 4)) [(3, iV 0), (6, oV 0 0 4 1), (7, iV 4), (8, iV 3), (9, bV true)] [(0, some (3, .ds [iD x, iD y, iD z, iD u]))] 1 zo ?_
    refine AW.seq ?_
    refine yW ?_
    refine AW.seq ?_
    refine AW.block ?_
    refine kN [.n2 3 3, .no, .no] ((kM 3) ∧ ((3 : Nat) < 4) ∧ ((0 : Nat) + 3 * 1 = 3)) [(3, iV 0), (5, iV u), (6, oV 0 0 4 1), (7, iV 4), (8, iV 3)] ⟨rfl, zo, zo⟩ ?_
    by_cases hx4 : (u ≠ 0)
    ·refine kN [.no, .no, .b true] ((u ≠ 0)) [(3, iV 0), (5, iV u), (6, oV 0 0 4 1), (7, iV 4), (8, iV 3), (14, bV true)] zo ?_
     refine zt ?_
     refine kN [.no, .no] True [(2, iV u)] trivial ?_
     refine AW.ret ?_
     exact kC (.inr rfl) [] (P := (((vG x (vG y (vG z u))) : Int) = u) ∧ (kJ [iD x, iD y, iD z, iD u])) zk ⟨eN, rfl⟩
    ·refine kN [.no, .no, .b false] (¬ (u ≠ 0)) [(3, iV 0), (5, iV u), (6, oV 0 0 4 1), (7, iV 4), (8, iV 3), (14, bV false)] zo ?_
     refine q8 ?_
     refine uJ [.w, .no] (uZ (4 : Int)) [(3, iV 0), (6, oV 0 0 4 1), (7, iV 4), (8, iV 4)] ⟨by omega, by omega⟩ ?_
     refine AWr.s ?_
     refine kI [.b false] (¬ ((4 : Int) < 4)) [(3, iV 0), (6, oV 0 0 4 1), (7, iV 4), (8, iV 4), (9, bV false)] [(0, some (3, .ds [iD x, iD y, iD z, iD u]))] 1 zo ?_
     refine AW.seq ?_
     refine zf ?_
     refine AW.exit ?_
     refine kI [.no, .no] True [(2, iV 0)] [(0, some (3, .ds [iD x, iD y, iD z, iD u]))] 1 trivial ?_
     refine AW.ret ?_
     exact kC (.inr rfl) [] (P := (((vG x (vG y (vG z u))) : Int) = 0) ∧ (kJ [iD x, iD y, iD z, iD u])) zk ⟨eN, rfl⟩
theorem k6x (w a b : Int) (hw : -9223372036854775808 ≤ w ∧ w ≤ 9223372036854775807) (ha : -9223372036854775808 ≤ a ∧ a ≤ 9223372036854775807) (hb : -9223372036854775808 ≤ b ∧ b ≤ 9223372036854775807) : Fun 66 [iE w, iE a, iE b] (kE []) 0 (iV (aH w a b)) (kE []) 0 := by
 refine Fun.mk (n := 19) Tryz.func66 rfl rfl (ka4 rfl) ?_
 intro cx hcx
 refine kI [.no] True [(0, iV w), (1, iV a), (2, iV b)] [] 0 trivial ?_
 have hx1 : ((0 : Int) ≤ (v3 w a)) := k1b w a
 have hx2 : ((0 : Int) ≤ (v3 w b)) := k1b w b
 refine kI [.no, .no, .call [] (qS (D.lit (.int .u64 (v3 w a)))) [] 0 [] none, .no, .no, .call [] (qS (D.lit (.int .u64 (v3 w b)))) [] 0 [] none, .call [] (iV (uB (v3 w a) (v3 w b))) [] 0 [] none, .no, .no, .call [] (iV (uB a b)) [] 0 [] none, .no, .call [0] (iV (vG (uB (v3 w a) (v3 w b)) (uB a b))) [(0, some (3, .ds [iD (uB (v3 w a) (v3 w b)), iD (uB a b)]))] 1 [] none, .no] ((_) ∧ (_) ∧ (_) ∧ (_) ∧ (_)) [(6, iV (vG (uB (v3 w a) (v3 w b)) (uB a b)))] [] 1 ⟨(k6z w a zo zo), (k6z w b zo zo), (k2t (v3 w a) (v3 w b)), (aQ a b), (wW (uB (v3 w a) (v3 w b)) (uB a b))⟩ ?_
 refine AW.ret ?_
 exact kC (.inr rfl) [] (P := (((aH w a b) : Int) = (vG (uB (v3 w a) (v3 w b)) (uB a b)))) zk (by rfl)
theorem k1f (w a b : Int) (hw : -9223372036854775808 ≤ w ∧ w ≤ 9223372036854775807) (ha : -9223372036854775808 ≤ a ∧ a ≤ 9223372036854775807) (hb : -9223372036854775808 ≤ b ∧ b ≤ 9223372036854775807) : Fun 71 [iE w, iE a, iE b] (kE []) 0 (iV (aH w a b)) (kE []) 0 := by
 have hc1 : v3 a w = v3 w a := dL a w
 have hc2 : v3 b w = v3 w b := dL b w
 refine Fun.mk (n := 26) Tryz.func71 rfl rfl (ka4 rfl) ?_
 intro cx hcx
 refine kI [.no] True [(0, iV w), (1, iV a), (2, iV b)] [] 0 trivial ?_
 refine AW.seq ?_
 have hx1 : ((0 : Int) ≤ (v3 a w)) := k1b a w
 have hx2 : ((0 : Int) ≤ (v3 b w)) := k1b b w
 refine kN [.no, .no, .call [] (qS (D.lit (.int .u64 (v3 a w)))) [] 0 [] none, .no, .no, .call [] (qS (D.lit (.int .u64 (v3 b w)))) [] 0 [] none, .call [] (iV (uB (v3 a w) (v3 b w))) [] 0 [] none, .no] ((_) ∧ (_) ∧ (_)) [(1, iV a), (2, iV b), (7, iV (uB (v3 a w) (v3 b w)))] ⟨(k70 a w zo zo), (k70 b w zo zo), (iY (v3 a w) (v3 b w))⟩ ?_
 by_cases hx3 : ((uB (v3 a w) (v3 b w)) ≠ 0)
 ·refine kN [.no, .b true] (((uB (v3 a w) (v3 b w)) ≠ 0)) [(1, iV a), (2, iV b), (7, iV (uB (v3 a w) (v3 b w))), (16, bV true)] zo ?_
  refine zt ?_
  refine kN [.no, .no] True [(6, iV (uB (v3 a w) (v3 b w)))] trivial ?_
  refine AW.ret ?_
  exact kC (.inr rfl) [] (P := (((aH w a b) : Int) = (uB (v3 a w) (v3 b w)))) zk (by exact u87 zo)
 ·refine kN [.no, .b false] (¬ ((uB (v3 a w) (v3 b w)) ≠ 0)) [(1, iV a), (2, iV b), (7, iV (uB (v3 a w) (v3 b w))), (16, bV false)] zo ?_
  refine q8 ?_
  refine AW.seq ?_
  refine AW.block ?_
  by_cases hx4 : (a < b)
  ·refine kN [.no, .no, .b true, .no] ((a < b)) [(1, iV a), (2, iV b), (18, bV true)] zo ?_
   refine zt ?_
   refine kN [.no] True [(6, iV (-1))] trivial ?_
   refine AW.ret ?_
   exact kC (.inr rfl) [] (P := (((aH w a b) : Int) = (-1))) zk (by exact u1z zo (by exact u63 zo))
  ·refine kN [.no, .no, .b false, .no] (¬ (a < b)) [(1, iV a), (2, iV b), (18, bV false)] zo ?_
   refine zf ?_
   by_cases hx5 : (b < a)
   ·refine kN [.no, .no, .b true, .no] ((b < a)) [(22, bV true)] zo ?_
    refine zt ?_
    refine kN [.no] True [(6, iV 1)] trivial ?_
    refine AW.ret ?_
    exact kC (.inr rfl) [] (P := (((aH w a b) : Int) = 1)) zk (by exact u1z zo (by exact u65 zo))
   ·refine kN [.no, .no, .b false, .no] (¬ (b < a)) [(22, bV false)] zo ?_
    refine q8 ?_
    refine kN [.no] True [(6, iV 0)] trivial ?_
    refine AW.ret ?_
    exact kC (.inr rfl) [] (P := (((aH w a b) : Int) = 0)) zk (by exact u1z zo (by exact lB.2 zo))
theorem sM (w a b : Int)  : Fun 64 [iE w, iE a, iE b] (kE []) 0 (iV (vQ w a b)) (kE []) 0 := by
 refine Fun.mk (n := 19) Tryz.func64 rfl rfl (ka4 rfl) ?_
 intro cx hcx
 refine kI [.no] True [(0, iV w), (1, iV a), (2, iV b)] [] 0 trivial ?_
 by_cases hx1 : (a = w)
 ·by_cases hx2 : (b = w)
  ·have hx3 : ((((-1) : Int) ≤ (bF true true)) ∧ ((bF true true) ≤ 1)) := eA true true
   refine kI [.no, .no, .b true, .no, .no, .b true, .call [] (iV (bF true true)) [] 0 [] none, .no, .no, .call [] (iV (uB b a)) [] 0 [] none, .no, .call [0] (iV (vG (bF true true) (uB b a))) [(0, some (3, .ds [iD (bF true true), iD (uB b a)]))] 1 [] none, .no] (((a = w)) ∧ ((b = w)) ∧ (_) ∧ (_) ∧ (_)) [(6, iV (vG (bF true true) (uB b a)))] [] 1 ⟨zo, zo, (iZ true true), (aQ b a), (wW (bF true true) (uB b a))⟩ ?_
   refine AW.ret ?_
   exact kC (.inr rfl) [] (P := (((vQ w a b) : Int) = (vG (bF true true) (uB b a)))) zk (by (unfold vQ; (unfold vG bF uB; (repeat' split) <;> simp_all <;> omega)))
  ·have hx4 : ((((-1) : Int) ≤ (bF true false)) ∧ ((bF true false) ≤ 1)) := eA true false
   refine kI [.no, .no, .b true, .no, .no, .b false, .call [] (iV (bF true false)) [] 0 [] none, .no, .no, .call [] (iV (uB b a)) [] 0 [] none, .no, .call [0] (iV (vG (bF true false) (uB b a))) [(0, some (3, .ds [iD (bF true false), iD (uB b a)]))] 1 [] none, .no] (((a = w)) ∧ (¬ (b = w)) ∧ (_) ∧ (_) ∧ (_)) [(6, iV (vG (bF true false) (uB b a)))] [] 1 ⟨zo, zo, (iZ true false), (aQ b a), (wW (bF true false) (uB b a))⟩ ?_
   refine AW.ret ?_
   exact kC (.inr rfl) [] (P := (((vQ w a b) : Int) = (vG (bF true false) (uB b a)))) zk (by (unfold vQ; (unfold vG bF uB; (repeat' split) <;> simp_all <;> omega)))
 ·by_cases hx5 : (b = w)
  ·have hx6 : ((((-1) : Int) ≤ (bF false true)) ∧ ((bF false true) ≤ 1)) := eA false true
   refine kI [.no, .no, .b false, .no, .no, .b true, .call [] (iV (bF false true)) [] 0 [] none, .no, .no, .call [] (iV (uB b a)) [] 0 [] none, .no, .call [0] (iV (vG (bF false true) (uB b a))) [(0, some (3, .ds [iD (bF false true), iD (uB b a)]))] 1 [] none, .no] ((¬ (a = w)) ∧ ((b = w)) ∧ (_) ∧ (_) ∧ (_)) [(6, iV (vG (bF false true) (uB b a)))] [] 1 ⟨zo, zo, (iZ false true), (aQ b a), (wW (bF false true) (uB b a))⟩ ?_
   refine AW.ret ?_
   exact kC (.inr rfl) [] (P := (((vQ w a b) : Int) = (vG (bF false true) (uB b a)))) zk (by (unfold vQ; (unfold vG bF uB; (repeat' split) <;> simp_all <;> omega)))
  ·have hx7 : ((((-1) : Int) ≤ (bF false false)) ∧ ((bF false false) ≤ 1)) := eA false false
   refine kI [.no, .no, .b false, .no, .no, .b false, .call [] (iV (bF false false)) [] 0 [] none, .no, .no, .call [] (iV (uB b a)) [] 0 [] none, .no, .call [0] (iV (vG (bF false false) (uB b a))) [(0, some (3, .ds [iD (bF false false), iD (uB b a)]))] 1 [] none, .no] ((¬ (a = w)) ∧ (¬ (b = w)) ∧ (_) ∧ (_) ∧ (_)) [(6, iV (vG (bF false false) (uB b a)))] [] 1 ⟨zo, zo, (iZ false false), (aQ b a), (wW (bF false false) (uB b a))⟩ ?_
   refine AW.ret ?_
   exact kC (.inr rfl) [] (P := (((vQ w a b) : Int) = (vG (bF false false) (uB b a)))) zk (by (unfold vQ; (unfold vG bF uB; (repeat' split) <;> simp_all <;> omega)))
theorem nC (w a b : Int)  : Fun 70 [iE w, iE a, iE b] (kE []) 0 (iV (vQ w a b)) (kE []) 0 := by
 refine Fun.mk (n := 23) Tryz.func70 rfl rfl (ka4 rfl) ?_
 intro cx hcx
 refine kI [.no] True [(0, iV w), (1, iV a), (2, iV b)] [] 0 trivial ?_
 refine AW.seq ?_
 by_cases hx1 : (a = b)
 ·refine kN [.no, .no, .b true] ((a = b)) [(0, iV w), (1, iV a), (2, iV b), (9, bV true)] zo ?_
  refine zt ?_
  refine kN [.no] True [(6, iV 0)] trivial ?_
  refine AW.ret ?_
  exact kC (.inr rfl) [] (P := (((vQ w a b) : Int) = 0)) zk (by (unfold vQ; (unfold vG bF uB; (repeat' split) <;> simp_all <;> omega)))
 ·refine kN [.no, .no, .b false] (¬ (a = b)) [(0, iV w), (1, iV a), (2, iV b), (9, bV false)] zo ?_
  refine q8 ?_
  refine AW.seq ?_
  by_cases hx2 : (a = w)
  ·refine kN [.no, .no, .b true, .no, .no] ((a = w)) [(22, bV true)] zo ?_
   refine zt ?_
   refine kN [.no] True [(6, iV (-1))] trivial ?_
   refine AW.ret ?_
   exact kC (.inr rfl) [] (P := (((vQ w a b) : Int) = (-1))) zk (by (unfold vQ; (unfold vG bF uB; (repeat' split) <;> simp_all <;> omega)))
  ·by_cases hx3 : (b ≠ w)
   ·by_cases hx4 : (b < a)
    ·refine kN [.no, .no, .b false, .no, .no, .no, .b true, .no, .no, .no, .b true, .no, .no] ((¬ (a = w)) ∧ ((b ≠ w)) ∧ ((b < a))) [(22, bV true)] ⟨zo, zo, zo⟩ ?_
     refine zt ?_
     refine kN [.no] True [(6, iV (-1))] trivial ?_
     refine AW.ret ?_
     exact kC (.inr rfl) [] (P := (((vQ w a b) : Int) = (-1))) zk (by (unfold vQ; (unfold vG bF uB; (repeat' split) <;> simp_all <;> omega)))
    ·refine kN [.no, .no, .b false, .no, .no, .no, .b true, .no, .no, .no, .b false, .no, .no] ((¬ (a = w)) ∧ ((b ≠ w)) ∧ (¬ (b < a))) [(22, bV false)] ⟨zo, zo, zo⟩ ?_
     refine q8 ?_
     refine kN [.no] True [(6, iV 1)] trivial ?_
     refine AW.ret ?_
     exact kC (.inr rfl) [] (P := (((vQ w a b) : Int) = 1)) zk (by (unfold vQ; (unfold vG bF uB; (repeat' split) <;> simp_all <;> omega)))
   ·refine kN [.no, .no, .b false, .no, .no, .no, .b false, .no, .no, .no] ((¬ (a = w)) ∧ (¬ (b ≠ w))) [(22, bV false)] ⟨zo, zo⟩ ?_
    refine q8 ?_
    refine kN [.no] True [(6, iV 1)] trivial ?_
    refine AW.ret ?_
    exact kC (.inr rfl) [] (P := (((vQ w a b) : Int) = 1)) zk (by (unfold vQ; (unfold vG bF uB; (repeat' split) <;> simp_all <;> omega)))
theorem u34 (a b : List Int) (n m : Nat) (hn : ka0 a = n) (hm : ka0 b = m) (h2 : n ≤ 1000000) (h3 : m ≤ 1000000) : Fun 113 [.c (.d (D.sl (dI .i64 a) n)), .c (.d (D.sl (dI .i64 b) m))] (kE []) 0 (iV (dS a b)) (kE []) 0 := by
 refine Fun.mk (n := 36) Tryz.func113 rfl rfl (ka4 rfl) ?_
 intro cx hcx
 refine kI [.no] True [(0, sV .i64 a n), (1, sV .i64 b m)] [] 0 trivial ?_
 refine AW.seq ?_
 refine kN [.no, .no, .no] True [(0, sV .i64 a n), (1, sV .i64 b m), (9, sV .i64 a n), (10, uV n), (11, iV 0)] trivial ?_
 refine AW.block ?_
 refine kU 0 hcx (fun (x : {x : Nat // match x with | k => (k ≤ n ∧ k ≤ m) ∧ (dS a b = dS (ka3 k a) (ka3 k b))}) => match x with | ⟨k, _⟩ => (⟨[(0, sV .i64 a n), (1, sV .i64 b m), (9, sV .i64 a n), (10, uV n), (11, uV k)], [], 0⟩ : ES)) (fun x => match x with | ⟨k, _⟩ => n - k) ⟨(0 : Nat), ⟨zo, rfl⟩⟩ [] (P := (kJ (dI .i64 a)) ∧ (kG n) ∧ (kJ (dI .i64 b)) ∧ (kG m) ∧ (kJ (dI .i64 a)) ∧ (kG n) ∧ (kM (n : Int)) ∧ (kM 0)) zk ⟨rfl, rfl, rfl, rfl, rfl, rfl, rfl, rfl⟩ ?_
 rintro ⟨k, hinv0⟩
 obtain ⟨hk, hx⟩ : (k ≤ n ∧ k ≤ m) ∧ (dS a b = dS (ka3 k a) (ka3 k b)) := hinv0
 refine qN (l := [(0, sV .i64 a n), (1, sV .i64 b m), (9, sV .i64 a n), (10, uV n), (11, uV k)]) (g := []) (nx := 0) rfl rfl rfl ?_
 by_cases hx1 : (((k : Nat) : Int) < ((n : Nat) : Int))
 ·refine kI [.b true] (((k : Int) < (n : Int))) [(0, sV .i64 a n), (1, sV .i64 b m), (9, sV .i64 a n), (10, uV n), (11, uV k), (12, bV true)] [] 0 zo ?_
  refine AW.seq ?_
  refine yW ?_
  refine AW.seq ?_
  refine AW.block ?_
  refine kN [.no, .n k, .d (D.lit (.int .i64 (ka1 a k 0))), .no, .no] ((kM (k : Int)) ∧ (k < n) ∧ ((ka3 k (dI .i64 a))[0]? = some (D.lit (.int .i64 (ka1 a k 0))))) [(0, sV .i64 a n), (1, sV .i64 b m), (5, uV k), (6, iV (ka1 a k 0)), (9, sV .i64 a n), (10, uV n), (11, uV k)] ⟨rfl, zo, (uI _ _ _ zo)⟩ ?_
  refine AW.seq ?_
  by_cases hx2 : (((m : Nat) : Int) ≤ ((k : Nat) : Int))
  ·refine kN [.no, .no, .no, .b true] (((m : Int) ≤ (k : Int))) [(0, sV .i64 a n), (1, sV .i64 b m), (5, uV k), (6, iV (ka1 a k 0)), (9, sV .i64 a n), (10, uV n), (11, uV k), (19, bV true)] zo ?_
   refine zt ?_
   refine kN [.no] True [(4, iV 1)] trivial ?_
   refine AW.ret ?_
   exact kC (.inr rfl) [] (P := (((dS a b) : Int) = 1)) zk (by exact (u56 hx zo zo))
  ·refine kN [.no, .no, .no, .b false] (¬ ((m : Int) ≤ (k : Int))) [(0, sV .i64 a n), (1, sV .i64 b m), (5, uV k), (6, iV (ka1 a k 0)), (9, sV .i64 a n), (10, uV n), (11, uV k), (19, bV false)] zo ?_
   refine q8 ?_
   refine kN [.no, .no, .n k, .d (D.lit (.int .i64 (ka1 b k 0))), .no] ((kM (k : Int)) ∧ (k < m) ∧ ((ka3 k (dI .i64 b))[0]? = some (D.lit (.int .i64 (ka1 b k 0))))) [(0, sV .i64 a n), (1, sV .i64 b m), (6, iV (ka1 a k 0)), (7, iV (ka1 b k 0)), (9, sV .i64 a n), (10, uV n), (11, uV k)] ⟨rfl, zo, (uI _ _ _ zo)⟩ ?_
   refine kN [.no, .no, .call [] (iV (uB (ka1 a k 0) (ka1 b k 0))) [] 0 [] none, .no] _ [(0, sV .i64 a n), (1, sV .i64 b m), (8, iV (uB (ka1 a k 0) (ka1 b k 0))), (9, sV .i64 a n), (10, uV n), (11, uV k)] (aQ (ka1 a k 0) (ka1 b k 0)) ?_
   by_cases hx3 : ((uB (ka1 a k 0) (ka1 b k 0)) ≠ 0)
   ·refine kN [.no, .b true] (((uB (ka1 a k 0) (ka1 b k 0)) ≠ 0)) [(0, sV .i64 a n), (1, sV .i64 b m), (8, iV (uB (ka1 a k 0) (ka1 b k 0))), (9, sV .i64 a n), (10, uV n), (11, uV k), (28, bV true)] zo ?_
    refine zt ?_
    refine kN [.no, .no] True [(4, iV (uB (ka1 a k 0) (ka1 b k 0)))] trivial ?_
    refine AW.ret ?_
    exact kC (.inr rfl) [] (P := (((dS a b) : Int) = (uB (ka1 a k 0) (ka1 b k 0)))) zk (by exact (k4i hx zo zo zo))
   ·refine kN [.no, .b false] (¬ ((uB (ka1 a k 0) (ka1 b k 0)) ≠ 0)) [(0, sV .i64 a n), (1, sV .i64 b m), (8, iV (uB (ka1 a k 0) (ka1 b k 0))), (9, sV .i64 a n), (10, uV n), (11, uV k), (28, bV false)] zo ?_
    refine q8 ?_
    refine uJ [.w, .no] (uZ ((k : Int) + 1)) [(0, sV .i64 a n), (1, sV .i64 b m), (9, sV .i64 a n), (10, uV n), (11, iV (↑k + 1))] ⟨by omega, by omega⟩ ?_
    exact kX ⟨((k + 1) : Nat), ⟨zo, (rK hx zo zo zo)⟩⟩ [] (P := (kJ (dI .i64 a)) ∧ (kG n) ∧ (kJ (dI .i64 b)) ∧ (kG m) ∧ (kJ (dI .i64 a)) ∧ (kG n) ∧ (kM (n : Int)) ∧ (vX k)) zk ⟨rfl, rfl, rfl, rfl, rfl, rfl, rfl, (by rfl)⟩ (show n - (k + 1) < n - k from zo)
 ·refine kI [.b false] (¬ ((k : Int) < (n : Int))) [(0, sV .i64 a n), (1, sV .i64 b m), (9, sV .i64 a n), (10, uV n), (11, uV k), (12, bV false)] [] 0 zo ?_
  refine AW.seq ?_
  refine zf ?_
  refine AW.exit ?_
  refine AW.seq ?_
  by_cases hx4 : (((n : Nat) : Int) < ((m : Nat) : Int))
  ·refine kI (kT 4 [.b true]) (((n : Int) < (m : Int))) [(35, bV true)] [] 0 zo ?_
   refine zt ?_
   refine kN [.no] True [(4, iV (-1))] trivial ?_
   refine AW.ret ?_
   exact kC (.inr rfl) [] (P := (((dS a b) : Int) = (-1))) zk (by exact (u54 hx zo zo))
  ·refine kI (kT 4 [.b false]) (¬ ((n : Int) < (m : Int))) [(35, bV false)] [] 0 zo ?_
   refine q8 ?_
   refine kN [.no] True [(4, iV 0)] trivial ?_
   refine AW.ret ?_
   exact kC (.inr rfl) [] (P := (((dS a b) : Int) = 0)) zk (by exact (k4j hx zo zo))
theorem wV (w a : List Int) (o n : Nat) (ho : ka0 w = o) (hn : ka0 a = n) (h1 : o ≤ 1000000) (h2 : n ≤ 1000000) : Fun 110 [.c (.d (D.sl (dI .i64 a) n)), .c (.ptr 0 0)] (kE [(0, some (23, .ds [D.sl (dI .i64 w) o]))]) 1 (iV (gC w a)) (kE [(0, some (23, .ds [D.sl (dI .i64 w) o]))]) 1 := by
 refine Fun.mk (n := 8) Tryz.func110 rfl rfl (ka4 rfl) ?_
 intro cx hcx
 refine kI [.no] True [(0, sV .i64 a n), (1, rV 0 0)] [(0, some (23, .ds [dl w o]))] 1 trivial ?_
 have hx1 : ((ka0 (yZ w a n)) ≤ o) := (by have h9 := fW w a n; omega)
 refine kN [.no, .no, .call [] (sV .i64 (yZ w a n) (ka0 (yZ w a n))) [] 0 [] none, .no, .no] _ [(3, uV (ka0 (yZ w a n)))] (k73 w a o n zo zo zo zo) ?_
 refine AW.ret ?_
 exact kC (.inr rfl) [] (P := (((gC w a) : Int) = (ka0 (yZ w a n) : Int)) ∧ (kJ [dl w o])) zk ⟨(by (unfold gC; rw [hn])), rfl⟩
theorem k6y (w a b : List Int) (o n m : Nat) (ho : ka0 w = o) (hn : ka0 a = n) (hm : ka0 b = m) (h1 : o ≤ 1000000) (h2 : n ≤ 1000000) (h3 : m ≤ 1000000) : Fun 68 [.c (.d (D.sl (dI .i64 w) o)), .c (.d (D.sl (dI .i64 a) n)), .c (.d (D.sl (dI .i64 b) m))] (kE []) 0 (iV (yY w a b)) (kE []) 0 := by
 refine Fun.mk (n := 33) Tryz.func68 rfl rfl (ka4 rfl) ?_
 intro cx hcx
 refine kI [.no, .no] True [(1, sV .i64 a n), (2, sV .i64 b m), (3, rV 0 0)] [(0, some (23, .ds [dl w o]))] 1 trivial ?_
 refine kN [.no, .no] True [(1, sV .i64 a n), (2, sV .i64 b m), (3, rV 0 0), (7, .e (.c (.fn 110 [(0, 0)])))] trivial ?_
 have hx1 : ((((-1) : Int) ≤ (bF (vO a w) (vO b w))) ∧ ((bF (vO a w) (vO b w)) ≤ 1)) := eA (vO a w) (vO b w)
 have hx2 : ((0 : Int) ≤ (gC w b)) := Int.natCast_nonneg _
 have hx3 : ((0 : Int) ≤ (gC w a)) := Int.natCast_nonneg _
 have hx4 : ((((-1) : Int) ≤ (dS a b)) ∧ ((dS a b) ≤ 1)) := rL a b
 refine kI [.no, .no, .call [] (qS (D.lit (.bool (vO a w)))) [] 0 [] none, .no, .no, .call [] (qS (D.lit (.bool (vO b w)))) [] 0 [] none, .call [] (iV (bF (vO a w) (vO b w))) [] 0 [] none, .no, .no, .call [0] (iV (gC w b)) [(0, some (23, .ds [dl w o]))] 1 [] none, .no, .no, .call [0] (iV (gC w a)) [(0, some (23, .ds [dl w o]))] 1 [] none, .call [] (iV (uB (gC w b) (gC w a))) [] 0 [] none, .no, .no, .no, .no, .call [] (iV (uB (n : Int) (m : Int))) [] 0 [] none, .no, .no, .call [] (iV (dS a b)) [] 0 [] none, .no, .call [1] (iV (vG (bF (vO a w) (vO b w)) (vG (uB (gC w b) (gC w a)) (vG (uB (n : Int) (m : Int)) (dS a b))))) [(0, some (3, .ds [iD (bF (vO a w) (vO b w)), iD (uB (gC w b) (gC w a)), iD (uB (n : Int) (m : Int)), iD (dS a b)]))] 1 [] none, .no] ((_) ∧ (_) ∧ (_) ∧ (_) ∧ (_) ∧ (_) ∧ (_) ∧ (_) ∧ (_)) [(6, iV (vG (bF (vO a w) (vO b w)) (vG (uB (gC w b) (gC w a)) (vG (uB ↑n ↑m) (dS a b)))))] [] 2 ⟨(z6 a w n o zo zo zo zo), (z6 b w m o zo zo zo zo), (iZ (vO a w) (vO b w)), (wV w b o m zo zo zo zo), (wV w a o n zo zo zo zo), (aQ (gC w b) (gC w a)), (aQ (n : Int) (m : Int)), (u34 a b n m zo zo zo zo), (u6q (bF (vO a w) (vO b w)) (uB (gC w b) (gC w a)) (uB (n : Int) (m : Int)) (dS a b))⟩ ?_
 refine AW.ret ?_
 exact kC (.inr rfl) [] (P := (((yY w a b) : Int) = (vG (bF (vO a w) (vO b w)) (vG (uB (gC w b) (gC w a)) (vG (uB (n : Int) (m : Int)) (dS a b)))))) zk (by (unfold yY; rw [hn, hm]))
theorem sL (w a b : List Int) (o n m : Nat) (ho : ka0 w = o) (hn : ka0 a = n) (hm : ka0 b = m) (h1 : o ≤ 1000000) (h2 : n ≤ 1000000) (h3 : m ≤ 1000000) : Fun 72 [.c (.d (D.sl (dI .i64 w) o)), .c (.d (D.sl (dI .i64 a) n)), .c (.d (D.sl (dI .i64 b) m))] (kE []) 0 (iV (yY w a b)) (kE []) 0 := by
 have hca : ((ka0 (yZ w a n) : Nat) : Int) = gC w a := by unfold gC; rw [hn]
 have hcb : ((ka0 (yZ w b m) : Nat) : Int) = gC w b := by unfold gC; rw [hm]
 have hzz : ∀ x y : Int, uB x y = 0 → x = y := fun x y h => lB.1 h
 refine Fun.mk (n := 70) Tryz.func72 rfl rfl (ka4 rfl) ?_
 intro cx hcx
 refine kI [.no] True [(0, sV .i64 w o), (1, sV .i64 a n), (2, sV .i64 b m)] [] 0 trivial ?_
 refine AW.seq ?_
 rcases ka6 (vO a w) with hx1 | hx1
 ·rcases ka6 (vO b w) with hx2 | hx2
  ·refine kN [.no, .no, .call [] (bV true) [] 0 [] none, .no, .no, .call [] (bV true) [] 0 [] none, .no, .no] ((Fun 94 [.c (.d (dl a n)), .c (.d (dl w o))] (kE []) 0 (bV true) (kE []) 0) ∧ (Fun 94 [.c (.d (dl b m)), .c (.d (dl w o))] (kE []) 0 (bV true) (kE []) 0)) [(0, sV .i64 w o), (1, sV .i64 a n), (2, sV .i64 b m), (7, bV true), (8, bV true)] ⟨(by have h0 := (aL a w n o zo zo zo zo); rw [hx1] at h0; exact h0), (by have h0 := (aL b w m o zo zo zo zo); rw [hx2] at h0; exact h0)⟩ ?_
   refine kN [.no, .no, .no] True [(0, sV .i64 w o), (1, sV .i64 a n), (2, sV .i64 b m), (7, bV true), (20, bV false)] trivial ?_
   refine q8 ?_
   refine AW.seq ?_
   have hx3 : ((ka0 (yZ w b m)) ≤ o) := (by have h9 := fW w b m; omega)
   have hx4 : ((ka0 (yZ w a n)) ≤ o) := (by have h9 := fW w a n; omega)
   refine kN [.no, .no, .call [] (sV .i64 (yZ w b m) (ka0 (yZ w b m))) [] 0 [] none, .no, .w, .no, .no, .call [] (sV .i64 (yZ w a n) (ka0 (yZ w a n))) [] 0 [] none, .no, .w, .call [] (iV (uB (ka0 (yZ w b m) : Int) (ka0 (yZ w a n) : Int))) [] 0 [] none, .no] ((_) ∧ (0 ≤ (ka0 (yZ w b m) : Int) ∧ (ka0 (yZ w b m) : Int) ≤ 18446744073709551615) ∧ (_) ∧ (0 ≤ (ka0 (yZ w a n) : Int) ∧ (ka0 (yZ w a n) : Int) ≤ 18446744073709551615) ∧ (_)) [(1, sV .i64 a n), (2, sV .i64 b m), (9, iV (uB (ka0 (yZ w b m) : Int) (ka0 (yZ w a n) : Int)))] ⟨(f4 w b o m zo zo zo zo), ⟨by omega, by omega⟩, (f4 w a o n zo zo zo zo), ⟨by omega, by omega⟩, (iY (ka0 (yZ w b m) : Int) (ka0 (yZ w a n) : Int))⟩ ?_
   by_cases hx5 : ((uB (((ka0 (yZ w b m)) : Nat) : Int) (((ka0 (yZ w a n)) : Nat) : Int)) ≠ 0)
   ·refine kN [.no, .b true] (((uB (ka0 (yZ w b m) : Int) (ka0 (yZ w a n) : Int)) ≠ 0)) [(1, sV .i64 a n), (2, sV .i64 b m), (9, iV (uB (ka0 (yZ w b m) : Int) (ka0 (yZ w a n) : Int))), (34, bV true)] zo ?_
    refine zt ?_
    refine kN [.no, .no] True [(6, iV (uB (ka0 (yZ w b m) : Int) (ka0 (yZ w a n) : Int)))] trivial ?_
    refine AW.ret ?_
    exact kC (.inr rfl) [] (P := (((yY w a b) : Int) = (uB (ka0 (yZ w b m) : Int) (ka0 (yZ w a n) : Int)))) zk (by exact u4w hcb hca (by (simp only [*]; done)) zo)
   ·refine kN [.no, .b false] (¬ ((uB (ka0 (yZ w b m) : Int) (ka0 (yZ w a n) : Int)) ≠ 0)) [(1, sV .i64 a n), (2, sV .i64 b m), (9, iV (uB (ka0 (yZ w b m) : Int) (ka0 (yZ w a n) : Int))), (34, bV false)] zo ?_
    refine q8 ?_
    refine AW.seq ?_
    refine kN [.no, .no, .w, .no, .no, .w, .call [] (iV (uB (n : Int) (m : Int))) [] 0 [] none, .no] ((0 ≤ (n : Int) ∧ (n : Int) ≤ 18446744073709551615) ∧ (0 ≤ (m : Int) ∧ (m : Int) ≤ 18446744073709551615) ∧ (_)) [(1, sV .i64 a n), (2, sV .i64 b m), (10, iV (uB ↑n ↑m))] ⟨⟨by omega, by omega⟩, ⟨by omega, by omega⟩, (iY (n : Int) (m : Int))⟩ ?_
    by_cases hx6 : ((uB ((n : Nat) : Int) ((m : Nat) : Int)) ≠ 0)
    ·refine kN [.no, .b true] (((uB (n : Int) (m : Int)) ≠ 0)) [(1, sV .i64 a n), (2, sV .i64 b m), (10, iV (uB ↑n ↑m)), (44, bV true)] zo ?_
     refine zt ?_
     refine kN [.no, .no] True [(6, iV (uB ↑n ↑m))] trivial ?_
     refine AW.ret ?_
     exact kC (.inr rfl) [] (P := (((yY w a b) : Int) = (uB (n : Int) (m : Int)))) zk (by exact u4v hcb hca (by (simp only [*]; done)) zo hn hm zo)
    ·refine kN [.no, .b false] (¬ ((uB (n : Int) (m : Int)) ≠ 0)) [(1, sV .i64 a n), (2, sV .i64 b m), (10, iV (uB ↑n ↑m)), (44, bV false)] zo ?_
     refine q8 ?_
     refine AW.seq ?_
     refine kN [.no, .no, .no] True [(1, sV .i64 a n), (2, sV .i64 b m), (47, uV n), (48, iV 0)] trivial ?_
     refine AW.block ?_
     refine kU 0 hcx (fun (x : {x : Nat // match x with | k => (n = m) ∧ (k ≤ n ∧ k ≤ m) ∧ (dS a b = dS (ka3 k a) (ka3 k b))}) => match x with | ⟨k, _⟩ => (⟨[(1, sV .i64 a n), (2, sV .i64 b m), (47, uV n), (48, uV k)], [], 0⟩ : ES)) (fun x => match x with | ⟨k, _⟩ => n - k) ⟨(0 : Nat), ⟨(by have h9 := lB.1 (show uB (n : Int) (m : Int) = 0 by omega); omega), zo, rfl⟩⟩ [] (P := (kJ (dI .i64 a)) ∧ (kG n) ∧ (kJ (dI .i64 b)) ∧ (kG m) ∧ (kM (n : Int)) ∧ (kM 0)) zk ⟨rfl, rfl, rfl, rfl, rfl, rfl⟩ ?_
     rintro ⟨k, hinv0⟩
     obtain ⟨hnm, hk, hx⟩ : (n = m) ∧ (k ≤ n ∧ k ≤ m) ∧ (dS a b = dS (ka3 k a) (ka3 k b)) := hinv0
     refine qN (l := [(1, sV .i64 a n), (2, sV .i64 b m), (47, uV n), (48, uV k)]) (g := []) (nx := 0) rfl rfl rfl ?_
     by_cases hx7 : (((k : Nat) : Int) < ((n : Nat) : Int))
     ·refine kI [.b true] (((k : Int) < (n : Int))) [(1, sV .i64 a n), (2, sV .i64 b m), (47, uV n), (48, uV k), (49, bV true)] [] 0 zo ?_
      refine AW.seq ?_
      refine yW ?_
      refine AW.seq ?_
      refine AW.block ?_
      refine kN [.no, .no] True [(1, sV .i64 a n), (2, sV .i64 b m), (11, uV k), (47, uV n), (48, uV k)] trivial ?_
      by_cases hx8 : ((ka1 a k 0) ≠ (ka1 b k 0))
      ·refine kN [.no, .no, .n k, .d (D.lit (.int .i64 (ka1 a k 0))), .no, .no, .n k, .d (D.lit (.int .i64 (ka1 b k 0))), .b true] ((kM (k : Int)) ∧ (k < n) ∧ ((ka3 k (dI .i64 a))[0]? = some (D.lit (.int .i64 (ka1 a k 0)))) ∧ (kM (k : Int)) ∧ (k < m) ∧ ((ka3 k (dI .i64 b))[0]? = some (D.lit (.int .i64 (ka1 b k 0)))) ∧ (((ka1 a k 0) ≠ (ka1 b k 0)))) [(1, sV .i64 a n), (2, sV .i64 b m), (11, uV k), (47, uV n), (48, uV k), (59, bV true)] ⟨rfl, zo, (uI _ _ _ zo), rfl, zo, (uI _ _ _ zo), zo⟩ ?_
       refine zt ?_
       refine AW.seq ?_
       by_cases hx9 : ((ka1 a k 0) < (ka1 b k 0))
       ·refine kN [.no, .no, .n k, .d (D.lit (.int .i64 (ka1 a k 0))), .no, .no, .n k, .d (D.lit (.int .i64 (ka1 b k 0))), .b true] ((kM (k : Int)) ∧ (k < n) ∧ ((ka3 k (dI .i64 a))[0]? = some (D.lit (.int .i64 (ka1 a k 0)))) ∧ (kM (k : Int)) ∧ (k < m) ∧ ((ka3 k (dI .i64 b))[0]? = some (D.lit (.int .i64 (ka1 b k 0)))) ∧ (((ka1 a k 0) < (ka1 b k 0)))) [(68, bV true)] ⟨rfl, zo, (uI _ _ _ zo), rfl, zo, (uI _ _ _ zo), zo⟩ ?_
        refine zt ?_
        refine kN [.no] True [(6, iV (-1))] trivial ?_
        refine AW.ret ?_
        exact kC (.inr rfl) [] (P := (((yY w a b) : Int) = (-1))) zk (by exact k23 hcb hca (by (simp only [*]; done)) zo hn hm zo (by exact u55 hx zo zo zo))
       ·refine kN [.no, .no, .n k, .d (D.lit (.int .i64 (ka1 a k 0))), .no, .no, .n k, .d (D.lit (.int .i64 (ka1 b k 0))), .b false] ((kM (k : Int)) ∧ (k < n) ∧ ((ka3 k (dI .i64 a))[0]? = some (D.lit (.int .i64 (ka1 a k 0)))) ∧ (kM (k : Int)) ∧ (k < m) ∧ ((ka3 k (dI .i64 b))[0]? = some (D.lit (.int .i64 (ka1 b k 0)))) ∧ (¬ ((ka1 a k 0) < (ka1 b k 0)))) [(68, bV false)] ⟨rfl, zo, (uI _ _ _ zo), rfl, zo, (uI _ _ _ zo), zo⟩ ?_
        refine q8 ?_
        refine kN [.no] True [(6, iV 1)] trivial ?_
        refine AW.ret ?_
        exact kC (.inr rfl) [] (P := (((yY w a b) : Int) = 1)) zk (by exact k23 hcb hca (by (simp only [*]; done)) zo hn hm zo (by exact u57 hx zo zo zo))
      ·refine kN [.no, .no, .n k, .d (D.lit (.int .i64 (ka1 a k 0))), .no, .no, .n k, .d (D.lit (.int .i64 (ka1 b k 0))), .b false] ((kM (k : Int)) ∧ (k < n) ∧ ((ka3 k (dI .i64 a))[0]? = some (D.lit (.int .i64 (ka1 a k 0)))) ∧ (kM (k : Int)) ∧ (k < m) ∧ ((ka3 k (dI .i64 b))[0]? = some (D.lit (.int .i64 (ka1 b k 0)))) ∧ (¬ ((ka1 a k 0) ≠ (ka1 b k 0)))) [(1, sV .i64 a n), (2, sV .i64 b m), (11, uV k), (47, uV n), (48, uV k), (59, bV false)] ⟨rfl, zo, (uI _ _ _ zo), rfl, zo, (uI _ _ _ zo), zo⟩ ?_
       refine q8 ?_
       refine uJ [.w, .no] (uZ ((k : Int) + 1)) [(1, sV .i64 a n), (2, sV .i64 b m), (47, uV n), (48, iV (↑k + 1))] ⟨by omega, by omega⟩ ?_
       exact kX ⟨((k + 1) : Nat), ⟨hnm, zo, (rK hx zo zo (lB.2 zo))⟩⟩ [] (P := (kJ (dI .i64 a)) ∧ (kG n) ∧ (kJ (dI .i64 b)) ∧ (kG m) ∧ (kM (n : Int)) ∧ (vX k)) zk ⟨rfl, rfl, rfl, rfl, rfl, (by rfl)⟩ (show n - (k + 1) < n - k from zo)
     ·refine kI [.b false] (¬ ((k : Int) < (n : Int))) [(1, sV .i64 a n), (2, sV .i64 b m), (47, uV n), (48, uV k), (49, bV false)] [] 0 zo ?_
      refine AW.seq ?_
      refine zf ?_
      refine AW.exit ?_
      refine kI [.no] True [(6, iV 0)] [] 0 trivial ?_
      refine AW.ret ?_
      exact kC (.inr rfl) [] (P := (((yY w a b) : Int) = 0)) zk (by exact k23 hcb hca (by (simp only [*]; done)) zo hn hm zo (by exact k4j hx zo zo))
  ·refine kN [.no, .no, .call [] (bV true) [] 0 [] none, .no, .no, .call [] (bV false) [] 0 [] none, .no, .no] ((Fun 94 [.c (.d (dl a n)), .c (.d (dl w o))] (kE []) 0 (bV true) (kE []) 0) ∧ (Fun 94 [.c (.d (dl b m)), .c (.d (dl w o))] (kE []) 0 (bV false) (kE []) 0)) [(0, sV .i64 w o), (1, sV .i64 a n), (2, sV .i64 b m), (7, bV true), (8, bV false)] ⟨(by have h0 := (aL a w n o zo zo zo zo); rw [hx1] at h0; exact h0), (by have h0 := (aL b w m o zo zo zo zo); rw [hx2] at h0; exact h0)⟩ ?_
   refine kN [.no, .no, .no] True [(0, sV .i64 w o), (1, sV .i64 a n), (2, sV .i64 b m), (7, bV true), (20, bV true)] trivial ?_
   refine zt ?_
   refine AW.seq ?_
   refine kN [.no] True [(21, bV true)] trivial ?_
   refine zt ?_
   refine kN [.no] True [(6, iV (-1))] trivial ?_
   refine AW.ret ?_
   exact kC (.inr rfl) [] (P := (((yY w a b) : Int) = (-1))) zk (by exact u8d (by assumption) (by assumption))
 ·rcases ka6 (vO b w) with hx10 | hx10
  ·refine kN [.no, .no, .call [] (bV false) [] 0 [] none, .no, .no, .call [] (bV true) [] 0 [] none, .no, .no] ((Fun 94 [.c (.d (dl a n)), .c (.d (dl w o))] (kE []) 0 (bV false) (kE []) 0) ∧ (Fun 94 [.c (.d (dl b m)), .c (.d (dl w o))] (kE []) 0 (bV true) (kE []) 0)) [(0, sV .i64 w o), (1, sV .i64 a n), (2, sV .i64 b m), (7, bV false), (8, bV true)] ⟨(by have h0 := (aL a w n o zo zo zo zo); rw [hx1] at h0; exact h0), (by have h0 := (aL b w m o zo zo zo zo); rw [hx10] at h0; exact h0)⟩ ?_
   refine kN [.no, .no, .no] True [(0, sV .i64 w o), (1, sV .i64 a n), (2, sV .i64 b m), (7, bV false), (20, bV true)] trivial ?_
   refine zt ?_
   refine AW.seq ?_
   refine kN [.no] True [(21, bV false)] trivial ?_
   refine q8 ?_
   refine kN [.no] True [(6, iV 1)] trivial ?_
   refine AW.ret ?_
   exact kC (.inr rfl) [] (P := (((yY w a b) : Int) = 1)) zk (by exact u8c (by assumption) (by assumption))
  ·refine kN [.no, .no, .call [] (bV false) [] 0 [] none, .no, .no, .call [] (bV false) [] 0 [] none, .no, .no] ((Fun 94 [.c (.d (dl a n)), .c (.d (dl w o))] (kE []) 0 (bV false) (kE []) 0) ∧ (Fun 94 [.c (.d (dl b m)), .c (.d (dl w o))] (kE []) 0 (bV false) (kE []) 0)) [(0, sV .i64 w o), (1, sV .i64 a n), (2, sV .i64 b m), (7, bV false), (8, bV false)] ⟨(by have h0 := (aL a w n o zo zo zo zo); rw [hx1] at h0; exact h0), (by have h0 := (aL b w m o zo zo zo zo); rw [hx10] at h0; exact h0)⟩ ?_
   refine kN [.no, .no, .no] True [(0, sV .i64 w o), (1, sV .i64 a n), (2, sV .i64 b m), (7, bV false), (20, bV false)] trivial ?_
   refine q8 ?_
   refine AW.seq ?_
   have hx11 : ((ka0 (yZ w b m)) ≤ o) := (by have h9 := fW w b m; omega)
   have hx12 : ((ka0 (yZ w a n)) ≤ o) := (by have h9 := fW w a n; omega)
   refine kN [.no, .no, .call [] (sV .i64 (yZ w b m) (ka0 (yZ w b m))) [] 0 [] none, .no, .w, .no, .no, .call [] (sV .i64 (yZ w a n) (ka0 (yZ w a n))) [] 0 [] none, .no, .w, .call [] (iV (uB (ka0 (yZ w b m) : Int) (ka0 (yZ w a n) : Int))) [] 0 [] none, .no] ((_) ∧ (0 ≤ (ka0 (yZ w b m) : Int) ∧ (ka0 (yZ w b m) : Int) ≤ 18446744073709551615) ∧ (_) ∧ (0 ≤ (ka0 (yZ w a n) : Int) ∧ (ka0 (yZ w a n) : Int) ≤ 18446744073709551615) ∧ (_)) [(1, sV .i64 a n), (2, sV .i64 b m), (9, iV (uB (ka0 (yZ w b m) : Int) (ka0 (yZ w a n) : Int)))] ⟨(f4 w b o m zo zo zo zo), ⟨by omega, by omega⟩, (f4 w a o n zo zo zo zo), ⟨by omega, by omega⟩, (iY (ka0 (yZ w b m) : Int) (ka0 (yZ w a n) : Int))⟩ ?_
   by_cases hx13 : ((uB (((ka0 (yZ w b m)) : Nat) : Int) (((ka0 (yZ w a n)) : Nat) : Int)) ≠ 0)
   ·refine kN [.no, .b true] (((uB (ka0 (yZ w b m) : Int) (ka0 (yZ w a n) : Int)) ≠ 0)) [(1, sV .i64 a n), (2, sV .i64 b m), (9, iV (uB (ka0 (yZ w b m) : Int) (ka0 (yZ w a n) : Int))), (34, bV true)] zo ?_
    refine zt ?_
    refine kN [.no, .no] True [(6, iV (uB (ka0 (yZ w b m) : Int) (ka0 (yZ w a n) : Int)))] trivial ?_
    refine AW.ret ?_
    exact kC (.inr rfl) [] (P := (((yY w a b) : Int) = (uB (ka0 (yZ w b m) : Int) (ka0 (yZ w a n) : Int)))) zk (by exact u4w hcb hca (by (simp only [*]; done)) zo)
   ·refine kN [.no, .b false] (¬ ((uB (ka0 (yZ w b m) : Int) (ka0 (yZ w a n) : Int)) ≠ 0)) [(1, sV .i64 a n), (2, sV .i64 b m), (9, iV (uB (ka0 (yZ w b m) : Int) (ka0 (yZ w a n) : Int))), (34, bV false)] zo ?_
    refine q8 ?_
    refine AW.seq ?_
    refine kN [.no, .no, .w, .no, .no, .w, .call [] (iV (uB (n : Int) (m : Int))) [] 0 [] none, .no] ((0 ≤ (n : Int) ∧ (n : Int) ≤ 18446744073709551615) ∧ (0 ≤ (m : Int) ∧ (m : Int) ≤ 18446744073709551615) ∧ (_)) [(1, sV .i64 a n), (2, sV .i64 b m), (10, iV (uB ↑n ↑m))] ⟨⟨by omega, by omega⟩, ⟨by omega, by omega⟩, (iY (n : Int) (m : Int))⟩ ?_
    by_cases hx14 : ((uB ((n : Nat) : Int) ((m : Nat) : Int)) ≠ 0)
    ·refine kN [.no, .b true] (((uB (n : Int) (m : Int)) ≠ 0)) [(1, sV .i64 a n), (2, sV .i64 b m), (10, iV (uB ↑n ↑m)), (44, bV true)] zo ?_
     refine zt ?_
     refine kN [.no, .no] True [(6, iV (uB ↑n ↑m))] trivial ?_
     refine AW.ret ?_
     exact kC (.inr rfl) [] (P := (((yY w a b) : Int) = (uB (n : Int) (m : Int)))) zk (by exact u4v hcb hca (by (simp only [*]; done)) zo hn hm zo)
    ·refine kN [.no, .b false] (¬ ((uB (n : Int) (m : Int)) ≠ 0)) [(1, sV .i64 a n), (2, sV .i64 b m), (10, iV (uB ↑n ↑m)), (44, bV false)] zo ?_
     refine q8 ?_
     refine AW.seq ?_
     refine kN [.no, .no, .no] True [(1, sV .i64 a n), (2, sV .i64 b m), (47, uV n), (48, iV 0)] trivial ?_
     refine AW.block ?_
     refine kU 0 hcx (fun (x : {x : Nat // match x with | k => (n = m) ∧ (k ≤ n ∧ k ≤ m) ∧ (dS a b = dS (ka3 k a) (ka3 k b))}) => match x with | ⟨k, _⟩ => (⟨[(1, sV .i64 a n), (2, sV .i64 b m), (47, uV n), (48, uV k)], [], 0⟩ : ES)) (fun x => match x with | ⟨k, _⟩ => n - k) ⟨(0 : Nat), ⟨(by have h9 := lB.1 (show uB (n : Int) (m : Int) = 0 by omega); omega), zo, rfl⟩⟩ [] (P := (kJ (dI .i64 a)) ∧ (kG n) ∧ (kJ (dI .i64 b)) ∧ (kG m) ∧ (kM (n : Int)) ∧ (kM 0)) zk ⟨rfl, rfl, rfl, rfl, rfl, rfl⟩ ?_
     rintro ⟨k, hinv0⟩
     obtain ⟨hnm, hk, hx⟩ : (n = m) ∧ (k ≤ n ∧ k ≤ m) ∧ (dS a b = dS (ka3 k a) (ka3 k b)) := hinv0
     refine qN (l := [(1, sV .i64 a n), (2, sV .i64 b m), (47, uV n), (48, uV k)]) (g := []) (nx := 0) rfl rfl rfl ?_
     by_cases hx15 : (((k : Nat) : Int) < ((n : Nat) : Int))
     ·refine kI [.b true] (((k : Int) < (n : Int))) [(1, sV .i64 a n), (2, sV .i64 b m), (47, uV n), (48, uV k), (49, bV true)] [] 0 zo ?_
      refine AW.seq ?_
      refine yW ?_
      refine AW.seq ?_
      refine AW.block ?_
      refine kN [.no, .no] True [(1, sV .i64 a n), (2, sV .i64 b m), (11, uV k), (47, uV n), (48, uV k)] trivial ?_
      by_cases hx16 : ((ka1 a k 0) ≠ (ka1 b k 0))
      ·refine kN [.no, .no, .n k, .d (D.lit (.int .i64 (ka1 a k 0))), .no, .no, .n k, .d (D.lit (.int .i64 (ka1 b k 0))), .b true] ((kM (k : Int)) ∧ (k < n) ∧ ((ka3 k (dI .i64 a))[0]? = some (D.lit (.int .i64 (ka1 a k 0)))) ∧ (kM (k : Int)) ∧ (k < m) ∧ ((ka3 k (dI .i64 b))[0]? = some (D.lit (.int .i64 (ka1 b k 0)))) ∧ (((ka1 a k 0) ≠ (ka1 b k 0)))) [(1, sV .i64 a n), (2, sV .i64 b m), (11, uV k), (47, uV n), (48, uV k), (59, bV true)] ⟨rfl, zo, (uI _ _ _ zo), rfl, zo, (uI _ _ _ zo), zo⟩ ?_
       refine zt ?_
       refine AW.seq ?_
       by_cases hx17 : ((ka1 a k 0) < (ka1 b k 0))
       ·refine kN [.no, .no, .n k, .d (D.lit (.int .i64 (ka1 a k 0))), .no, .no, .n k, .d (D.lit (.int .i64 (ka1 b k 0))), .b true] ((kM (k : Int)) ∧ (k < n) ∧ ((ka3 k (dI .i64 a))[0]? = some (D.lit (.int .i64 (ka1 a k 0)))) ∧ (kM (k : Int)) ∧ (k < m) ∧ ((ka3 k (dI .i64 b))[0]? = some (D.lit (.int .i64 (ka1 b k 0)))) ∧ (((ka1 a k 0) < (ka1 b k 0)))) [(68, bV true)] ⟨rfl, zo, (uI _ _ _ zo), rfl, zo, (uI _ _ _ zo), zo⟩ ?_
        refine zt ?_
        refine kN [.no] True [(6, iV (-1))] trivial ?_
        refine AW.ret ?_
        exact kC (.inr rfl) [] (P := (((yY w a b) : Int) = (-1))) zk (by exact k23 hcb hca (by (simp only [*]; done)) zo hn hm zo (by exact u55 hx zo zo zo))
       ·refine kN [.no, .no, .n k, .d (D.lit (.int .i64 (ka1 a k 0))), .no, .no, .n k, .d (D.lit (.int .i64 (ka1 b k 0))), .b false] ((kM (k : Int)) ∧ (k < n) ∧ ((ka3 k (dI .i64 a))[0]? = some (D.lit (.int .i64 (ka1 a k 0)))) ∧ (kM (k : Int)) ∧ (k < m) ∧ ((ka3 k (dI .i64 b))[0]? = some (D.lit (.int .i64 (ka1 b k 0)))) ∧ (¬ ((ka1 a k 0) < (ka1 b k 0)))) [(68, bV false)] ⟨rfl, zo, (uI _ _ _ zo), rfl, zo, (uI _ _ _ zo), zo⟩ ?_
        refine q8 ?_
        refine kN [.no] True [(6, iV 1)] trivial ?_
        refine AW.ret ?_
        exact kC (.inr rfl) [] (P := (((yY w a b) : Int) = 1)) zk (by exact k23 hcb hca (by (simp only [*]; done)) zo hn hm zo (by exact u57 hx zo zo zo))
      ·refine kN [.no, .no, .n k, .d (D.lit (.int .i64 (ka1 a k 0))), .no, .no, .n k, .d (D.lit (.int .i64 (ka1 b k 0))), .b false] ((kM (k : Int)) ∧ (k < n) ∧ ((ka3 k (dI .i64 a))[0]? = some (D.lit (.int .i64 (ka1 a k 0)))) ∧ (kM (k : Int)) ∧ (k < m) ∧ ((ka3 k (dI .i64 b))[0]? = some (D.lit (.int .i64 (ka1 b k 0)))) ∧ (¬ ((ka1 a k 0) ≠ (ka1 b k 0)))) [(1, sV .i64 a n), (2, sV .i64 b m), (11, uV k), (47, uV n), (48, uV k), (59, bV false)] ⟨rfl, zo, (uI _ _ _ zo), rfl, zo, (uI _ _ _ zo), zo⟩ ?_
       refine q8 ?_
       refine uJ [.w, .no] (uZ ((k : Int) + 1)) [(1, sV .i64 a n), (2, sV .i64 b m), (47, uV n), (48, iV (↑k + 1))] ⟨by omega, by omega⟩ ?_
       exact kX ⟨((k + 1) : Nat), ⟨hnm, zo, (rK hx zo zo (lB.2 zo))⟩⟩ [] (P := (kJ (dI .i64 a)) ∧ (kG n) ∧ (kJ (dI .i64 b)) ∧ (kG m) ∧ (kM (n : Int)) ∧ (vX k)) zk ⟨rfl, rfl, rfl, rfl, rfl, (by rfl)⟩ (show n - (k + 1) < n - k from zo)
     ·refine kI [.b false] (¬ ((k : Int) < (n : Int))) [(1, sV .i64 a n), (2, sV .i64 b m), (47, uV n), (48, uV k), (49, bV false)] [] 0 zo ?_
      refine AW.seq ?_
      refine zf ?_
      refine AW.exit ?_
      refine kI [.no] True [(6, iV 0)] [] 0 trivial ?_
      refine AW.ret ?_
      exact kC (.inr rfl) [] (P := (((yY w a b) : Int) = 0)) zk (by exact k23 hcb hca (by (simp only [*]; done)) zo hn hm zo (by exact k4j hx zo zo))
theorem u38 (wk wr wz ak ar az bk br bz : Int) (w a b : List Int) (o n m : Nat) (ho : ka0 w = o) (hn : ka0 a = n) (hm : ka0 b = m) (h1 : o ≤ 1000000) (h2 : n ≤ 1000000) (h3 : m ≤ 1000000) (hwr : -9223372036854775808 ≤ wr ∧ wr ≤ 9223372036854775807) (har : -9223372036854775808 ≤ ar ∧ ar ≤ 9223372036854775807) (hbr : -9223372036854775808 ≤ br ∧ br ≤ 9223372036854775807) (hwz : -9223372036854775808 ≤ wz ∧ wz ≤ 9223372036854775807) (haz : -9223372036854775808 ≤ az ∧ az ≤ 9223372036854775807) (hbz : -9223372036854775808 ≤ bz ∧ bz ≤ 9223372036854775807) : Fun 63 [.c (.ptr 0 0), .c (.ptr 1 0), .c (.ptr 2 0)] (kE [(0, some (27, .ds [iD wk, iD wr, D.sl (dI .i64 w) o, iD wz])), (1, some (27, .ds [iD ak, iD ar, D.sl (dI .i64 a) n, iD az])), (2, some (27, .ds [iD bk, iD br, D.sl (dI .i64 b) m, iD bz]))]) 3 (iV (vQ wk ak bk)) (kE [(0, some (27, .ds [iD wk, iD wr, D.sl (dI .i64 w) o, iD wz])), (1, some (27, .ds [iD ak, iD ar, D.sl (dI .i64 a) n, iD az])), (2, some (27, .ds [iD bk, iD br, D.sl (dI .i64 b) m, iD bz]))]) 3 := by
 refine Fun.mk (n := 14) Tryz.func63 rfl rfl (ka4 rfl) ?_
 intro cx hcx
 refine kI [.no] True [(0, rV 0 0), (1, rV 1 0), (2, rV 2 0)] [(0, some (27, .ds [iD wk, iD wr, dl w o, iD wz])), (1, some (27, .ds [iD ak, iD ar, dl a n, iD az])), (2, some (27, .ds [iD bk, iD br, dl b m, iD bz]))] 3 trivial ?_
 have hx1 : ((((-1) : Int) ≤ (vQ wk ak bk)) ∧ ((vQ wk ak bk) ≤ 1)) := cT wk ak bk
 refine kN (kT 9 [.call [] (iV (vQ wk ak bk)) [] 0 [] none, .no]) _ [(3, iV (vQ wk ak bk))] (sM wk ak bk) ?_
 refine AW.ret ?_
 exact kC (.inr rfl) [] (P := (kM (vQ wk ak bk)) ∧ (kJ [iD wk, iD wr, dl w o, iD wz]) ∧ (kJ [iD ak, iD ar, dl a n, iD az]) ∧ (kJ [iD bk, iD br, dl b m, iD bz])) zk ⟨rfl, rfl, rfl, rfl⟩
theorem u37 (wk wr wz ak ar az bk br bz : Int) (w a b : List Int) (o n m : Nat) (ho : ka0 w = o) (hn : ka0 a = n) (hm : ka0 b = m) (h1 : o ≤ 1000000) (h2 : n ≤ 1000000) (h3 : m ≤ 1000000) (hwr : -9223372036854775808 ≤ wr ∧ wr ≤ 9223372036854775807) (har : -9223372036854775808 ≤ ar ∧ ar ≤ 9223372036854775807) (hbr : -9223372036854775808 ≤ br ∧ br ≤ 9223372036854775807) (hwz : -9223372036854775808 ≤ wz ∧ wz ≤ 9223372036854775807) (haz : -9223372036854775808 ≤ az ∧ az ≤ 9223372036854775807) (hbz : -9223372036854775808 ≤ bz ∧ bz ≤ 9223372036854775807) : Fun 65 [.c (.ptr 0 0), .c (.ptr 1 0), .c (.ptr 2 0)] (kE [(0, some (27, .ds [iD wk, iD wr, D.sl (dI .i64 w) o, iD wz])), (1, some (27, .ds [iD ak, iD ar, D.sl (dI .i64 a) n, iD az])), (2, some (27, .ds [iD bk, iD br, D.sl (dI .i64 b) m, iD bz]))]) 3 (iV (aH wr ar br)) (kE [(0, some (27, .ds [iD wk, iD wr, D.sl (dI .i64 w) o, iD wz])), (1, some (27, .ds [iD ak, iD ar, D.sl (dI .i64 a) n, iD az])), (2, some (27, .ds [iD bk, iD br, D.sl (dI .i64 b) m, iD bz]))]) 3 := by
 refine Fun.mk (n := 14) Tryz.func65 rfl rfl (ka4 rfl) ?_
 intro cx hcx
 refine kI [.no] True [(0, rV 0 0), (1, rV 1 0), (2, rV 2 0)] [(0, some (27, .ds [iD wk, iD wr, dl w o, iD wz])), (1, some (27, .ds [iD ak, iD ar, dl a n, iD az])), (2, some (27, .ds [iD bk, iD br, dl b m, iD bz]))] 3 trivial ?_
 have hx1 : ((((-1) : Int) ≤ (aH wr ar br)) ∧ ((aH wr ar br) ≤ 1)) := cQ wr ar br
 refine kN (kT 9 [.call [] (iV (aH wr ar br)) [] 0 [] none, .no]) _ [(3, iV (aH wr ar br))] (k6x wr ar br zo zo zo) ?_
 refine AW.ret ?_
 exact kC (.inr rfl) [] (P := (kM (aH wr ar br)) ∧ (kJ [iD wk, iD wr, dl w o, iD wz]) ∧ (kJ [iD ak, iD ar, dl a n, iD az]) ∧ (kJ [iD bk, iD br, dl b m, iD bz])) zk ⟨rfl, rfl, rfl, rfl⟩
theorem u36 (wk wr wz ak ar az bk br bz : Int) (w a b : List Int) (o n m : Nat) (ho : ka0 w = o) (hn : ka0 a = n) (hm : ka0 b = m) (h1 : o ≤ 1000000) (h2 : n ≤ 1000000) (h3 : m ≤ 1000000) (hwr : -9223372036854775808 ≤ wr ∧ wr ≤ 9223372036854775807) (har : -9223372036854775808 ≤ ar ∧ ar ≤ 9223372036854775807) (hbr : -9223372036854775808 ≤ br ∧ br ≤ 9223372036854775807) (hwz : -9223372036854775808 ≤ wz ∧ wz ≤ 9223372036854775807) (haz : -9223372036854775808 ≤ az ∧ az ≤ 9223372036854775807) (hbz : -9223372036854775808 ≤ bz ∧ bz ≤ 9223372036854775807) : Fun 67 [.c (.ptr 0 0), .c (.ptr 1 0), .c (.ptr 2 0)] (kE [(0, some (27, .ds [iD wk, iD wr, D.sl (dI .i64 w) o, iD wz])), (1, some (27, .ds [iD ak, iD ar, D.sl (dI .i64 a) n, iD az])), (2, some (27, .ds [iD bk, iD br, D.sl (dI .i64 b) m, iD bz]))]) 3 (iV (yY w a b)) (kE [(0, some (27, .ds [iD wk, iD wr, D.sl (dI .i64 w) o, iD wz])), (1, some (27, .ds [iD ak, iD ar, D.sl (dI .i64 a) n, iD az])), (2, some (27, .ds [iD bk, iD br, D.sl (dI .i64 b) m, iD bz]))]) 3 := by
 refine Fun.mk (n := 14) Tryz.func67 rfl rfl (ka4 rfl) ?_
 intro cx hcx
 refine kI [.no] True [(0, rV 0 0), (1, rV 1 0), (2, rV 2 0)] [(0, some (27, .ds [iD wk, iD wr, dl w o, iD wz])), (1, some (27, .ds [iD ak, iD ar, dl a n, iD az])), (2, some (27, .ds [iD bk, iD br, dl b m, iD bz]))] 3 trivial ?_
 have hx1 : ((((-1) : Int) ≤ (yY w a b)) ∧ ((yY w a b) ≤ 1)) := b9 w a b
 refine kN (kT 9 [.call [] (iV (yY w a b)) [] 0 [] none, .no]) _ [(3, iV (yY w a b))] (k6y w a b o n m zo zo zo zo zo zo) ?_
 refine AW.ret ?_
 exact kC (.inr rfl) [] (P := (kM (yY w a b)) ∧ (kJ [iD wk, iD wr, dl w o, iD wz]) ∧ (kJ [iD ak, iD ar, dl a n, iD az]) ∧ (kJ [iD bk, iD br, dl b m, iD bz])) zk ⟨rfl, rfl, rfl, rfl⟩
theorem u35 (wk wr wz ak ar az bk br bz : Int) (w a b : List Int) (o n m : Nat) (ho : ka0 w = o) (hn : ka0 a = n) (hm : ka0 b = m) (h1 : o ≤ 1000000) (h2 : n ≤ 1000000) (h3 : m ≤ 1000000) (hwr : -9223372036854775808 ≤ wr ∧ wr ≤ 9223372036854775807) (har : -9223372036854775808 ≤ ar ∧ ar ≤ 9223372036854775807) (hbr : -9223372036854775808 ≤ br ∧ br ≤ 9223372036854775807) (hwz : -9223372036854775808 ≤ wz ∧ wz ≤ 9223372036854775807) (haz : -9223372036854775808 ≤ az ∧ az ≤ 9223372036854775807) (hbz : -9223372036854775808 ≤ bz ∧ bz ≤ 9223372036854775807) : Fun 69 [.c (.ptr 0 0), .c (.ptr 1 0), .c (.ptr 2 0)] (kE [(0, some (27, .ds [iD wk, iD wr, D.sl (dI .i64 w) o, iD wz])), (1, some (27, .ds [iD ak, iD ar, D.sl (dI .i64 a) n, iD az])), (2, some (27, .ds [iD bk, iD br, D.sl (dI .i64 b) m, iD bz]))]) 3 (iV (aH wz az bz)) (kE [(0, some (27, .ds [iD wk, iD wr, D.sl (dI .i64 w) o, iD wz])), (1, some (27, .ds [iD ak, iD ar, D.sl (dI .i64 a) n, iD az])), (2, some (27, .ds [iD bk, iD br, D.sl (dI .i64 b) m, iD bz]))]) 3 := by
 refine Fun.mk (n := 11) Tryz.func69 rfl rfl (ka4 rfl) ?_
 intro cx hcx
 refine kI [.no] True [(0, rV 0 0), (1, rV 1 0), (2, rV 2 0)] [(0, some (27, .ds [iD wk, iD wr, dl w o, iD wz])), (1, some (27, .ds [iD ak, iD ar, dl a n, iD az])), (2, some (27, .ds [iD bk, iD br, dl b m, iD bz]))] 3 trivial ?_
 have hx1 : ((((-1) : Int) ≤ (aH wz az bz)) ∧ ((aH wz az bz) ≤ 1)) := cQ wz az bz
 refine kN (kT 6 [.call [] (iV (aH wz az bz)) [] 0 [] none, .no]) _ [(3, iV (aH wz az bz))] (k6x wz az bz zo zo zo) ?_
 refine AW.ret ?_
 exact kC (.inr rfl) [] (P := (kM (aH wz az bz)) ∧ (kJ [iD wk, iD wr, dl w o, iD wz]) ∧ (kJ [iD ak, iD ar, dl a n, iD az]) ∧ (kJ [iD bk, iD br, dl b m, iD bz])) zk ⟨rfl, rfl, rfl, rfl⟩
theorem dW {p : Prop} (h : p := by unfold fX vG; (repeat' split) <;> omega) : p := h
abbrev fL : BC := .cs [.fn 63 [(0, 0), (1, 0), (2, 0)], .fn 65 [(0, 0), (1, 0), (2, 0)], .fn 67 [(0, 0), (1, 0), (2, 0)], .fn 69 [(0, 0), (1, 0), (2, 0)]]
abbrev a7 (wk : Int) (wr : Int) (w : List Int) (o : Nat) (wz : Int) : BC := .ds [iD wk, iD wr, D.sl (dI .i64 w) o, iD wz]
abbrev aZ (ak : Int) (ar : Int) (a : List Int) (n : Nat) (az : Int) : BC := .ds [iD ak, iD ar, D.sl (dI .i64 a) n, iD az]
abbrev aY (bk : Int) (br : Int) (b : List Int) (m : Nat) (bz : Int) : BC := .ds [iD bk, iD br, D.sl (dI .i64 b) m, iD bz]
theorem o7 (wk wr wz ak ar az bk br bz : Int) (w a b : List Int) (o n m : Nat) (ho : ka0 w = o) (hn : ka0 a = n) (hm : ka0 b = m) (h1 : o ≤ 1000000) (h2 : n ≤ 1000000) (h3 : m ≤ 1000000) (hwr : -9223372036854775808 ≤ wr ∧ wr ≤ 9223372036854775807) (har : -9223372036854775808 ≤ ar ∧ ar ≤ 9223372036854775807) (hbr : -9223372036854775808 ≤ br ∧ br ≤ 9223372036854775807) (hwz : -9223372036854775808 ≤ wz ∧ wz ≤ 9223372036854775807) (haz : -9223372036854775808 ≤ az ∧ az ≤ 9223372036854775807) (hbz : -9223372036854775808 ≤ bz ∧ bz ≤ 9223372036854775807) : Fun 29 [.agg [iC wk, iC wr, .d (D.sl (dI .i64 w) o), iC wz], .agg [iC ak, iC ar, .d (D.sl (dI .i64 a) n), iC az], .agg [iC bk, iC br, .d (D.sl (dI .i64 b) m), iC bz]] (kE []) 0 (iV (fX wk wr wz ak ar az bk br bz w a b)) (kE []) 0 := by
 refine Fun.mk (n := 28) Tryz.func29 rfl rfl (ka4 rfl) ?_
 intro cx hcx
 refine kI (kT 4 []) True [(3, rV 0 0), (4, rV 1 0), (5, rV 2 0)] [(0, some (27, (a7 wk wr w o wz))), (1, some (27, (aZ ak ar a n az))), (2, some (27, (aY bk br b m bz)))] 3 trivial ?_
 refine kI (kT 6 []) True [(7, oV 3 0 4 1)] [(0, some (27, (a7 wk wr w o wz))), (1, some (27, (aZ ak ar a n az))), (2, some (27, (aY bk br b m bz))), (3, some (85, fL))] 4 trivial ?_
 refine AW.seq ?_
 refine kN [.no, .no, .no] True [(16, oV 3 0 4 1), (17, iV 4), (18, iV 0)] trivial ?_
 refine AW.block ?_
 refine AW.rounds 5 ?_
 refine AWr.s ?_
 refine kI [.b true] (((0 : Int) < 4)) [(16, oV 3 0 4 1), (17, iV 4), (18, iV 0), (19, bV true)] [(0, some (27, (a7 wk wr w o wz))), (1, some (27, (aZ ak ar a n az))), (2, some (27, (aY bk br b m bz))), (3, some (85, fL))] 4 zo ?_
 refine AW.seq ?_
 refine yW ?_
 refine AW.seq ?_
 refine AW.block ?_
 refine kN [.n2 0 0, .no, .no] ((kM 0) ∧ ((0 : Nat) < 4) ∧ ((0 : Nat) + 0 * 1 = 0)) [(9, .e (.c (.fn 63 [(0, 0), (1, 0), (2, 0)]))), (16, oV 3 0 4 1), (17, iV 4), (18, iV 0)] ⟨rfl, zo, zo⟩ ?_
 have hx1 : ((((-1) : Int) ≤ (vQ wk ak bk)) ∧ ((vQ wk ak bk) ≤ 1)) := cT wk ak bk
 refine kN [.no, .call [0, 1, 2] (iV (vQ wk ak bk)) [(0, some (27, (a7 wk wr w o wz))), (1, some (27, (aZ ak ar a n az))), (2, some (27, (aY bk br b m bz)))] 3 [] none, .no] _ [(10, iV (vQ wk ak bk)), (16, oV 3 0 4 1), (17, iV 4), (18, iV 0)] (u38 wk wr wz ak ar az bk br bz w a b o n m zo zo zo zo zo zo zo zo zo zo zo zo) ?_
 by_cases hx2 : ((vQ wk ak bk) ≠ 0)
 ·refine kN [.no, .b true] (((vQ wk ak bk) ≠ 0)) [(10, iV (vQ wk ak bk)), (16, oV 3 0 4 1), (17, iV 4), (18, iV 0), (25, bV true)] zo ?_
  refine zt ?_
  refine kI [.no, .no] True [(6, iV (vQ wk ak bk))] [] 4 trivial ?_
  refine AW.ret ?_
  exact kC (.inr rfl) [] (P := (((fX wk wr wz ak ar az bk br bz w a b) : Int) = (vQ wk ak bk))) zk dW
 ·refine kN [.no, .b false] (¬ ((vQ wk ak bk) ≠ 0)) [(10, iV (vQ wk ak bk)), (16, oV 3 0 4 1), (17, iV 4), (18, iV 0), (25, bV false)] zo ?_
  refine q8 ?_
  refine uJ [.w, .no] (uZ (1 : Int)) [(16, oV 3 0 4 1), (17, iV 4), (18, iV 1)] ⟨by omega, by omega⟩ ?_
  refine AWr.s ?_
  refine kI [.b true] (((1 : Int) < 4)) [(16, oV 3 0 4 1), (17, iV 4), (18, iV 1), (19, bV true)] [(0, some (27, (a7 wk wr w o wz))), (1, some (27, (aZ ak ar a n az))), (2, some (27, (aY bk br b m bz))), (3, some (85, fL))] 4 zo ?_
  refine AW.seq ?_
  refine yW ?_
  refine AW.seq ?_
  refine AW.block ?_
  refine kN [.n2 1 1, .no, .no] ((kM 1) ∧ ((1 : Nat) < 4) ∧ ((0 : Nat) + 1 * 1 = 1)) [(9, .e (.c (.fn 65 [(0, 0), (1, 0), (2, 0)]))), (16, oV 3 0 4 1), (17, iV 4), (18, iV 1)] ⟨rfl, zo, zo⟩ ?_
  have hx3 : ((((-1) : Int) ≤ (aH wr ar br)) ∧ ((aH wr ar br) ≤ 1)) := cQ wr ar br
  refine kN [.no, .call [0, 1, 2] (iV (aH wr ar br)) [(0, some (27, (a7 wk wr w o wz))), (1, some (27, (aZ ak ar a n az))), (2, some (27, (aY bk br b m bz)))] 3 [] none, .no] _ [(10, iV (aH wr ar br)), (16, oV 3 0 4 1), (17, iV 4), (18, iV 1)] (u37 wk wr wz ak ar az bk br bz w a b o n m zo zo zo zo zo zo zo zo zo zo zo zo) ?_
  by_cases hx4 : ((aH wr ar br) ≠ 0)
  ·refine kN [.no, .b true] (((aH wr ar br) ≠ 0)) [(10, iV (aH wr ar br)), (16, oV 3 0 4 1), (17, iV 4), (18, iV 1), (25, bV true)] zo ?_
   refine zt ?_
   refine kI [.no, .no] True [(6, iV (aH wr ar br))] [] 4 trivial ?_
   refine AW.ret ?_
   exact kC (.inr rfl) [] (P := (((fX wk wr wz ak ar az bk br bz w a b) : Int) = (aH wr ar br))) zk dW
  ·refine kN [.no, .b false] (¬ ((aH wr ar br) ≠ 0)) [(10, iV (aH wr ar br)), (16, oV 3 0 4 1), (17, iV 4), (18, iV 1), (25, bV false)] zo ?_
   refine q8 ?_
   refine uJ [.w, .no] (uZ (2 : Int)) [(16, oV 3 0 4 1), (17, iV 4), (18, iV 2)] ⟨by omega, by omega⟩ ?_
   refine AWr.s ?_
   refine kI [.b true] (((2 : Int) < 4)) [(16, oV 3 0 4 1), (17, iV 4), (18, iV 2), (19, bV true)] [(0, some (27, (a7 wk wr w o wz))), (1, some (27, (aZ ak ar a n az))), (2, some (27, (aY bk br b m bz))), (3, some (85, fL))] 4 zo ?_
   refine AW.seq ?_
   refine yW ?_
   refine AW.seq ?_
   refine AW.block ?_
   refine kN [.n2 2 2, .no, .no] ((kM 2) ∧ ((2 : Nat) < 4) ∧ ((0 : Nat) + 2 * 1 = 2)) [(9, .e (.c (.fn 67 [(0, 0), (1, 0), (2, 0)]))), (16, oV 3 0 4 1), (17, iV 4), (18, iV 2)] ⟨rfl, zo, zo⟩ ?_
   have hx5 : ((((-1) : Int) ≤ (yY w a b)) ∧ ((yY w a b) ≤ 1)) := b9 w a b
   refine kN [.no, .call [0, 1, 2] (iV (yY w a b)) [(0, some (27, (a7 wk wr w o wz))), (1, some (27, (aZ ak ar a n az))), (2, some (27, (aY bk br b m bz)))] 3 [] none, .no] _ [(10, iV (yY w a b)), (16, oV 3 0 4 1), (17, iV 4), (18, iV 2)] (u36 wk wr wz ak ar az bk br bz w a b o n m zo zo zo zo zo zo zo zo zo zo zo zo) ?_
   by_cases hx6 : ((yY w a b) ≠ 0)
   ·refine kN [.no, .b true] (((yY w a b) ≠ 0)) [(10, iV (yY w a b)), (16, oV 3 0 4 1), (17, iV 4), (18, iV 2), (25, bV true)] zo ?_
    refine zt ?_
    refine kI [.no, .no] True [(6, iV (yY w a b))] [] 4 trivial ?_
    refine AW.ret ?_
    exact kC (.inr rfl) [] (P := (((fX wk wr wz ak ar az bk br bz w a b) : Int) = (yY w a b))) zk dW
   ·refine kN [.no, .b false] (¬ ((yY w a b) ≠ 0)) [(10, iV (yY w a b)), (16, oV 3 0 4 1), (17, iV 4), (18, iV 2), (25, bV false)] zo ?_
    refine q8 ?_
    refine uJ [.w, .no] (uZ (3 : Int)) [(16, oV 3 0 4 1), (17, iV 4), (18, iV 3)] ⟨by omega, by omega⟩ ?_
    refine AWr.s ?_
    refine kI [.b true] (((3 : Int) < 4)) [(16, oV 3 0 4 1), (17, iV 4), (18, iV 3), (19, bV true)] [(0, some (27, (a7 wk wr w o wz))), (1, some (27, (aZ ak ar a n az))), (2, some (27, (aY bk br b m bz))), (3, some (85, fL))] 4 zo ?_
    refine AW.seq ?_
    refine yW ?_
    refine AW.seq ?_
    refine AW.block ?_
    refine kN [.n2 3 3, .no, .no] ((kM 3) ∧ ((3 : Nat) < 4) ∧ ((0 : Nat) + 3 * 1 = 3)) [(9, .e (.c (.fn 69 [(0, 0), (1, 0), (2, 0)]))), (16, oV 3 0 4 1), (17, iV 4), (18, iV 3)] ⟨rfl, zo, zo⟩ ?_
    have hx7 : ((((-1) : Int) ≤ (aH wz az bz)) ∧ ((aH wz az bz) ≤ 1)) := cQ wz az bz
    refine kN [.no, .call [0, 1, 2] (iV (aH wz az bz)) [(0, some (27, (a7 wk wr w o wz))), (1, some (27, (aZ ak ar a n az))), (2, some (27, (aY bk br b m bz)))] 3 [] none, .no] _ [(10, iV (aH wz az bz)), (16, oV 3 0 4 1), (17, iV 4), (18, iV 3)] (u35 wk wr wz ak ar az bk br bz w a b o n m zo zo zo zo zo zo zo zo zo zo zo zo) ?_
    by_cases hx8 : ((aH wz az bz) ≠ 0)
    ·refine kN [.no, .b true] (((aH wz az bz) ≠ 0)) [(10, iV (aH wz az bz)), (16, oV 3 0 4 1), (17, iV 4), (18, iV 3), (25, bV true)] zo ?_
     refine zt ?_
     refine kI [.no, .no] True [(6, iV (aH wz az bz))] [] 4 trivial ?_
     refine AW.ret ?_
     exact kC (.inr rfl) [] (P := (((fX wk wr wz ak ar az bk br bz w a b) : Int) = (aH wz az bz))) zk dW
    ·refine kN [.no, .b false] (¬ ((aH wz az bz) ≠ 0)) [(10, iV (aH wz az bz)), (16, oV 3 0 4 1), (17, iV 4), (18, iV 3), (25, bV false)] zo ?_
     refine q8 ?_
     refine uJ [.w, .no] (uZ (4 : Int)) [(16, oV 3 0 4 1), (17, iV 4), (18, iV 4)] ⟨by omega, by omega⟩ ?_
     refine AWr.s ?_
     refine kI [.b false] (¬ ((4 : Int) < 4)) [(16, oV 3 0 4 1), (17, iV 4), (18, iV 4), (19, bV false)] [(0, some (27, (a7 wk wr w o wz))), (1, some (27, (aZ ak ar a n az))), (2, some (27, (aY bk br b m bz))), (3, some (85, fL))] 4 zo ?_
     refine AW.seq ?_
     refine zf ?_
     refine AW.exit ?_
     refine kI [.no] True [(6, iV 0)] [] 4 trivial ?_
     refine AW.ret ?_
     exact kC (.inr rfl) [] (P := (((fX wk wr wz ak ar az bk br bz w a b) : Int) = 0)) zk dW
theorem nD (wk wr wz ak ar az bk br bz : Int) (w a b : List Int) (o n m : Nat) (ho : ka0 w = o) (hn : ka0 a = n) (hm : ka0 b = m) (h1 : o ≤ 1000000) (h2 : n ≤ 1000000) (h3 : m ≤ 1000000) (hwr : -9223372036854775808 ≤ wr ∧ wr ≤ 9223372036854775807) (har : -9223372036854775808 ≤ ar ∧ ar ≤ 9223372036854775807) (hbr : -9223372036854775808 ≤ br ∧ br ≤ 9223372036854775807) (hwz : -9223372036854775808 ≤ wz ∧ wz ≤ 9223372036854775807) (haz : -9223372036854775808 ≤ az ∧ az ≤ 9223372036854775807) (hbz : -9223372036854775808 ≤ bz ∧ bz ≤ 9223372036854775807) : Fun 30 [.agg [iC wk, iC wr, .d (D.sl (dI .i64 w) o), iC wz], .agg [iC ak, iC ar, .d (D.sl (dI .i64 a) n), iC az], .agg [iC bk, iC br, .d (D.sl (dI .i64 b) m), iC bz]] (kE []) 0 (iV (fX wk wr wz ak ar az bk br bz w a b)) (kE []) 0 := by
 refine Fun.mk (n := 56) Tryz.func30 rfl rfl (ka4 rfl) ?_
 intro cx hcx
 refine kI (kT 4 []) True [(3, rV 0 0), (4, rV 1 0), (5, rV 2 0)] [(0, some (27, .ds [iD wk, iD wr, dl w o, iD wz])), (1, some (27, .ds [iD ak, iD ar, dl a n, iD az])), (2, some (27, .ds [iD bk, iD br, dl b m, iD bz]))] 3 trivial ?_
 refine AW.seq ?_
 have hx1 : ((((-1) : Int) ≤ (vQ wk ak bk)) ∧ ((vQ wk ak bk) ≤ 1)) := cT wk ak bk
 refine kN (kT 9 [.call [] (iV (vQ wk ak bk)) [] 0 [] none, .no]) _ [(3, rV 0 0), (4, rV 1 0), (5, rV 2 0), (7, iV (vQ wk ak bk))] (nC wk ak bk) ?_
 by_cases hx2 : ((vQ wk ak bk) ≠ 0)
 ·refine kN [.no, .b true] (((vQ wk ak bk) ≠ 0)) [(3, rV 0 0), (4, rV 1 0), (5, rV 2 0), (7, iV (vQ wk ak bk)), (21, bV true)] zo ?_
  refine zt ?_
  refine kI [.no, .no] True [(6, iV (vQ wk ak bk))] [] 3 trivial ?_
  refine AW.ret ?_
  exact kC (.inr rfl) [] (P := (((fX wk wr wz ak ar az bk br bz w a b) : Int) = (vQ wk ak bk))) zk dW
 ·refine kN [.no, .b false] (¬ ((vQ wk ak bk) ≠ 0)) [(3, rV 0 0), (4, rV 1 0), (5, rV 2 0), (7, iV (vQ wk ak bk)), (21, bV false)] zo ?_
  refine q8 ?_
  refine AW.seq ?_
  have hx3 : ((((-1) : Int) ≤ (aH wr ar br)) ∧ ((aH wr ar br) ≤ 1)) := cQ wr ar br
  refine kN (kT 9 [.call [] (iV (aH wr ar br)) [] 0 [] none, .no]) _ [(3, rV 0 0), (4, rV 1 0), (5, rV 2 0), (8, iV (aH wr ar br))] (k1f wr ar br zo zo zo) ?_
  by_cases hx4 : ((aH wr ar br) ≠ 0)
  ·refine kN [.no, .b true] (((aH wr ar br) ≠ 0)) [(3, rV 0 0), (4, rV 1 0), (5, rV 2 0), (8, iV (aH wr ar br)), (34, bV true)] zo ?_
   refine zt ?_
   refine kI [.no, .no] True [(6, iV (aH wr ar br))] [] 3 trivial ?_
   refine AW.ret ?_
   exact kC (.inr rfl) [] (P := (((fX wk wr wz ak ar az bk br bz w a b) : Int) = (aH wr ar br))) zk dW
  ·refine kN [.no, .b false] (¬ ((aH wr ar br) ≠ 0)) [(3, rV 0 0), (4, rV 1 0), (5, rV 2 0), (8, iV (aH wr ar br)), (34, bV false)] zo ?_
   refine q8 ?_
   refine AW.seq ?_
   have hx5 : ((((-1) : Int) ≤ (yY w a b)) ∧ ((yY w a b) ≤ 1)) := b9 w a b
   refine kN (kT 9 [.call [] (iV (yY w a b)) [] 0 [] none, .no]) _ [(3, rV 0 0), (4, rV 1 0), (5, rV 2 0), (9, iV (yY w a b))] (sL w a b o n m zo zo zo zo zo zo) ?_
   by_cases hx6 : ((yY w a b) ≠ 0)
   ·refine kN [.no, .b true] (((yY w a b) ≠ 0)) [(3, rV 0 0), (4, rV 1 0), (5, rV 2 0), (9, iV (yY w a b)), (47, bV true)] zo ?_
    refine zt ?_
    refine kI [.no, .no] True [(6, iV (yY w a b))] [] 3 trivial ?_
    refine AW.ret ?_
    exact kC (.inr rfl) [] (P := (((fX wk wr wz ak ar az bk br bz w a b) : Int) = (yY w a b))) zk dW
   ·refine kN [.no, .b false] (¬ ((yY w a b) ≠ 0)) [(3, rV 0 0), (4, rV 1 0), (5, rV 2 0), (9, iV (yY w a b)), (47, bV false)] zo ?_
    refine q8 ?_
    have hx7 : ((((-1) : Int) ≤ (aH wz az bz)) ∧ ((aH wz az bz) ≤ 1)) := cQ wz az bz
    refine kI (kT 6 [.call [] (iV (aH wz az bz)) [] 0 [] none, .no]) _ [(6, iV (aH wz az bz))] [] 3 (k1f wz az bz zo zo zo) ?_
    refine AW.ret ?_
    exact kC (.inr rfl) [] (P := (((fX wk wr wz ak ar az bk br bz w a b) : Int) = (aH wz az bz))) zk dW
end Go.Proofs.YtcfmjpnffembpaaGreat
