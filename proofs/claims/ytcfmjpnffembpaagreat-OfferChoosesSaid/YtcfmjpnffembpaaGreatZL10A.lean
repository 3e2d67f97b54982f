/- Choices compared. No statement is proved here. -/
import Derived.Test.YtcfmjpnffembpaaGreatZL06
namespace Go.Proofs.YtcfmjpnffembpaaGreat
open Go.ChangeShapes Go.WideShapes Go.ChangeAt Go.RowKit
open Bool renaming eq_false_or_eq_true → kb2
open List renaming drop → ka4, drop_eq_getElem_cons → kd1, drop_eq_nil_of_le → kf2, getD → ka1, getD_eq_getElem?_getD → ka7, getElem?_eq_getElem → kb1, length → ka0
open Nat renaming le_of_ble_eq_true → ka5
set_option linter.unusedVariables false
set_option linter.unusedSimpArgs false
/-! chapter 10: how choices are compared -/
set_option maxHeartbeats 4000000
set_option maxRecDepth 100000
structure Cmp {α : Type} (f : α → α → Int) : Prop where
 anti : ∀ a b, f a b = - f b a
 tr : ∀ a b c, f a b ≤ 0 → f b c ≤ 0 → f a c ≤ 0
theorem Cmp.zero {α : Type} {f : α → α → Int} (h : Cmp f) (a : α) : f a a = 0 := by
 have := h.anti a a; omega
def yG (a b : Int) : Int := if a = 0 then b else a
theorem k12 {a b : Int} (h : ¬ a = 0) : yG a b = a := if_neg h
theorem lV {a b : Int} (h : a = 0) : yG a b = b := if_pos h
def qZ (a b : Int) : Int := if a < b then -1 else if a = b then 0 else 1
theorem eJ {a b : Int} : qZ a b = 0 ↔ a = b := by
 unfold qZ; (repeat' split) <;> omega
theorem f0 (a b : Int) : -1 ≤ qZ a b ∧ qZ a b ≤ 1 := by
 unfold qZ; (repeat' split) <;> omega
def a7 (p q : Bool) : Int := if p = q then 0 else if p = true then -1 else 1
theorem k5n {p q : Bool} : a7 p q = 0 ↔ p = q := by
 cases p <;> cases q <;> decide
theorem eA (p q : Bool) : -1 ≤ a7 p q ∧ a7 p q ≤ 1 := by
 cases p <;> cases q <;> decide
theorem Cmp.first {α : Type} (p : α → Bool) : Cmp (fun a b => a7 (p a) (p b)) :=
 ⟨fun a b => by cases p a <;> cases p b <;> decide, fun a b c => by cases p a <;> cases p b <;> cases p c <;> decide⟩
def dP : List Int → List Int → Int
 | [], [] => 0
 | [], _ :: _ => -1
 | _ :: _, [] => 1
 | a :: r, b :: s => yG (qZ a b) (dP r s)
theorem sC : ∀ (a b : List Int), -1 ≤ dP a b ∧ dP a b ≤ 1
 | [], [] => by decide
 | [], _ :: _ => by simp [dP]
 | _ :: _, [] => by simp [dP]
 | a :: r, b :: s => by
  have h1 := f0 a b; have h2 := sC r s
  show -1 ≤ yG _ _ ∧ yG _ _ ≤ 1
  unfold yG; split <;> omega
theorem sB {a b : List Int} {k : Nat} {x : Int} (h : x = dP (ka4 k a) (ka4 k b)) (h1 : k < a.length) (h2 : k < b.length) (h3 : qZ (ka1 a k 0) (ka1 b k 0) = 0) : x = dP (ka4 (k + 1) a) (ka4 (k + 1) b) := by
 have e1 : ka1 a k 0 = a[k] := by rw [ka7, kb1 h1]; rfl
 have e2 : ka1 b k 0 = b[k] := by rw [ka7, kb1 h2]; rfl
 rw [h, kd1 h1, kd1 h2]
 show yG (qZ a[k] b[k]) _ = _
 rw [e1, e2] at h3
 exact lV h3
theorem pJ {a b : List Int} {k : Nat} {x : Int} (h : x = dP (ka4 k a) (ka4 k b)) (h1 : k < a.length) (h2 : k < b.length) (h3 : ¬ qZ (ka1 a k 0) (ka1 b k 0) = 0) : x = qZ (ka1 a k 0) (ka1 b k 0) := by
 have e1 : ka1 a k 0 = a[k] := by rw [ka7, kb1 h1]; rfl
 have e2 : ka1 b k 0 = b[k] := by rw [ka7, kb1 h2]; rfl
 rw [h, kd1 h1, kd1 h2]
 show yG (qZ a[k] b[k]) _ = _
 rw [e1, e2] at h3 ⊢
 exact k12 h3
theorem k1i {a b : List Int} {k : Nat} {x : Int} (h : x = dP (ka4 k a) (ka4 k b)) (h1 : k < a.length) (h2 : b.length ≤ k) : x = 1 := by
 rw [h, kd1 h1, kf2 h2]; rfl
theorem k1h {a b : List Int} {k : Nat} {x : Int} (h : x = dP (ka4 k a) (ka4 k b)) (h1 : a.length ≤ k) (h2 : k < b.length) : x = -1 := by
 rw [h, kd1 h2, kf2 h1]; rfl
theorem bQ {a b : List Int} {k : Nat} {x : Int} (h : x = dP (ka4 k a) (ka4 k b)) (h1 : a.length ≤ k) (h2 : b.length ≤ k) : x = 0 := by
 rw [h, kf2 h2, kf2 h1]; rfl
theorem mD {a b : List Int} {k : Nat} {x : Int} (h : x = dP (ka4 k a) (ka4 k b)) (h1 : k < a.length) (h2 : k < b.length) (h3 : ka1 a k 0 < ka1 b k 0) : x = -1 := by
 rw [pJ h h1 h2 (fun e => by have := eJ.1 e; omega)]; unfold qZ; exact if_pos h3
theorem mE {a b : List Int} {k : Nat} {x : Int} (h : x = dP (ka4 k a) (ka4 k b)) (h1 : k < a.length) (h2 : k < b.length) (h3 : ka1 b k 0 < ka1 a k 0) : x = 1 := by
 rw [pJ h h1 h2 (fun e => by have := eJ.1 e; omega)]; unfold qZ; rw [if_neg (by omega), if_neg (by omega)]
def v4 (a b : Int) : Int := if a > b then a - b else b - a
theorem k26 (a b : Int) : 0 ≤ v4 a b := by unfold v4; split <;> omega
theorem dO (a b : Int) : v4 a b = v4 b a := by unfold v4; (repeat' split) <;> omega
def aA (w a b : Int) : Int := yG (qZ (v4 w a) (v4 w b)) (qZ a b)
def vR (w a b : Int) : Int := yG (a7 (decide (a = w)) (decide (b = w))) (qZ b a)
def gC (w m : List Int) : Int := ((yS w m (ka0 m)).length : Int)
def yR (w a b : List Int) : Int := yG (a7 (vQ a w) (vQ b w)) (yG (qZ (gC w b) (gC w a)) (yG (qZ (a.length : Int) (b.length : Int)) (dP a b)))
theorem cU {a b : Int} (h1 : -1 ≤ a ∧ a ≤ 1) (h2 : -1 ≤ b ∧ b ≤ 1) : -1 ≤ yG a b ∧ yG a b ≤ 1 := by
 unfold yG; split <;> assumption
theorem cV (w a b : Int) : -1 ≤ aA w a b ∧ aA w a b ≤ 1 := cU (f0 _ _) (f0 _ _)
theorem cX (w a b : Int) : -1 ≤ vR w a b ∧ vR w a b ≤ 1 := cU (eA _ _) (f0 _ _)
theorem bY (w a b : List Int) : -1 ≤ yR w a b ∧ yR w a b ≤ 1 := cU (eA _ _) (cU (f0 _ _) (cU (f0 _ _) (sC _ _)))
theorem mC {w a b : List Int} (h1 : vQ a w = true) (h2 : vQ b w = false) : yR w a b = -1 := by
 unfold yR; rw [h1, h2]; rfl
theorem mB {w a b : List Int} (h1 : vQ a w = false) (h2 : vQ b w = true) : yR w a b = 1 := by
 unfold yR; rw [h1, h2]; rfl
theorem mA {w a b : List Int} {p q : Int} (hp : p = gC w b) (hq : q = gC w a) (h : vQ a w = vQ b w) (hc : ¬ qZ p q = 0) : yR w a b = qZ p q := by
 subst hp; subst hq
 unfold yR; rw [lV (k5n.2 h), k12 hc]
theorem l9 {w a b : List Int} {p q : Int} (hp : p = gC w b) (hq : q = gC w a) {n m : Nat} (h : vQ a w = vQ b w) (hc : qZ p q = 0) (hn : a.length = n) (hm : b.length = m) (hl : ¬ qZ (n : Int) (m : Int) = 0) : yR w a b = qZ (n : Int) (m : Int) := by
 subst hp; subst hq
 unfold yR; rw [lV (k5n.2 h), lV hc, hn, hm, k12 hl]
theorem l8 {w a b : List Int} {p q : Int} (hp : p = gC w b) (hq : q = gC w a) {n m : Nat} {x : Int} (h : vQ a w = vQ b w) (hc : qZ p q = 0) (hn : a.length = n) (hm : b.length = m) (hl : qZ (n : Int) (m : Int) = 0) (hx : dP a b = x) : yR w a b = x := by
 subst hp; subst hq
 unfold yR; rw [lV (k5n.2 h), lV hc, hn, hm, lV hl, hx]
theorem w4 {a b : Int} (h : a < b) : qZ a b = -1 := if_pos h
theorem w5 {a b : Int} (h : b < a) : qZ a b = 1 := by unfold qZ; rw [if_neg (by omega), if_neg (by omega)]
theorem k50 {w a b : Int} (h : ¬ qZ (v4 a w) (v4 b w) = 0) : aA w a b = qZ (v4 a w) (v4 b w) := by
 unfold aA; rw [dO w a, dO w b]; exact k12 h
theorem k4z {w a b x : Int} (h : qZ (v4 a w) (v4 b w) = 0) (hx : qZ a b = x) : aA w a b = x := by
 unfold aA; rw [dO w a, dO w b, lV h]; exact hx
theorem mH {a b : Int} (ha : -9223372036854775808 ≤ a ∧ a ≤ 9223372036854775807) (hb : -9223372036854775808 ≤ b ∧ b ≤ 9223372036854775807) (h : b ≤ a) : IntKind.u64.wrap (IntKind.u64.wrap a - IntKind.u64.wrap b) = a - b := by
 show ((a % 18446744073709551616) - (b % 18446744073709551616)) % 18446744073709551616 = a - b
 omega
theorem u3c {a b : Int} (ha : -9223372036854775808 ≤ a ∧ a ≤ 9223372036854775807) (hb : -9223372036854775808 ≤ b ∧ b ≤ 9223372036854775807) : v4 a b = IntKind.u64.wrap (IntKind.u64.wrap (max a b) - IntKind.u64.wrap (min a b)) := by
 unfold v4
 by_cases h : a > b
 ·rw [if_pos h, Int.max_eq_left (by omega), Int.min_eq_right (by omega), mH ha hb (by omega)]
 ·rw [if_neg h, Int.max_eq_right (by omega), Int.min_eq_left (by omega), mH hb ha (by omega)]
theorem u3b {a b : Int} (ha : -9223372036854775808 ≤ a ∧ a ≤ 9223372036854775807) (hb : -9223372036854775808 ≤ b ∧ b ≤ 9223372036854775807) (h : b < a) : v4 a b = IntKind.u64.wrap (IntKind.u64.wrap a - IntKind.u64.wrap b) := by
 unfold v4; rw [if_pos h, mH ha hb (by omega)]
theorem u3a {a b : Int} (ha : -9223372036854775808 ≤ a ∧ a ≤ 9223372036854775807) (hb : -9223372036854775808 ≤ b ∧ b ≤ 9223372036854775807) (h : ¬ b < a) : v4 a b = IntKind.u64.wrap (IntKind.u64.wrap b - IntKind.u64.wrap a) := by
 unfold v4; rw [if_neg h, mH hb ha (by omega)]
structure Co where
 k : Int
 r : Int
 m : List Int
 s : Int
def coV (w a b : Co) : Int := yG (vR w.k a.k b.k) (yG (aA w.r a.r b.r) (yG (yR w.m a.m b.m) (aA w.s a.s b.s)))
theorem k9s (w a b : Co) : -1 ≤ coV w a b ∧ coV w a b ≤ 1 := cU (cX _ _ _) (cU (cV _ _ _) (cU (bY _ _ _) (cV _ _ _)))
def vO (wk wr wz ak ar az bk br bz : Int) (w a b : List Int) : Int := yG (vR wk ak bk) (yG (aA wr ar br) (yG (yR w a b) (aA wz az bz)))
theorem aE (wk wr wz ak ar az bk br bz : Int) (w a b : List Int) : -1 ≤ vO wk wr wz ak ar az bk br bz w a b ∧ vO wk wr wz ak ar az bk br bz w a b ≤ 1 := k9s ⟨wk, wr, w, wz⟩ ⟨ak, ar, a, az⟩ ⟨bk, br, b, bz⟩
theorem pT (a : Int)  : Fun 139 [iE a] (kK []) 0 (bV false) (kK []) 0 := by
 refine Fun.mk (n := 6) Tryz.func139 rfl rfl (ka5 rfl) ?_
 intro cx hcx
 refine kL [.no] True [(0, iV a)] [] 0 trivial ?_
 refine kP [.no, .no, .b false, .no] (¬ (a ≠ a)) [(2, bV false)] zo ?_
 refine AW.ret ?_
 exact kD (.inr rfl) [] (P := (false = false)) zk rfl
theorem dX {p : Prop} (h : p := by first | rfl | (unfold qZ; (repeat' split) <;> omega)) : p := h
theorem aL (a b : Int)  : Fun 107 [iE a, iE b] (kK []) 0 (iV (qZ a b)) (kK []) 0 := by
 refine Fun.mk (n := 20) Tryz.func107 rfl rfl (ka5 rfl) ?_
 intro cx hcx
 refine kL [.no] True [(0, iV a), (1, iV b)] [] 0 trivial ?_
 refine kP [.no, .call [] (bV false) [] 0 [] none, .no] _ [(0, iV a), (1, iV b), (5, bV false)] (pT a) ?_
 refine kP [.no, .call [] (bV false) [] 0 [] none, .no] _ [(0, iV a), (1, iV b), (5, bV false), (6, bV false)] (pT b) ?_
 refine AW.seq ?_
 refine kP [.no] True [(0, iV a), (1, iV b), (6, bV false), (11, bV false)] trivial ?_
 refine uB ?_
 refine AW.seq ?_
 refine kP [.no] True [(0, iV a), (1, iV b), (13, bV false)] trivial ?_
 refine uB ?_
 refine AW.seq ?_
 by_cases hx1 : (a < b)
 ·refine kP [.no, .no, .b true] ((a < b)) [(0, iV a), (1, iV b), (16, bV true)] zo ?_
  refine zt ?_
  refine kP [.no] True [(4, iV (-1))] trivial ?_
  refine AW.ret ?_
  exact kD (.inr rfl) [] (P := (((qZ a b) : Int) = (-1))) zk dX
 ·refine kP [.no, .no, .b false] (¬ (a < b)) [(0, iV a), (1, iV b), (16, bV false)] zo ?_
  refine uB ?_
  refine AW.seq ?_
  by_cases hx2 : (b < a)
  ·refine kP [.no, .no, .b true] ((b < a)) [(19, bV true)] zo ?_
   refine zt ?_
   refine kP [.no] True [(4, iV 1)] trivial ?_
   refine AW.ret ?_
   exact kD (.inr rfl) [] (P := (((qZ a b) : Int) = 1)) zk dX
  ·refine kP [.no, .no, .b false] (¬ (b < a)) [(19, bV false)] zo ?_
   refine uB ?_
   refine kP [.no] True [(4, iV 0)] trivial ?_
   refine AW.ret ?_
   exact kD (.inr rfl) [] (P := (((qZ a b) : Int) = 0)) zk dX
theorem pS (a : Int)  : Fun 140 [.c (.d (D.lit (.int .u64 a)))] (kK []) 0 (bV false) (kK []) 0 := by
 refine Fun.mk (n := 6) Tryz.func140 rfl rfl (ka5 rfl) ?_
 intro cx hcx
 refine kL [.no] True [(0, qY (D.lit (.int .u64 a)))] [] 0 trivial ?_
 refine kP [.no, .no, .b false, .no] (¬ (a ≠ a)) [(2, bV false)] zo ?_
 refine AW.ret ?_
 exact kD (.inr rfl) [] (P := (false = false)) zk rfl
theorem k3p (a b : Int)  : Fun 108 [.c (.d (D.lit (.int .u64 a))), .c (.d (D.lit (.int .u64 b)))] (kK []) 0 (iV (qZ a b)) (kK []) 0 := by
 refine Fun.mk (n := 20) Tryz.func108 rfl rfl (ka5 rfl) ?_
 intro cx hcx
 refine kL [.no] True [(0, qY (D.lit (.int .u64 a))), (1, qY (D.lit (.int .u64 b)))] [] 0 trivial ?_
 refine kP [.no, .call [] (bV false) [] 0 [] none, .no] _ [(0, qY (D.lit (.int .u64 a))), (1, qY (D.lit (.int .u64 b))), (5, bV false)] (pS a) ?_
 refine kP [.no, .call [] (bV false) [] 0 [] none, .no] _ [(0, qY (D.lit (.int .u64 a))), (1, qY (D.lit (.int .u64 b))), (5, bV false), (6, bV false)] (pS b) ?_
 refine AW.seq ?_
 refine kP [.no] True [(0, qY (D.lit (.int .u64 a))), (1, qY (D.lit (.int .u64 b))), (6, bV false), (11, bV false)] trivial ?_
 refine uB ?_
 refine AW.seq ?_
 refine kP [.no] True [(0, qY (D.lit (.int .u64 a))), (1, qY (D.lit (.int .u64 b))), (13, bV false)] trivial ?_
 refine uB ?_
 refine AW.seq ?_
 by_cases hx1 : (a < b)
 ·refine kP [.no, .no, .b true] ((a < b)) [(0, qY (D.lit (.int .u64 a))), (1, qY (D.lit (.int .u64 b))), (16, bV true)] zo ?_
  refine zt ?_
  refine kP [.no] True [(4, iV (-1))] trivial ?_
  refine AW.ret ?_
  exact kD (.inr rfl) [] (P := (((qZ a b) : Int) = (-1))) zk dX
 ·refine kP [.no, .no, .b false] (¬ (a < b)) [(0, qY (D.lit (.int .u64 a))), (1, qY (D.lit (.int .u64 b))), (16, bV false)] zo ?_
  refine uB ?_
  refine AW.seq ?_
  by_cases hx2 : (b < a)
  ·refine kP [.no, .no, .b true] ((b < a)) [(19, bV true)] zo ?_
   refine zt ?_
   refine kP [.no] True [(4, iV 1)] trivial ?_
   refine AW.ret ?_
   exact kD (.inr rfl) [] (P := (((qZ a b) : Int) = 1)) zk dX
  ·refine kP [.no, .no, .b false] (¬ (b < a)) [(19, bV false)] zo ?_
   refine uB ?_
   refine kP [.no] True [(4, iV 0)] trivial ?_
   refine AW.ret ?_
   exact kD (.inr rfl) [] (P := (((qZ a b) : Int) = 0)) zk dX
theorem k3l   : Fun 106 [.c (.d (D.lit (.bool true))), .c (.d (D.lit (.bool true)))] (kK []) 0 (iV 0) (kK []) 0 := by
 refine Fun.mk (n := 11) Tryz.func106 rfl rfl (ka5 rfl) ?_
 intro cx hcx
 refine kL [.no] True [(0, bV true), (1, bV true)] [] 0 trivial ?_
 refine AW.seq ?_
 refine AW.block ?_
 refine kP (qA 4 []) True [(0, bV true), (5, bV true)] trivial ?_
 refine zt ?_
 refine kP [.no] True [(4, iV 0)] trivial ?_
 refine AW.ret ?_
 exact kD (.inr rfl) [] (P := (kO 0)) zk rfl
theorem k3m   : Fun 106 [.c (.d (D.lit (.bool true))), .c (.d (D.lit (.bool false)))] (kK []) 0 (iV (-1)) (kK []) 0 := by
 refine Fun.mk (n := 11) Tryz.func106 rfl rfl (ka5 rfl) ?_
 intro cx hcx
 refine kL [.no] True [(0, bV true), (1, bV false)] [] 0 trivial ?_
 refine AW.seq ?_
 refine AW.block ?_
 refine kP (qA 4 []) True [(0, bV true), (5, bV false)] trivial ?_
 refine zf ?_
 refine kP [.no, .no] True [(9, bV true)] trivial ?_
 refine zt ?_
 refine kP [.no] True [(4, iV (-1))] trivial ?_
 refine AW.ret ?_
 exact kD (.inr rfl) [] (P := (kO (-1))) zk rfl
theorem k3n   : Fun 106 [.c (.d (D.lit (.bool false))), .c (.d (D.lit (.bool true)))] (kK []) 0 (iV 1) (kK []) 0 := by
 refine Fun.mk (n := 11) Tryz.func106 rfl rfl (ka5 rfl) ?_
 intro cx hcx
 refine kL [.no] True [(0, bV false), (1, bV true)] [] 0 trivial ?_
 refine AW.seq ?_
 refine AW.block ?_
 refine kP (qA 4 []) True [(0, bV false), (5, bV false)] trivial ?_
 refine zf ?_
 refine kP [.no, .no] True [(9, bV false)] trivial ?_
 refine uB ?_
 refine kP [.no] True [(4, iV 1)] trivial ?_
 refine AW.ret ?_
 exact kD (.inr rfl) [] (P := (kO 1)) zk rfl
theorem k3o   : Fun 106 [.c (.d (D.lit (.bool false))), .c (.d (D.lit (.bool false)))] (kK []) 0 (iV 0) (kK []) 0 := by
 refine Fun.mk (n := 11) Tryz.func106 rfl rfl (ka5 rfl) ?_
 intro cx hcx
 refine kL [.no] True [(0, bV false), (1, bV false)] [] 0 trivial ?_
 refine AW.seq ?_
 refine AW.block ?_
 refine kP (qA 4 []) True [(0, bV false), (5, bV true)] trivial ?_
 refine zt ?_
 refine kP [.no] True [(4, iV 0)] trivial ?_
 refine AW.ret ?_
 exact kD (.inr rfl) [] (P := (kO 0)) zk rfl
theorem jG (p q : Bool) : Fun 106 [.c (.d (D.lit (.bool (p)))), .c (.d (D.lit (.bool (q))))] (kK []) 0 (iV (a7 p q)) (kK []) 0 := by
 cases p <;> cases q
 ·exact k3o
 ·exact k3n
 ·exact k3m
 ·exact k3l
theorem k7i (a b : Int) (ha : -9223372036854775808 ≤ a ∧ a ≤ 9223372036854775807) (hb : -9223372036854775808 ≤ b ∧ b ≤ 9223372036854775807) : Fun 109 [iE a, iE b] (kK []) 0 (qY (D.lit (.int .u64 (v4 a b)))) (kK []) 0 := by
 refine Fun.mk (n := 14) Tryz.func109 rfl rfl (ka5 rfl) ?_
 intro cx hcx
 refine kL [.no] True [(0, iV a), (1, iV b)] [] 0 trivial ?_
 refine kP (qA 10 []) True [(4, qY (D.lit (.int .u64 (IntKind.u64.wrap ((IntKind.u64.wrap (max a b)) - (IntKind.u64.wrap (min a b)))))))] trivial ?_
 refine AW.ret ?_
 exact kD (.inr rfl) [] (P := (((v4 a b) : Int) = (IntKind.u64.wrap ((IntKind.u64.wrap (max a b)) - (IntKind.u64.wrap (min a b)))))) zk (by first | exact u3c ha hb | exact u3b ha hb zo | exact u3a ha hb zo)
theorem k7j (a b : Int) (ha : -9223372036854775808 ≤ a ∧ a ≤ 9223372036854775807) (hb : -9223372036854775808 ≤ b ∧ b ≤ 9223372036854775807) : Fun 115 [iE a, iE b] (kK []) 0 (qY (D.lit (.int .u64 (v4 a b)))) (kK []) 0 := by
 refine Fun.mk (n := 18) Tryz.func115 rfl rfl (ka5 rfl) ?_
 intro cx hcx
 refine kL [.no] True [(0, iV a), (1, iV b)] [] 0 trivial ?_
 refine AW.seq ?_
 by_cases hx1 : (b < a)
 ·refine kP [.no, .no, .b true] ((b < a)) [(0, iV a), (1, iV b), (7, bV true)] zo ?_
  refine zt ?_
  refine kP (qA 6 []) True [(4, qY (D.lit (.int .u64 (IntKind.u64.wrap ((IntKind.u64.wrap a) - (IntKind.u64.wrap b))))))] trivial ?_
  refine AW.ret ?_
  exact kD (.inr rfl) [] (P := (((v4 a b) : Int) = (IntKind.u64.wrap ((IntKind.u64.wrap a) - (IntKind.u64.wrap b))))) zk (by first | exact u3c ha hb | exact u3b ha hb zo | exact u3a ha hb zo)
 ·refine kP [.no, .no, .b false] (¬ (b < a)) [(0, iV a), (1, iV b), (7, bV false)] zo ?_
  refine uB ?_
  refine kP (qA 6 []) True [(4, qY (D.lit (.int .u64 (IntKind.u64.wrap ((IntKind.u64.wrap b) - (IntKind.u64.wrap a))))))] trivial ?_
  refine AW.ret ?_
  exact kD (.inr rfl) [] (P := (((v4 a b) : Int) = (IntKind.u64.wrap ((IntKind.u64.wrap b) - (IntKind.u64.wrap a))))) zk (by first | exact u3c ha hb | exact u3b ha hb zo | exact u3a ha hb zo)
theorem jF (a b : Int)  : Fun 114 [.c (.d (D.lit (.int .u64 a))), .c (.d (D.lit (.int .u64 b)))] (kK []) 0 (iV (qZ a b)) (kK []) 0 := by
 refine Fun.mk (n := 13) Tryz.func114 rfl rfl (ka5 rfl) ?_
 intro cx hcx
 refine kL [.no] True [(0, qY (D.lit (.int .u64 a))), (1, qY (D.lit (.int .u64 b)))] [] 0 trivial ?_
 refine AW.seq ?_
 refine AW.block ?_
 by_cases hx1 : (a < b)
 ·refine kP [.no, .no, .b true, .no] ((a < b)) [(0, qY (D.lit (.int .u64 a))), (1, qY (D.lit (.int .u64 b))), (5, bV true)] zo ?_
  refine zt ?_
  refine kP [.no] True [(4, iV (-1))] trivial ?_
  refine AW.ret ?_
  exact kD (.inr rfl) [] (P := (((qZ a b) : Int) = (-1))) zk dX
 ·refine kP [.no, .no, .b false, .no] (¬ (a < b)) [(0, qY (D.lit (.int .u64 a))), (1, qY (D.lit (.int .u64 b))), (5, bV false)] zo ?_
  refine zf ?_
  by_cases hx2 : (b < a)
  ·refine kP [.no, .no, .b true, .no] ((b < a)) [(9, bV true)] zo ?_
   refine zt ?_
   refine kP [.no] True [(4, iV 1)] trivial ?_
   refine AW.ret ?_
   exact kD (.inr rfl) [] (P := (((qZ a b) : Int) = 1)) zk dX
  ·refine kP [.no, .no, .b false, .no] (¬ (b < a)) [(9, bV false)] zo ?_
   refine uB ?_
   refine kP [.no] True [(4, iV 0)] trivial ?_
   refine AW.ret ?_
   exact kD (.inr rfl) [] (P := (((qZ a b) : Int) = 0)) zk dX
theorem xH (x y : Int)  : Fun 105 [.c (.own 0 0 2 1 true)] (kK [(0, some (3, .ds [iD x, iD y]))]) 1 (iV (yG x y)) (kK [(0, some (3, .ds [iD x, iD y]))]) 1 := by
 refine Fun.mk (n := 18) Tryz.func105 rfl rfl (ka5 rfl) ?_
 intro cx hcx
 refine kL [.no] True [(0, oV 0 0 2 1)] [(0, some (3, .ds [iD x, iD y]))] 1 trivial ?_
 refine kP [.no] True [(0, oV 0 0 2 1), (3, iV 0)] trivial ?_
 refine AW.seq ?_
 refine kP [.no, .no, .no] True [(3, iV 0), (6, oV 0 0 2 1), (7, iV 2), (8, iV 0)] trivial ?_
 refine AW.block ?_
 refine AW.rounds 3 ?_
 refine AWr.s ?_
 refine kL [.b true] (((0 : Int) < 2)) [(3, iV 0), (6, oV 0 0 2 1), (7, iV 2), (8, iV 0), (9, bV true)] [(0, some (3, .ds [iD x, iD y]))] 1 zo ?_
 refine AW.seq ?_
 refine vP ?_
 refine AW.seq ?_
 refine AW.block ?_
 refine kP [.n2 0 0, .no, .no] ((kO 0) ∧ ((0 : Nat) < 2) ∧ ((0 : Nat) + 0 * 1 = 0)) [(3, iV 0), (5, iV x), (6, oV 0 0 2 1), (7, iV 2), (8, iV 0)] ⟨rfl, zo, zo⟩ ?_
 by_cases hx1 : (x ≠ 0)
 ·refine kP [.no, .no, .b true] ((x ≠ 0)) [(3, iV 0), (5, iV x), (6, oV 0 0 2 1), (7, iV 2), (8, iV 0), (14, bV true)] zo ?_
  refine zt ?_
  refine kP [.no, .no] True [(2, iV x)] trivial ?_
  refine AW.ret ?_
  exact kD (.inr rfl) [] (P := (((yG x y) : Int) = x) ∧ (kM [iD x, iD y])) zk ⟨(by unfold yG; (repeat' split) <;> first | omega | contradiction | rfl), rfl⟩
 ·refine kP [.no, .no, .b false] (¬ (x ≠ 0)) [(3, iV 0), (5, iV x), (6, oV 0 0 2 1), (7, iV 2), (8, iV 0), (14, bV false)] zo ?_
  refine uB ?_
  refine uS [.w, .no] ((-9223372036854775808) ≤ (1 : Int) ∧ (1 : Int) ≤ 9223372036854775807) [(3, iV 0), (6, oV 0 0 2 1), (7, iV 2), (8, iV 1)] ⟨by omega, by omega⟩ ?_
  refine AWr.s ?_
  refine kL [.b true] (((1 : Int) < 2)) [(3, iV 0), (6, oV 0 0 2 1), (7, iV 2), (8, iV 1), (9, bV true)] [(0, some (3, .ds [iD x, iD y]))] 1 zo ?_
  refine AW.seq ?_
  refine vP ?_
  refine AW.seq ?_
  refine AW.block ?_
  refine kP [.n2 1 1, .no, .no] ((kO 1) ∧ ((1 : Nat) < 2) ∧ ((0 : Nat) + 1 * 1 = 1)) [(3, iV 0), (5, iV y), (6, oV 0 0 2 1), (7, iV 2), (8, iV 1)] ⟨rfl, zo, zo⟩ ?_
  by_cases hx2 : (y ≠ 0)
  ·refine kP [.no, .no, .b true] ((y ≠ 0)) [(3, iV 0), (5, iV y), (6, oV 0 0 2 1), (7, iV 2), (8, iV 1), (14, bV true)] zo ?_
   refine zt ?_
   refine kP [.no, .no] True [(2, iV y)] trivial ?_
   refine AW.ret ?_
   exact kD (.inr rfl) [] (P := (((yG x y) : Int) = y) ∧ (kM [iD x, iD y])) zk ⟨(by unfold yG; (repeat' split) <;> first | omega | contradiction | rfl), rfl⟩
  ·refine kP [.no, .no, .b false] (¬ (y ≠ 0)) [(3, iV 0), (5, iV y), (6, oV 0 0 2 1), (7, iV 2), (8, iV 1), (14, bV false)] zo ?_
   refine uB ?_
   refine uS [.w, .no] ((-9223372036854775808) ≤ (2 : Int) ∧ (2 : Int) ≤ 9223372036854775807) [(3, iV 0), (6, oV 0 0 2 1), (7, iV 2), (8, iV 2)] ⟨by omega, by omega⟩ ?_
   refine AWr.s ?_
   refine kL [.b false] (¬ ((2 : Int) < 2)) [(3, iV 0), (6, oV 0 0 2 1), (7, iV 2), (8, iV 2), (9, bV false)] [(0, some (3, .ds [iD x, iD y]))] 1 zo ?_
   refine AW.seq ?_
   refine zf ?_
   refine AW.exit ?_
   refine kL [.no, .no] True [(2, iV 0)] [(0, some (3, .ds [iD x, iD y]))] 1 trivial ?_
   refine AW.ret ?_
   exact kD (.inr rfl) [] (P := (((yG x y) : Int) = 0) ∧ (kM [iD x, iD y])) zk ⟨(by unfold yG; (repeat' split) <;> first | omega | contradiction | rfl), rfl⟩
theorem u5t (x y z u : Int)  : Fun 105 [.c (.own 0 0 4 1 true)] (kK [(0, some (3, .ds [iD x, iD y, iD z, iD u]))]) 1 (iV (yG x (yG y (yG z u)))) (kK [(0, some (3, .ds [iD x, iD y, iD z, iD u]))]) 1 := by
 refine Fun.mk (n := 18) Tryz.func105 rfl rfl (ka5 rfl) ?_
 intro cx hcx
 refine kL [.no] True [(0, oV 0 0 4 1)] [(0, some (3, .ds [iD x, iD y, iD z, iD u]))] 1 trivial ?_
 refine kP [.no] True [(0, oV 0 0 4 1), (3, iV 0)] trivial ?_
 refine AW.seq ?_
 refine kP [.no, .no, .no] True [(3, iV 0), (6, oV 0 0 4 1), (7, iV 4), (8, iV 0)] trivial ?_
 refine AW.block ?_
 refine AW.rounds 5 ?_
 refine AWr.s ?_
 refine kL [.b true] (((0 : Int) < 4)) [(3, iV 0), (6, oV 0 0 4 1), (7, iV 4), (8, iV 0), (9, bV true)] [(0, some (3, .ds [iD x, iD y, iD z, iD u]))] 1 zo ?_
 refine AW.seq ?_
 refine vP ?_
 refine AW.seq ?_
 refine AW.block ?_
 refine kP [.n2 0 0, .no, .no] ((kO 0) ∧ ((0 : Nat) < 4) ∧ ((0 : Nat) + 0 * 1 = 0)) [(3, iV 0), (5, iV x), (6, oV 0 0 4 1), (7, iV 4), (8, iV 0)] ⟨rfl, zo, zo⟩ ?_
 by_cases hx1 : (x ≠ 0)
 ·refine kP [.no, .no, .b true] ((x ≠ 0)) [(3, iV 0), (5, iV x), (6, oV 0 0 4 1), (7, iV 4), (8, iV 0), (14, bV true)] zo ?_
  refine zt ?_
  refine kP [.no, .no] True [(2, iV x)] trivial ?_
  refine AW.ret ?_
  exact kD (.inr rfl) [] (P := (((yG x (yG y (yG z u))) : Int) = x) ∧ (kM [iD x, iD y, iD z, iD u])) zk ⟨(by unfold yG; (repeat' split) <;> first | omega | contradiction | rfl), rfl⟩
 ·refine kP [.no, .no, .b false] (¬ (x ≠ 0)) [(3, iV 0), (5, iV x), (6, oV 0 0 4 1), (7, iV 4), (8, iV 0), (14, bV false)] zo ?_
  refine uB ?_
  refine uS [.w, .no] ((-9223372036854775808) ≤ (1 : Int) ∧ (1 : Int) ≤ 9223372036854775807) [(3, iV 0), (6, oV 0 0 4 1), (7, iV 4), (8, iV 1)] ⟨by omega, by omega⟩ ?_
  refine AWr.s ?_
  refine kL [.b true] (((1 : Int) < 4)) [(3, iV 0), (6, oV 0 0 4 1), (7, iV 4), (8, iV 1), (9, bV true)] [(0, some (3, .ds [iD x, iD y, iD z, iD u]))] 1 zo ?_
  refine AW.seq ?_
  refine vP ?_
  refine AW.seq ?_
  refine AW.block ?_
  refine kP [.n2 1 1, .no, .no] ((kO 1) ∧ ((1 : Nat) < 4) ∧ ((0 : Nat) + 1 * 1 = 1)) [(3, iV 0), (5, iV y), (6, oV 0 0 4 1), (7, iV 4), (8, iV 1)] ⟨rfl, zo, zo⟩ ?_
  by_cases hx2 : (y ≠ 0)
  ·refine kP [.no, .no, .b true] ((y ≠ 0)) [(3, iV 0), (5, iV y), (6, oV 0 0 4 1), (7, iV 4), (8, iV 1), (14, bV true)] zo ?_
   refine zt ?_
   refine kP [.no, .no] True [(2, iV y)] trivial ?_
   refine AW.ret ?_
   exact kD (.inr rfl) [] (P := (((yG x (yG y (yG z u))) : Int) = y) ∧ (kM [iD x, iD y, iD z, iD u])) zk ⟨(by unfold yG; (repeat' split) <;> first | omega | contradiction | rfl), rfl⟩
  ·refine kP [.no, .no, .b false] (¬ (y ≠ 0)) [(3, iV 0), (5, iV y), (6, oV 0 0 4 1), (7, iV 4), (8, iV 1), (14, bV false)] zo ?_
   refine uB ?_
   refine uS [.w, .no] ((-9223372036854775808) ≤ (2 : Int) ∧ (2 : Int) ≤ 9223372036854775807) [(3, iV 0), (6, oV 0 0 4 1), (7, iV 4), (8, iV 2)] ⟨by omega, by omega⟩ ?_
   refine AWr.s ?_
   refine kL [.b true] (((2 : Int) < 4)) [(3, iV 0), (6, oV 0 0 4 1), (7, iV 4), (8, iV 2), (9, bV true)] [(0, some (3, .ds [iD x, iD y, iD z, iD u]))] 1 zo ?_
   refine AW.seq ?_
   refine vP ?_
   refine AW.seq ?_
   refine AW.block ?_
   refine kP [.n2 2 2, .no, .no] ((kO 2) ∧ ((2 : Nat) < 4) ∧ ((0 : Nat) + 2 * 1 = 2)) [(3, iV 0), (5, iV z), (6, oV 0 0 4 1), (7, iV 4), (8, iV 2)] ⟨rfl, zo, zo⟩ ?_
   by_cases hx3 : (z ≠ 0)
   ·refine kP [.no, .no, .b true] ((z ≠ 0)) [(3, iV 0), (5, iV z), (6, oV 0 0 4 1), (7, iV 4), (8, iV 2), (14, bV true)] zo ?_
    refine zt ?_
    refine kP [.no, .no] True [(2, iV z)] trivial ?_
    refine AW.ret ?_
    exact kD (.inr rfl) [] (P := (((yG x (yG y (yG z u))) : Int) = z) ∧ (kM [iD x, iD y, iD z, iD u])) zk ⟨(by unfold yG; (repeat' split) <;> first | omega | contradiction | rfl), rfl⟩
   ·refine kP [.no, .no, .b false] (¬ (z ≠ 0)) [(3, iV 0), (5, iV z), (6, oV 0 0 4 1), (7, iV 4), (8, iV 2), (14, bV false)] zo ?_
    refine uB ?_
    refine uS [.w, .no] ((-9223372036854775808) ≤ (3 : Int) ∧ (3 : Int) ≤ 9223372036854775807) [(3, iV 0), (6, oV 0 0 4 1), (7, iV 4), (8, iV 3)] ⟨by omega, by omega⟩ ?_
    refine AWr.s ?_
    refine kL [.b true] (((3 : Int) < 4)) [(3, iV 0), (6, oV 0 0 4 1), (7, iV 4), (8, iV 3), (9, bV true)] [(0, some (3, .ds [iD x, iD y, iD z, iD u]))] 1 zo ?_
    refine AW.seq ?_
    refine vP ?_
    refine AW.seq ?_
    refine AW.block ?_
    refine kP [.n2 3 3, .no, .no] ((kO 3) ∧ ((3 : Nat) < 4) ∧ ((0 : Nat) + 3 * 1 = 3)) [(3, iV 0), (5, iV u), (6, oV 0 0 4 1), (7, iV 4), (8, iV 3)] ⟨rfl, zo, zo⟩ ?_
    by_cases hx4 : (u ≠ 0)
    ·refine kP [.no, .no, .b true] ((u ≠ 0)) [(3, iV 0), (5, iV u), (6, oV 0 0 4 1), (7, iV 4), (8, iV 3), (14, bV true)] zo ?_
     refine zt ?_
     refine kP [.no, .no] True [(2, iV u)] trivial ?_
     refine AW.ret ?_
     exact kD (.inr rfl) [] (P := (((yG x (yG y (yG z u))) : Int) = u) ∧ (kM [iD x, iD y, iD z, iD u])) zk ⟨(by unfold yG; (repeat' split) <;> first | omega | contradiction | rfl), rfl⟩
    ·refine kP [.no, .no, .b false] (¬ (u ≠ 0)) [(3, iV 0), (5, iV u), (6, oV 0 0 4 1), (7, iV 4), (8, iV 3), (14, bV false)] zo ?_
     refine uB ?_
     refine uS [.w, .no] ((-9223372036854775808) ≤ (4 : Int) ∧ (4 : Int) ≤ 9223372036854775807) [(3, iV 0), (6, oV 0 0 4 1), (7, iV 4), (8, iV 4)] ⟨by omega, by omega⟩ ?_
     refine AWr.s ?_
     refine kL [.b false] (¬ ((4 : Int) < 4)) [(3, iV 0), (6, oV 0 0 4 1), (7, iV 4), (8, iV 4), (9, bV false)] [(0, some (3, .ds [iD x, iD y, iD z, iD u]))] 1 zo ?_
     refine AW.seq ?_
     refine zf ?_
     refine AW.exit ?_
     refine kL [.no, .no] True [(2, iV 0)] [(0, some (3, .ds [iD x, iD y, iD z, iD u]))] 1 trivial ?_
     refine AW.ret ?_
     exact kD (.inr rfl) [] (P := (((yG x (yG y (yG z u))) : Int) = 0) ∧ (kM [iD x, iD y, iD z, iD u])) zk ⟨(by unfold yG; (repeat' split) <;> first | omega | contradiction | rfl), rfl⟩
theorem k7g (w a b : Int) (hw : -9223372036854775808 ≤ w ∧ w ≤ 9223372036854775807) (ha : -9223372036854775808 ≤ a ∧ a ≤ 9223372036854775807) (hb : -9223372036854775808 ≤ b ∧ b ≤ 9223372036854775807) : Fun 66 [iE w, iE a, iE b] (kK []) 0 (iV (aA w a b)) (kK []) 0 := by
 refine Fun.mk (n := 19) Tryz.func66 rfl rfl (ka5 rfl) ?_
 intro cx hcx
 refine kL [.no] True [(0, iV w), (1, iV a), (2, iV b)] [] 0 trivial ?_
 have hx1 : ((0 : Int) ≤ (v4 w a)) := k26 w a
 have hx2 : ((0 : Int) ≤ (v4 w b)) := k26 w b
 refine kL [.no, .no, .call [] (qY (D.lit (.int .u64 (v4 w a)))) [] 0 [] none, .no, .no, .call [] (qY (D.lit (.int .u64 (v4 w b)))) [] 0 [] none, .call [] (iV (qZ (v4 w a) (v4 w b))) [] 0 [] none, .no, .no, .call [] (iV (qZ a b)) [] 0 [] none, .no, .call [0] (iV (yG (qZ (v4 w a) (v4 w b)) (qZ a b))) [(0, some (3, .ds [iD (qZ (v4 w a) (v4 w b)), iD (qZ a b)]))] 1 [] none, .no] ((_) ∧ (_) ∧ (_) ∧ (_) ∧ (_)) [(6, iV (yG (qZ (v4 w a) (v4 w b)) (qZ a b)))] [] 1 ⟨(k7i w a zo zo), (k7i w b zo zo), (k3p (v4 w a) (v4 w b)), (aL a b), (xH (qZ (v4 w a) (v4 w b)) (qZ a b))⟩ ?_
 refine AW.ret ?_
 exact kD (.inr rfl) [] (P := (((aA w a b) : Int) = (yG (qZ (v4 w a) (v4 w b)) (qZ a b)))) zk (by first | rfl | exact k50 zo | exact k4z zo (by first | exact w4 zo | exact w5 zo | exact eJ.2 zo))
theorem k2a (w a b : Int) (hw : -9223372036854775808 ≤ w ∧ w ≤ 9223372036854775807) (ha : -9223372036854775808 ≤ a ∧ a ≤ 9223372036854775807) (hb : -9223372036854775808 ≤ b ∧ b ≤ 9223372036854775807) : Fun 71 [iE w, iE a, iE b] (kK []) 0 (iV (aA w a b)) (kK []) 0 := by
 have hc1 : v4 a w = v4 w a := dO a w
 have hc2 : v4 b w = v4 w b := dO b w
 refine Fun.mk (n := 26) Tryz.func71 rfl rfl (ka5 rfl) ?_
 intro cx hcx
 refine kL [.no] True [(0, iV w), (1, iV a), (2, iV b)] [] 0 trivial ?_
 refine AW.seq ?_
 have hx1 : ((0 : Int) ≤ (v4 a w)) := k26 a w
 have hx2 : ((0 : Int) ≤ (v4 b w)) := k26 b w
 refine kP [.no, .no, .call [] (qY (D.lit (.int .u64 (v4 a w)))) [] 0 [] none, .no, .no, .call [] (qY (D.lit (.int .u64 (v4 b w)))) [] 0 [] none, .call [] (iV (qZ (v4 a w) (v4 b w))) [] 0 [] none, .no] ((_) ∧ (_) ∧ (_)) [(1, iV a), (2, iV b), (7, iV (qZ (v4 a w) (v4 b w)))] ⟨(k7j a w zo zo), (k7j b w zo zo), (jF (v4 a w) (v4 b w))⟩ ?_
 by_cases hx3 : ((qZ (v4 a w) (v4 b w)) ≠ 0)
 ·refine kP [.no, .b true] (((qZ (v4 a w) (v4 b w)) ≠ 0)) [(1, iV a), (2, iV b), (7, iV (qZ (v4 a w) (v4 b w))), (16, bV true)] zo ?_
  refine zt ?_
  refine kP [.no, .no] True [(6, iV (qZ (v4 a w) (v4 b w)))] trivial ?_
  refine AW.ret ?_
  exact kD (.inr rfl) [] (P := (((aA w a b) : Int) = (qZ (v4 a w) (v4 b w)))) zk (by first | rfl | exact k50 zo | exact k4z zo (by first | exact w4 zo | exact w5 zo | exact eJ.2 zo))
 ·refine kP [.no, .b false] (¬ ((qZ (v4 a w) (v4 b w)) ≠ 0)) [(1, iV a), (2, iV b), (7, iV (qZ (v4 a w) (v4 b w))), (16, bV false)] zo ?_
  refine uB ?_
  refine AW.seq ?_
  refine AW.block ?_
  by_cases hx4 : (a < b)
  ·refine kP [.no, .no, .b true, .no] ((a < b)) [(1, iV a), (2, iV b), (18, bV true)] zo ?_
   refine zt ?_
   refine kP [.no] True [(6, iV (-1))] trivial ?_
   refine AW.ret ?_
   exact kD (.inr rfl) [] (P := (((aA w a b) : Int) = (-1))) zk (by first | rfl | exact k50 zo | exact k4z zo (by first | exact w4 zo | exact w5 zo | exact eJ.2 zo))
  ·refine kP [.no, .no, .b false, .no] (¬ (a < b)) [(1, iV a), (2, iV b), (18, bV false)] zo ?_
   refine zf ?_
   by_cases hx5 : (b < a)
   ·refine kP [.no, .no, .b true, .no] ((b < a)) [(22, bV true)] zo ?_
    refine zt ?_
    refine kP [.no] True [(6, iV 1)] trivial ?_
    refine AW.ret ?_
    exact kD (.inr rfl) [] (P := (((aA w a b) : Int) = 1)) zk (by first | rfl | exact k50 zo | exact k4z zo (by first | exact w4 zo | exact w5 zo | exact eJ.2 zo))
   ·refine kP [.no, .no, .b false, .no] (¬ (b < a)) [(22, bV false)] zo ?_
    refine uB ?_
    refine kP [.no] True [(6, iV 0)] trivial ?_
    refine AW.ret ?_
    exact kD (.inr rfl) [] (P := (((aA w a b) : Int) = 0)) zk (by first | rfl | exact k50 zo | exact k4z zo (by first | exact w4 zo | exact w5 zo | exact eJ.2 zo))
theorem s6 (w a b : Int)  : Fun 64 [iE w, iE a, iE b] (kK []) 0 (iV (vR w a b)) (kK []) 0 := by
 refine Fun.mk (n := 19) Tryz.func64 rfl rfl (ka5 rfl) ?_
 intro cx hcx
 refine kL [.no] True [(0, iV w), (1, iV a), (2, iV b)] [] 0 trivial ?_
 by_cases hx1 : (a = w)
 ·by_cases hx2 : (b = w)
  ·have hx3 : ((((-1) : Int) ≤ (a7 true true)) ∧ ((a7 true true) ≤ 1)) := eA true true
   refine kL [.no, .no, .b true, .no, .no, .b true, .call [] (iV (a7 true true)) [] 0 [] none, .no, .no, .call [] (iV (qZ b a)) [] 0 [] none, .no, .call [0] (iV (yG (a7 true true) (qZ b a))) [(0, some (3, .ds [iD (a7 true true), iD (qZ b a)]))] 1 [] none, .no] (((a = w)) ∧ ((b = w)) ∧ (_) ∧ (_) ∧ (_)) [(6, iV (yG (a7 true true) (qZ b a)))] [] 1 ⟨zo, zo, (jG true true), (aL b a), (xH (a7 true true) (qZ b a))⟩ ?_
   refine AW.ret ?_
   exact kD (.inr rfl) [] (P := (((vR w a b) : Int) = (yG (a7 true true) (qZ b a)))) zk (by first | rfl | (unfold vR; first | rfl | (unfold yG a7 qZ; (repeat' split) <;> simp_all <;> omega)))
  ·have hx4 : ((((-1) : Int) ≤ (a7 true false)) ∧ ((a7 true false) ≤ 1)) := eA true false
   refine kL [.no, .no, .b true, .no, .no, .b false, .call [] (iV (a7 true false)) [] 0 [] none, .no, .no, .call [] (iV (qZ b a)) [] 0 [] none, .no, .call [0] (iV (yG (a7 true false) (qZ b a))) [(0, some (3, .ds [iD (a7 true false), iD (qZ b a)]))] 1 [] none, .no] (((a = w)) ∧ (¬ (b = w)) ∧ (_) ∧ (_) ∧ (_)) [(6, iV (yG (a7 true false) (qZ b a)))] [] 1 ⟨zo, zo, (jG true false), (aL b a), (xH (a7 true false) (qZ b a))⟩ ?_
   refine AW.ret ?_
   exact kD (.inr rfl) [] (P := (((vR w a b) : Int) = (yG (a7 true false) (qZ b a)))) zk (by first | rfl | (unfold vR; first | rfl | (unfold yG a7 qZ; (repeat' split) <;> simp_all <;> omega)))
 ·by_cases hx5 : (b = w)
  ·have hx6 : ((((-1) : Int) ≤ (a7 false true)) ∧ ((a7 false true) ≤ 1)) := eA false true
   refine kL [.no, .no, .b false, .no, .no, .b true, .call [] (iV (a7 false true)) [] 0 [] none, .no, .no, .call [] (iV (qZ b a)) [] 0 [] none, .no, .call [0] (iV (yG (a7 false true) (qZ b a))) [(0, some (3, .ds [iD (a7 false true), iD (qZ b a)]))] 1 [] none, .no] ((¬ (a = w)) ∧ ((b = w)) ∧ (_) ∧ (_) ∧ (_)) [(6, iV (yG (a7 false true) (qZ b a)))] [] 1 ⟨zo, zo, (jG false true), (aL b a), (xH (a7 false true) (qZ b a))⟩ ?_
   refine AW.ret ?_
   exact kD (.inr rfl) [] (P := (((vR w a b) : Int) = (yG (a7 false true) (qZ b a)))) zk (by first | rfl | (unfold vR; first | rfl | (unfold yG a7 qZ; (repeat' split) <;> simp_all <;> omega)))
  ·have hx7 : ((((-1) : Int) ≤ (a7 false false)) ∧ ((a7 false false) ≤ 1)) := eA false false
   refine kL [.no, .no, .b false, .no, .no, .b false, .call [] (iV (a7 false false)) [] 0 [] none, .no, .no, .call [] (iV (qZ b a)) [] 0 [] none, .no, .call [0] (iV (yG (a7 false false) (qZ b a))) [(0, some (3, .ds [iD (a7 false false), iD (qZ b a)]))] 1 [] none, .no] ((¬ (a = w)) ∧ (¬ (b = w)) ∧ (_) ∧ (_) ∧ (_)) [(6, iV (yG (a7 false false) (qZ b a)))] [] 1 ⟨zo, zo, (jG false false), (aL b a), (xH (a7 false false) (qZ b a))⟩ ?_
   refine AW.ret ?_
   exact kD (.inr rfl) [] (P := (((vR w a b) : Int) = (yG (a7 false false) (qZ b a)))) zk (by first | rfl | (unfold vR; first | rfl | (unfold yG a7 qZ; (repeat' split) <;> simp_all <;> omega)))
theorem n5 (w a b : Int)  : Fun 70 [iE w, iE a, iE b] (kK []) 0 (iV (vR w a b)) (kK []) 0 := by
 refine Fun.mk (n := 23) Tryz.func70 rfl rfl (ka5 rfl) ?_
 intro cx hcx
 refine kL [.no] True [(0, iV w), (1, iV a), (2, iV b)] [] 0 trivial ?_
 refine AW.seq ?_
 by_cases hx1 : (a = b)
 ·refine kP [.no, .no, .b true] ((a = b)) [(0, iV w), (1, iV a), (2, iV b), (9, bV true)] zo ?_
  refine zt ?_
  refine kP [.no] True [(6, iV 0)] trivial ?_
  refine AW.ret ?_
  exact kD (.inr rfl) [] (P := (((vR w a b) : Int) = 0)) zk (by first | rfl | (unfold vR; first | rfl | (unfold yG a7 qZ; (repeat' split) <;> simp_all <;> omega)))
 ·refine kP [.no, .no, .b false] (¬ (a = b)) [(0, iV w), (1, iV a), (2, iV b), (9, bV false)] zo ?_
  refine uB ?_
  refine AW.seq ?_
  by_cases hx2 : (a = w)
  ·refine kP [.no, .no, .b true, .no, .no] ((a = w)) [(22, bV true)] zo ?_
   refine zt ?_
   refine kP [.no] True [(6, iV (-1))] trivial ?_
   refine AW.ret ?_
   exact kD (.inr rfl) [] (P := (((vR w a b) : Int) = (-1))) zk (by first | rfl | (unfold vR; first | rfl | (unfold yG a7 qZ; (repeat' split) <;> simp_all <;> omega)))
  ·by_cases hx3 : (b ≠ w)
   ·by_cases hx4 : (b < a)
    ·refine kP [.no, .no, .b false, .no, .no, .no, .b true, .no, .no, .no, .b true, .no, .no] ((¬ (a = w)) ∧ ((b ≠ w)) ∧ ((b < a))) [(22, bV true)] ⟨zo, zo, zo⟩ ?_
     refine zt ?_
     refine kP [.no] True [(6, iV (-1))] trivial ?_
     refine AW.ret ?_
     exact kD (.inr rfl) [] (P := (((vR w a b) : Int) = (-1))) zk (by first | rfl | (unfold vR; first | rfl | (unfold yG a7 qZ; (repeat' split) <;> simp_all <;> omega)))
    ·refine kP [.no, .no, .b false, .no, .no, .no, .b true, .no, .no, .no, .b false, .no, .no] ((¬ (a = w)) ∧ ((b ≠ w)) ∧ (¬ (b < a))) [(22, bV false)] ⟨zo, zo, zo⟩ ?_
     refine uB ?_
     refine kP [.no] True [(6, iV 1)] trivial ?_
     refine AW.ret ?_
     exact kD (.inr rfl) [] (P := (((vR w a b) : Int) = 1)) zk (by first | rfl | (unfold vR; first | rfl | (unfold yG a7 qZ; (repeat' split) <;> simp_all <;> omega)))
   ·refine kP [.no, .no, .b false, .no, .no, .no, .b false, .no, .no, .no] ((¬ (a = w)) ∧ (¬ (b ≠ w))) [(22, bV false)] ⟨zo, zo⟩ ?_
    refine uB ?_
    refine kP [.no] True [(6, iV 1)] trivial ?_
    refine AW.ret ?_
    exact kD (.inr rfl) [] (P := (((vR w a b) : Int) = 1)) zk (by first | rfl | (unfold vR; first | rfl | (unfold yG a7 qZ; (repeat' split) <;> simp_all <;> omega)))
theorem j0 {p : Prop} (h : p := by first | omega | assumption | simp) : p := h
theorem vG {p : Prop} (h : p := by first | omega | (simp only [uK, iN, fS, qX, List.length_append, List.length_cons, List.length_nil, List.length_take, List.length_drop, List.length_replicate, List.length_set, List.length_map, List.length_reverse, Nat.mul_one] <;> omega) | rfl) : p := h
theorem u3d (a b : List Int) (n m : Nat) (hn : ka0 a = n) (hm : ka0 b = m) (h2 : n ≤ 1000000) (h3 : m ≤ 1000000) : Fun 113 [.c (.d (D.sl (dI .i64 a) n)), .c (.d (D.sl (dI .i64 b) m))] (kK []) 0 (iV (dP a b)) (kK []) 0 := by
 refine Fun.mk (n := 36) Tryz.func113 rfl rfl (ka5 rfl) ?_
 intro cx hcx
 refine kL [.no] True [(0, sV .i64 a n), (1, sV .i64 b m)] [] 0 trivial ?_
 refine AW.seq ?_
 refine kP [.no, .no, .no] True [(0, sV .i64 a n), (1, sV .i64 b m), (9, sV .i64 a n), (10, uV n), (11, iV 0)] trivial ?_
 refine AW.block ?_
 refine kZ 0 hcx (fun (x : {x : Nat // match x with | k => (k ≤ n ∧ k ≤ m) ∧ (dP a b = dP (ka4 k a) (ka4 k b))}) => match x with | ⟨k, _⟩ => (⟨[(0, sV .i64 a n), (1, sV .i64 b m), (9, sV .i64 a n), (10, uV n), (11, uV k)], [], 0⟩ : ES)) (fun x => match x with | ⟨k, _⟩ => n - k) ⟨(0 : Nat), ⟨j0, rfl⟩⟩ [] (P := (kM (dI .i64 a)) ∧ (kH n) ∧ (kM (dI .i64 b)) ∧ (kH m) ∧ (kM (dI .i64 a)) ∧ (kH n) ∧ (kO (n : Int)) ∧ (kO 0)) zk ⟨rfl, rfl, rfl, rfl, rfl, rfl, rfl, rfl⟩ ?_
 rintro ⟨k, hinv0⟩
 obtain ⟨hk, hx⟩ : (k ≤ n ∧ k ≤ m) ∧ (dP a b = dP (ka4 k a) (ka4 k b)) := hinv0
 refine qT (l := [(0, sV .i64 a n), (1, sV .i64 b m), (9, sV .i64 a n), (10, uV n), (11, uV k)]) (g := []) (nx := 0) rfl rfl rfl ?_
 by_cases hx1 : (((k : Nat) : Int) < ((n : Nat) : Int))
 ·refine kL [.b true] (((k : Int) < (n : Int))) [(0, sV .i64 a n), (1, sV .i64 b m), (9, sV .i64 a n), (10, uV n), (11, uV k), (12, bV true)] [] 0 zo ?_
  refine AW.seq ?_
  refine vP ?_
  refine AW.seq ?_
  refine AW.block ?_
  refine kP [.no, .n k, .d (D.lit (.int .i64 (ka1 a k 0))), .no, .no] ((kO (k : Int)) ∧ (k < n) ∧ ((ka4 k (dI .i64 a))[0]? = some (D.lit (.int .i64 (ka1 a k 0))))) [(0, sV .i64 a n), (1, sV .i64 b m), (5, uV k), (6, iV (ka1 a k 0)), (9, sV .i64 a n), (10, uV n), (11, uV k)] ⟨rfl, zo, (q5 _ _ _ vG)⟩ ?_
  refine AW.seq ?_
  by_cases hx2 : (((m : Nat) : Int) ≤ ((k : Nat) : Int))
  ·refine kP [.no, .no, .no, .b true] (((m : Int) ≤ (k : Int))) [(0, sV .i64 a n), (1, sV .i64 b m), (5, uV k), (6, iV (ka1 a k 0)), (9, sV .i64 a n), (10, uV n), (11, uV k), (19, bV true)] zo ?_
   refine zt ?_
   refine kP [.no] True [(4, iV 1)] trivial ?_
   refine AW.ret ?_
   exact kD (.inr rfl) [] (P := (((dP a b) : Int) = 1)) zk (by first | rfl | exact (pJ hx zo zo zo) | exact (k1i hx zo zo) | exact (k1h hx zo zo) | exact (bQ hx zo zo))
  ·refine kP [.no, .no, .no, .b false] (¬ ((m : Int) ≤ (k : Int))) [(0, sV .i64 a n), (1, sV .i64 b m), (5, uV k), (6, iV (ka1 a k 0)), (9, sV .i64 a n), (10, uV n), (11, uV k), (19, bV false)] zo ?_
   refine uB ?_
   refine kP [.no, .no, .n k, .d (D.lit (.int .i64 (ka1 b k 0))), .no] ((kO (k : Int)) ∧ (k < m) ∧ ((ka4 k (dI .i64 b))[0]? = some (D.lit (.int .i64 (ka1 b k 0))))) [(0, sV .i64 a n), (1, sV .i64 b m), (6, iV (ka1 a k 0)), (7, iV (ka1 b k 0)), (9, sV .i64 a n), (10, uV n), (11, uV k)] ⟨rfl, zo, (q5 _ _ _ vG)⟩ ?_
   refine kP [.no, .no, .call [] (iV (qZ (ka1 a k 0) (ka1 b k 0))) [] 0 [] none, .no] _ [(0, sV .i64 a n), (1, sV .i64 b m), (8, iV (qZ (ka1 a k 0) (ka1 b k 0))), (9, sV .i64 a n), (10, uV n), (11, uV k)] (aL (ka1 a k 0) (ka1 b k 0)) ?_
   by_cases hx3 : ((qZ (ka1 a k 0) (ka1 b k 0)) ≠ 0)
   ·refine kP [.no, .b true] (((qZ (ka1 a k 0) (ka1 b k 0)) ≠ 0)) [(0, sV .i64 a n), (1, sV .i64 b m), (8, iV (qZ (ka1 a k 0) (ka1 b k 0))), (9, sV .i64 a n), (10, uV n), (11, uV k), (28, bV true)] zo ?_
    refine zt ?_
    refine kP [.no, .no] True [(4, iV (qZ (ka1 a k 0) (ka1 b k 0)))] trivial ?_
    refine AW.ret ?_
    exact kD (.inr rfl) [] (P := (((dP a b) : Int) = (qZ (ka1 a k 0) (ka1 b k 0)))) zk (by first | rfl | exact (pJ hx zo zo zo) | exact (k1i hx zo zo) | exact (k1h hx zo zo) | exact (bQ hx zo zo))
   ·refine kP [.no, .b false] (¬ ((qZ (ka1 a k 0) (ka1 b k 0)) ≠ 0)) [(0, sV .i64 a n), (1, sV .i64 b m), (8, iV (qZ (ka1 a k 0) (ka1 b k 0))), (9, sV .i64 a n), (10, uV n), (11, uV k), (28, bV false)] zo ?_
    refine uB ?_
    refine uS [.w, .no] ((-9223372036854775808) ≤ ((k : Int) + 1) ∧ ((k : Int) + 1) ≤ 9223372036854775807) [(0, sV .i64 a n), (1, sV .i64 b m), (9, sV .i64 a n), (10, uV n), (11, iV (↑k + 1))] ⟨by omega, by omega⟩ ?_
    exact kW ⟨((k + 1) : Nat), ⟨j0, (sB hx zo zo zo)⟩⟩ [] (P := (kM (dI .i64 a)) ∧ (kH n) ∧ (kM (dI .i64 b)) ∧ (kH m) ∧ (kM (dI .i64 a)) ∧ (kH n) ∧ (kO (n : Int)) ∧ (((((k + 1) : Nat) : Int) : Int) = ((k : Int) + 1))) zk ⟨rfl, rfl, rfl, rfl, rfl, rfl, rfl, (by first | rfl | omega | assumption | (simp; done) | (simp; omega))⟩ (show n - (k + 1) < n - k from (by first | omega | (show _ < _; simp; omega)))
 ·refine kL [.b false] (¬ ((k : Int) < (n : Int))) [(0, sV .i64 a n), (1, sV .i64 b m), (9, sV .i64 a n), (10, uV n), (11, uV k), (12, bV false)] [] 0 zo ?_
  refine AW.seq ?_
  refine zf ?_
  refine AW.exit ?_
  refine AW.seq ?_
  by_cases hx4 : (((n : Nat) : Int) < ((m : Nat) : Int))
  ·refine kL (qA 4 [.b true]) (((n : Int) < (m : Int))) [(35, bV true)] [] 0 zo ?_
   refine zt ?_
   refine kP [.no] True [(4, iV (-1))] trivial ?_
   refine AW.ret ?_
   exact kD (.inr rfl) [] (P := (((dP a b) : Int) = (-1))) zk (by first | rfl | exact (pJ hx zo zo zo) | exact (k1i hx zo zo) | exact (k1h hx zo zo) | exact (bQ hx zo zo))
  ·refine kL (qA 4 [.b false]) (¬ ((n : Int) < (m : Int))) [(35, bV false)] [] 0 zo ?_
   refine uB ?_
   refine kP [.no] True [(4, iV 0)] trivial ?_
   refine AW.ret ?_
   exact kD (.inr rfl) [] (P := (((dP a b) : Int) = 0)) zk (by first | rfl | exact (pJ hx zo zo zo) | exact (k1i hx zo zo) | exact (k1h hx zo zo) | exact (bQ hx zo zo))
theorem xG (w a : List Int) (o n : Nat) (ho : ka0 w = o) (hn : ka0 a = n) (h1 : o ≤ 1000000) (h2 : n ≤ 1000000) : Fun 110 [.c (.d (D.sl (dI .i64 a) n)), .c (.ptr 0 0)] (kK [(0, some (23, .ds [D.sl (dI .i64 w) o]))]) 1 (iV (gC w a)) (kK [(0, some (23, .ds [D.sl (dI .i64 w) o]))]) 1 := by
 refine Fun.mk (n := 8) Tryz.func110 rfl rfl (ka5 rfl) ?_
 intro cx hcx
 refine kL [.no] True [(0, sV .i64 a n), (1, rV 0 0)] [(0, some (23, .ds [dl w o]))] 1 trivial ?_
 have hx1 : ((ka0 (yS w a n)) ≤ o) := (by have h9 := fZ w a n; omega)
 refine kP [.no, .no, .call [] (sV .i64 (yS w a n) (ka0 (yS w a n))) [] 0 [] none, .no, .no] _ [(3, uV (ka0 (yS w a n)))] (k7l w a o n zo zo zo zo) ?_
 refine AW.ret ?_
 exact kD (.inr rfl) [] (P := (((gC w a) : Int) = (ka0 (yS w a n) : Int)) ∧ (kM [dl w o])) zk ⟨(by first | rfl | (unfold gC; rw [hn])), rfl⟩
theorem k7h (w a b : List Int) (o n m : Nat) (ho : ka0 w = o) (hn : ka0 a = n) (hm : ka0 b = m) (h1 : o ≤ 1000000) (h2 : n ≤ 1000000) (h3 : m ≤ 1000000) : Fun 68 [.c (.d (D.sl (dI .i64 w) o)), .c (.d (D.sl (dI .i64 a) n)), .c (.d (D.sl (dI .i64 b) m))] (kK []) 0 (iV (yR w a b)) (kK []) 0 := by
 refine Fun.mk (n := 33) Tryz.func68 rfl rfl (ka5 rfl) ?_
 intro cx hcx
 refine kL [.no, .no] True [(1, sV .i64 a n), (2, sV .i64 b m), (3, rV 0 0)] [(0, some (23, .ds [dl w o]))] 1 trivial ?_
 refine kP [.no, .no] True [(1, sV .i64 a n), (2, sV .i64 b m), (3, rV 0 0), (7, .e (.c (.fn 110 [(0, 0)])))] trivial ?_
 have hx1 : ((((-1) : Int) ≤ (a7 (vQ a w) (vQ b w))) ∧ ((a7 (vQ a w) (vQ b w)) ≤ 1)) := eA (vQ a w) (vQ b w)
 have hx2 : ((0 : Int) ≤ (gC w b)) := Int.natCast_nonneg _
 have hx3 : ((0 : Int) ≤ (gC w a)) := Int.natCast_nonneg _
 have hx4 : ((((-1) : Int) ≤ (dP a b)) ∧ ((dP a b) ≤ 1)) := sC a b
 refine kL [.no, .no, .call [] (qY (D.lit (.bool (vQ a w)))) [] 0 [] none, .no, .no, .call [] (qY (D.lit (.bool (vQ b w)))) [] 0 [] none, .call [] (iV (a7 (vQ a w) (vQ b w))) [] 0 [] none, .no, .no, .call [0] (iV (gC w b)) [(0, some (23, .ds [dl w o]))] 1 [] none, .no, .no, .call [0] (iV (gC w a)) [(0, some (23, .ds [dl w o]))] 1 [] none, .call [] (iV (qZ (gC w b) (gC w a))) [] 0 [] none, .no, .no, .no, .no, .call [] (iV (qZ (n : Int) (m : Int))) [] 0 [] none, .no, .no, .call [] (iV (dP a b)) [] 0 [] none, .no, .call [1] (iV (yG (a7 (vQ a w) (vQ b w)) (yG (qZ (gC w b) (gC w a)) (yG (qZ (n : Int) (m : Int)) (dP a b))))) [(0, some (3, .ds [iD (a7 (vQ a w) (vQ b w)), iD (qZ (gC w b) (gC w a)), iD (qZ (n : Int) (m : Int)), iD (dP a b)]))] 1 [] none, .no] ((_) ∧ (_) ∧ (_) ∧ (_) ∧ (_) ∧ (_) ∧ (_) ∧ (_) ∧ (_)) [(6, iV (yG (a7 (vQ a w) (vQ b w)) (yG (qZ (gC w b) (gC w a)) (yG (qZ ↑n ↑m) (dP a b)))))] [] 2 ⟨(k0e a w n o zo zo zo zo), (k0e b w m o zo zo zo zo), (jG (vQ a w) (vQ b w)), (xG w b o m zo zo zo zo), (xG w a o n zo zo zo zo), (aL (gC w b) (gC w a)), (aL (n : Int) (m : Int)), (u3d a b n m zo zo zo zo), (u5t (a7 (vQ a w) (vQ b w)) (qZ (gC w b) (gC w a)) (qZ (n : Int) (m : Int)) (dP a b))⟩ ?_
 refine AW.ret ?_
 exact kD (.inr rfl) [] (P := (((yR w a b) : Int) = (yG (a7 (vQ a w) (vQ b w)) (yG (qZ (gC w b) (gC w a)) (yG (qZ (n : Int) (m : Int)) (dP a b)))))) zk (by first | rfl | (unfold yR; rw [hn, hm]))
theorem kX {p : Prop} (h : p := by first | assumption | (simp only [*]; done)) : p := h
theorem s5 (w a b : List Int) (o n m : Nat) (ho : ka0 w = o) (hn : ka0 a = n) (hm : ka0 b = m) (h1 : o ≤ 1000000) (h2 : n ≤ 1000000) (h3 : m ≤ 1000000) : Fun 72 [.c (.d (D.sl (dI .i64 w) o)), .c (.d (D.sl (dI .i64 a) n)), .c (.d (D.sl (dI .i64 b) m))] (kK []) 0 (iV (yR w a b)) (kK []) 0 := by
 have hca : ((ka0 (yS w a n) : Nat) : Int) = gC w a := by unfold gC; rw [hn]
 have hcb : ((ka0 (yS w b m) : Nat) : Int) = gC w b := by unfold gC; rw [hm]
 have hzz : ∀ x y : Int, qZ x y = 0 → x = y := fun x y h => eJ.1 h
 refine Fun.mk (n := 70) Tryz.func72 rfl rfl (ka5 rfl) ?_
 intro cx hcx
 refine kL [.no] True [(0, sV .i64 w o), (1, sV .i64 a n), (2, sV .i64 b m)] [] 0 trivial ?_
 refine AW.seq ?_
 rcases kb2 (vQ a w) with hx1 | hx1
 ·rcases kb2 (vQ b w) with hx2 | hx2
  ·refine kP [.no, .no, .call [] (bV true) [] 0 [] none, .no, .no, .call [] (bV true) [] 0 [] none, .no, .no] ((Fun 94 [.c (.d (dl a n)), .c (.d (dl w o))] (kK []) 0 (bV true) (kK []) 0) ∧ (Fun 94 [.c (.d (dl b m)), .c (.d (dl w o))] (kK []) 0 (bV true) (kK []) 0)) [(0, sV .i64 w o), (1, sV .i64 a n), (2, sV .i64 b m), (7, bV true), (8, bV true)] ⟨(by have h0 := (aF a w n o zo zo zo zo); rw [hx1] at h0; exact h0), (by have h0 := (aF b w m o zo zo zo zo); rw [hx2] at h0; exact h0)⟩ ?_
   refine kP [.no, .no, .no] True [(0, sV .i64 w o), (1, sV .i64 a n), (2, sV .i64 b m), (7, bV true), (20, bV false)] trivial ?_
   refine uB ?_
   refine AW.seq ?_
   have hx3 : ((ka0 (yS w b m)) ≤ o) := (by have h9 := fZ w b m; omega)
   have hx4 : ((ka0 (yS w a n)) ≤ o) := (by have h9 := fZ w a n; omega)
   refine kP [.no, .no, .call [] (sV .i64 (yS w b m) (ka0 (yS w b m))) [] 0 [] none, .no, .w, .no, .no, .call [] (sV .i64 (yS w a n) (ka0 (yS w a n))) [] 0 [] none, .no, .w, .call [] (iV (qZ (ka0 (yS w b m) : Int) (ka0 (yS w a n) : Int))) [] 0 [] none, .no] ((_) ∧ (0 ≤ (ka0 (yS w b m) : Int) ∧ (ka0 (yS w b m) : Int) ≤ 18446744073709551615) ∧ (_) ∧ (0 ≤ (ka0 (yS w a n) : Int) ∧ (ka0 (yS w a n) : Int) ≤ 18446744073709551615) ∧ (_)) [(1, sV .i64 a n), (2, sV .i64 b m), (9, iV (qZ (ka0 (yS w b m) : Int) (ka0 (yS w a n) : Int)))] ⟨(f5 w b o m zo zo zo zo), ⟨by omega, by omega⟩, (f5 w a o n zo zo zo zo), ⟨by omega, by omega⟩, (jF (ka0 (yS w b m) : Int) (ka0 (yS w a n) : Int))⟩ ?_
   by_cases hx5 : ((qZ (((ka0 (yS w b m)) : Nat) : Int) (((ka0 (yS w a n)) : Nat) : Int)) ≠ 0)
   ·refine kP [.no, .b true] (((qZ (ka0 (yS w b m) : Int) (ka0 (yS w a n) : Int)) ≠ 0)) [(1, sV .i64 a n), (2, sV .i64 b m), (9, iV (qZ (ka0 (yS w b m) : Int) (ka0 (yS w a n) : Int))), (34, bV true)] zo ?_
    refine zt ?_
    refine kP [.no, .no] True [(6, iV (qZ (ka0 (yS w b m) : Int) (ka0 (yS w a n) : Int)))] trivial ?_
    refine AW.ret ?_
    exact kD (.inr rfl) [] (P := (((yR w a b) : Int) = (qZ (ka0 (yS w b m) : Int) (ka0 (yS w a n) : Int)))) zk (by first | exact l8 hcb hca kX zo hn hm zo (by first | exact mD hx zo zo zo | exact mE hx zo zo zo | exact bQ hx zo zo) | exact l9 hcb hca kX zo hn hm zo | exact mA hcb hca kX zo | exact mC kX kX | exact mB kX kX)
   ·refine kP [.no, .b false] (¬ ((qZ (ka0 (yS w b m) : Int) (ka0 (yS w a n) : Int)) ≠ 0)) [(1, sV .i64 a n), (2, sV .i64 b m), (9, iV (qZ (ka0 (yS w b m) : Int) (ka0 (yS w a n) : Int))), (34, bV false)] zo ?_
    refine uB ?_
    refine AW.seq ?_
    refine kP [.no, .no, .w, .no, .no, .w, .call [] (iV (qZ (n : Int) (m : Int))) [] 0 [] none, .no] ((0 ≤ (n : Int) ∧ (n : Int) ≤ 18446744073709551615) ∧ (0 ≤ (m : Int) ∧ (m : Int) ≤ 18446744073709551615) ∧ (_)) [(1, sV .i64 a n), (2, sV .i64 b m), (10, iV (qZ ↑n ↑m))] ⟨⟨by omega, by omega⟩, ⟨by omega, by omega⟩, (jF (n : Int) (m : Int))⟩ ?_
    by_cases hx6 : ((qZ ((n : Nat) : Int) ((m : Nat) : Int)) ≠ 0)
    ·refine kP [.no, .b true] (((qZ (n : Int) (m : Int)) ≠ 0)) [(1, sV .i64 a n), (2, sV .i64 b m), (10, iV (qZ ↑n ↑m)), (44, bV true)] zo ?_
     refine zt ?_
     refine kP [.no, .no] True [(6, iV (qZ ↑n ↑m))] trivial ?_
     refine AW.ret ?_
     exact kD (.inr rfl) [] (P := (((yR w a b) : Int) = (qZ (n : Int) (m : Int)))) zk (by first | exact l8 hcb hca kX zo hn hm zo (by first | exact mD hx zo zo zo | exact mE hx zo zo zo | exact bQ hx zo zo) | exact l9 hcb hca kX zo hn hm zo | exact mA hcb hca kX zo | exact mC kX kX | exact mB kX kX)
    ·refine kP [.no, .b false] (¬ ((qZ (n : Int) (m : Int)) ≠ 0)) [(1, sV .i64 a n), (2, sV .i64 b m), (10, iV (qZ ↑n ↑m)), (44, bV false)] zo ?_
     refine uB ?_
     refine AW.seq ?_
     refine kP [.no, .no, .no] True [(1, sV .i64 a n), (2, sV .i64 b m), (47, uV n), (48, iV 0)] trivial ?_
     refine AW.block ?_
     refine kZ 0 hcx (fun (x : {x : Nat // match x with | k => (n = m) ∧ (k ≤ n ∧ k ≤ m) ∧ (dP a b = dP (ka4 k a) (ka4 k b))}) => match x with | ⟨k, _⟩ => (⟨[(1, sV .i64 a n), (2, sV .i64 b m), (47, uV n), (48, uV k)], [], 0⟩ : ES)) (fun x => match x with | ⟨k, _⟩ => n - k) ⟨(0 : Nat), ⟨(by have h9 := eJ.1 (show qZ (n : Int) (m : Int) = 0 by omega); omega), j0, rfl⟩⟩ [] (P := (kM (dI .i64 a)) ∧ (kH n) ∧ (kM (dI .i64 b)) ∧ (kH m) ∧ (kO (n : Int)) ∧ (kO 0)) zk ⟨rfl, rfl, rfl, rfl, rfl, rfl⟩ ?_
     rintro ⟨k, hinv0⟩
     obtain ⟨hnm, hk, hx⟩ : (n = m) ∧ (k ≤ n ∧ k ≤ m) ∧ (dP a b = dP (ka4 k a) (ka4 k b)) := hinv0
     refine qT (l := [(1, sV .i64 a n), (2, sV .i64 b m), (47, uV n), (48, uV k)]) (g := []) (nx := 0) rfl rfl rfl ?_
     by_cases hx7 : (((k : Nat) : Int) < ((n : Nat) : Int))
     ·refine kL [.b true] (((k : Int) < (n : Int))) [(1, sV .i64 a n), (2, sV .i64 b m), (47, uV n), (48, uV k), (49, bV true)] [] 0 zo ?_
      refine AW.seq ?_
      refine vP ?_
      refine AW.seq ?_
      refine AW.block ?_
      refine kP [.no, .no] True [(1, sV .i64 a n), (2, sV .i64 b m), (11, uV k), (47, uV n), (48, uV k)] trivial ?_
      by_cases hx8 : ((ka1 a k 0) ≠ (ka1 b k 0))
      ·refine kP [.no, .no, .n k, .d (D.lit (.int .i64 (ka1 a k 0))), .no, .no, .n k, .d (D.lit (.int .i64 (ka1 b k 0))), .b true] ((kO (k : Int)) ∧ (k < n) ∧ ((ka4 k (dI .i64 a))[0]? = some (D.lit (.int .i64 (ka1 a k 0)))) ∧ (kO (k : Int)) ∧ (k < m) ∧ ((ka4 k (dI .i64 b))[0]? = some (D.lit (.int .i64 (ka1 b k 0)))) ∧ (((ka1 a k 0) ≠ (ka1 b k 0)))) [(1, sV .i64 a n), (2, sV .i64 b m), (11, uV k), (47, uV n), (48, uV k), (59, bV true)] ⟨rfl, zo, (q5 _ _ _ vG), rfl, zo, (q5 _ _ _ vG), zo⟩ ?_
       refine zt ?_
       refine AW.seq ?_
       by_cases hx9 : ((ka1 a k 0) < (ka1 b k 0))
       ·refine kP [.no, .no, .n k, .d (D.lit (.int .i64 (ka1 a k 0))), .no, .no, .n k, .d (D.lit (.int .i64 (ka1 b k 0))), .b true] ((kO (k : Int)) ∧ (k < n) ∧ ((ka4 k (dI .i64 a))[0]? = some (D.lit (.int .i64 (ka1 a k 0)))) ∧ (kO (k : Int)) ∧ (k < m) ∧ ((ka4 k (dI .i64 b))[0]? = some (D.lit (.int .i64 (ka1 b k 0)))) ∧ (((ka1 a k 0) < (ka1 b k 0)))) [(68, bV true)] ⟨rfl, zo, (q5 _ _ _ vG), rfl, zo, (q5 _ _ _ vG), zo⟩ ?_
        refine zt ?_
        refine kP [.no] True [(6, iV (-1))] trivial ?_
        refine AW.ret ?_
        exact kD (.inr rfl) [] (P := (((yR w a b) : Int) = (-1))) zk (by first | exact l8 hcb hca kX zo hn hm zo (by first | exact mD hx zo zo zo | exact mE hx zo zo zo | exact bQ hx zo zo) | exact l9 hcb hca kX zo hn hm zo | exact mA hcb hca kX zo | exact mC kX kX | exact mB kX kX)
       ·refine kP [.no, .no, .n k, .d (D.lit (.int .i64 (ka1 a k 0))), .no, .no, .n k, .d (D.lit (.int .i64 (ka1 b k 0))), .b false] ((kO (k : Int)) ∧ (k < n) ∧ ((ka4 k (dI .i64 a))[0]? = some (D.lit (.int .i64 (ka1 a k 0)))) ∧ (kO (k : Int)) ∧ (k < m) ∧ ((ka4 k (dI .i64 b))[0]? = some (D.lit (.int .i64 (ka1 b k 0)))) ∧ (¬ ((ka1 a k 0) < (ka1 b k 0)))) [(68, bV false)] ⟨rfl, zo, (q5 _ _ _ vG), rfl, zo, (q5 _ _ _ vG), zo⟩ ?_
        refine uB ?_
        refine kP [.no] True [(6, iV 1)] trivial ?_
        refine AW.ret ?_
        exact kD (.inr rfl) [] (P := (((yR w a b) : Int) = 1)) zk (by first | exact l8 hcb hca kX zo hn hm zo (by first | exact mD hx zo zo zo | exact mE hx zo zo zo | exact bQ hx zo zo) | exact l9 hcb hca kX zo hn hm zo | exact mA hcb hca kX zo | exact mC kX kX | exact mB kX kX)
      ·refine kP [.no, .no, .n k, .d (D.lit (.int .i64 (ka1 a k 0))), .no, .no, .n k, .d (D.lit (.int .i64 (ka1 b k 0))), .b false] ((kO (k : Int)) ∧ (k < n) ∧ ((ka4 k (dI .i64 a))[0]? = some (D.lit (.int .i64 (ka1 a k 0)))) ∧ (kO (k : Int)) ∧ (k < m) ∧ ((ka4 k (dI .i64 b))[0]? = some (D.lit (.int .i64 (ka1 b k 0)))) ∧ (¬ ((ka1 a k 0) ≠ (ka1 b k 0)))) [(1, sV .i64 a n), (2, sV .i64 b m), (11, uV k), (47, uV n), (48, uV k), (59, bV false)] ⟨rfl, zo, (q5 _ _ _ vG), rfl, zo, (q5 _ _ _ vG), zo⟩ ?_
       refine uB ?_
       refine uS [.w, .no] ((-9223372036854775808) ≤ ((k : Int) + 1) ∧ ((k : Int) + 1) ≤ 9223372036854775807) [(1, sV .i64 a n), (2, sV .i64 b m), (47, uV n), (48, iV (↑k + 1))] ⟨by omega, by omega⟩ ?_
       exact kW ⟨((k + 1) : Nat), ⟨hnm, j0, (sB hx zo zo (eJ.2 zo))⟩⟩ [] (P := (kM (dI .i64 a)) ∧ (kH n) ∧ (kM (dI .i64 b)) ∧ (kH m) ∧ (kO (n : Int)) ∧ (((((k + 1) : Nat) : Int) : Int) = ((k : Int) + 1))) zk ⟨rfl, rfl, rfl, rfl, rfl, (by first | rfl | omega | assumption | (simp; done) | (simp; omega))⟩ (show n - (k + 1) < n - k from (by first | omega | (show _ < _; simp; omega)))
     ·refine kL [.b false] (¬ ((k : Int) < (n : Int))) [(1, sV .i64 a n), (2, sV .i64 b m), (47, uV n), (48, uV k), (49, bV false)] [] 0 zo ?_
      refine AW.seq ?_
      refine zf ?_
      refine AW.exit ?_
      refine kL [.no] True [(6, iV 0)] [] 0 trivial ?_
      refine AW.ret ?_
      exact kD (.inr rfl) [] (P := (((yR w a b) : Int) = 0)) zk (by first | exact l8 hcb hca kX zo hn hm zo (by first | exact mD hx zo zo zo | exact mE hx zo zo zo | exact bQ hx zo zo) | exact l9 hcb hca kX zo hn hm zo | exact mA hcb hca kX zo | exact mC kX kX | exact mB kX kX)
  ·refine kP [.no, .no, .call [] (bV true) [] 0 [] none, .no, .no, .call [] (bV false) [] 0 [] none, .no, .no] ((Fun 94 [.c (.d (dl a n)), .c (.d (dl w o))] (kK []) 0 (bV true) (kK []) 0) ∧ (Fun 94 [.c (.d (dl b m)), .c (.d (dl w o))] (kK []) 0 (bV false) (kK []) 0)) [(0, sV .i64 w o), (1, sV .i64 a n), (2, sV .i64 b m), (7, bV true), (8, bV false)] ⟨(by have h0 := (aF a w n o zo zo zo zo); rw [hx1] at h0; exact h0), (by have h0 := (aF b w m o zo zo zo zo); rw [hx2] at h0; exact h0)⟩ ?_
   refine kP [.no, .no, .no] True [(0, sV .i64 w o), (1, sV .i64 a n), (2, sV .i64 b m), (7, bV true), (20, bV true)] trivial ?_
   refine zt ?_
   refine AW.seq ?_
   refine kP [.no] True [(21, bV true)] trivial ?_
   refine zt ?_
   refine kP [.no] True [(6, iV (-1))] trivial ?_
   refine AW.ret ?_
   exact kD (.inr rfl) [] (P := (((yR w a b) : Int) = (-1))) zk (by first | exact l8 hcb hca kX zo hn hm zo (by first | exact mD hx zo zo zo | exact mE hx zo zo zo | exact bQ hx zo zo) | exact l9 hcb hca kX zo hn hm zo | exact mA hcb hca kX zo | exact mC kX kX | exact mB kX kX)
 ·rcases kb2 (vQ b w) with hx10 | hx10
  ·refine kP [.no, .no, .call [] (bV false) [] 0 [] none, .no, .no, .call [] (bV true) [] 0 [] none, .no, .no] ((Fun 94 [.c (.d (dl a n)), .c (.d (dl w o))] (kK []) 0 (bV false) (kK []) 0) ∧ (Fun 94 [.c (.d (dl b m)), .c (.d (dl w o))] (kK []) 0 (bV true) (kK []) 0)) [(0, sV .i64 w o), (1, sV .i64 a n), (2, sV .i64 b m), (7, bV false), (8, bV true)] ⟨(by have h0 := (aF a w n o zo zo zo zo); rw [hx1] at h0; exact h0), (by have h0 := (aF b w m o zo zo zo zo); rw [hx10] at h0; exact h0)⟩ ?_
   refine kP [.no, .no, .no] True [(0, sV .i64 w o), (1, sV .i64 a n), (2, sV .i64 b m), (7, bV false), (20, bV true)] trivial ?_
   refine zt ?_
   refine AW.seq ?_
   refine kP [.no] True [(21, bV false)] trivial ?_
   refine uB ?_
   refine kP [.no] True [(6, iV 1)] trivial ?_
   refine AW.ret ?_
   exact kD (.inr rfl) [] (P := (((yR w a b) : Int) = 1)) zk (by first | exact l8 hcb hca kX zo hn hm zo (by first | exact mD hx zo zo zo | exact mE hx zo zo zo | exact bQ hx zo zo) | exact l9 hcb hca kX zo hn hm zo | exact mA hcb hca kX zo | exact mC kX kX | exact mB kX kX)
  ·refine kP [.no, .no, .call [] (bV false) [] 0 [] none, .no, .no, .call [] (bV false) [] 0 [] none, .no, .no] ((Fun 94 [.c (.d (dl a n)), .c (.d (dl w o))] (kK []) 0 (bV false) (kK []) 0) ∧ (Fun 94 [.c (.d (dl b m)), .c (.d (dl w o))] (kK []) 0 (bV false) (kK []) 0)) [(0, sV .i64 w o), (1, sV .i64 a n), (2, sV .i64 b m), (7, bV false), (8, bV false)] ⟨(by have h0 := (aF a w n o zo zo zo zo); rw [hx1] at h0; exact h0), (by have h0 := (aF b w m o zo zo zo zo); rw [hx10] at h0; exact h0)⟩ ?_
   refine kP [.no, .no, .no] True [(0, sV .i64 w o), (1, sV .i64 a n), (2, sV .i64 b m), (7, bV false), (20, bV false)] trivial ?_
   refine uB ?_
   refine AW.seq ?_
   have hx11 : ((ka0 (yS w b m)) ≤ o) := (by have h9 := fZ w b m; omega)
   have hx12 : ((ka0 (yS w a n)) ≤ o) := (by have h9 := fZ w a n; omega)
   refine kP [.no, .no, .call [] (sV .i64 (yS w b m) (ka0 (yS w b m))) [] 0 [] none, .no, .w, .no, .no, .call [] (sV .i64 (yS w a n) (ka0 (yS w a n))) [] 0 [] none, .no, .w, .call [] (iV (qZ (ka0 (yS w b m) : Int) (ka0 (yS w a n) : Int))) [] 0 [] none, .no] ((_) ∧ (0 ≤ (ka0 (yS w b m) : Int) ∧ (ka0 (yS w b m) : Int) ≤ 18446744073709551615) ∧ (_) ∧ (0 ≤ (ka0 (yS w a n) : Int) ∧ (ka0 (yS w a n) : Int) ≤ 18446744073709551615) ∧ (_)) [(1, sV .i64 a n), (2, sV .i64 b m), (9, iV (qZ (ka0 (yS w b m) : Int) (ka0 (yS w a n) : Int)))] ⟨(f5 w b o m zo zo zo zo), ⟨by omega, by omega⟩, (f5 w a o n zo zo zo zo), ⟨by omega, by omega⟩, (jF (ka0 (yS w b m) : Int) (ka0 (yS w a n) : Int))⟩ ?_
   by_cases hx13 : ((qZ (((ka0 (yS w b m)) : Nat) : Int) (((ka0 (yS w a n)) : Nat) : Int)) ≠ 0)
   ·refine kP [.no, .b true] (((qZ (ka0 (yS w b m) : Int) (ka0 (yS w a n) : Int)) ≠ 0)) [(1, sV .i64 a n), (2, sV .i64 b m), (9, iV (qZ (ka0 (yS w b m) : Int) (ka0 (yS w a n) : Int))), (34, bV true)] zo ?_
    refine zt ?_
    refine kP [.no, .no] True [(6, iV (qZ (ka0 (yS w b m) : Int) (ka0 (yS w a n) : Int)))] trivial ?_
    refine AW.ret ?_
    exact kD (.inr rfl) [] (P := (((yR w a b) : Int) = (qZ (ka0 (yS w b m) : Int) (ka0 (yS w a n) : Int)))) zk (by first | exact l8 hcb hca kX zo hn hm zo (by first | exact mD hx zo zo zo | exact mE hx zo zo zo | exact bQ hx zo zo) | exact l9 hcb hca kX zo hn hm zo | exact mA hcb hca kX zo | exact mC kX kX | exact mB kX kX)
   ·refine kP [.no, .b false] (¬ ((qZ (ka0 (yS w b m) : Int) (ka0 (yS w a n) : Int)) ≠ 0)) [(1, sV .i64 a n), (2, sV .i64 b m), (9, iV (qZ (ka0 (yS w b m) : Int) (ka0 (yS w a n) : Int))), (34, bV false)] zo ?_
    refine uB ?_
    refine AW.seq ?_
    refine kP [.no, .no, .w, .no, .no, .w, .call [] (iV (qZ (n : Int) (m : Int))) [] 0 [] none, .no] ((0 ≤ (n : Int) ∧ (n : Int) ≤ 18446744073709551615) ∧ (0 ≤ (m : Int) ∧ (m : Int) ≤ 18446744073709551615) ∧ (_)) [(1, sV .i64 a n), (2, sV .i64 b m), (10, iV (qZ ↑n ↑m))] ⟨⟨by omega, by omega⟩, ⟨by omega, by omega⟩, (jF (n : Int) (m : Int))⟩ ?_
    by_cases hx14 : ((qZ ((n : Nat) : Int) ((m : Nat) : Int)) ≠ 0)
    ·refine kP [.no, .b true] (((qZ (n : Int) (m : Int)) ≠ 0)) [(1, sV .i64 a n), (2, sV .i64 b m), (10, iV (qZ ↑n ↑m)), (44, bV true)] zo ?_
     refine zt ?_
     refine kP [.no, .no] True [(6, iV (qZ ↑n ↑m))] trivial ?_
     refine AW.ret ?_
     exact kD (.inr rfl) [] (P := (((yR w a b) : Int) = (qZ (n : Int) (m : Int)))) zk (by first | exact l8 hcb hca kX zo hn hm zo (by first | exact mD hx zo zo zo | exact mE hx zo zo zo | exact bQ hx zo zo) | exact l9 hcb hca kX zo hn hm zo | exact mA hcb hca kX zo | exact mC kX kX | exact mB kX kX)
    ·refine kP [.no, .b false] (¬ ((qZ (n : Int) (m : Int)) ≠ 0)) [(1, sV .i64 a n), (2, sV .i64 b m), (10, iV (qZ ↑n ↑m)), (44, bV false)] zo ?_
     refine uB ?_
     refine AW.seq ?_
     refine kP [.no, .no, .no] True [(1, sV .i64 a n), (2, sV .i64 b m), (47, uV n), (48, iV 0)] trivial ?_
     refine AW.block ?_
     refine kZ 0 hcx (fun (x : {x : Nat // match x with | k => (n = m) ∧ (k ≤ n ∧ k ≤ m) ∧ (dP a b = dP (ka4 k a) (ka4 k b))}) => match x with | ⟨k, _⟩ => (⟨[(1, sV .i64 a n), (2, sV .i64 b m), (47, uV n), (48, uV k)], [], 0⟩ : ES)) (fun x => match x with | ⟨k, _⟩ => n - k) ⟨(0 : Nat), ⟨(by have h9 := eJ.1 (show qZ (n : Int) (m : Int) = 0 by omega); omega), j0, rfl⟩⟩ [] (P := (kM (dI .i64 a)) ∧ (kH n) ∧ (kM (dI .i64 b)) ∧ (kH m) ∧ (kO (n : Int)) ∧ (kO 0)) zk ⟨rfl, rfl, rfl, rfl, rfl, rfl⟩ ?_
     rintro ⟨k, hinv0⟩
     obtain ⟨hnm, hk, hx⟩ : (n = m) ∧ (k ≤ n ∧ k ≤ m) ∧ (dP a b = dP (ka4 k a) (ka4 k b)) := hinv0
     refine qT (l := [(1, sV .i64 a n), (2, sV .i64 b m), (47, uV n), (48, uV k)]) (g := []) (nx := 0) rfl rfl rfl ?_
     by_cases hx15 : (((k : Nat) : Int) < ((n : Nat) : Int))
     ·refine kL [.b true] (((k : Int) < (n : Int))) [(1, sV .i64 a n), (2, sV .i64 b m), (47, uV n), (48, uV k), (49, bV true)] [] 0 zo ?_
      refine AW.seq ?_
      refine vP ?_
      refine AW.seq ?_
      refine AW.block ?_
      refine kP [.no, .no] True [(1, sV .i64 a n), (2, sV .i64 b m), (11, uV k), (47, uV n), (48, uV k)] trivial ?_
      by_cases hx16 : ((ka1 a k 0) ≠ (ka1 b k 0))
      ·refine kP [.no, .no, .n k, .d (D.lit (.int .i64 (ka1 a k 0))), .no, .no, .n k, .d (D.lit (.int .i64 (ka1 b k 0))), .b true] ((kO (k : Int)) ∧ (k < n) ∧ ((ka4 k (dI .i64 a))[0]? = some (D.lit (.int .i64 (ka1 a k 0)))) ∧ (kO (k : Int)) ∧ (k < m) ∧ ((ka4 k (dI .i64 b))[0]? = some (D.lit (.int .i64 (ka1 b k 0)))) ∧ (((ka1 a k 0) ≠ (ka1 b k 0)))) [(1, sV .i64 a n), (2, sV .i64 b m), (11, uV k), (47, uV n), (48, uV k), (59, bV true)] ⟨rfl, zo, (q5 _ _ _ vG), rfl, zo, (q5 _ _ _ vG), zo⟩ ?_
       refine zt ?_
       refine AW.seq ?_
       by_cases hx17 : ((ka1 a k 0) < (ka1 b k 0))
       ·refine kP [.no, .no, .n k, .d (D.lit (.int .i64 (ka1 a k 0))), .no, .no, .n k, .d (D.lit (.int .i64 (ka1 b k 0))), .b true] ((kO (k : Int)) ∧ (k < n) ∧ ((ka4 k (dI .i64 a))[0]? = some (D.lit (.int .i64 (ka1 a k 0)))) ∧ (kO (k : Int)) ∧ (k < m) ∧ ((ka4 k (dI .i64 b))[0]? = some (D.lit (.int .i64 (ka1 b k 0)))) ∧ (((ka1 a k 0) < (ka1 b k 0)))) [(68, bV true)] ⟨rfl, zo, (q5 _ _ _ vG), rfl, zo, (q5 _ _ _ vG), zo⟩ ?_
        refine zt ?_
        refine kP [.no] True [(6, iV (-1))] trivial ?_
        refine AW.ret ?_
        exact kD (.inr rfl) [] (P := (((yR w a b) : Int) = (-1))) zk (by first | exact l8 hcb hca kX zo hn hm zo (by first | exact mD hx zo zo zo | exact mE hx zo zo zo | exact bQ hx zo zo) | exact l9 hcb hca kX zo hn hm zo | exact mA hcb hca kX zo | exact mC kX kX | exact mB kX kX)
       ·refine kP [.no, .no, .n k, .d (D.lit (.int .i64 (ka1 a k 0))), .no, .no, .n k, .d (D.lit (.int .i64 (ka1 b k 0))), .b false] ((kO (k : Int)) ∧ (k < n) ∧ ((ka4 k (dI .i64 a))[0]? = some (D.lit (.int .i64 (ka1 a k 0)))) ∧ (kO (k : Int)) ∧ (k < m) ∧ ((ka4 k (dI .i64 b))[0]? = some (D.lit (.int .i64 (ka1 b k 0)))) ∧ (¬ ((ka1 a k 0) < (ka1 b k 0)))) [(68, bV false)] ⟨rfl, zo, (q5 _ _ _ vG), rfl, zo, (q5 _ _ _ vG), zo⟩ ?_
        refine uB ?_
        refine kP [.no] True [(6, iV 1)] trivial ?_
        refine AW.ret ?_
        exact kD (.inr rfl) [] (P := (((yR w a b) : Int) = 1)) zk (by first | exact l8 hcb hca kX zo hn hm zo (by first | exact mD hx zo zo zo | exact mE hx zo zo zo | exact bQ hx zo zo) | exact l9 hcb hca kX zo hn hm zo | exact mA hcb hca kX zo | exact mC kX kX | exact mB kX kX)
      ·refine kP [.no, .no, .n k, .d (D.lit (.int .i64 (ka1 a k 0))), .no, .no, .n k, .d (D.lit (.int .i64 (ka1 b k 0))), .b false] ((kO (k : Int)) ∧ (k < n) ∧ ((ka4 k (dI .i64 a))[0]? = some (D.lit (.int .i64 (ka1 a k 0)))) ∧ (kO (k : Int)) ∧ (k < m) ∧ ((ka4 k (dI .i64 b))[0]? = some (D.lit (.int .i64 (ka1 b k 0)))) ∧ (¬ ((ka1 a k 0) ≠ (ka1 b k 0)))) [(1, sV .i64 a n), (2, sV .i64 b m), (11, uV k), (47, uV n), (48, uV k), (59, bV false)] ⟨rfl, zo, (q5 _ _ _ vG), rfl, zo, (q5 _ _ _ vG), zo⟩ ?_
       refine uB ?_
       refine uS [.w, .no] ((-9223372036854775808) ≤ ((k : Int) + 1) ∧ ((k : Int) + 1) ≤ 9223372036854775807) [(1, sV .i64 a n), (2, sV .i64 b m), (47, uV n), (48, iV (↑k + 1))] ⟨by omega, by omega⟩ ?_
       exact kW ⟨((k + 1) : Nat), ⟨hnm, j0, (sB hx zo zo (eJ.2 zo))⟩⟩ [] (P := (kM (dI .i64 a)) ∧ (kH n) ∧ (kM (dI .i64 b)) ∧ (kH m) ∧ (kO (n : Int)) ∧ (((((k + 1) : Nat) : Int) : Int) = ((k : Int) + 1))) zk ⟨rfl, rfl, rfl, rfl, rfl, (by first | rfl | omega | assumption | (simp; done) | (simp; omega))⟩ (show n - (k + 1) < n - k from (by first | omega | (show _ < _; simp; omega)))
     ·refine kL [.b false] (¬ ((k : Int) < (n : Int))) [(1, sV .i64 a n), (2, sV .i64 b m), (47, uV n), (48, uV k), (49, bV false)] [] 0 zo ?_
      refine AW.seq ?_
      refine zf ?_
      refine AW.exit ?_
      refine kL [.no] True [(6, iV 0)] [] 0 trivial ?_
      refine AW.ret ?_
      exact kD (.inr rfl) [] (P := (((yR w a b) : Int) = 0)) zk (by first | exact l8 hcb hca kX zo hn hm zo (by first | exact mD hx zo zo zo | exact mE hx zo zo zo | exact bQ hx zo zo) | exact l9 hcb hca kX zo hn hm zo | exact mA hcb hca kX zo | exact mC kX kX | exact mB kX kX)
theorem u3h (wk wr wz ak ar az bk br bz : Int) (w a b : List Int) (o n m : Nat) (ho : ka0 w = o) (hn : ka0 a = n) (hm : ka0 b = m) (h1 : o ≤ 1000000) (h2 : n ≤ 1000000) (h3 : m ≤ 1000000) (hwr : -9223372036854775808 ≤ wr ∧ wr ≤ 9223372036854775807) (har : -9223372036854775808 ≤ ar ∧ ar ≤ 9223372036854775807) (hbr : -9223372036854775808 ≤ br ∧ br ≤ 9223372036854775807) (hwz : -9223372036854775808 ≤ wz ∧ wz ≤ 9223372036854775807) (haz : -9223372036854775808 ≤ az ∧ az ≤ 9223372036854775807) (hbz : -9223372036854775808 ≤ bz ∧ bz ≤ 9223372036854775807) : Fun 63 [.c (.ptr 0 0), .c (.ptr 1 0), .c (.ptr 2 0)] (kK [(0, some (27, .ds [iD wk, iD wr, D.sl (dI .i64 w) o, iD wz])), (1, some (27, .ds [iD ak, iD ar, D.sl (dI .i64 a) n, iD az])), (2, some (27, .ds [iD bk, iD br, D.sl (dI .i64 b) m, iD bz]))]) 3 (iV (vR wk ak bk)) (kK [(0, some (27, .ds [iD wk, iD wr, D.sl (dI .i64 w) o, iD wz])), (1, some (27, .ds [iD ak, iD ar, D.sl (dI .i64 a) n, iD az])), (2, some (27, .ds [iD bk, iD br, D.sl (dI .i64 b) m, iD bz]))]) 3 := by
 refine Fun.mk (n := 14) Tryz.func63 rfl rfl (ka5 rfl) ?_
 intro cx hcx
 refine kL [.no] True [(0, rV 0 0), (1, rV 1 0), (2, rV 2 0)] [(0, some (27, .ds [iD wk, iD wr, dl w o, iD wz])), (1, some (27, .ds [iD ak, iD ar, dl a n, iD az])), (2, some (27, .ds [iD bk, iD br, dl b m, iD bz]))] 3 trivial ?_
 have hx1 : ((((-1) : Int) ≤ (vR wk ak bk)) ∧ ((vR wk ak bk) ≤ 1)) := cX wk ak bk
 refine kP (qA 9 [.call [] (iV (vR wk ak bk)) [] 0 [] none, .no]) _ [(3, iV (vR wk ak bk))] (s6 wk ak bk) ?_
 refine AW.ret ?_
 exact kD (.inr rfl) [] (P := (kO (vR wk ak bk)) ∧ (kM [iD wk, iD wr, dl w o, iD wz]) ∧ (kM [iD ak, iD ar, dl a n, iD az]) ∧ (kM [iD bk, iD br, dl b m, iD bz])) zk ⟨rfl, rfl, rfl, rfl⟩
theorem u3g (wk wr wz ak ar az bk br bz : Int) (w a b : List Int) (o n m : Nat) (ho : ka0 w = o) (hn : ka0 a = n) (hm : ka0 b = m) (h1 : o ≤ 1000000) (h2 : n ≤ 1000000) (h3 : m ≤ 1000000) (hwr : -9223372036854775808 ≤ wr ∧ wr ≤ 9223372036854775807) (har : -9223372036854775808 ≤ ar ∧ ar ≤ 9223372036854775807) (hbr : -9223372036854775808 ≤ br ∧ br ≤ 9223372036854775807) (hwz : -9223372036854775808 ≤ wz ∧ wz ≤ 9223372036854775807) (haz : -9223372036854775808 ≤ az ∧ az ≤ 9223372036854775807) (hbz : -9223372036854775808 ≤ bz ∧ bz ≤ 9223372036854775807) : Fun 65 [.c (.ptr 0 0), .c (.ptr 1 0), .c (.ptr 2 0)] (kK [(0, some (27, .ds [iD wk, iD wr, D.sl (dI .i64 w) o, iD wz])), (1, some (27, .ds [iD ak, iD ar, D.sl (dI .i64 a) n, iD az])), (2, some (27, .ds [iD bk, iD br, D.sl (dI .i64 b) m, iD bz]))]) 3 (iV (aA wr ar br)) (kK [(0, some (27, .ds [iD wk, iD wr, D.sl (dI .i64 w) o, iD wz])), (1, some (27, .ds [iD ak, iD ar, D.sl (dI .i64 a) n, iD az])), (2, some (27, .ds [iD bk, iD br, D.sl (dI .i64 b) m, iD bz]))]) 3 := by
 refine Fun.mk (n := 14) Tryz.func65 rfl rfl (ka5 rfl) ?_
 intro cx hcx
 refine kL [.no] True [(0, rV 0 0), (1, rV 1 0), (2, rV 2 0)] [(0, some (27, .ds [iD wk, iD wr, dl w o, iD wz])), (1, some (27, .ds [iD ak, iD ar, dl a n, iD az])), (2, some (27, .ds [iD bk, iD br, dl b m, iD bz]))] 3 trivial ?_
 have hx1 : ((((-1) : Int) ≤ (aA wr ar br)) ∧ ((aA wr ar br) ≤ 1)) := cV wr ar br
 refine kP (qA 9 [.call [] (iV (aA wr ar br)) [] 0 [] none, .no]) _ [(3, iV (aA wr ar br))] (k7g wr ar br zo zo zo) ?_
 refine AW.ret ?_
 exact kD (.inr rfl) [] (P := (kO (aA wr ar br)) ∧ (kM [iD wk, iD wr, dl w o, iD wz]) ∧ (kM [iD ak, iD ar, dl a n, iD az]) ∧ (kM [iD bk, iD br, dl b m, iD bz])) zk ⟨rfl, rfl, rfl, rfl⟩
theorem u3f (wk wr wz ak ar az bk br bz : Int) (w a b : List Int) (o n m : Nat) (ho : ka0 w = o) (hn : ka0 a = n) (hm : ka0 b = m) (h1 : o ≤ 1000000) (h2 : n ≤ 1000000) (h3 : m ≤ 1000000) (hwr : -9223372036854775808 ≤ wr ∧ wr ≤ 9223372036854775807) (har : -9223372036854775808 ≤ ar ∧ ar ≤ 9223372036854775807) (hbr : -9223372036854775808 ≤ br ∧ br ≤ 9223372036854775807) (hwz : -9223372036854775808 ≤ wz ∧ wz ≤ 9223372036854775807) (haz : -9223372036854775808 ≤ az ∧ az ≤ 9223372036854775807) (hbz : -9223372036854775808 ≤ bz ∧ bz ≤ 9223372036854775807) : Fun 67 [.c (.ptr 0 0), .c (.ptr 1 0), .c (.ptr 2 0)] (kK [(0, some (27, .ds [iD wk, iD wr, D.sl (dI .i64 w) o, iD wz])), (1, some (27, .ds [iD ak, iD ar, D.sl (dI .i64 a) n, iD az])), (2, some (27, .ds [iD bk, iD br, D.sl (dI .i64 b) m, iD bz]))]) 3 (iV (yR w a b)) (kK [(0, some (27, .ds [iD wk, iD wr, D.sl (dI .i64 w) o, iD wz])), (1, some (27, .ds [iD ak, iD ar, D.sl (dI .i64 a) n, iD az])), (2, some (27, .ds [iD bk, iD br, D.sl (dI .i64 b) m, iD bz]))]) 3 := by
 refine Fun.mk (n := 14) Tryz.func67 rfl rfl (ka5 rfl) ?_
 intro cx hcx
 refine kL [.no] True [(0, rV 0 0), (1, rV 1 0), (2, rV 2 0)] [(0, some (27, .ds [iD wk, iD wr, dl w o, iD wz])), (1, some (27, .ds [iD ak, iD ar, dl a n, iD az])), (2, some (27, .ds [iD bk, iD br, dl b m, iD bz]))] 3 trivial ?_
 have hx1 : ((((-1) : Int) ≤ (yR w a b)) ∧ ((yR w a b) ≤ 1)) := bY w a b
 refine kP (qA 9 [.call [] (iV (yR w a b)) [] 0 [] none, .no]) _ [(3, iV (yR w a b))] (k7h w a b o n m zo zo zo zo zo zo) ?_
 refine AW.ret ?_
 exact kD (.inr rfl) [] (P := (kO (yR w a b)) ∧ (kM [iD wk, iD wr, dl w o, iD wz]) ∧ (kM [iD ak, iD ar, dl a n, iD az]) ∧ (kM [iD bk, iD br, dl b m, iD bz])) zk ⟨rfl, rfl, rfl, rfl⟩
theorem u3e (wk wr wz ak ar az bk br bz : Int) (w a b : List Int) (o n m : Nat) (ho : ka0 w = o) (hn : ka0 a = n) (hm : ka0 b = m) (h1 : o ≤ 1000000) (h2 : n ≤ 1000000) (h3 : m ≤ 1000000) (hwr : -9223372036854775808 ≤ wr ∧ wr ≤ 9223372036854775807) (har : -9223372036854775808 ≤ ar ∧ ar ≤ 9223372036854775807) (hbr : -9223372036854775808 ≤ br ∧ br ≤ 9223372036854775807) (hwz : -9223372036854775808 ≤ wz ∧ wz ≤ 9223372036854775807) (haz : -9223372036854775808 ≤ az ∧ az ≤ 9223372036854775807) (hbz : -9223372036854775808 ≤ bz ∧ bz ≤ 9223372036854775807) : Fun 69 [.c (.ptr 0 0), .c (.ptr 1 0), .c (.ptr 2 0)] (kK [(0, some (27, .ds [iD wk, iD wr, D.sl (dI .i64 w) o, iD wz])), (1, some (27, .ds [iD ak, iD ar, D.sl (dI .i64 a) n, iD az])), (2, some (27, .ds [iD bk, iD br, D.sl (dI .i64 b) m, iD bz]))]) 3 (iV (aA wz az bz)) (kK [(0, some (27, .ds [iD wk, iD wr, D.sl (dI .i64 w) o, iD wz])), (1, some (27, .ds [iD ak, iD ar, D.sl (dI .i64 a) n, iD az])), (2, some (27, .ds [iD bk, iD br, D.sl (dI .i64 b) m, iD bz]))]) 3 := by
 refine Fun.mk (n := 11) Tryz.func69 rfl rfl (ka5 rfl) ?_
 intro cx hcx
 refine kL [.no] True [(0, rV 0 0), (1, rV 1 0), (2, rV 2 0)] [(0, some (27, .ds [iD wk, iD wr, dl w o, iD wz])), (1, some (27, .ds [iD ak, iD ar, dl a n, iD az])), (2, some (27, .ds [iD bk, iD br, dl b m, iD bz]))] 3 trivial ?_
 have hx1 : ((((-1) : Int) ≤ (aA wz az bz)) ∧ ((aA wz az bz) ≤ 1)) := cV wz az bz
 refine kP (qA 6 [.call [] (iV (aA wz az bz)) [] 0 [] none, .no]) _ [(3, iV (aA wz az bz))] (k7g wz az bz zo zo zo) ?_
 refine AW.ret ?_
 exact kD (.inr rfl) [] (P := (kO (aA wz az bz)) ∧ (kM [iD wk, iD wr, dl w o, iD wz]) ∧ (kM [iD ak, iD ar, dl a n, iD az]) ∧ (kM [iD bk, iD br, dl b m, iD bz])) zk ⟨rfl, rfl, rfl, rfl⟩
abbrev fR : BC := .cs [.fn 63 [(0, 0), (1, 0), (2, 0)], .fn 65 [(0, 0), (1, 0), (2, 0)], .fn 67 [(0, 0), (1, 0), (2, 0)], .fn 69 [(0, 0), (1, 0), (2, 0)]]
abbrev aV (wk : Int) (wr : Int) (w : List Int) (o : Nat) (wz : Int) : BC := .ds [iD wk, iD wr, D.sl (dI .i64 w) o, iD wz]
abbrev aU (ak : Int) (ar : Int) (a : List Int) (n : Nat) (az : Int) : BC := .ds [iD ak, iD ar, D.sl (dI .i64 a) n, iD az]
abbrev aT (bk : Int) (br : Int) (b : List Int) (m : Nat) (bz : Int) : BC := .ds [iD bk, iD br, D.sl (dI .i64 b) m, iD bz]
theorem b9 (wk wr wz ak ar az bk br bz : Int) (w a b : List Int) (o n m : Nat) (ho : ka0 w = o) (hn : ka0 a = n) (hm : ka0 b = m) (h1 : o ≤ 1000000) (h2 : n ≤ 1000000) (h3 : m ≤ 1000000) (hwr : -9223372036854775808 ≤ wr ∧ wr ≤ 9223372036854775807) (har : -9223372036854775808 ≤ ar ∧ ar ≤ 9223372036854775807) (hbr : -9223372036854775808 ≤ br ∧ br ≤ 9223372036854775807) (hwz : -9223372036854775808 ≤ wz ∧ wz ≤ 9223372036854775807) (haz : -9223372036854775808 ≤ az ∧ az ≤ 9223372036854775807) (hbz : -9223372036854775808 ≤ bz ∧ bz ≤ 9223372036854775807) : Fun 29 [.agg [iC wk, iC wr, .d (D.sl (dI .i64 w) o), iC wz], .agg [iC ak, iC ar, .d (D.sl (dI .i64 a) n), iC az], .agg [iC bk, iC br, .d (D.sl (dI .i64 b) m), iC bz]] (kK []) 0 (iV (vO wk wr wz ak ar az bk br bz w a b)) (kK []) 0 := by
 refine Fun.mk (n := 28) Tryz.func29 rfl rfl (ka5 rfl) ?_
 intro cx hcx
 refine kL (qA 4 []) True [(3, rV 0 0), (4, rV 1 0), (5, rV 2 0)] [(0, some (27, (aV wk wr w o wz))), (1, some (27, (aU ak ar a n az))), (2, some (27, (aT bk br b m bz)))] 3 trivial ?_
 refine kL (qA 6 []) True [(7, oV 3 0 4 1)] [(0, some (27, (aV wk wr w o wz))), (1, some (27, (aU ak ar a n az))), (2, some (27, (aT bk br b m bz))), (3, some (85, fR))] 4 trivial ?_
 refine AW.seq ?_
 refine kP [.no, .no, .no] True [(16, oV 3 0 4 1), (17, iV 4), (18, iV 0)] trivial ?_
 refine AW.block ?_
 refine AW.rounds 5 ?_
 refine AWr.s ?_
 refine kL [.b true] (((0 : Int) < 4)) [(16, oV 3 0 4 1), (17, iV 4), (18, iV 0), (19, bV true)] [(0, some (27, (aV wk wr w o wz))), (1, some (27, (aU ak ar a n az))), (2, some (27, (aT bk br b m bz))), (3, some (85, fR))] 4 zo ?_
 refine AW.seq ?_
 refine vP ?_
 refine AW.seq ?_
 refine AW.block ?_
 refine kP [.n2 0 0, .no, .no] ((kO 0) ∧ ((0 : Nat) < 4) ∧ ((0 : Nat) + 0 * 1 = 0)) [(9, .e (.c (.fn 63 [(0, 0), (1, 0), (2, 0)]))), (16, oV 3 0 4 1), (17, iV 4), (18, iV 0)] ⟨rfl, zo, zo⟩ ?_
 have hx1 : ((((-1) : Int) ≤ (vR wk ak bk)) ∧ ((vR wk ak bk) ≤ 1)) := cX wk ak bk
 refine kP [.no, .call [0, 1, 2] (iV (vR wk ak bk)) [(0, some (27, (aV wk wr w o wz))), (1, some (27, (aU ak ar a n az))), (2, some (27, (aT bk br b m bz)))] 3 [] none, .no] _ [(10, iV (vR wk ak bk)), (16, oV 3 0 4 1), (17, iV 4), (18, iV 0)] (u3h wk wr wz ak ar az bk br bz w a b o n m zo zo zo zo zo zo zo zo zo zo zo zo) ?_
 by_cases hx2 : ((vR wk ak bk) ≠ 0)
 ·refine kP [.no, .b true] (((vR wk ak bk) ≠ 0)) [(10, iV (vR wk ak bk)), (16, oV 3 0 4 1), (17, iV 4), (18, iV 0), (25, bV true)] zo ?_
  refine zt ?_
  refine kL [.no, .no] True [(6, iV (vR wk ak bk))] [] 4 trivial ?_
  refine AW.ret ?_
  exact kD (.inr rfl) [] (P := (((vO wk wr wz ak ar az bk br bz w a b) : Int) = (vR wk ak bk))) zk (by unfold vO yG; (repeat' split) <;> first | omega | contradiction | rfl)
 ·refine kP [.no, .b false] (¬ ((vR wk ak bk) ≠ 0)) [(10, iV (vR wk ak bk)), (16, oV 3 0 4 1), (17, iV 4), (18, iV 0), (25, bV false)] zo ?_
  refine uB ?_
  refine uS [.w, .no] ((-9223372036854775808) ≤ (1 : Int) ∧ (1 : Int) ≤ 9223372036854775807) [(16, oV 3 0 4 1), (17, iV 4), (18, iV 1)] ⟨by omega, by omega⟩ ?_
  refine AWr.s ?_
  refine kL [.b true] (((1 : Int) < 4)) [(16, oV 3 0 4 1), (17, iV 4), (18, iV 1), (19, bV true)] [(0, some (27, (aV wk wr w o wz))), (1, some (27, (aU ak ar a n az))), (2, some (27, (aT bk br b m bz))), (3, some (85, fR))] 4 zo ?_
  refine AW.seq ?_
  refine vP ?_
  refine AW.seq ?_
  refine AW.block ?_
  refine kP [.n2 1 1, .no, .no] ((kO 1) ∧ ((1 : Nat) < 4) ∧ ((0 : Nat) + 1 * 1 = 1)) [(9, .e (.c (.fn 65 [(0, 0), (1, 0), (2, 0)]))), (16, oV 3 0 4 1), (17, iV 4), (18, iV 1)] ⟨rfl, zo, zo⟩ ?_
  have hx3 : ((((-1) : Int) ≤ (aA wr ar br)) ∧ ((aA wr ar br) ≤ 1)) := cV wr ar br
  refine kP [.no, .call [0, 1, 2] (iV (aA wr ar br)) [(0, some (27, (aV wk wr w o wz))), (1, some (27, (aU ak ar a n az))), (2, some (27, (aT bk br b m bz)))] 3 [] none, .no] _ [(10, iV (aA wr ar br)), (16, oV 3 0 4 1), (17, iV 4), (18, iV 1)] (u3g wk wr wz ak ar az bk br bz w a b o n m zo zo zo zo zo zo zo zo zo zo zo zo) ?_
  by_cases hx4 : ((aA wr ar br) ≠ 0)
  ·refine kP [.no, .b true] (((aA wr ar br) ≠ 0)) [(10, iV (aA wr ar br)), (16, oV 3 0 4 1), (17, iV 4), (18, iV 1), (25, bV true)] zo ?_
   refine zt ?_
   refine kL [.no, .no] True [(6, iV (aA wr ar br))] [] 4 trivial ?_
   refine AW.ret ?_
   exact kD (.inr rfl) [] (P := (((vO wk wr wz ak ar az bk br bz w a b) : Int) = (aA wr ar br))) zk (by unfold vO yG; (repeat' split) <;> first | omega | contradiction | rfl)
  ·refine kP [.no, .b false] (¬ ((aA wr ar br) ≠ 0)) [(10, iV (aA wr ar br)), (16, oV 3 0 4 1), (17, iV 4), (18, iV 1), (25, bV false)] zo ?_
   refine uB ?_
   refine uS [.w, .no] ((-9223372036854775808) ≤ (2 : Int) ∧ (2 : Int) ≤ 9223372036854775807) [(16, oV 3 0 4 1), (17, iV 4), (18, iV 2)] ⟨by omega, by omega⟩ ?_
   refine AWr.s ?_
   refine kL [.b true] (((2 : Int) < 4)) [(16, oV 3 0 4 1), (17, iV 4), (18, iV 2), (19, bV true)] [(0, some (27, (aV wk wr w o wz))), (1, some (27, (aU ak ar a n az))), (2, some (27, (aT bk br b m bz))), (3, some (85, fR))] 4 zo ?_
   refine AW.seq ?_
   refine vP ?_
   refine AW.seq ?_
   refine AW.block ?_
   refine kP [.n2 2 2, .no, .no] ((kO 2) ∧ ((2 : Nat) < 4) ∧ ((0 : Nat) + 2 * 1 = 2)) [(9, .e (.c (.fn 67 [(0, 0), (1, 0), (2, 0)]))), (16, oV 3 0 4 1), (17, iV 4), (18, iV 2)] ⟨rfl, zo, zo⟩ ?_
   have hx5 : ((((-1) : Int) ≤ (yR w a b)) ∧ ((yR w a b) ≤ 1)) := bY w a b
   refine kP [.no, .call [0, 1, 2] (iV (yR w a b)) [(0, some (27, (aV wk wr w o wz))), (1, some (27, (aU ak ar a n az))), (2, some (27, (aT bk br b m bz)))] 3 [] none, .no] _ [(10, iV (yR w a b)), (16, oV 3 0 4 1), (17, iV 4), (18, iV 2)] (u3f wk wr wz ak ar az bk br bz w a b o n m zo zo zo zo zo zo zo zo zo zo zo zo) ?_
   by_cases hx6 : ((yR w a b) ≠ 0)
   ·refine kP [.no, .b true] (((yR w a b) ≠ 0)) [(10, iV (yR w a b)), (16, oV 3 0 4 1), (17, iV 4), (18, iV 2), (25, bV true)] zo ?_
    refine zt ?_
    refine kL [.no, .no] True [(6, iV (yR w a b))] [] 4 trivial ?_
    refine AW.ret ?_
    exact kD (.inr rfl) [] (P := (((vO wk wr wz ak ar az bk br bz w a b) : Int) = (yR w a b))) zk (by unfold vO yG; (repeat' split) <;> first | omega | contradiction | rfl)
   ·refine kP [.no, .b false] (¬ ((yR w a b) ≠ 0)) [(10, iV (yR w a b)), (16, oV 3 0 4 1), (17, iV 4), (18, iV 2), (25, bV false)] zo ?_
    refine uB ?_
    refine uS [.w, .no] ((-9223372036854775808) ≤ (3 : Int) ∧ (3 : Int) ≤ 9223372036854775807) [(16, oV 3 0 4 1), (17, iV 4), (18, iV 3)] ⟨by omega, by omega⟩ ?_
    refine AWr.s ?_
    refine kL [.b true] (((3 : Int) < 4)) [(16, oV 3 0 4 1), (17, iV 4), (18, iV 3), (19, bV true)] [(0, some (27, (aV wk wr w o wz))), (1, some (27, (aU ak ar a n az))), (2, some (27, (aT bk br b m bz))), (3, some (85, fR))] 4 zo ?_
    refine AW.seq ?_
    refine vP ?_
    refine AW.seq ?_
    refine AW.block ?_
    refine kP [.n2 3 3, .no, .no] ((kO 3) ∧ ((3 : Nat) < 4) ∧ ((0 : Nat) + 3 * 1 = 3)) [(9, .e (.c (.fn 69 [(0, 0), (1, 0), (2, 0)]))), (16, oV 3 0 4 1), (17, iV 4), (18, iV 3)] ⟨rfl, zo, zo⟩ ?_
    have hx7 : ((((-1) : Int) ≤ (aA wz az bz)) ∧ ((aA wz az bz) ≤ 1)) := cV wz az bz
    refine kP [.no, .call [0, 1, 2] (iV (aA wz az bz)) [(0, some (27, (aV wk wr w o wz))), (1, some (27, (aU ak ar a n az))), (2, some (27, (aT bk br b m bz)))] 3 [] none, .no] _ [(10, iV (aA wz az bz)), (16, oV 3 0 4 1), (17, iV 4), (18, iV 3)] (u3e wk wr wz ak ar az bk br bz w a b o n m zo zo zo zo zo zo zo zo zo zo zo zo) ?_
    by_cases hx8 : ((aA wz az bz) ≠ 0)
    ·refine kP [.no, .b true] (((aA wz az bz) ≠ 0)) [(10, iV (aA wz az bz)), (16, oV 3 0 4 1), (17, iV 4), (18, iV 3), (25, bV true)] zo ?_
     refine zt ?_
     refine kL [.no, .no] True [(6, iV (aA wz az bz))] [] 4 trivial ?_
     refine AW.ret ?_
     exact kD (.inr rfl) [] (P := (((vO wk wr wz ak ar az bk br bz w a b) : Int) = (aA wz az bz))) zk (by unfold vO yG; (repeat' split) <;> first | omega | contradiction | rfl)
    ·refine kP [.no, .b false] (¬ ((aA wz az bz) ≠ 0)) [(10, iV (aA wz az bz)), (16, oV 3 0 4 1), (17, iV 4), (18, iV 3), (25, bV false)] zo ?_
     refine uB ?_
     refine uS [.w, .no] ((-9223372036854775808) ≤ (4 : Int) ∧ (4 : Int) ≤ 9223372036854775807) [(16, oV 3 0 4 1), (17, iV 4), (18, iV 4)] ⟨by omega, by omega⟩ ?_
     refine AWr.s ?_
     refine kL [.b false] (¬ ((4 : Int) < 4)) [(16, oV 3 0 4 1), (17, iV 4), (18, iV 4), (19, bV false)] [(0, some (27, (aV wk wr w o wz))), (1, some (27, (aU ak ar a n az))), (2, some (27, (aT bk br b m bz))), (3, some (85, fR))] 4 zo ?_
     refine AW.seq ?_
     refine zf ?_
     refine AW.exit ?_
     refine kL [.no] True [(6, iV 0)] [] 4 trivial ?_
     refine AW.ret ?_
     exact kD (.inr rfl) [] (P := (((vO wk wr wz ak ar az bk br bz w a b) : Int) = 0)) zk (by unfold vO yG; (repeat' split) <;> first | omega | contradiction | rfl)
theorem bC (wk wr wz ak ar az bk br bz : Int) (w a b : List Int) (o n m : Nat) (ho : ka0 w = o) (hn : ka0 a = n) (hm : ka0 b = m) (h1 : o ≤ 1000000) (h2 : n ≤ 1000000) (h3 : m ≤ 1000000) (hwr : -9223372036854775808 ≤ wr ∧ wr ≤ 9223372036854775807) (har : -9223372036854775808 ≤ ar ∧ ar ≤ 9223372036854775807) (hbr : -9223372036854775808 ≤ br ∧ br ≤ 9223372036854775807) (hwz : -9223372036854775808 ≤ wz ∧ wz ≤ 9223372036854775807) (haz : -9223372036854775808 ≤ az ∧ az ≤ 9223372036854775807) (hbz : -9223372036854775808 ≤ bz ∧ bz ≤ 9223372036854775807) : Fun 30 [.agg [iC wk, iC wr, .d (D.sl (dI .i64 w) o), iC wz], .agg [iC ak, iC ar, .d (D.sl (dI .i64 a) n), iC az], .agg [iC bk, iC br, .d (D.sl (dI .i64 b) m), iC bz]] (kK []) 0 (iV (vO wk wr wz ak ar az bk br bz w a b)) (kK []) 0 := by
 refine Fun.mk (n := 56) Tryz.func30 rfl rfl (ka5 rfl) ?_
 intro cx hcx
 refine kL (qA 4 []) True [(3, rV 0 0), (4, rV 1 0), (5, rV 2 0)] [(0, some (27, .ds [iD wk, iD wr, dl w o, iD wz])), (1, some (27, .ds [iD ak, iD ar, dl a n, iD az])), (2, some (27, .ds [iD bk, iD br, dl b m, iD bz]))] 3 trivial ?_
 refine AW.seq ?_
 have hx1 : ((((-1) : Int) ≤ (vR wk ak bk)) ∧ ((vR wk ak bk) ≤ 1)) := cX wk ak bk
 refine kP (qA 9 [.call [] (iV (vR wk ak bk)) [] 0 [] none, .no]) _ [(3, rV 0 0), (4, rV 1 0), (5, rV 2 0), (7, iV (vR wk ak bk))] (n5 wk ak bk) ?_
 by_cases hx2 : ((vR wk ak bk) ≠ 0)
 ·refine kP [.no, .b true] (((vR wk ak bk) ≠ 0)) [(3, rV 0 0), (4, rV 1 0), (5, rV 2 0), (7, iV (vR wk ak bk)), (21, bV true)] zo ?_
  refine zt ?_
  refine kL [.no, .no] True [(6, iV (vR wk ak bk))] [] 3 trivial ?_
  refine AW.ret ?_
  exact kD (.inr rfl) [] (P := (((vO wk wr wz ak ar az bk br bz w a b) : Int) = (vR wk ak bk))) zk (by unfold vO yG; (repeat' split) <;> first | omega | contradiction | rfl)
 ·refine kP [.no, .b false] (¬ ((vR wk ak bk) ≠ 0)) [(3, rV 0 0), (4, rV 1 0), (5, rV 2 0), (7, iV (vR wk ak bk)), (21, bV false)] zo ?_
  refine uB ?_
  refine AW.seq ?_
  have hx3 : ((((-1) : Int) ≤ (aA wr ar br)) ∧ ((aA wr ar br) ≤ 1)) := cV wr ar br
  refine kP (qA 9 [.call [] (iV (aA wr ar br)) [] 0 [] none, .no]) _ [(3, rV 0 0), (4, rV 1 0), (5, rV 2 0), (8, iV (aA wr ar br))] (k2a wr ar br zo zo zo) ?_
  by_cases hx4 : ((aA wr ar br) ≠ 0)
  ·refine kP [.no, .b true] (((aA wr ar br) ≠ 0)) [(3, rV 0 0), (4, rV 1 0), (5, rV 2 0), (8, iV (aA wr ar br)), (34, bV true)] zo ?_
   refine zt ?_
   refine kL [.no, .no] True [(6, iV (aA wr ar br))] [] 3 trivial ?_
   refine AW.ret ?_
   exact kD (.inr rfl) [] (P := (((vO wk wr wz ak ar az bk br bz w a b) : Int) = (aA wr ar br))) zk (by unfold vO yG; (repeat' split) <;> first | omega | contradiction | rfl)
  ·refine kP [.no, .b false] (¬ ((aA wr ar br) ≠ 0)) [(3, rV 0 0), (4, rV 1 0), (5, rV 2 0), (8, iV (aA wr ar br)), (34, bV false)] zo ?_
   refine uB ?_
   refine AW.seq ?_
   have hx5 : ((((-1) : Int) ≤ (yR w a b)) ∧ ((yR w a b) ≤ 1)) := bY w a b
   refine kP (qA 9 [.call [] (iV (yR w a b)) [] 0 [] none, .no]) _ [(3, rV 0 0), (4, rV 1 0), (5, rV 2 0), (9, iV (yR w a b))] (s5 w a b o n m zo zo zo zo zo zo) ?_
   by_cases hx6 : ((yR w a b) ≠ 0)
   ·refine kP [.no, .b true] (((yR w a b) ≠ 0)) [(3, rV 0 0), (4, rV 1 0), (5, rV 2 0), (9, iV (yR w a b)), (47, bV true)] zo ?_
    refine zt ?_
    refine kL [.no, .no] True [(6, iV (yR w a b))] [] 3 trivial ?_
    refine AW.ret ?_
    exact kD (.inr rfl) [] (P := (((vO wk wr wz ak ar az bk br bz w a b) : Int) = (yR w a b))) zk (by unfold vO yG; (repeat' split) <;> first | omega | contradiction | rfl)
   ·refine kP [.no, .b false] (¬ ((yR w a b) ≠ 0)) [(3, rV 0 0), (4, rV 1 0), (5, rV 2 0), (9, iV (yR w a b)), (47, bV false)] zo ?_
    refine uB ?_
    have hx7 : ((((-1) : Int) ≤ (aA wz az bz)) ∧ ((aA wz az bz) ≤ 1)) := cV wz az bz
    refine kL (qA 6 [.call [] (iV (aA wz az bz)) [] 0 [] none, .no]) _ [(6, iV (aA wz az bz))] [] 3 (k2a wz az bz zo zo zo) ?_
    refine AW.ret ?_
    exact kD (.inr rfl) [] (P := (((vO wk wr wz ak ar az bk br bz w a b) : Int) = (aA wz az bz))) zk (by unfold vO yG; (repeat' split) <;> first | omega | contradiction | rfl)
end Go.Proofs.YtcfmjpnffembpaaGreat
