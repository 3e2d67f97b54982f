/- Choices compared. No statement is proved here. -/
import Derived.Test.YtbicifcgghmhaaaGreatZL06
namespace Go.Proofs.YtbicifcgghmhaaaGreat
open Go.ChangeShapes Go.WideShapes Go.ChangeAt Go.RowKit
open List renaming drop → ka3, drop_eq_getElem_cons → kd8, drop_eq_nil_of_le → kf8, getD → ka1, getD_eq_getElem?_getD → ka8, getElem?_eq_getElem → ka7, length → ka0, length_append → ka6, length_cons → ka9, length_drop → kb2, length_map → kc3, length_nil → kb0, length_replicate → kb4, length_reverse → kc1, length_set → kb8, length_take → kb1
open Nat renaming le_of_ble_eq_true → ka4
set_option linter.unusedVariables false
set_option linter.unusedSimpArgs false
/-! chapter 10: how choices are compared -/
set_option maxHeartbeats 4000000
set_option maxRecDepth 100000
structure Cmp {α : Type} (f : α → α → Int) : Prop where
 anti : ∀ a b, f a b = - f b a
 tr : ∀ a b c, f a b ≤ 0 → f b c ≤ 0 → f a c ≤ 0
theorem Cmp.zero {α : Type} {f : α → α → Int} (h : Cmp f) (a : α) : f a a = 0 := by
 have := h.anti a a; omega
def yC (a b : Int) : Int := if a = 0 then b else a
theorem u4d {a b : Int} (h : ¬ a = 0) : yC a b = a := if_neg h
theorem u4c {a b : Int} (h : a = 0) : yC a b = b := if_pos h
theorem Cmp.lex {α : Type} {f g : α → α → Int} (hf : Cmp f) (hg : Cmp g) : Cmp (fun a b => yC (f a b) (g a b)) := by
 constructor
 ·intro a b
  have h1 := hf.anti a b; have h2 := hg.anti a b
  show yC _ _ = - yC _ _
  unfold yC
  by_cases h : f a b = 0
  ·rw [if_pos h, if_pos (by omega)]; exact h2
  ·rw [if_neg h, if_neg (by omega)]; exact h1
 ·intro a b c h1 h2
  have a1 := hf.anti a b; have a2 := hf.anti b c; have a3 := hf.anti a c
  have f1 : f a b ≤ 0 := by unfold yC at h1; split at h1 <;> omega
  have f2 : f b c ≤ 0 := by unfold yC at h2; split at h2 <;> omega
  have f3 := hf.tr a b c f1 f2
  show yC _ _ ≤ 0
  unfold yC
  by_cases h : f a c = 0
  ·have x1 := hf.tr c a b (by omega) f1
   have x2 := hf.tr b c a f2 (by omega)
   have y1 := hf.anti c b
   have y2 := hf.anti b a
   have z1 : f a b = 0 := by omega
   have z2 : f b c = 0 := by omega
   rw [if_pos h]
   simp only [yC, if_pos z1] at h1
   simp only [yC, if_pos z2] at h2
   exact hg.tr a b c h1 h2
  ·rw [if_neg h]; omega
def yD (a b : Int) : Int := if a < b then -1 else if a = b then 0 else 1
theorem v1v {a b : Int} : yD a b = 0 ↔ a = b := by
 unfold yD; (repeat' split) <;> omega
theorem gD (a b : Int) : -1 ≤ yD a b ∧ yD a b ≤ 1 := by
 unfold yD; (repeat' split) <;> omega
theorem lL {a b : Int} : yD a b ≤ 0 ↔ a ≤ b := by
 unfold yD; (repeat' split) <;> omega
theorem n9 (a b : Int) : yD a b = - yD b a := by
 unfold yD; (repeat' split) <;> omega
theorem u3s {α : Type} (k : α → Int) : Cmp (fun a b => yD (k a) (k b)) :=
 ⟨fun a b => n9 _ _, fun a b c h1 h2 => by
  have h1 := lL.1 h1; have h2 := lL.1 h2
  exact lL.2 (by omega)⟩
theorem k00 {α : Type} (k : α → Int) : Cmp (fun a b => yD (k b) (k a)) :=
 ⟨fun a b => n9 _ _, fun a b c h1 h2 => by
  have h1 := lL.1 h1; have h2 := lL.1 h2
  exact lL.2 (by omega)⟩
def b9 (p q : Bool) : Int := if p = q then 0 else if p = true then -1 else 1
theorem eQ (p q : Bool) : -1 ≤ b9 p q ∧ b9 p q ≤ 1 := by
 cases p <;> cases q <;> decide
theorem Cmp.first {α : Type} (p : α → Bool) : Cmp (fun a b => b9 (p a) (p b)) :=
 ⟨fun a b => by cases p a <;> cases p b <;> decide, fun a b c => by cases p a <;> cases p b <;> cases p c <;> decide⟩
def dR : List Int → List Int → Int
 | [], [] => 0
 | [], _ :: _ => -1
 | _ :: _, [] => 1
 | a :: r, b :: s => yC (yD a b) (dR r s)
theorem sZ : ∀ (a b : List Int), -1 ≤ dR a b ∧ dR a b ≤ 1
 | [], [] => by decide
 | [], _ :: _ => by simp [dR]
 | _ :: _, [] => by simp [dR]
 | a :: r, b :: s => by
  have h1 := gD a b; have h2 := sZ r s
  show -1 ≤ yC _ _ ∧ yC _ _ ≤ 1
  unfold yC; split <;> omega
theorem xR : ∀ (a b : List Int), dR a b = - dR b a
 | [], [] => by decide
 | [], _ :: _ => by simp [dR]
 | _ :: _, [] => by simp [dR]
 | a :: r, b :: s => by
  have h1 := n9 a b; have h2 := xR r s
  show yC _ _ = - yC _ _
  unfold yC; (repeat' split) <;> omega
theorem k7f : ∀ (a b c : List Int), dR a b ≤ 0 → dR b c ≤ 0 → dR a c ≤ 0
 | [], [], c => fun _ h => h
 | [], _ :: _, [] => fun _ _ => by decide
 | [], _ :: _, _ :: _ => fun _ _ => by simp [dR]
 | _ :: _, [], _ => fun h => by simp [dR] at h
 | _ :: _, _ :: _, [] => fun _ h => by simp [dR] at h
 | a :: r, b :: s, c :: t => by
  intro h1 h2
  have ih := k7f r s t
  have h1 : yC (yD a b) (dR r s) ≤ 0 := h1
  have h2 : yC (yD b c) (dR s t) ≤ 0 := h2
  show yC (yD a c) (dR r t) ≤ 0
  unfold yC at h1 h2 ⊢
  unfold yD at h1 h2 ⊢
  (repeat' split at h1) <;> (repeat' split at h2) <;> (repeat' split) <;> first | omega | (exact ih (by assumption) (by assumption))
theorem u1v {a b : List Int} {k : Nat} {x : Int} (h : x = dR (ka3 k a) (ka3 k b)) (h1 : k < a.length) (h2 : k < b.length) (h3 : yD (ka1 a k 0) (ka1 b k 0) = 0) : x = dR (ka3 (k + 1) a) (ka3 (k + 1) b) := by
 have e1 : ka1 a k 0 = a[k] := by rw [ka8, ka7 h1]; rfl
 have e2 : ka1 b k 0 = b[k] := by rw [ka8, ka7 h2]; rfl
 rw [h, kd8 h1, kd8 h2]
 show yC (yD a[k] b[k]) _ = _
 rw [e1, e2] at h3
 exact u4c h3
theorem k2u {a b : List Int} {k : Nat} {x : Int} (h : x = dR (ka3 k a) (ka3 k b)) (h1 : k < a.length) (h2 : k < b.length) (h3 : ¬ yD (ka1 a k 0) (ka1 b k 0) = 0) : x = yD (ka1 a k 0) (ka1 b k 0) := by
 have e1 : ka1 a k 0 = a[k] := by rw [ka8, ka7 h1]; rfl
 have e2 : ka1 b k 0 = b[k] := by rw [ka8, ka7 h2]; rfl
 rw [h, kd8 h1, kd8 h2]
 show yC (yD a[k] b[k]) _ = _
 rw [e1, e2] at h3 ⊢
 exact u4d h3
theorem k2w {a b : List Int} {k : Nat} {x : Int} (h : x = dR (ka3 k a) (ka3 k b)) (h1 : k < a.length) (h2 : b.length ≤ k) : x = 1 := by
 rw [h, kd8 h1, kf8 h2]; rfl
theorem k2v {a b : List Int} {k : Nat} {x : Int} (h : x = dR (ka3 k a) (ka3 k b)) (h1 : a.length ≤ k) (h2 : k < b.length) : x = -1 := by
 rw [h, kd8 h2, kf8 h1]; rfl
theorem k2x {a b : List Int} {k : Nat} {x : Int} (h : x = dR (ka3 k a) (ka3 k b)) (h1 : a.length ≤ k) (h2 : b.length ≤ k) : x = 0 := by
 rw [h, kf8 h2, kf8 h1]; rfl
theorem u11 {α : Type} (k : α → List Int) : Cmp (fun a b => dR (k a) (k b)) :=
 ⟨fun _ _ => xR _ _, fun _ _ _ => k7f _ _ _⟩
def dU (a b : Int) : Int := if a > b then a - b else b - a
theorem u5m (a b : Int) : 0 ≤ dU a b := by unfold dU; split <;> omega
theorem jE (a b : Int) : dU a b = dU b a := by unfold dU; (repeat' split) <;> omega
def cC (w a b : Int) : Int := yC (yD (dU w a) (dU w b)) (yD a b)
def c7 (w a b : Int) : Int := yC (b9 (decide (a = w)) (decide (b = w))) (yD b a)
def mO (w m : List Int) : Int := ((zE w m (ka0 m)).length : Int)
def c6 (w a b : List Int) : Int := yC (b9 (bL a w) (bL b w)) (yC (yD (mO w b) (mO w a)) (yC (yD (a.length : Int) (b.length : Int)) (dR a b)))
theorem dB {a b : Int} (h1 : -1 ≤ a ∧ a ≤ 1) (h2 : -1 ≤ b ∧ b ≤ 1) : -1 ≤ yC a b ∧ yC a b ≤ 1 := by
 unfold yC; split <;> assumption
theorem f5 (w a b : Int) : -1 ≤ cC w a b ∧ cC w a b ≤ 1 := dB (gD _ _) (gD _ _)
theorem i5 (w a b : Int) : -1 ≤ c7 w a b ∧ c7 w a b ≤ 1 := dB (eQ _ _) (gD _ _)
theorem f6 (w a b : List Int) : -1 ≤ c6 w a b ∧ c6 w a b ≤ 1 := dB (eQ _ _) (dB (gD _ _) (dB (gD _ _) (sZ _ _)))
theorem v1s {a b : Int} (h : a < b) : yD a b = -1 := if_pos h
theorem v1t {a b : Int} (h : b < a) : yD a b = 1 := by unfold yD; rw [if_neg (by omega), if_neg (by omega)]
theorem v43 {w a b : Int} (h : ¬ yD (dU a w) (dU b w) = 0) : cC w a b = yD (dU a w) (dU b w) := by
 unfold cC; rw [jE w a, jE w b]; exact u4d h
theorem v42 {w a b x : Int} (h : yD (dU a w) (dU b w) = 0) (hx : yD a b = x) : cC w a b = x := by
 unfold cC; rw [jE w a, jE w b, u4c h]; exact hx
theorem mC {a b : Int} (ha : -9223372036854775808 ≤ a ∧ a ≤ 9223372036854775807) (hb : -9223372036854775808 ≤ b ∧ b ≤ 9223372036854775807) (h : b ≤ a) : IntKind.u64.wrap (IntKind.u64.wrap a - IntKind.u64.wrap b) = a - b := by
 show ((a % 18446744073709551616) - (b % 18446744073709551616)) % 18446744073709551616 = a - b
 omega
theorem v4y {a b : Int} (ha : -9223372036854775808 ≤ a ∧ a ≤ 9223372036854775807) (hb : -9223372036854775808 ≤ b ∧ b ≤ 9223372036854775807) : dU a b = IntKind.u64.wrap (IntKind.u64.wrap (max a b) - IntKind.u64.wrap (min a b)) := by
 unfold dU
 by_cases h : a > b
 ·rw [if_pos h, Int.max_eq_left (by omega), Int.min_eq_right (by omega), mC ha hb (by omega)]
 ·rw [if_neg h, Int.max_eq_right (by omega), Int.min_eq_left (by omega), mC hb ha (by omega)]
theorem v4x {a b : Int} (ha : -9223372036854775808 ≤ a ∧ a ≤ 9223372036854775807) (hb : -9223372036854775808 ≤ b ∧ b ≤ 9223372036854775807) (h : b < a) : dU a b = IntKind.u64.wrap (IntKind.u64.wrap a - IntKind.u64.wrap b) := by
 unfold dU; rw [if_pos h, mC ha hb (by omega)]
theorem v4w {a b : Int} (ha : -9223372036854775808 ≤ a ∧ a ≤ 9223372036854775807) (hb : -9223372036854775808 ≤ b ∧ b ≤ 9223372036854775807) (h : ¬ b < a) : dU a b = IntKind.u64.wrap (IntKind.u64.wrap b - IntKind.u64.wrap a) := by
 unfold dU; rw [if_neg h, mC hb ha (by omega)]
theorem mJ (w : Int) : Cmp (c7 w) := (Cmp.first (fun a => decide (a = w))).lex (k00 id)
theorem mH (w : List Int) : Cmp (c6 w) :=
 (Cmp.first (fun a => bL a w)).lex ((k00 (mO w)).lex ((u3s (fun a : List Int => (a.length : Int))).lex (u11 id)))
structure Co where
 k : Int
 r : Int
 m : List Int
 s : Int
def coV (w a b : Co) : Int := yC (c7 w.k a.k b.k) (yC (cC w.r a.r b.r) (yC (c6 w.m a.m b.m) (cC w.s a.s b.s)))
theorem u34 (w a b : Co) : -1 ≤ coV w a b ∧ coV w a b ≤ 1 := dB (i5 _ _ _) (dB (f5 _ _ _) (dB (f6 _ _ _) (f5 _ _ _)))
def mN (wk wr wz ak ar az bk br bz : Int) (w a b : List Int) : Int := yC (c7 wk ak bk) (yC (cC wr ar br) (yC (c6 w a b) (cC wz az bz)))
theorem k3e (wk wr wz ak ar az bk br bz : Int) (w a b : List Int) : -1 ≤ mN wk wr wz ak ar az bk br bz w a b ∧ mN wk wr wz ak ar az bk br bz w a b ≤ 1 := u34 ⟨wk, wr, w, wz⟩ ⟨ak, ar, a, az⟩ ⟨bk, br, b, bz⟩
theorem rA (a : Int)  : Fun 164 [iE a] (kF []) 0 (bV false) (kF []) 0 := by
 refine Fun.mk (n := 6) Tryz.func164 rfl rfl (ka4 rfl) ?_
 intro cx hcx
 refine kI [.no] True [(0, iV a)] [] 0 trivial ?_
 refine kS [.no, .no, .b false, .no] (¬ (a ≠ a)) [(2, bV false)] zo ?_
 refine AW.ret ?_
 exact EndP.of (.inr rfl) [] (P := (false = false)) zk rfl
theorem jW {p : Prop} (h : p := by first | rfl | (unfold yD; (repeat' split) <;> omega)) : p := h
theorem aR (a b : Int)  : Fun 146 [iE a, iE b] (kF []) 0 (iV (yD a b)) (kF []) 0 := by
 refine Fun.mk (n := 20) Tryz.func146 rfl rfl (ka4 rfl) ?_
 intro cx hcx
 refine kI [.no] True [(0, iV a), (1, iV b)] [] 0 trivial ?_
 refine kS [.no, .call [] (bV false) [] 0 [] none, .no] _ [(0, iV a), (1, iV b), (5, bV false)] (rA a) ?_
 refine kS [.no, .call [] (bV false) [] 0 [] none, .no] _ [(0, iV a), (1, iV b), (5, bV false), (6, bV false)] (rA b) ?_
 refine AW.seq ?_
 refine kS [.no] True [(0, iV a), (1, iV b), (6, bV false), (11, bV false)] trivial ?_
 refine u9 ?_
 refine AW.seq ?_
 refine kS [.no] True [(0, iV a), (1, iV b), (13, bV false)] trivial ?_
 refine u9 ?_
 refine AW.seq ?_
 by_cases hx1 : (a < b)
 ·refine kS [.no, .no, .b true] ((a < b)) [(0, iV a), (1, iV b), (16, bV true)] zo ?_
  refine zt ?_
  refine kS [.no] True [(4, iV (-1))] trivial ?_
  refine AW.ret ?_
  exact EndP.of (.inr rfl) [] (P := (((yD a b) : Int) = (-1))) zk jW
 ·refine kS [.no, .no, .b false] (¬ (a < b)) [(0, iV a), (1, iV b), (16, bV false)] zo ?_
  refine u9 ?_
  refine AW.seq ?_
  by_cases hx2 : (b < a)
  ·refine kS [.no, .no, .b true] ((b < a)) [(19, bV true)] zo ?_
   refine zt ?_
   refine kS [.no] True [(4, iV 1)] trivial ?_
   refine AW.ret ?_
   exact EndP.of (.inr rfl) [] (P := (((yD a b) : Int) = 1)) zk jW
  ·refine kS [.no, .no, .b false] (¬ (b < a)) [(19, bV false)] zo ?_
   refine u9 ?_
   refine kS [.no] True [(4, iV 0)] trivial ?_
   refine AW.ret ?_
   exact EndP.of (.inr rfl) [] (P := (((yD a b) : Int) = 0)) zk jW
theorem p9 (a : Int)  : Fun 166 [.c (.d (D.lit (.int .u64 a)))] (kF []) 0 (bV false) (kF []) 0 := by
 refine Fun.mk (n := 6) Tryz.func166 rfl rfl (ka4 rfl) ?_
 intro cx hcx
 refine kI [.no] True [(0, u1 (D.lit (.int .u64 a)))] [] 0 trivial ?_
 refine kS [.no, .no, .b false, .no] (¬ (a ≠ a)) [(2, bV false)] zo ?_
 refine AW.ret ?_
 exact EndP.of (.inr rfl) [] (P := (false = false)) zk rfl
theorem k4z (a b : Int)  : Fun 152 [.c (.d (D.lit (.int .u64 a))), .c (.d (D.lit (.int .u64 b)))] (kF []) 0 (iV (yD a b)) (kF []) 0 := by
 refine Fun.mk (n := 20) Tryz.func152 rfl rfl (ka4 rfl) ?_
 intro cx hcx
 refine kI [.no] True [(0, u1 (D.lit (.int .u64 a))), (1, u1 (D.lit (.int .u64 b)))] [] 0 trivial ?_
 refine kS [.no, .call [] (bV false) [] 0 [] none, .no] _ [(0, u1 (D.lit (.int .u64 a))), (1, u1 (D.lit (.int .u64 b))), (5, bV false)] (p9 a) ?_
 refine kS [.no, .call [] (bV false) [] 0 [] none, .no] _ [(0, u1 (D.lit (.int .u64 a))), (1, u1 (D.lit (.int .u64 b))), (5, bV false), (6, bV false)] (p9 b) ?_
 refine AW.seq ?_
 refine kS [.no] True [(0, u1 (D.lit (.int .u64 a))), (1, u1 (D.lit (.int .u64 b))), (6, bV false), (11, bV false)] trivial ?_
 refine u9 ?_
 refine AW.seq ?_
 refine kS [.no] True [(0, u1 (D.lit (.int .u64 a))), (1, u1 (D.lit (.int .u64 b))), (13, bV false)] trivial ?_
 refine u9 ?_
 refine AW.seq ?_
 by_cases hx1 : (a < b)
 ·refine kS [.no, .no, .b true] ((a < b)) [(0, u1 (D.lit (.int .u64 a))), (1, u1 (D.lit (.int .u64 b))), (16, bV true)] zo ?_
  refine zt ?_
  refine kS [.no] True [(4, iV (-1))] trivial ?_
  refine AW.ret ?_
  exact EndP.of (.inr rfl) [] (P := (((yD a b) : Int) = (-1))) zk jW
 ·refine kS [.no, .no, .b false] (¬ (a < b)) [(0, u1 (D.lit (.int .u64 a))), (1, u1 (D.lit (.int .u64 b))), (16, bV false)] zo ?_
  refine u9 ?_
  refine AW.seq ?_
  by_cases hx2 : (b < a)
  ·refine kS [.no, .no, .b true] ((b < a)) [(19, bV true)] zo ?_
   refine zt ?_
   refine kS [.no] True [(4, iV 1)] trivial ?_
   refine AW.ret ?_
   exact EndP.of (.inr rfl) [] (P := (((yD a b) : Int) = 1)) zk jW
  ·refine kS [.no, .no, .b false] (¬ (b < a)) [(19, bV false)] zo ?_
   refine u9 ?_
   refine kS [.no] True [(4, iV 0)] trivial ?_
   refine AW.ret ?_
   exact EndP.of (.inr rfl) [] (P := (((yD a b) : Int) = 0)) zk jW
theorem k4v   : Fun 145 [.c (.d (D.lit (.bool true))), .c (.d (D.lit (.bool true)))] (kF []) 0 (iV 0) (kF []) 0 := by
 refine Fun.mk (n := 11) Tryz.func145 rfl rfl (ka4 rfl) ?_
 intro cx hcx
 refine kI [.no] True [(0, bV true), (1, bV true)] [] 0 trivial ?_
 refine AW.seq ?_
 refine AW.block ?_
 refine kS (qN 4 []) True [(0, bV true), (5, bV true)] trivial ?_
 refine zt ?_
 refine kS [.no] True [(4, iV 0)] trivial ?_
 refine AW.ret ?_
 exact EndP.of (.inr rfl) [] (P := (kP 0)) zk rfl
theorem k4w   : Fun 145 [.c (.d (D.lit (.bool true))), .c (.d (D.lit (.bool false)))] (kF []) 0 (iV (-1)) (kF []) 0 := by
 refine Fun.mk (n := 11) Tryz.func145 rfl rfl (ka4 rfl) ?_
 intro cx hcx
 refine kI [.no] True [(0, bV true), (1, bV false)] [] 0 trivial ?_
 refine AW.seq ?_
 refine AW.block ?_
 refine kS (qN 4 []) True [(0, bV true), (5, bV false)] trivial ?_
 refine zf ?_
 refine kS [.no, .no] True [(9, bV true)] trivial ?_
 refine zt ?_
 refine kS [.no] True [(4, iV (-1))] trivial ?_
 refine AW.ret ?_
 exact EndP.of (.inr rfl) [] (P := (kP (-1))) zk rfl
theorem k4x   : Fun 145 [.c (.d (D.lit (.bool false))), .c (.d (D.lit (.bool true)))] (kF []) 0 (iV 1) (kF []) 0 := by
 refine Fun.mk (n := 11) Tryz.func145 rfl rfl (ka4 rfl) ?_
 intro cx hcx
 refine kI [.no] True [(0, bV false), (1, bV true)] [] 0 trivial ?_
 refine AW.seq ?_
 refine AW.block ?_
 refine kS (qN 4 []) True [(0, bV false), (5, bV false)] trivial ?_
 refine zf ?_
 refine kS [.no, .no] True [(9, bV false)] trivial ?_
 refine u9 ?_
 refine kS [.no] True [(4, iV 1)] trivial ?_
 refine AW.ret ?_
 exact EndP.of (.inr rfl) [] (P := (kP 1)) zk rfl
theorem k4y   : Fun 145 [.c (.d (D.lit (.bool false))), .c (.d (D.lit (.bool false)))] (kF []) 0 (iV 0) (kF []) 0 := by
 refine Fun.mk (n := 11) Tryz.func145 rfl rfl (ka4 rfl) ?_
 intro cx hcx
 refine kI [.no] True [(0, bV false), (1, bV false)] [] 0 trivial ?_
 refine AW.seq ?_
 refine AW.block ?_
 refine kS (qN 4 []) True [(0, bV false), (5, bV true)] trivial ?_
 refine zt ?_
 refine kS [.no] True [(4, iV 0)] trivial ?_
 refine AW.ret ?_
 exact EndP.of (.inr rfl) [] (P := (kP 0)) zk rfl
theorem jI (p q : Bool) : Fun 145 [.c (.d (D.lit (.bool (p)))), .c (.d (D.lit (.bool (q))))] (kF []) 0 (iV (b9 p q)) (kF []) 0 := by
 cases p <;> cases q
 ·exact k4y
 ·exact k4x
 ·exact k4w
 ·exact k4v
theorem u0l (a b : Int) (ha : -9223372036854775808 ≤ a ∧ a ≤ 9223372036854775807) (hb : -9223372036854775808 ≤ b ∧ b ≤ 9223372036854775807) : Fun 153 [iE a, iE b] (kF []) 0 (u1 (D.lit (.int .u64 (dU a b)))) (kF []) 0 := by
 refine Fun.mk (n := 14) Tryz.func153 rfl rfl (ka4 rfl) ?_
 intro cx hcx
 refine kI [.no] True [(0, iV a), (1, iV b)] [] 0 trivial ?_
 refine kS (qN 10 []) True [(4, u1 (D.lit (.int .u64 (IntKind.u64.wrap ((IntKind.u64.wrap (max a b)) - (IntKind.u64.wrap (min a b)))))))] trivial ?_
 refine AW.ret ?_
 exact EndP.of (.inr rfl) [] (P := (((dU a b) : Int) = (IntKind.u64.wrap ((IntKind.u64.wrap (max a b)) - (IntKind.u64.wrap (min a b)))))) zk (by first | exact v4y ha hb | exact v4x ha hb zo | exact v4w ha hb zo)
theorem zY (x y : Int)  : Fun 144 [.c (.own 0 0 2 1 true)] (kF [(0, some (3, .ds [iD x, iD y]))]) 1 (iV (yC x y)) (kF [(0, some (3, .ds [iD x, iD y]))]) 1 := by
 refine Fun.mk (n := 18) Tryz.func144 rfl rfl (ka4 rfl) ?_
 intro cx hcx
 refine kI [.no] True [(0, oV 0 0 2 1)] [(0, some (3, .ds [iD x, iD y]))] 1 trivial ?_
 refine kS [.no] True [(0, oV 0 0 2 1), (3, iV 0)] trivial ?_
 refine AW.seq ?_
 refine kS [.no, .no, .no] True [(3, iV 0), (6, oV 0 0 2 1), (7, iV 2), (8, iV 0)] trivial ?_
 refine AW.block ?_
 refine AW.rounds 3 ?_
 refine AWr.s ?_
 refine kI [.b true] (((0 : Int) < 2)) [(3, iV 0), (6, oV 0 0 2 1), (7, iV 2), (8, iV 0), (9, bV true)] [(0, some (3, .ds [iD x, iD y]))] 1 zo ?_
 refine AW.seq ?_
 refine vO ?_
 refine AW.seq ?_
 refine AW.block ?_
 refine kS [.n2 0 0, .no, .no] ((kP 0) ∧ ((0 : Nat) < 2) ∧ ((0 : Nat) + 0 * 1 = 0)) [(3, iV 0), (5, iV x), (6, oV 0 0 2 1), (7, iV 2), (8, iV 0)] ⟨rfl, zo, zo⟩ ?_
 by_cases hx1 : (x ≠ 0)
 ·refine kS [.no, .no, .b true] ((x ≠ 0)) [(3, iV 0), (5, iV x), (6, oV 0 0 2 1), (7, iV 2), (8, iV 0), (14, bV true)] zo ?_
  refine zt ?_
  refine kS [.no, .no] True [(2, iV x)] trivial ?_
  refine AW.ret ?_
  exact EndP.of (.inr rfl) [] (P := (((yC x y) : Int) = x) ∧ (kM [iD x, iD y])) zk ⟨(by unfold yC; (repeat' split) <;> first | omega | contradiction | rfl), rfl⟩
 ·refine kS [.no, .no, .b false] (¬ (x ≠ 0)) [(3, iV 0), (5, iV x), (6, oV 0 0 2 1), (7, iV 2), (8, iV 0), (14, bV false)] zo ?_
  refine u9 ?_
  refine yK [.w, .no] (yF (1 : Int)) [(3, iV 0), (6, oV 0 0 2 1), (7, iV 2), (8, iV 1)] ⟨by omega, by omega⟩ ?_
  refine AWr.s ?_
  refine kI [.b true] (((1 : Int) < 2)) [(3, iV 0), (6, oV 0 0 2 1), (7, iV 2), (8, iV 1), (9, bV true)] [(0, some (3, .ds [iD x, iD y]))] 1 zo ?_
  refine AW.seq ?_
  refine vO ?_
  refine AW.seq ?_
  refine AW.block ?_
  refine kS [.n2 1 1, .no, .no] ((kP 1) ∧ ((1 : Nat) < 2) ∧ ((0 : Nat) + 1 * 1 = 1)) [(3, iV 0), (5, iV y), (6, oV 0 0 2 1), (7, iV 2), (8, iV 1)] ⟨rfl, zo, zo⟩ ?_
  by_cases hx2 : (y ≠ 0)
  ·refine kS [.no, .no, .b true] ((y ≠ 0)) [(3, iV 0), (5, iV y), (6, oV 0 0 2 1), (7, iV 2), (8, iV 1), (14, bV true)] zo ?_
   refine zt ?_
   refine kS [.no, .no] True [(2, iV y)] trivial ?_
   refine AW.ret ?_
   exact EndP.of (.inr rfl) [] (P := (((yC x y) : Int) = y) ∧ (kM [iD x, iD y])) zk ⟨(by unfold yC; (repeat' split) <;> first | omega | contradiction | rfl), rfl⟩
  ·refine kS [.no, .no, .b false] (¬ (y ≠ 0)) [(3, iV 0), (5, iV y), (6, oV 0 0 2 1), (7, iV 2), (8, iV 1), (14, bV false)] zo ?_
   refine u9 ?_
   refine yK [.w, .no] (yF (2 : Int)) [(3, iV 0), (6, oV 0 0 2 1), (7, iV 2), (8, iV 2)] ⟨by omega, by omega⟩ ?_
   refine AWr.s ?_
   refine kI [.b false] (¬ ((2 : Int) < 2)) [(3, iV 0), (6, oV 0 0 2 1), (7, iV 2), (8, iV 2), (9, bV false)] [(0, some (3, .ds [iD x, iD y]))] 1 zo ?_
   refine AW.seq ?_
   refine zf ?_
   refine AW.exit ?_
   refine kI [.no, .no] True [(2, iV 0)] [(0, some (3, .ds [iD x, iD y]))] 1 trivial ?_
   refine AW.ret ?_
   exact EndP.of (.inr rfl) [] (P := (((yC x y) : Int) = 0) ∧ (kM [iD x, iD y])) zk ⟨(by unfold yC; (repeat' split) <;> first | omega | contradiction | rfl), rfl⟩
theorem v2s (x y z u : Int)  : Fun 144 [.c (.own 0 0 4 1 true)] (kF [(0, some (3, .ds [iD x, iD y, iD z, iD u]))]) 1 (iV (yC x (yC y (yC z u)))) (kF [(0, some (3, .ds [iD x, iD y, iD z, iD u]))]) 1 := by
 refine Fun.mk (n := 18) Tryz.func144 rfl rfl (ka4 rfl) ?_
 intro cx hcx
 refine kI [.no] True [(0, oV 0 0 4 1)] [(0, some (3, .ds [iD x, iD y, iD z, iD u]))] 1 trivial ?_
 refine kS [.no] True [(0, oV 0 0 4 1), (3, iV 0)] trivial ?_
 refine AW.seq ?_
 refine kS [.no, .no, .no] True [(3, iV 0), (6, oV 0 0 4 1), (7, iV 4), (8, iV 0)] trivial ?_
 refine AW.block ?_
 refine AW.rounds 5 ?_
 refine AWr.s ?_
 refine kI [.b true] (((0 : Int) < 4)) [(3, iV 0), (6, oV 0 0 4 1), (7, iV 4), (8, iV 0), (9, bV true)] [(0, some (3, .ds [iD x, iD y, iD z, iD u]))] 1 zo ?_
 refine AW.seq ?_
 refine vO ?_
 refine AW.seq ?_
 refine AW.block ?_
 refine kS [.n2 0 0, .no, .no] ((kP 0) ∧ ((0 : Nat) < 4) ∧ ((0 : Nat) + 0 * 1 = 0)) [(3, iV 0), (5, iV x), (6, oV 0 0 4 1), (7, iV 4), (8, iV 0)] ⟨rfl, zo, zo⟩ ?_
 by_cases hx1 : (x ≠ 0)
 ·refine kS [.no, .no, .b true] ((x ≠ 0)) [(3, iV 0), (5, iV x), (6, oV 0 0 4 1), (7, iV 4), (8, iV 0), (14, bV true)] zo ?_
  refine zt ?_
  refine kS [.no, .no] True [(2, iV x)] trivial ?_
  refine AW.ret ?_
  exact EndP.of (.inr rfl) [] (P := (((yC x (yC y (yC z u))) : Int) = x) ∧ (kM [iD x, iD y, iD z, iD u])) zk ⟨(by unfold yC; (repeat' split) <;> first | omega | contradiction | rfl), rfl⟩
 ·refine kS [.no, .no, .b false] (¬ (x ≠ 0)) [(3, iV 0), (5, iV x), (6, oV 0 0 4 1), (7, iV 4), (8, iV 0), (14, bV false)] zo ?_
  refine u9 ?_
  refine yK [.w, .no] (yF (1 : Int)) [(3, iV 0), (6, oV 0 0 4 1), (7, iV 4), (8, iV 1)] ⟨by omega, by omega⟩ ?_
  refine AWr.s ?_
  refine kI [.b true] (((1 : Int) < 4)) [(3, iV 0), (6, oV 0 0 4 1), (7, iV 4), (8, iV 1), (9, bV true)] [(0, some (3, .ds [iD x, iD y, iD z, iD u]))] 1 zo ?_
  refine AW.seq ?_
  refine vO ?_
  refine AW.seq ?_
  refine AW.block ?_
  refine kS [.n2 1 1, .no, .no] ((kP 1) ∧ ((1 : Nat) < 4) ∧ ((0 : Nat) + 1 * 1 = 1)) [(3, iV 0), (5, iV y), (6, oV 0 0 4 1), (7, iV 4), (8, iV 1)] ⟨rfl, zo, zo⟩ ?_
  by_cases hx2 : (y ≠ 0)
  ·refine kS [.no, .no, .b true] ((y ≠ 0)) [(3, iV 0), (5, iV y), (6, oV 0 0 4 1), (7, iV 4), (8, iV 1), (14, bV true)] zo ?_
   refine zt ?_
   refine kS [.no, .no] True [(2, iV y)] trivial ?_
   refine AW.ret ?_
   exact EndP.of (.inr rfl) [] (P := (((yC x (yC y (yC z u))) : Int) = y) ∧ (kM [iD x, iD y, iD z, iD u])) zk ⟨(by unfold yC; (repeat' split) <;> first | omega | contradiction | rfl), rfl⟩
  ·refine kS [.no, .no, .b false] (¬ (y ≠ 0)) [(3, iV 0), (5, iV y), (6, oV 0 0 4 1), (7, iV 4), (8, iV 1), (14, bV false)] zo ?_
   refine u9 ?_
   refine yK [.w, .no] (yF (2 : Int)) [(3, iV 0), (6, oV 0 0 4 1), (7, iV 4), (8, iV 2)] ⟨by omega, by omega⟩ ?_
   refine AWr.s ?_
   refine kI [.b true] (((2 : Int) < 4)) [(3, iV 0), (6, oV 0 0 4 1), (7, iV 4), (8, iV 2), (9, bV true)] [(0, some (3, .ds [iD x, iD y, iD z, iD u]))] 1 zo ?_
   refine AW.seq ?_
   refine vO ?_
   refine AW.seq ?_
   refine AW.block ?_
   refine kS [.n2 2 2, .no, .no] ((kP 2) ∧ ((2 : Nat) < 4) ∧ ((0 : Nat) + 2 * 1 = 2)) [(3, iV 0), (5, iV z), (6, oV 0 0 4 1), (7, iV 4), (8, iV 2)] ⟨rfl, zo, zo⟩ ?_
   by_cases hx3 : (z ≠ 0)
   ·refine kS [.no, .no, .b true] ((z ≠ 0)) [(3, iV 0), (5, iV z), (6, oV 0 0 4 1), (7, iV 4), (8, iV 2), (14, bV true)] zo ?_
    refine zt ?_
    refine kS [.no, .no] True [(2, iV z)] trivial ?_
    refine AW.ret ?_
    exact EndP.of (.inr rfl) [] (P := (((yC x (yC y (yC z u))) : Int) = z) ∧ (kM [iD x, iD y, iD z, iD u])) zk ⟨(by unfold yC; (repeat' split) <;> first | omega | contradiction | rfl), rfl⟩
   ·refine kS [.no, .no, .b false] (¬ (z ≠ 0)) [(3, iV 0), (5, iV z), (6, oV 0 0 4 1), (7, iV 4), (8, iV 2), (14, bV false)] zo ?_
    refine u9 ?_
    refine yK [.w, .no] (yF (3 : Int)) [(3, iV 0), (6, oV 0 0 4 1), (7, iV 4), (8, iV 3)] ⟨by omega, by omega⟩ ?_
    refine AWr.s ?_
    refine kI [.b true] (((3 : Int) < 4)) [(3, iV 0), (6, oV 0 0 4 1), (7, iV 4), (8, iV 3), (9, bV true)] [(0, some (3, .ds [iD x, iD y, iD z, iD u]))] 1 zo ?_
    refine AW.seq ?_
    refine vO ?_
    refine AW.seq ?_
    refine AW.block ?_
    refine kS [.n2 3 3, .no, .no] ((kP 3) ∧ ((3 : Nat) < 4) ∧ ((0 : Nat) + 3 * 1 = 3)) [(3, iV 0), (5, iV u), (6, oV 0 0 4 1), (7, iV 4), (8, iV 3)] ⟨rfl, zo, zo⟩ ?_
    by_cases hx4 : (u ≠ 0)
    ·refine kS [.no, .no, .b true] ((u ≠ 0)) [(3, iV 0), (5, iV u), (6, oV 0 0 4 1), (7, iV 4), (8, iV 3), (14, bV true)] zo ?_
     refine zt ?_
     refine kS [.no, .no] True [(2, iV u)] trivial ?_
     refine AW.ret ?_
     exact EndP.of (.inr rfl) [] (P := (((yC x (yC y (yC z u))) : Int) = u) ∧ (kM [iD x, iD y, iD z, iD u])) zk ⟨(by unfold yC; (repeat' split) <;> first | omega | contradiction | rfl), rfl⟩
    ·refine kS [.no, .no, .b false] (¬ (u ≠ 0)) [(3, iV 0), (5, iV u), (6, oV 0 0 4 1), (7, iV 4), (8, iV 3), (14, bV false)] zo ?_
     refine u9 ?_
     refine yK [.w, .no] (yF (4 : Int)) [(3, iV 0), (6, oV 0 0 4 1), (7, iV 4), (8, iV 4)] ⟨by omega, by omega⟩ ?_
     refine AWr.s ?_
     refine kI [.b false] (¬ ((4 : Int) < 4)) [(3, iV 0), (6, oV 0 0 4 1), (7, iV 4), (8, iV 4), (9, bV false)] [(0, some (3, .ds [iD x, iD y, iD z, iD u]))] 1 zo ?_
     refine AW.seq ?_
     refine zf ?_
     refine AW.exit ?_
     refine kI [.no, .no] True [(2, iV 0)] [(0, some (3, .ds [iD x, iD y, iD z, iD u]))] 1 trivial ?_
     refine AW.ret ?_
     exact EndP.of (.inr rfl) [] (P := (((yC x (yC y (yC z u))) : Int) = 0) ∧ (kM [iD x, iD y, iD z, iD u])) zk ⟨(by unfold yC; (repeat' split) <;> first | omega | contradiction | rfl), rfl⟩
theorem u0j (w a b : Int) (hw : -9223372036854775808 ≤ w ∧ w ≤ 9223372036854775807) (ha : -9223372036854775808 ≤ a ∧ a ≤ 9223372036854775807) (hb : -9223372036854775808 ≤ b ∧ b ≤ 9223372036854775807) : Fun 120 [iE w, iE a, iE b] (kF []) 0 (iV (cC w a b)) (kF []) 0 := by
 refine Fun.mk (n := 19) Tryz.func120 rfl rfl (ka4 rfl) ?_
 intro cx hcx
 refine kI [.no] True [(0, iV w), (1, iV a), (2, iV b)] [] 0 trivial ?_
 have hx1 : ((0 : Int) ≤ (dU w a)) := u5m w a
 have hx2 : ((0 : Int) ≤ (dU w b)) := u5m w b
 refine kI [.no, .no, .call [] (u1 (D.lit (.int .u64 (dU w a)))) [] 0 [] none, .no, .no, .call [] (u1 (D.lit (.int .u64 (dU w b)))) [] 0 [] none, .call [] (iV (yD (dU w a) (dU w b))) [] 0 [] none, .no, .no, .call [] (iV (yD a b)) [] 0 [] none, .no, .call [0] (iV (yC (yD (dU w a) (dU w b)) (yD a b))) [(0, some (3, .ds [iD (yD (dU w a) (dU w b)), iD (yD a b)]))] 1 [] none, .no] ((_) ∧ (_) ∧ (_) ∧ (_) ∧ (_)) [(6, iV (yC (yD (dU w a) (dU w b)) (yD a b)))] [] 1 ⟨(u0l w a zo zo), (u0l w b zo zo), (k4z (dU w a) (dU w b)), (aR a b), (zY (yD (dU w a) (dU w b)) (yD a b))⟩ ?_
 refine AW.ret ?_
 exact EndP.of (.inr rfl) [] (P := (((cC w a b) : Int) = (yC (yD (dU w a) (dU w b)) (yD a b)))) zk (by first | rfl | exact v43 zo | exact v42 zo (by first | exact v1s zo | exact v1t zo | exact v1v.2 zo))
theorem t7 (w a b : Int)  : Fun 113 [iE w, iE a, iE b] (kF []) 0 (iV (c7 w a b)) (kF []) 0 := by
 refine Fun.mk (n := 19) Tryz.func113 rfl rfl (ka4 rfl) ?_
 intro cx hcx
 refine kI [.no] True [(0, iV w), (1, iV a), (2, iV b)] [] 0 trivial ?_
 by_cases hx1 : (a = w)
 ·by_cases hx2 : (b = w)
  ·have hx3 : ((((-1) : Int) ≤ (b9 true true)) ∧ ((b9 true true) ≤ 1)) := eQ true true
   refine kI [.no, .no, .b true, .no, .no, .b true, .call [] (iV (b9 true true)) [] 0 [] none, .no, .no, .call [] (iV (yD b a)) [] 0 [] none, .no, .call [0] (iV (yC (b9 true true) (yD b a))) [(0, some (3, .ds [iD (b9 true true), iD (yD b a)]))] 1 [] none, .no] (((a = w)) ∧ ((b = w)) ∧ (_) ∧ (_) ∧ (_)) [(6, iV (yC (b9 true true) (yD b a)))] [] 1 ⟨zo, zo, (jI true true), (aR b a), (zY (b9 true true) (yD b a))⟩ ?_
   refine AW.ret ?_
   exact EndP.of (.inr rfl) [] (P := (((c7 w a b) : Int) = (yC (b9 true true) (yD b a)))) zk (by first | rfl | (unfold c7; first | rfl | (unfold yC b9 yD; (repeat' split) <;> simp_all <;> omega)))
  ·have hx4 : ((((-1) : Int) ≤ (b9 true false)) ∧ ((b9 true false) ≤ 1)) := eQ true false
   refine kI [.no, .no, .b true, .no, .no, .b false, .call [] (iV (b9 true false)) [] 0 [] none, .no, .no, .call [] (iV (yD b a)) [] 0 [] none, .no, .call [0] (iV (yC (b9 true false) (yD b a))) [(0, some (3, .ds [iD (b9 true false), iD (yD b a)]))] 1 [] none, .no] (((a = w)) ∧ (¬ (b = w)) ∧ (_) ∧ (_) ∧ (_)) [(6, iV (yC (b9 true false) (yD b a)))] [] 1 ⟨zo, zo, (jI true false), (aR b a), (zY (b9 true false) (yD b a))⟩ ?_
   refine AW.ret ?_
   exact EndP.of (.inr rfl) [] (P := (((c7 w a b) : Int) = (yC (b9 true false) (yD b a)))) zk (by first | rfl | (unfold c7; first | rfl | (unfold yC b9 yD; (repeat' split) <;> simp_all <;> omega)))
 ·by_cases hx5 : (b = w)
  ·have hx6 : ((((-1) : Int) ≤ (b9 false true)) ∧ ((b9 false true) ≤ 1)) := eQ false true
   refine kI [.no, .no, .b false, .no, .no, .b true, .call [] (iV (b9 false true)) [] 0 [] none, .no, .no, .call [] (iV (yD b a)) [] 0 [] none, .no, .call [0] (iV (yC (b9 false true) (yD b a))) [(0, some (3, .ds [iD (b9 false true), iD (yD b a)]))] 1 [] none, .no] ((¬ (a = w)) ∧ ((b = w)) ∧ (_) ∧ (_) ∧ (_)) [(6, iV (yC (b9 false true) (yD b a)))] [] 1 ⟨zo, zo, (jI false true), (aR b a), (zY (b9 false true) (yD b a))⟩ ?_
   refine AW.ret ?_
   exact EndP.of (.inr rfl) [] (P := (((c7 w a b) : Int) = (yC (b9 false true) (yD b a)))) zk (by first | rfl | (unfold c7; first | rfl | (unfold yC b9 yD; (repeat' split) <;> simp_all <;> omega)))
  ·have hx7 : ((((-1) : Int) ≤ (b9 false false)) ∧ ((b9 false false) ≤ 1)) := eQ false false
   refine kI [.no, .no, .b false, .no, .no, .b false, .call [] (iV (b9 false false)) [] 0 [] none, .no, .no, .call [] (iV (yD b a)) [] 0 [] none, .no, .call [0] (iV (yC (b9 false false) (yD b a))) [(0, some (3, .ds [iD (b9 false false), iD (yD b a)]))] 1 [] none, .no] ((¬ (a = w)) ∧ (¬ (b = w)) ∧ (_) ∧ (_) ∧ (_)) [(6, iV (yC (b9 false false) (yD b a)))] [] 1 ⟨zo, zo, (jI false false), (aR b a), (zY (b9 false false) (yD b a))⟩ ?_
   refine AW.ret ?_
   exact EndP.of (.inr rfl) [] (P := (((c7 w a b) : Int) = (yC (b9 false false) (yD b a)))) zk (by first | rfl | (unfold c7; first | rfl | (unfold yC b9 yD; (repeat' split) <;> simp_all <;> omega)))
theorem u8r (a b : List Int) (n m : Nat) (hn : ka0 a = n) (hm : ka0 b = m) (h2 : n ≤ 1000000) (h3 : m ≤ 1000000) : Fun 151 [.c (.d (D.sl (dI .i64 a) n)), .c (.d (D.sl (dI .i64 b) m))] (kF []) 0 (iV (dR a b)) (kF []) 0 := by
 refine Fun.mk (n := 36) Tryz.func151 rfl rfl (ka4 rfl) ?_
 intro cx hcx
 refine kI [.no] True [(0, sV .i64 a n), (1, sV .i64 b m)] [] 0 trivial ?_
 refine AW.seq ?_
 refine kS [.no, .no, .no] True [(0, sV .i64 a n), (1, sV .i64 b m), (9, sV .i64 a n), (10, uV n), (11, iV 0)] trivial ?_
 refine AW.block ?_
 refine qF 0 hcx (fun (x : {x : Nat // match x with | k => (k ≤ n ∧ k ≤ m) ∧ (dR a b = dR (ka3 k a) (ka3 k b))}) => match x with | ⟨k, _⟩ => (⟨[(0, sV .i64 a n), (1, sV .i64 b m), (9, sV .i64 a n), (10, uV n), (11, uV k)], [], 0⟩ : ES)) (fun x => match x with | ⟨k, _⟩ => n - k) ⟨(0 : Nat), ⟨(by first | omega | assumption | simp), rfl⟩⟩ [] (P := (kM (dI .i64 a)) ∧ (kH n) ∧ (kM (dI .i64 b)) ∧ (kH m) ∧ (kM (dI .i64 a)) ∧ (kH n) ∧ (kP (n : Int)) ∧ (kP 0)) zk ⟨rfl, rfl, rfl, rfl, rfl, rfl, rfl, rfl⟩ ?_
 rintro ⟨k, hinv0⟩
 obtain ⟨hk, hx⟩ : (k ≤ n ∧ k ≤ m) ∧ (dR a b = dR (ka3 k a) (ka3 k b)) := hinv0
 refine uG (l := [(0, sV .i64 a n), (1, sV .i64 b m), (9, sV .i64 a n), (10, uV n), (11, uV k)]) (g := []) (nx := 0) rfl rfl rfl ?_
 by_cases hx1 : (((k : Nat) : Int) < ((n : Nat) : Int))
 ·refine kI [.b true] (((k : Int) < (n : Int))) [(0, sV .i64 a n), (1, sV .i64 b m), (9, sV .i64 a n), (10, uV n), (11, uV k), (12, bV true)] [] 0 zo ?_
  refine AW.seq ?_
  refine vO ?_
  refine AW.seq ?_
  refine AW.block ?_
  refine kS [.no, .n k, .d (D.lit (.int .i64 (ka1 a k 0))), .no, .no] ((kP (k : Int)) ∧ (k < n) ∧ ((ka3 k (dI .i64 a))[0]? = some (D.lit (.int .i64 (ka1 a k 0))))) [(0, sV .i64 a n), (1, sV .i64 b m), (5, uV k), (6, iV (ka1 a k 0)), (9, sV .i64 a n), (10, uV n), (11, uV k)] ⟨rfl, zo, (yG _ _ _ (by first | omega | (simp only [uU, fZ, eN, qV, ka6, ka9, kb0, kb1, kb2, kb4, kb8, kc3, kc1, Nat.mul_one] <;> omega) | rfl))⟩ ?_
  refine AW.seq ?_
  by_cases hx2 : (((m : Nat) : Int) ≤ ((k : Nat) : Int))
  ·refine kS [.no, .no, .no, .b true] (((m : Int) ≤ (k : Int))) [(0, sV .i64 a n), (1, sV .i64 b m), (5, uV k), (6, iV (ka1 a k 0)), (9, sV .i64 a n), (10, uV n), (11, uV k), (19, bV true)] zo ?_
   refine zt ?_
   refine kS [.no] True [(4, iV 1)] trivial ?_
   refine AW.ret ?_
   exact EndP.of (.inr rfl) [] (P := (((dR a b) : Int) = 1)) zk (by first | rfl | exact (k2u hx zo zo zo) | exact (k2w hx zo zo) | exact (k2v hx zo zo) | exact (k2x hx zo zo))
  ·refine kS [.no, .no, .no, .b false] (¬ ((m : Int) ≤ (k : Int))) [(0, sV .i64 a n), (1, sV .i64 b m), (5, uV k), (6, iV (ka1 a k 0)), (9, sV .i64 a n), (10, uV n), (11, uV k), (19, bV false)] zo ?_
   refine u9 ?_
   refine kS [.no, .no, .n k, .d (D.lit (.int .i64 (ka1 b k 0))), .no] ((kP (k : Int)) ∧ (k < m) ∧ ((ka3 k (dI .i64 b))[0]? = some (D.lit (.int .i64 (ka1 b k 0))))) [(0, sV .i64 a n), (1, sV .i64 b m), (6, iV (ka1 a k 0)), (7, iV (ka1 b k 0)), (9, sV .i64 a n), (10, uV n), (11, uV k)] ⟨rfl, zo, (yG _ _ _ (by first | omega | (simp only [uU, fZ, eN, qV, ka6, ka9, kb0, kb1, kb2, kb4, kb8, kc3, kc1, Nat.mul_one] <;> omega) | rfl))⟩ ?_
   refine kS [.no, .no, .call [] (iV (yD (ka1 a k 0) (ka1 b k 0))) [] 0 [] none, .no] _ [(0, sV .i64 a n), (1, sV .i64 b m), (8, iV (yD (ka1 a k 0) (ka1 b k 0))), (9, sV .i64 a n), (10, uV n), (11, uV k)] (aR (ka1 a k 0) (ka1 b k 0)) ?_
   by_cases hx3 : ((yD (ka1 a k 0) (ka1 b k 0)) ≠ 0)
   ·refine kS [.no, .b true] (((yD (ka1 a k 0) (ka1 b k 0)) ≠ 0)) [(0, sV .i64 a n), (1, sV .i64 b m), (8, iV (yD (ka1 a k 0) (ka1 b k 0))), (9, sV .i64 a n), (10, uV n), (11, uV k), (28, bV true)] zo ?_
    refine zt ?_
    refine kS [.no, .no] True [(4, iV (yD (ka1 a k 0) (ka1 b k 0)))] trivial ?_
    refine AW.ret ?_
    exact EndP.of (.inr rfl) [] (P := (((dR a b) : Int) = (yD (ka1 a k 0) (ka1 b k 0)))) zk (by first | rfl | exact (k2u hx zo zo zo) | exact (k2w hx zo zo) | exact (k2v hx zo zo) | exact (k2x hx zo zo))
   ·refine kS [.no, .b false] (¬ ((yD (ka1 a k 0) (ka1 b k 0)) ≠ 0)) [(0, sV .i64 a n), (1, sV .i64 b m), (8, iV (yD (ka1 a k 0) (ka1 b k 0))), (9, sV .i64 a n), (10, uV n), (11, uV k), (28, bV false)] zo ?_
    refine u9 ?_
    refine yK [.w, .no] (yF ((k : Int) + 1)) [(0, sV .i64 a n), (1, sV .i64 b m), (9, sV .i64 a n), (10, uV n), (11, iV (↑k + 1))] ⟨by omega, by omega⟩ ?_
    exact Rd.of ⟨((k + 1) : Nat), ⟨(by first | omega | assumption | simp), (u1v hx zo zo zo)⟩⟩ [] (P := (kM (dI .i64 a)) ∧ (kH n) ∧ (kM (dI .i64 b)) ∧ (kH m) ∧ (kM (dI .i64 a)) ∧ (kH n) ∧ (kP (n : Int)) ∧ (cU k)) zk ⟨rfl, rfl, rfl, rfl, rfl, rfl, rfl, (by first | rfl | omega | assumption | (simp; done) | (simp; omega))⟩ (show n - (k + 1) < n - k from (by first | omega | (show _ < _; simp; omega)))
 ·refine kI [.b false] (¬ ((k : Int) < (n : Int))) [(0, sV .i64 a n), (1, sV .i64 b m), (9, sV .i64 a n), (10, uV n), (11, uV k), (12, bV false)] [] 0 zo ?_
  refine AW.seq ?_
  refine zf ?_
  refine AW.exit ?_
  refine AW.seq ?_
  by_cases hx4 : (((n : Nat) : Int) < ((m : Nat) : Int))
  ·refine kI (qN 4 [.b true]) (((n : Int) < (m : Int))) [(35, bV true)] [] 0 zo ?_
   refine zt ?_
   refine kS [.no] True [(4, iV (-1))] trivial ?_
   refine AW.ret ?_
   exact EndP.of (.inr rfl) [] (P := (((dR a b) : Int) = (-1))) zk (by first | rfl | exact (k2u hx zo zo zo) | exact (k2w hx zo zo) | exact (k2v hx zo zo) | exact (k2x hx zo zo))
  ·refine kI (qN 4 [.b false]) (¬ ((n : Int) < (m : Int))) [(35, bV false)] [] 0 zo ?_
   refine u9 ?_
   refine kS [.no] True [(4, iV 0)] trivial ?_
   refine AW.ret ?_
   exact EndP.of (.inr rfl) [] (P := (((dR a b) : Int) = 0)) zk (by first | rfl | exact (k2u hx zo zo zo) | exact (k2w hx zo zo) | exact (k2v hx zo zo) | exact (k2x hx zo zo))
theorem zX (w a : List Int) (o n : Nat) (ho : ka0 w = o) (hn : ka0 a = n) (h1 : o ≤ 1000000) (h2 : n ≤ 1000000) : Fun 149 [.c (.d (D.sl (dI .i64 a) n)), .c (.ptr 0 0)] (kF [(0, some (38, .ds [D.sl (dI .i64 w) o]))]) 1 (iV (mO w a)) (kF [(0, some (38, .ds [D.sl (dI .i64 w) o]))]) 1 := by
 refine Fun.mk (n := 8) Tryz.func149 rfl rfl (ka4 rfl) ?_
 intro cx hcx
 refine kI [.no] True [(0, sV .i64 a n), (1, rV 0 0)] [(0, some (38, .ds [dl w o]))] 1 trivial ?_
 have hx1 : ((ka0 (zE w a n)) ≤ o) := (by have h9 := k3d w a n; omega)
 refine kS [.no, .no, .call [] (sV .i64 (zE w a n) (ka0 (zE w a n))) [] 0 [] none, .no, .no] _ [(3, uV (ka0 (zE w a n)))] (u0o w a o n zo zo zo zo) ?_
 refine AW.ret ?_
 exact EndP.of (.inr rfl) [] (P := (((mO w a) : Int) = (ka0 (zE w a n) : Int)) ∧ (kM [dl w o])) zk ⟨(by first | rfl | (unfold mO; rw [hn])), rfl⟩
theorem u0k (w a b : List Int) (o n m : Nat) (ho : ka0 w = o) (hn : ka0 a = n) (hm : ka0 b = m) (h1 : o ≤ 1000000) (h2 : n ≤ 1000000) (h3 : m ≤ 1000000) : Fun 117 [.c (.d (D.sl (dI .i64 w) o)), .c (.d (D.sl (dI .i64 a) n)), .c (.d (D.sl (dI .i64 b) m))] (kF []) 0 (iV (c6 w a b)) (kF []) 0 := by
 refine Fun.mk (n := 33) Tryz.func117 rfl rfl (ka4 rfl) ?_
 intro cx hcx
 refine kI [.no, .no] True [(1, sV .i64 a n), (2, sV .i64 b m), (3, rV 0 0)] [(0, some (38, .ds [dl w o]))] 1 trivial ?_
 refine kS [.no, .no] True [(1, sV .i64 a n), (2, sV .i64 b m), (3, rV 0 0), (7, .e (.c (.fn 149 [(0, 0)])))] trivial ?_
 have hx1 : ((((-1) : Int) ≤ (b9 (bL a w) (bL b w))) ∧ ((b9 (bL a w) (bL b w)) ≤ 1)) := eQ (bL a w) (bL b w)
 have hx2 : ((0 : Int) ≤ (mO w b)) := Int.natCast_nonneg _
 have hx3 : ((0 : Int) ≤ (mO w a)) := Int.natCast_nonneg _
 have hx4 : ((((-1) : Int) ≤ (dR a b)) ∧ ((dR a b) ≤ 1)) := sZ a b
 refine kI [.no, .no, .call [] (u1 (D.lit (.bool (bL a w)))) [] 0 [] none, .no, .no, .call [] (u1 (D.lit (.bool (bL b w)))) [] 0 [] none, .call [] (iV (b9 (bL a w) (bL b w))) [] 0 [] none, .no, .no, .call [0] (iV (mO w b)) [(0, some (38, .ds [dl w o]))] 1 [] none, .no, .no, .call [0] (iV (mO w a)) [(0, some (38, .ds [dl w o]))] 1 [] none, .call [] (iV (yD (mO w b) (mO w a))) [] 0 [] none, .no, .no, .no, .no, .call [] (iV (yD (n : Int) (m : Int))) [] 0 [] none, .no, .no, .call [] (iV (dR a b)) [] 0 [] none, .no, .call [1] (iV (yC (b9 (bL a w) (bL b w)) (yC (yD (mO w b) (mO w a)) (yC (yD (n : Int) (m : Int)) (dR a b))))) [(0, some (3, .ds [iD (b9 (bL a w) (bL b w)), iD (yD (mO w b) (mO w a)), iD (yD (n : Int) (m : Int)), iD (dR a b)]))] 1 [] none, .no] ((_) ∧ (_) ∧ (_) ∧ (_) ∧ (_) ∧ (_) ∧ (_) ∧ (_) ∧ (_)) [(6, iV (yC (b9 (bL a w) (bL b w)) (yC (yD (mO w b) (mO w a)) (yC (yD ↑n ↑m) (dR a b)))))] [] 2 ⟨(t9 a w n o zo zo zo zo), (t9 b w m o zo zo zo zo), (jI (bL a w) (bL b w)), (zX w b o m zo zo zo zo), (zX w a o n zo zo zo zo), (aR (mO w b) (mO w a)), (aR (n : Int) (m : Int)), (u8r a b n m zo zo zo zo), (v2s (b9 (bL a w) (bL b w)) (yD (mO w b) (mO w a)) (yD (n : Int) (m : Int)) (dR a b))⟩ ?_
 refine AW.ret ?_
 exact EndP.of (.inr rfl) [] (P := (((c6 w a b) : Int) = (yC (b9 (bL a w) (bL b w)) (yC (yD (mO w b) (mO w a)) (yC (yD (n : Int) (m : Int)) (dR a b)))))) zk (by first | rfl | (unfold c6; rw [hn, hm]))
theorem u8v (wk wr wz ak ar az bk br bz : Int) (w a b : List Int) (o n m : Nat) (ho : ka0 w = o) (hn : ka0 a = n) (hm : ka0 b = m) (h1 : o ≤ 1000000) (h2 : n ≤ 1000000) (h3 : m ≤ 1000000) (hwr : -9223372036854775808 ≤ wr ∧ wr ≤ 9223372036854775807) (har : -9223372036854775808 ≤ ar ∧ ar ≤ 9223372036854775807) (hbr : -9223372036854775808 ≤ br ∧ br ≤ 9223372036854775807) (hwz : -9223372036854775808 ≤ wz ∧ wz ≤ 9223372036854775807) (haz : -9223372036854775808 ≤ az ∧ az ≤ 9223372036854775807) (hbz : -9223372036854775808 ≤ bz ∧ bz ≤ 9223372036854775807) : Fun 118 [.c (.ptr 0 0), .c (.ptr 1 0), .c (.ptr 2 0)] (kF [(0, some (42, .ds [iD wk, iD wr, D.sl (dI .i64 w) o, iD wz])), (1, some (42, .ds [iD ak, iD ar, D.sl (dI .i64 a) n, iD az])), (2, some (42, .ds [iD bk, iD br, D.sl (dI .i64 b) m, iD bz]))]) 3 (iV (c7 wk ak bk)) (kF [(0, some (42, .ds [iD wk, iD wr, D.sl (dI .i64 w) o, iD wz])), (1, some (42, .ds [iD ak, iD ar, D.sl (dI .i64 a) n, iD az])), (2, some (42, .ds [iD bk, iD br, D.sl (dI .i64 b) m, iD bz]))]) 3 := by
 refine Fun.mk (n := 14) Tryz.func118 rfl rfl (ka4 rfl) ?_
 intro cx hcx
 refine kI [.no] True [(0, rV 0 0), (1, rV 1 0), (2, rV 2 0)] [(0, some (42, .ds [iD wk, iD wr, dl w o, iD wz])), (1, some (42, .ds [iD ak, iD ar, dl a n, iD az])), (2, some (42, .ds [iD bk, iD br, dl b m, iD bz]))] 3 trivial ?_
 have hx1 : ((((-1) : Int) ≤ (c7 wk ak bk)) ∧ ((c7 wk ak bk) ≤ 1)) := i5 wk ak bk
 refine kS (qN 9 [.call [] (iV (c7 wk ak bk)) [] 0 [] none, .no]) _ [(3, iV (c7 wk ak bk))] (t7 wk ak bk) ?_
 refine AW.ret ?_
 exact EndP.of (.inr rfl) [] (P := (kP (c7 wk ak bk)) ∧ (kM [iD wk, iD wr, dl w o, iD wz]) ∧ (kM [iD ak, iD ar, dl a n, iD az]) ∧ (kM [iD bk, iD br, dl b m, iD bz])) zk ⟨rfl, rfl, rfl, rfl⟩
theorem u8u (wk wr wz ak ar az bk br bz : Int) (w a b : List Int) (o n m : Nat) (ho : ka0 w = o) (hn : ka0 a = n) (hm : ka0 b = m) (h1 : o ≤ 1000000) (h2 : n ≤ 1000000) (h3 : m ≤ 1000000) (hwr : -9223372036854775808 ≤ wr ∧ wr ≤ 9223372036854775807) (har : -9223372036854775808 ≤ ar ∧ ar ≤ 9223372036854775807) (hbr : -9223372036854775808 ≤ br ∧ br ≤ 9223372036854775807) (hwz : -9223372036854775808 ≤ wz ∧ wz ≤ 9223372036854775807) (haz : -9223372036854775808 ≤ az ∧ az ≤ 9223372036854775807) (hbz : -9223372036854775808 ≤ bz ∧ bz ≤ 9223372036854775807) : Fun 119 [.c (.ptr 0 0), .c (.ptr 1 0), .c (.ptr 2 0)] (kF [(0, some (42, .ds [iD wk, iD wr, D.sl (dI .i64 w) o, iD wz])), (1, some (42, .ds [iD ak, iD ar, D.sl (dI .i64 a) n, iD az])), (2, some (42, .ds [iD bk, iD br, D.sl (dI .i64 b) m, iD bz]))]) 3 (iV (cC wr ar br)) (kF [(0, some (42, .ds [iD wk, iD wr, D.sl (dI .i64 w) o, iD wz])), (1, some (42, .ds [iD ak, iD ar, D.sl (dI .i64 a) n, iD az])), (2, some (42, .ds [iD bk, iD br, D.sl (dI .i64 b) m, iD bz]))]) 3 := by
 refine Fun.mk (n := 14) Tryz.func119 rfl rfl (ka4 rfl) ?_
 intro cx hcx
 refine kI [.no] True [(0, rV 0 0), (1, rV 1 0), (2, rV 2 0)] [(0, some (42, .ds [iD wk, iD wr, dl w o, iD wz])), (1, some (42, .ds [iD ak, iD ar, dl a n, iD az])), (2, some (42, .ds [iD bk, iD br, dl b m, iD bz]))] 3 trivial ?_
 have hx1 : ((((-1) : Int) ≤ (cC wr ar br)) ∧ ((cC wr ar br) ≤ 1)) := f5 wr ar br
 refine kS (qN 9 [.call [] (iV (cC wr ar br)) [] 0 [] none, .no]) _ [(3, iV (cC wr ar br))] (u0j wr ar br zo zo zo) ?_
 refine AW.ret ?_
 exact EndP.of (.inr rfl) [] (P := (kP (cC wr ar br)) ∧ (kM [iD wk, iD wr, dl w o, iD wz]) ∧ (kM [iD ak, iD ar, dl a n, iD az]) ∧ (kM [iD bk, iD br, dl b m, iD bz])) zk ⟨rfl, rfl, rfl, rfl⟩
theorem u8t (wk wr wz ak ar az bk br bz : Int) (w a b : List Int) (o n m : Nat) (ho : ka0 w = o) (hn : ka0 a = n) (hm : ka0 b = m) (h1 : o ≤ 1000000) (h2 : n ≤ 1000000) (h3 : m ≤ 1000000) (hwr : -9223372036854775808 ≤ wr ∧ wr ≤ 9223372036854775807) (har : -9223372036854775808 ≤ ar ∧ ar ≤ 9223372036854775807) (hbr : -9223372036854775808 ≤ br ∧ br ≤ 9223372036854775807) (hwz : -9223372036854775808 ≤ wz ∧ wz ≤ 9223372036854775807) (haz : -9223372036854775808 ≤ az ∧ az ≤ 9223372036854775807) (hbz : -9223372036854775808 ≤ bz ∧ bz ≤ 9223372036854775807) : Fun 121 [.c (.ptr 0 0), .c (.ptr 1 0), .c (.ptr 2 0)] (kF [(0, some (42, .ds [iD wk, iD wr, D.sl (dI .i64 w) o, iD wz])), (1, some (42, .ds [iD ak, iD ar, D.sl (dI .i64 a) n, iD az])), (2, some (42, .ds [iD bk, iD br, D.sl (dI .i64 b) m, iD bz]))]) 3 (iV (c6 w a b)) (kF [(0, some (42, .ds [iD wk, iD wr, D.sl (dI .i64 w) o, iD wz])), (1, some (42, .ds [iD ak, iD ar, D.sl (dI .i64 a) n, iD az])), (2, some (42, .ds [iD bk, iD br, D.sl (dI .i64 b) m, iD bz]))]) 3 := by
 refine Fun.mk (n := 14) Tryz.func121 rfl rfl (ka4 rfl) ?_
 intro cx hcx
 refine kI [.no] True [(0, rV 0 0), (1, rV 1 0), (2, rV 2 0)] [(0, some (42, .ds [iD wk, iD wr, dl w o, iD wz])), (1, some (42, .ds [iD ak, iD ar, dl a n, iD az])), (2, some (42, .ds [iD bk, iD br, dl b m, iD bz]))] 3 trivial ?_
 have hx1 : ((((-1) : Int) ≤ (c6 w a b)) ∧ ((c6 w a b) ≤ 1)) := f6 w a b
 refine kS (qN 9 [.call [] (iV (c6 w a b)) [] 0 [] none, .no]) _ [(3, iV (c6 w a b))] (u0k w a b o n m zo zo zo zo zo zo) ?_
 refine AW.ret ?_
 exact EndP.of (.inr rfl) [] (P := (kP (c6 w a b)) ∧ (kM [iD wk, iD wr, dl w o, iD wz]) ∧ (kM [iD ak, iD ar, dl a n, iD az]) ∧ (kM [iD bk, iD br, dl b m, iD bz])) zk ⟨rfl, rfl, rfl, rfl⟩
theorem u8s (wk wr wz ak ar az bk br bz : Int) (w a b : List Int) (o n m : Nat) (ho : ka0 w = o) (hn : ka0 a = n) (hm : ka0 b = m) (h1 : o ≤ 1000000) (h2 : n ≤ 1000000) (h3 : m ≤ 1000000) (hwr : -9223372036854775808 ≤ wr ∧ wr ≤ 9223372036854775807) (har : -9223372036854775808 ≤ ar ∧ ar ≤ 9223372036854775807) (hbr : -9223372036854775808 ≤ br ∧ br ≤ 9223372036854775807) (hwz : -9223372036854775808 ≤ wz ∧ wz ≤ 9223372036854775807) (haz : -9223372036854775808 ≤ az ∧ az ≤ 9223372036854775807) (hbz : -9223372036854775808 ≤ bz ∧ bz ≤ 9223372036854775807) : Fun 122 [.c (.ptr 0 0), .c (.ptr 1 0), .c (.ptr 2 0)] (kF [(0, some (42, .ds [iD wk, iD wr, D.sl (dI .i64 w) o, iD wz])), (1, some (42, .ds [iD ak, iD ar, D.sl (dI .i64 a) n, iD az])), (2, some (42, .ds [iD bk, iD br, D.sl (dI .i64 b) m, iD bz]))]) 3 (iV (cC wz az bz)) (kF [(0, some (42, .ds [iD wk, iD wr, D.sl (dI .i64 w) o, iD wz])), (1, some (42, .ds [iD ak, iD ar, D.sl (dI .i64 a) n, iD az])), (2, some (42, .ds [iD bk, iD br, D.sl (dI .i64 b) m, iD bz]))]) 3 := by
 refine Fun.mk (n := 11) Tryz.func122 rfl rfl (ka4 rfl) ?_
 intro cx hcx
 refine kI [.no] True [(0, rV 0 0), (1, rV 1 0), (2, rV 2 0)] [(0, some (42, .ds [iD wk, iD wr, dl w o, iD wz])), (1, some (42, .ds [iD ak, iD ar, dl a n, iD az])), (2, some (42, .ds [iD bk, iD br, dl b m, iD bz]))] 3 trivial ?_
 have hx1 : ((((-1) : Int) ≤ (cC wz az bz)) ∧ ((cC wz az bz) ≤ 1)) := f5 wz az bz
 refine kS (qN 6 [.call [] (iV (cC wz az bz)) [] 0 [] none, .no]) _ [(3, iV (cC wz az bz))] (u0j wz az bz zo zo zo) ?_
 refine AW.ret ?_
 exact EndP.of (.inr rfl) [] (P := (kP (cC wz az bz)) ∧ (kM [iD wk, iD wr, dl w o, iD wz]) ∧ (kM [iD ak, iD ar, dl a n, iD az]) ∧ (kM [iD bk, iD br, dl b m, iD bz])) zk ⟨rfl, rfl, rfl, rfl⟩
abbrev fY : BC := .cs [.fn 118 [(0, 0), (1, 0), (2, 0)], .fn 119 [(0, 0), (1, 0), (2, 0)], .fn 121 [(0, 0), (1, 0), (2, 0)], .fn 122 [(0, 0), (1, 0), (2, 0)]]
abbrev a8 (wk : Int) (wr : Int) (w : List Int) (o : Nat) (wz : Int) : BC := .ds [iD wk, iD wr, D.sl (dI .i64 w) o, iD wz]
abbrev a7 (ak : Int) (ar : Int) (a : List Int) (n : Nat) (az : Int) : BC := .ds [iD ak, iD ar, D.sl (dI .i64 a) n, iD az]
abbrev aZ (bk : Int) (br : Int) (b : List Int) (m : Nat) (bz : Int) : BC := .ds [iD bk, iD br, D.sl (dI .i64 b) m, iD bz]
theorem rB (wk wr wz ak ar az bk br bz : Int) (w a b : List Int) (o n m : Nat) (ho : ka0 w = o) (hn : ka0 a = n) (hm : ka0 b = m) (h1 : o ≤ 1000000) (h2 : n ≤ 1000000) (h3 : m ≤ 1000000) (hwr : -9223372036854775808 ≤ wr ∧ wr ≤ 9223372036854775807) (har : -9223372036854775808 ≤ ar ∧ ar ≤ 9223372036854775807) (hbr : -9223372036854775808 ≤ br ∧ br ≤ 9223372036854775807) (hwz : -9223372036854775808 ≤ wz ∧ wz ≤ 9223372036854775807) (haz : -9223372036854775808 ≤ az ∧ az ≤ 9223372036854775807) (hbz : -9223372036854775808 ≤ bz ∧ bz ≤ 9223372036854775807) : Fun 79 [.agg [iC wk, iC wr, .d (D.sl (dI .i64 w) o), iC wz], .agg [iC ak, iC ar, .d (D.sl (dI .i64 a) n), iC az], .agg [iC bk, iC br, .d (D.sl (dI .i64 b) m), iC bz]] (kF []) 0 (iV (mN wk wr wz ak ar az bk br bz w a b)) (kF []) 0 := by
 refine Fun.mk (n := 28) Tryz.func79 rfl rfl (ka4 rfl) ?_
 intro cx hcx
 refine kI (qN 4 []) True [(3, rV 0 0), (4, rV 1 0), (5, rV 2 0)] [(0, some (42, (a8 wk wr w o wz))), (1, some (42, (a7 ak ar a n az))), (2, some (42, (aZ bk br b m bz)))] 3 trivial ?_
 refine kI (qN 6 []) True [(7, oV 3 0 4 1)] [(0, some (42, (a8 wk wr w o wz))), (1, some (42, (a7 ak ar a n az))), (2, some (42, (aZ bk br b m bz))), (3, some (140, fY))] 4 trivial ?_
 refine AW.seq ?_
 refine kS [.no, .no, .no] True [(16, oV 3 0 4 1), (17, iV 4), (18, iV 0)] trivial ?_
 refine AW.block ?_
 refine AW.rounds 5 ?_
 refine AWr.s ?_
 refine kI [.b true] (((0 : Int) < 4)) [(16, oV 3 0 4 1), (17, iV 4), (18, iV 0), (19, bV true)] [(0, some (42, (a8 wk wr w o wz))), (1, some (42, (a7 ak ar a n az))), (2, some (42, (aZ bk br b m bz))), (3, some (140, fY))] 4 zo ?_
 refine AW.seq ?_
 refine vO ?_
 refine AW.seq ?_
 refine AW.block ?_
 refine kS [.n2 0 0, .no, .no] ((kP 0) ∧ ((0 : Nat) < 4) ∧ ((0 : Nat) + 0 * 1 = 0)) [(9, .e (.c (.fn 118 [(0, 0), (1, 0), (2, 0)]))), (16, oV 3 0 4 1), (17, iV 4), (18, iV 0)] ⟨rfl, zo, zo⟩ ?_
 have hx1 : ((((-1) : Int) ≤ (c7 wk ak bk)) ∧ ((c7 wk ak bk) ≤ 1)) := i5 wk ak bk
 refine kS [.no, .call [0, 1, 2] (iV (c7 wk ak bk)) [(0, some (42, (a8 wk wr w o wz))), (1, some (42, (a7 ak ar a n az))), (2, some (42, (aZ bk br b m bz)))] 3 [] none, .no] _ [(10, iV (c7 wk ak bk)), (16, oV 3 0 4 1), (17, iV 4), (18, iV 0)] (u8v wk wr wz ak ar az bk br bz w a b o n m zo zo zo zo zo zo zo zo zo zo zo zo) ?_
 by_cases hx2 : ((c7 wk ak bk) ≠ 0)
 ·refine kS [.no, .b true] (((c7 wk ak bk) ≠ 0)) [(10, iV (c7 wk ak bk)), (16, oV 3 0 4 1), (17, iV 4), (18, iV 0), (25, bV true)] zo ?_
  refine zt ?_
  refine kI [.no, .no] True [(6, iV (c7 wk ak bk))] [] 4 trivial ?_
  refine AW.ret ?_
  exact EndP.of (.inr rfl) [] (P := (((mN wk wr wz ak ar az bk br bz w a b) : Int) = (c7 wk ak bk))) zk (by unfold mN yC; (repeat' split) <;> first | omega | contradiction | rfl)
 ·refine kS [.no, .b false] (¬ ((c7 wk ak bk) ≠ 0)) [(10, iV (c7 wk ak bk)), (16, oV 3 0 4 1), (17, iV 4), (18, iV 0), (25, bV false)] zo ?_
  refine u9 ?_
  refine yK [.w, .no] (yF (1 : Int)) [(16, oV 3 0 4 1), (17, iV 4), (18, iV 1)] ⟨by omega, by omega⟩ ?_
  refine AWr.s ?_
  refine kI [.b true] (((1 : Int) < 4)) [(16, oV 3 0 4 1), (17, iV 4), (18, iV 1), (19, bV true)] [(0, some (42, (a8 wk wr w o wz))), (1, some (42, (a7 ak ar a n az))), (2, some (42, (aZ bk br b m bz))), (3, some (140, fY))] 4 zo ?_
  refine AW.seq ?_
  refine vO ?_
  refine AW.seq ?_
  refine AW.block ?_
  refine kS [.n2 1 1, .no, .no] ((kP 1) ∧ ((1 : Nat) < 4) ∧ ((0 : Nat) + 1 * 1 = 1)) [(9, .e (.c (.fn 119 [(0, 0), (1, 0), (2, 0)]))), (16, oV 3 0 4 1), (17, iV 4), (18, iV 1)] ⟨rfl, zo, zo⟩ ?_
  have hx3 : ((((-1) : Int) ≤ (cC wr ar br)) ∧ ((cC wr ar br) ≤ 1)) := f5 wr ar br
  refine kS [.no, .call [0, 1, 2] (iV (cC wr ar br)) [(0, some (42, (a8 wk wr w o wz))), (1, some (42, (a7 ak ar a n az))), (2, some (42, (aZ bk br b m bz)))] 3 [] none, .no] _ [(10, iV (cC wr ar br)), (16, oV 3 0 4 1), (17, iV 4), (18, iV 1)] (u8u wk wr wz ak ar az bk br bz w a b o n m zo zo zo zo zo zo zo zo zo zo zo zo) ?_
  by_cases hx4 : ((cC wr ar br) ≠ 0)
  ·refine kS [.no, .b true] (((cC wr ar br) ≠ 0)) [(10, iV (cC wr ar br)), (16, oV 3 0 4 1), (17, iV 4), (18, iV 1), (25, bV true)] zo ?_
   refine zt ?_
   refine kI [.no, .no] True [(6, iV (cC wr ar br))] [] 4 trivial ?_
   refine AW.ret ?_
   exact EndP.of (.inr rfl) [] (P := (((mN wk wr wz ak ar az bk br bz w a b) : Int) = (cC wr ar br))) zk (by unfold mN yC; (repeat' split) <;> first | omega | contradiction | rfl)
  ·refine kS [.no, .b false] (¬ ((cC wr ar br) ≠ 0)) [(10, iV (cC wr ar br)), (16, oV 3 0 4 1), (17, iV 4), (18, iV 1), (25, bV false)] zo ?_
   refine u9 ?_
   refine yK [.w, .no] (yF (2 : Int)) [(16, oV 3 0 4 1), (17, iV 4), (18, iV 2)] ⟨by omega, by omega⟩ ?_
   refine AWr.s ?_
   refine kI [.b true] (((2 : Int) < 4)) [(16, oV 3 0 4 1), (17, iV 4), (18, iV 2), (19, bV true)] [(0, some (42, (a8 wk wr w o wz))), (1, some (42, (a7 ak ar a n az))), (2, some (42, (aZ bk br b m bz))), (3, some (140, fY))] 4 zo ?_
   refine AW.seq ?_
   refine vO ?_
   refine AW.seq ?_
   refine AW.block ?_
   refine kS [.n2 2 2, .no, .no] ((kP 2) ∧ ((2 : Nat) < 4) ∧ ((0 : Nat) + 2 * 1 = 2)) [(9, .e (.c (.fn 121 [(0, 0), (1, 0), (2, 0)]))), (16, oV 3 0 4 1), (17, iV 4), (18, iV 2)] ⟨rfl, zo, zo⟩ ?_
   have hx5 : ((((-1) : Int) ≤ (c6 w a b)) ∧ ((c6 w a b) ≤ 1)) := f6 w a b
   refine kS [.no, .call [0, 1, 2] (iV (c6 w a b)) [(0, some (42, (a8 wk wr w o wz))), (1, some (42, (a7 ak ar a n az))), (2, some (42, (aZ bk br b m bz)))] 3 [] none, .no] _ [(10, iV (c6 w a b)), (16, oV 3 0 4 1), (17, iV 4), (18, iV 2)] (u8t wk wr wz ak ar az bk br bz w a b o n m zo zo zo zo zo zo zo zo zo zo zo zo) ?_
   by_cases hx6 : ((c6 w a b) ≠ 0)
   ·refine kS [.no, .b true] (((c6 w a b) ≠ 0)) [(10, iV (c6 w a b)), (16, oV 3 0 4 1), (17, iV 4), (18, iV 2), (25, bV true)] zo ?_
    refine zt ?_
    refine kI [.no, .no] True [(6, iV (c6 w a b))] [] 4 trivial ?_
    refine AW.ret ?_
    exact EndP.of (.inr rfl) [] (P := (((mN wk wr wz ak ar az bk br bz w a b) : Int) = (c6 w a b))) zk (by unfold mN yC; (repeat' split) <;> first | omega | contradiction | rfl)
   ·refine kS [.no, .b false] (¬ ((c6 w a b) ≠ 0)) [(10, iV (c6 w a b)), (16, oV 3 0 4 1), (17, iV 4), (18, iV 2), (25, bV false)] zo ?_
    refine u9 ?_
    refine yK [.w, .no] (yF (3 : Int)) [(16, oV 3 0 4 1), (17, iV 4), (18, iV 3)] ⟨by omega, by omega⟩ ?_
    refine AWr.s ?_
    refine kI [.b true] (((3 : Int) < 4)) [(16, oV 3 0 4 1), (17, iV 4), (18, iV 3), (19, bV true)] [(0, some (42, (a8 wk wr w o wz))), (1, some (42, (a7 ak ar a n az))), (2, some (42, (aZ bk br b m bz))), (3, some (140, fY))] 4 zo ?_
    refine AW.seq ?_
    refine vO ?_
    refine AW.seq ?_
    refine AW.block ?_
    refine kS [.n2 3 3, .no, .no] ((kP 3) ∧ ((3 : Nat) < 4) ∧ ((0 : Nat) + 3 * 1 = 3)) [(9, .e (.c (.fn 122 [(0, 0), (1, 0), (2, 0)]))), (16, oV 3 0 4 1), (17, iV 4), (18, iV 3)] ⟨rfl, zo, zo⟩ ?_
    have hx7 : ((((-1) : Int) ≤ (cC wz az bz)) ∧ ((cC wz az bz) ≤ 1)) := f5 wz az bz
    refine kS [.no, .call [0, 1, 2] (iV (cC wz az bz)) [(0, some (42, (a8 wk wr w o wz))), (1, some (42, (a7 ak ar a n az))), (2, some (42, (aZ bk br b m bz)))] 3 [] none, .no] _ [(10, iV (cC wz az bz)), (16, oV 3 0 4 1), (17, iV 4), (18, iV 3)] (u8s wk wr wz ak ar az bk br bz w a b o n m zo zo zo zo zo zo zo zo zo zo zo zo) ?_
    by_cases hx8 : ((cC wz az bz) ≠ 0)
    ·refine kS [.no, .b true] (((cC wz az bz) ≠ 0)) [(10, iV (cC wz az bz)), (16, oV 3 0 4 1), (17, iV 4), (18, iV 3), (25, bV true)] zo ?_
     refine zt ?_
     refine kI [.no, .no] True [(6, iV (cC wz az bz))] [] 4 trivial ?_
     refine AW.ret ?_
     exact EndP.of (.inr rfl) [] (P := (((mN wk wr wz ak ar az bk br bz w a b) : Int) = (cC wz az bz))) zk (by unfold mN yC; (repeat' split) <;> first | omega | contradiction | rfl)
    ·refine kS [.no, .b false] (¬ ((cC wz az bz) ≠ 0)) [(10, iV (cC wz az bz)), (16, oV 3 0 4 1), (17, iV 4), (18, iV 3), (25, bV false)] zo ?_
     refine u9 ?_
     refine yK [.w, .no] (yF (4 : Int)) [(16, oV 3 0 4 1), (17, iV 4), (18, iV 4)] ⟨by omega, by omega⟩ ?_
     refine AWr.s ?_
     refine kI [.b false] (¬ ((4 : Int) < 4)) [(16, oV 3 0 4 1), (17, iV 4), (18, iV 4), (19, bV false)] [(0, some (42, (a8 wk wr w o wz))), (1, some (42, (a7 ak ar a n az))), (2, some (42, (aZ bk br b m bz))), (3, some (140, fY))] 4 zo ?_
     refine AW.seq ?_
     refine zf ?_
     refine AW.exit ?_
     refine kI [.no] True [(6, iV 0)] [] 4 trivial ?_
     refine AW.ret ?_
     exact EndP.of (.inr rfl) [] (P := (((mN wk wr wz ak ar az bk br bz w a b) : Int) = 0)) zk (by unfold mN yC; (repeat' split) <;> first | omega | contradiction | rfl)
end Go.Proofs.YtbicifcgghmhaaaGreat
