/- Choices compared. No statement is proved here. -/
import Derived.Test.YtbicifcgghmhaaaGreatZL06
namespace Go.Proofs.YtbicifcgghmhaaaGreat
open Go.ChangeShapes Go.WideShapes Go.ChangeAt Go.RowKit
open List renaming drop → ka3, drop_eq_getElem_cons → kd4, drop_eq_nil_of_le → kf7, getD → ka1, getD_eq_getElem?_getD → ka6, getElem?_eq_getElem → ka7, length → ka0
open Nat renaming le_of_ble_eq_true → ka4
set_option linter.unusedVariables false
set_option linter.unusedSimpArgs false
/-! chapter 10: how choices are compared -/
set_option maxHeartbeats 4000000
set_option maxRecDepth 100000
structure Cmp {α : Type} (f : α → α → Int) : Prop where
 anti : ∀ a b, f a b = - f b a
 tr : ∀ a b c, f a b ≤ 0 → f b c ≤ 0 → f a c ≤ 0
theorem Cmp.zero {α : Type} {f : α → α → Int} (h : Cmp f) (a : α) : f a a = 0 := by
 have := h.anti a a; omega
def yD (a b : Int) : Int := if a = 0 then b else a
theorem v09 {a b : Int} (h : ¬ a = 0) : yD a b = a := if_neg h
theorem v08 {a b : Int} (h : a = 0) : yD a b = b := if_pos h
theorem Cmp.lex {α : Type} {f g : α → α → Int} (hf : Cmp f) (hg : Cmp g) : Cmp (fun a b => yD (f a b) (g a b)) := by
 constructor
 ·intro a b
  have h1 := hf.anti a b; have h2 := hg.anti a b
  show yD _ _ = - yD _ _
  unfold yD
  by_cases h : f a b = 0
  ·rw [if_pos h, if_pos (by omega)]; exact h2
  ·rw [if_neg h, if_neg (by omega)]; exact h1
 ·intro a b c h1 h2
  have a1 := hf.anti a b; have a2 := hf.anti b c; have a3 := hf.anti a c
  have f1 : f a b ≤ 0 := by unfold yD at h1; split at h1 <;> omega
  have f2 : f b c ≤ 0 := by unfold yD at h2; split at h2 <;> omega
  have f3 := hf.tr a b c f1 f2
  show yD _ _ ≤ 0
  unfold yD
  by_cases h : f a c = 0
  ·have x1 := hf.tr c a b (by omega) f1
   have x2 := hf.tr b c a f2 (by omega)
   have y1 := hf.anti c b
   have y2 := hf.anti b a
   have z1 : f a b = 0 := by omega
   have z2 : f b c = 0 := by omega
   rw [if_pos h]
   simp only [yD, if_pos z1] at h1
   simp only [yD, if_pos z2] at h2
   exact hg.tr a b c h1 h2
  ·rw [if_neg h]; omega
def yC (a b : Int) : Int := if a < b then -1 else if a = b then 0 else 1
theorem fL (a b : Int) : -1 ≤ yC a b ∧ yC a b ≤ 1 := by
 unfold yC; (repeat' split) <;> omega
theorem jJ {a b : Int} : yC a b ≤ 0 ↔ a ≤ b := by
 unfold yC; (repeat' split) <;> omega
theorem mZ (a b : Int) : yC a b = - yC b a := by
 unfold yC; (repeat' split) <;> omega
theorem tB {α : Type} (k : α → Int) : Cmp (fun a b => yC (k a) (k b)) :=
 ⟨fun a b => mZ _ _, fun a b c h1 h2 => by
  have h1 := jJ.1 h1; have h2 := jJ.1 h2
  exact jJ.2 (by omega)⟩
theorem xV {α : Type} (k : α → Int) : Cmp (fun a b => yC (k b) (k a)) :=
 ⟨fun a b => mZ _ _, fun a b c h1 h2 => by
  have h1 := jJ.1 h1; have h2 := jJ.1 h2
  exact jJ.2 (by omega)⟩
def bL (p q : Bool) : Int := if p = q then 0 else if p = true then -1 else 1
theorem dS (p q : Bool) : -1 ≤ bL p q ∧ bL p q ≤ 1 := by
 cases p <;> cases q <;> decide
theorem Cmp.first {α : Type} (p : α → Bool) : Cmp (fun a b => bL (p a) (p b)) :=
 ⟨fun a b => by cases p a <;> cases p b <;> decide, fun a b c => by cases p a <;> cases p b <;> cases p c <;> decide⟩
def c7 : List Int → List Int → Int
 | [], [] => 0
 | [], _ :: _ => -1
 | _ :: _, [] => 1
 | a :: r, b :: s => yD (yC a b) (c7 r s)
theorem rR : ∀ (a b : List Int), -1 ≤ c7 a b ∧ c7 a b ≤ 1
 | [], [] => by decide
 | [], _ :: _ => by simp [c7]
 | _ :: _, [] => by simp [c7]
 | a :: r, b :: s => by
  have h1 := fL a b; have h2 := rR r s
  show -1 ≤ yD _ _ ∧ yD _ _ ≤ 1
  unfold yD; split <;> omega
theorem wL : ∀ (a b : List Int), c7 a b = - c7 b a
 | [], [] => by decide
 | [], _ :: _ => by simp [c7]
 | _ :: _, [] => by simp [c7]
 | a :: r, b :: s => by
  have h1 := mZ a b; have h2 := wL r s
  show yD _ _ = - yD _ _
  unfold yD; (repeat' split) <;> omega
theorem k6m : ∀ (a b c : List Int), c7 a b ≤ 0 → c7 b c ≤ 0 → c7 a c ≤ 0
 | [], [], c => fun _ h => h
 | [], _ :: _, [] => fun _ _ => by decide
 | [], _ :: _, _ :: _ => fun _ _ => by simp [c7]
 | _ :: _, [], _ => fun h => by simp [c7] at h
 | _ :: _, _ :: _, [] => fun _ h => by simp [c7] at h
 | a :: r, b :: s, c :: t => by
  intro h1 h2
  have ih := k6m r s t
  have h1 : yD (yC a b) (c7 r s) ≤ 0 := h1
  have h2 : yD (yC b c) (c7 s t) ≤ 0 := h2
  show yD (yC a c) (c7 r t) ≤ 0
  unfold yD at h1 h2 ⊢
  unfold yC at h1 h2 ⊢
  (repeat' split at h1) <;> (repeat' split at h2) <;> (repeat' split) <;> first | omega | (exact ih (by assumption) (by assumption))
theorem u12 {a b : List Int} {k : Nat} {x : Int} (h : x = c7 (ka3 k a) (ka3 k b)) (h1 : k < a.length) (h2 : k < b.length) (h3 : yC (ka1 a k 0) (ka1 b k 0) = 0) : x = c7 (ka3 (k + 1) a) (ka3 (k + 1) b) := by
 have e1 : ka1 a k 0 = a[k] := by rw [ka6, ka7 h1]; rfl
 have e2 : ka1 b k 0 = b[k] := by rw [ka6, ka7 h2]; rfl
 rw [h, kd4 h1, kd4 h2]
 show yD (yC a[k] b[k]) _ = _
 rw [e1, e2] at h3
 exact v08 h3
theorem v0s {a b : List Int} {k : Nat} {x : Int} (h : x = c7 (ka3 k a) (ka3 k b)) (h1 : k < a.length) (h2 : k < b.length) (h3 : ¬ yC (ka1 a k 0) (ka1 b k 0) = 0) : x = yC (ka1 a k 0) (ka1 b k 0) := by
 have e1 : ka1 a k 0 = a[k] := by rw [ka6, ka7 h1]; rfl
 have e2 : ka1 b k 0 = b[k] := by rw [ka6, ka7 h2]; rfl
 rw [h, kd4 h1, kd4 h2]
 show yD (yC a[k] b[k]) _ = _
 rw [e1, e2] at h3 ⊢
 exact v09 h3
theorem v0u {a b : List Int} {k : Nat} {x : Int} (h : x = c7 (ka3 k a) (ka3 k b)) (h1 : k < a.length) (h2 : b.length ≤ k) : x = 1 := by
 rw [h, kd4 h1, kf7 h2]; rfl
theorem v0t {a b : List Int} {k : Nat} {x : Int} (h : x = c7 (ka3 k a) (ka3 k b)) (h1 : a.length ≤ k) (h2 : k < b.length) : x = -1 := by
 rw [h, kd4 h2, kf7 h1]; rfl
theorem v0v {a b : List Int} {k : Nat} {x : Int} (h : x = c7 (ka3 k a) (ka3 k b)) (h1 : a.length ≤ k) (h2 : b.length ≤ k) : x = 0 := by
 rw [h, kf7 h2, kf7 h1]; rfl
theorem u0c {α : Type} (k : α → List Int) : Cmp (fun a b => c7 (k a) (k b)) :=
 ⟨fun _ _ => wL _ _, fun _ _ _ => k6m _ _ _⟩
def gK (a b : Int) : Int := if a > b then a - b else b - a
theorem u53 (a b : Int) : 0 ≤ gK a b := by unfold gK; split <;> omega
def cH (w a b : Int) : Int := yD (yC (gK w a) (gK w b)) (yC a b)
def cJ (w a b : Int) : Int := yD (bL (decide (a = w)) (decide (b = w))) (yC b a)
def lM (w m : List Int) : Int := ((xC w m (ka0 m)).length : Int)
def cI (w a b : List Int) : Int := yD (bL (aI a w) (aI b w)) (yD (yC (lM w b) (lM w a)) (yD (yC (a.length : Int) (b.length : Int)) (c7 a b)))
theorem cQ {a b : Int} (h1 : -1 ≤ a ∧ a ≤ 1) (h2 : -1 ≤ b ∧ b ≤ 1) : -1 ≤ yD a b ∧ yD a b ≤ 1 := by
 unfold yD; split <;> assumption
theorem fD (w a b : Int) : -1 ≤ cH w a b ∧ cH w a b ≤ 1 := cQ (fL _ _) (fL _ _)
theorem g7 (w a b : Int) : -1 ≤ cJ w a b ∧ cJ w a b ≤ 1 := cQ (dS _ _) (fL _ _)
theorem fF (w a b : List Int) : -1 ≤ cI w a b ∧ cI w a b ≤ 1 := cQ (dS _ _) (cQ (fL _ _) (cQ (fL _ _) (rR _ _)))
theorem k0u {a b : Int} (ha : -9223372036854775808 ≤ a ∧ a ≤ 9223372036854775807) (hb : -9223372036854775808 ≤ b ∧ b ≤ 9223372036854775807) (h : b ≤ a) : IntKind.u64.wrap (IntKind.u64.wrap a - IntKind.u64.wrap b) = a - b := by
 show ((a % 18446744073709551616) - (b % 18446744073709551616)) % 18446744073709551616 = a - b
 omega
theorem v5p {a b : Int} (ha : -9223372036854775808 ≤ a ∧ a ≤ 9223372036854775807) (hb : -9223372036854775808 ≤ b ∧ b ≤ 9223372036854775807) : gK a b = IntKind.u64.wrap (IntKind.u64.wrap (max a b) - IntKind.u64.wrap (min a b)) := by
 unfold gK
 by_cases h : a > b
 ·rw [if_pos h, Int.max_eq_left (by omega), Int.min_eq_right (by omega), k0u ha hb (by omega)]
 ·rw [if_neg h, Int.max_eq_right (by omega), Int.min_eq_left (by omega), k0u hb ha (by omega)]
theorem k1k (w : Int) : Cmp (cH w) := (tB (fun a => gK w a)).lex (tB id)
theorem g8 (w : Int) : Cmp (cJ w) := (Cmp.first (fun a => decide (a = w))).lex (xV id)
theorem gY (w : List Int) : Cmp (cI w) :=
 (Cmp.first (fun a => aI a w)).lex ((xV (lM w)).lex ((tB (fun a : List Int => (a.length : Int))).lex (u0c id)))
structure Co where
 k : Int
 r : Int
 m : List Int
 s : Int
def coV (w a b : Co) : Int := yD (cJ w.k a.k b.k) (yD (cH w.r a.r b.r) (yD (cI w.m a.m b.m) (cH w.s a.s b.s)))
theorem u2b (w a b : Co) : -1 ≤ coV w a b ∧ coV w a b ≤ 1 := cQ (g7 _ _ _) (cQ (fD _ _ _) (cQ (fF _ _ _) (fD _ _ _)))
theorem Cmp.via {α β : Type} {f : α → α → Int} (h : Cmp f) (k : β → α) : Cmp (fun a b => f (k a) (k b)) :=
 ⟨fun _ _ => h.anti _ _, fun _ _ _ => h.tr _ _ _⟩
theorem sK (w : Co) : Cmp (coV w) :=
 ((g8 w.k).via Co.k).lex (((k1k w.r).via Co.r).lex (((gY w.m).via Co.m).lex ((k1k w.s).via Co.s)))
def o3 (wk wr wz ak ar az bk br bz : Int) (w a b : List Int) : Int := yD (cJ wk ak bk) (yD (cH wr ar br) (yD (cI w a b) (cH wz az bz)))
theorem k26 (wk wr wz ak ar az bk br bz : Int) (w a b : List Int) : -1 ≤ o3 wk wr wz ak ar az bk br bz w a b ∧ o3 wk wr wz ak ar az bk br bz w a b ≤ 1 := u2b ⟨wk, wr, w, wz⟩ ⟨ak, ar, a, az⟩ ⟨bk, br, b, bz⟩
theorem o9 (a : Int)  : Fun 164 [iE a] (kF []) 0 (bV false) (kF []) 0 := by
 refine Fun.mk (n := 6) Tryz.func164 rfl rfl (ka4 rfl) ?_
 intro cx hcx
 refine kH [.no] True [(0, iV a)] [] 0 trivial ?_
 refine kQ [.no, .no, .b false, .no] (¬ (a ≠ a)) [(2, bV false)] zo ?_
 refine AW.ret ?_
 exact kA (.inr rfl) [] (P := (false = false)) zk rfl
theorem iQ {p : Prop} (h : p := by (unfold yC; (repeat' split) <;> omega)) : p := h
theorem aH (a b : Int)  : Fun 146 [iE a, iE b] (kF []) 0 (iV (yC a b)) (kF []) 0 := by
 refine Fun.mk (n := 20) Tryz.func146 rfl rfl (ka4 rfl) ?_
 intro cx hcx
 refine kH [.no] True [(0, iV a), (1, iV b)] [] 0 trivial ?_
 refine kQ [.no, .call [] (bV false) [] 0 [] none, .no] _ [(0, iV a), (1, iV b), (5, bV false)] (o9 a) ?_
 refine kQ [.no, .call [] (bV false) [] 0 [] none, .no] _ [(0, iV a), (1, iV b), (5, bV false), (6, bV false)] (o9 b) ?_
 refine AW.seq ?_
 refine kQ [.no] True [(0, iV a), (1, iV b), (6, bV false), (11, bV false)] trivial ?_
 refine uP ?_
 refine AW.seq ?_
 refine kQ [.no] True [(0, iV a), (1, iV b), (13, bV false)] trivial ?_
 refine uP ?_
 refine AW.seq ?_
 by_cases hx1 : (a < b)
 ·refine kQ [.no, .no, .b true] ((a < b)) [(0, iV a), (1, iV b), (16, bV true)] zo ?_
  refine zt ?_
  refine kQ [.no] True [(4, iV (-1))] trivial ?_
  refine AW.ret ?_
  exact kA (.inr rfl) [] (P := (((yC a b) : Int) = (-1))) zk iQ
 ·refine kQ [.no, .no, .b false] (¬ (a < b)) [(0, iV a), (1, iV b), (16, bV false)] zo ?_
  refine uP ?_
  refine AW.seq ?_
  by_cases hx2 : (b < a)
  ·refine kQ [.no, .no, .b true] ((b < a)) [(19, bV true)] zo ?_
   refine zt ?_
   refine kQ [.no] True [(4, iV 1)] trivial ?_
   refine AW.ret ?_
   exact kA (.inr rfl) [] (P := (((yC a b) : Int) = 1)) zk iQ
  ·refine kQ [.no, .no, .b false] (¬ (b < a)) [(19, bV false)] zo ?_
   refine uP ?_
   refine kQ [.no] True [(4, iV 0)] trivial ?_
   refine AW.ret ?_
   exact kA (.inr rfl) [] (P := (((yC a b) : Int) = 0)) zk iQ
theorem o8 (a : Int)  : Fun 166 [.c (.d (D.lit (.int .u64 a)))] (kF []) 0 (bV false) (kF []) 0 := by
 refine Fun.mk (n := 6) Tryz.func166 rfl rfl (ka4 rfl) ?_
 intro cx hcx
 refine kH [.no] True [(0, uJ (D.lit (.int .u64 a)))] [] 0 trivial ?_
 refine kQ [.no, .no, .b false, .no] (¬ (a ≠ a)) [(2, bV false)] zo ?_
 refine AW.ret ?_
 exact kA (.inr rfl) [] (P := (false = false)) zk rfl
theorem k41 (a b : Int)  : Fun 152 [.c (.d (D.lit (.int .u64 a))), .c (.d (D.lit (.int .u64 b)))] (kF []) 0 (iV (yC a b)) (kF []) 0 := by
 refine Fun.mk (n := 20) Tryz.func152 rfl rfl (ka4 rfl) ?_
 intro cx hcx
 refine kH [.no] True [(0, uJ (D.lit (.int .u64 a))), (1, uJ (D.lit (.int .u64 b)))] [] 0 trivial ?_
 refine kQ [.no, .call [] (bV false) [] 0 [] none, .no] _ [(0, uJ (D.lit (.int .u64 a))), (1, uJ (D.lit (.int .u64 b))), (5, bV false)] (o8 a) ?_
 refine kQ [.no, .call [] (bV false) [] 0 [] none, .no] _ [(0, uJ (D.lit (.int .u64 a))), (1, uJ (D.lit (.int .u64 b))), (5, bV false), (6, bV false)] (o8 b) ?_
 refine AW.seq ?_
 refine kQ [.no] True [(0, uJ (D.lit (.int .u64 a))), (1, uJ (D.lit (.int .u64 b))), (6, bV false), (11, bV false)] trivial ?_
 refine uP ?_
 refine AW.seq ?_
 refine kQ [.no] True [(0, uJ (D.lit (.int .u64 a))), (1, uJ (D.lit (.int .u64 b))), (13, bV false)] trivial ?_
 refine uP ?_
 refine AW.seq ?_
 by_cases hx1 : (a < b)
 ·refine kQ [.no, .no, .b true] ((a < b)) [(0, uJ (D.lit (.int .u64 a))), (1, uJ (D.lit (.int .u64 b))), (16, bV true)] zo ?_
  refine zt ?_
  refine kQ [.no] True [(4, iV (-1))] trivial ?_
  refine AW.ret ?_
  exact kA (.inr rfl) [] (P := (((yC a b) : Int) = (-1))) zk iQ
 ·refine kQ [.no, .no, .b false] (¬ (a < b)) [(0, uJ (D.lit (.int .u64 a))), (1, uJ (D.lit (.int .u64 b))), (16, bV false)] zo ?_
  refine uP ?_
  refine AW.seq ?_
  by_cases hx2 : (b < a)
  ·refine kQ [.no, .no, .b true] ((b < a)) [(19, bV true)] zo ?_
   refine zt ?_
   refine kQ [.no] True [(4, iV 1)] trivial ?_
   refine AW.ret ?_
   exact kA (.inr rfl) [] (P := (((yC a b) : Int) = 1)) zk iQ
  ·refine kQ [.no, .no, .b false] (¬ (b < a)) [(19, bV false)] zo ?_
   refine uP ?_
   refine kQ [.no] True [(4, iV 0)] trivial ?_
   refine AW.ret ?_
   exact kA (.inr rfl) [] (P := (((yC a b) : Int) = 0)) zk iQ
theorem k3x   : Fun 145 [.c (.d (D.lit (.bool true))), .c (.d (D.lit (.bool true)))] (kF []) 0 (iV 0) (kF []) 0 := by
 refine Fun.mk (n := 11) Tryz.func145 rfl rfl (ka4 rfl) ?_
 intro cx hcx
 refine kH [.no] True [(0, bV true), (1, bV true)] [] 0 trivial ?_
 refine AW.seq ?_
 refine AW.block ?_
 refine kQ (qD 4 []) True [(0, bV true), (5, bV true)] trivial ?_
 refine zt ?_
 refine kQ [.no] True [(4, iV 0)] trivial ?_
 refine AW.ret ?_
 exact kA (.inr rfl) [] (P := (kM 0)) zk rfl
theorem k3y   : Fun 145 [.c (.d (D.lit (.bool true))), .c (.d (D.lit (.bool false)))] (kF []) 0 (iV (-1)) (kF []) 0 := by
 refine Fun.mk (n := 11) Tryz.func145 rfl rfl (ka4 rfl) ?_
 intro cx hcx
 refine kH [.no] True [(0, bV true), (1, bV false)] [] 0 trivial ?_
 refine AW.seq ?_
 refine AW.block ?_
 refine kQ (qD 4 []) True [(0, bV true), (5, bV false)] trivial ?_
 refine zf ?_
 refine kQ [.no, .no] True [(9, bV true)] trivial ?_
 refine zt ?_
 refine kQ [.no] True [(4, iV (-1))] trivial ?_
 refine AW.ret ?_
 exact kA (.inr rfl) [] (P := (kM (-1))) zk rfl
theorem k3z   : Fun 145 [.c (.d (D.lit (.bool false))), .c (.d (D.lit (.bool true)))] (kF []) 0 (iV 1) (kF []) 0 := by
 refine Fun.mk (n := 11) Tryz.func145 rfl rfl (ka4 rfl) ?_
 intro cx hcx
 refine kH [.no] True [(0, bV false), (1, bV true)] [] 0 trivial ?_
 refine AW.seq ?_
 refine AW.block ?_
 refine kQ (qD 4 []) True [(0, bV false), (5, bV false)] trivial ?_
 refine zf ?_
 refine kQ [.no, .no] True [(9, bV false)] trivial ?_
 refine uP ?_
 refine kQ [.no] True [(4, iV 1)] trivial ?_
 refine AW.ret ?_
 exact kA (.inr rfl) [] (P := (kM 1)) zk rfl
theorem k40   : Fun 145 [.c (.d (D.lit (.bool false))), .c (.d (D.lit (.bool false)))] (kF []) 0 (iV 0) (kF []) 0 := by
 refine Fun.mk (n := 11) Tryz.func145 rfl rfl (ka4 rfl) ?_
 intro cx hcx
 refine kH [.no] True [(0, bV false), (1, bV false)] [] 0 trivial ?_
 refine AW.seq ?_
 refine AW.block ?_
 refine kQ (qD 4 []) True [(0, bV false), (5, bV true)] trivial ?_
 refine zt ?_
 refine kQ [.no] True [(4, iV 0)] trivial ?_
 refine AW.ret ?_
 exact kA (.inr rfl) [] (P := (kM 0)) zk rfl
theorem iH (p q : Bool) : Fun 145 [.c (.d (D.lit (.bool (p)))), .c (.d (D.lit (.bool (q))))] (kF []) 0 (iV (bL p q)) (kF []) 0 := by
 cases p <;> cases q
 ·exact k40
 ·exact k3z
 ·exact k3y
 ·exact k3x
theorem k9u (a b : Int) (ha : -9223372036854775808 ≤ a ∧ a ≤ 9223372036854775807) (hb : -9223372036854775808 ≤ b ∧ b ≤ 9223372036854775807) : Fun 153 [iE a, iE b] (kF []) 0 (uJ (D.lit (.int .u64 (gK a b)))) (kF []) 0 := by
 refine Fun.mk (n := 14) Tryz.func153 rfl rfl (ka4 rfl) ?_
 intro cx hcx
 refine kH [.no] True [(0, iV a), (1, iV b)] [] 0 trivial ?_
 refine kQ (qD 10 []) True [(4, uJ (D.lit (.int .u64 (IntKind.u64.wrap ((IntKind.u64.wrap (max a b)) - (IntKind.u64.wrap (min a b)))))))] trivial ?_
 refine AW.ret ?_
 exact kA (.inr rfl) [] (P := (((gK a b) : Int) = (IntKind.u64.wrap ((IntKind.u64.wrap (max a b)) - (IntKind.u64.wrap (min a b)))))) zk (by exact v5p ha hb)
theorem eH {p : Prop} (h : p := by unfold yD; (repeat' split) <;> omega) : p := h
theorem xN (x y : Int)  : Fun 144 [.c (.own 0 0 2 1 true)] (kF [(0, some (3, .ds [iD x, iD y]))]) 1 (iV (yD x y)) (kF [(0, some (3, .ds [iD x, iD y]))]) 1 := by
 refine Fun.mk (n := 18) Tryz.func144 rfl rfl (ka4 rfl) ?_
 intro cx hcx
 refine kH [.no] True [(0, oV 0 0 2 1)] [(0, some (3, .ds [iD x, iD y]))] 1 trivial ?_
 refine kQ [.no] True [(0, oV 0 0 2 1), (3, iV 0)] trivial ?_
 refine AW.seq ?_
 refine kQ [.no, .no, .no] True [(3, iV 0), (6, oV 0 0 2 1), (7, iV 2), (8, iV 0)] trivial ?_
 refine AW.block ?_
 refine AW.rounds 3 ?_
 refine AWr.s ?_
 refine kH [.b true] (((0 : Int) < 2)) [(3, iV 0), (6, oV 0 0 2 1), (7, iV 2), (8, iV 0), (9, bV true)] [(0, some (3, .ds [iD x, iD y]))] 1 zo ?_
 refine AW.seq ?_
 refine vI ?_
 refine AW.seq ?_
 refine AW.block ?_
 refine kQ [.n2 0 0, .no, .no] ((kM 0) ∧ ((0 : Nat) < 2) ∧ ((0 : Nat) + 0 * 1 = 0)) [(3, iV 0), (5, iV x), (6, oV 0 0 2 1), (7, iV 2), (8, iV 0)] ⟨rfl, zo, zo⟩ ?_
 by_cases hx1 : (x ≠ 0)
 ·refine kQ [.no, .no, .b true] ((x ≠ 0)) [(3, iV 0), (5, iV x), (6, oV 0 0 2 1), (7, iV 2), (8, iV 0), (14, bV true)] zo ?_
  refine zt ?_
  refine kQ [.no, .no] True [(2, iV x)] trivial ?_
  refine AW.ret ?_
  exact kA (.inr rfl) [] (P := (((yD x y) : Int) = x) ∧ (kJ [iD x, iD y])) zk ⟨eH, rfl⟩
 ·refine kQ [.no, .no, .b false] (¬ (x ≠ 0)) [(3, iV 0), (5, iV x), (6, oV 0 0 2 1), (7, iV 2), (8, iV 0), (14, bV false)] zo ?_
  refine uP ?_
  refine u2 [.w, .no] (uZ (1 : Int)) [(3, iV 0), (6, oV 0 0 2 1), (7, iV 2), (8, iV 1)] ⟨by omega, by omega⟩ ?_
  refine AWr.s ?_
  refine kH [.b true] (((1 : Int) < 2)) [(3, iV 0), (6, oV 0 0 2 1), (7, iV 2), (8, iV 1), (9, bV true)] [(0, some (3, .ds [iD x, iD y]))] 1 zo ?_
  refine AW.seq ?_
  refine vI ?_
  refine AW.seq ?_
  refine AW.block ?_
  refine kQ [.n2 1 1, .no, .no] ((kM 1) ∧ ((1 : Nat) < 2) ∧ ((0 : Nat) + 1 * 1 = 1)) [(3, iV 0), (5, iV y), (6, oV 0 0 2 1), (7, iV 2), (8, iV 1)] ⟨rfl, zo, zo⟩ ?_
  by_cases hx2 : (y ≠ 0)
  ·refine kQ [.no, .no, .b true] ((y ≠ 0)) [(3, iV 0), (5, iV y), (6, oV 0 0 2 1), (7, iV 2), (8, iV 1), (14, bV true)] zo ?_
   refine zt ?_
   refine kQ [.no, .no] True [(2, iV y)] trivial ?_
   refine AW.ret ?_
   exact kA (.inr rfl) [] (P := (((yD x y) : Int) = y) ∧ (kJ [iD x, iD y])) zk ⟨eH, rfl⟩
  ·refine kQ [.no, .no, .b false] (¬ (y ≠ 0)) [(3, iV 0), (5, iV y), (6, oV 0 0 2 1), (7, iV 2), (8, iV 1), (14, bV false)] zo ?_
   refine uP ?_
   refine u2 [.w, .no] (uZ (2 : Int)) [(3, iV 0), (6, oV 0 0 2 1), (7, iV 2), (8, iV 2)] ⟨by omega, by omega⟩ ?_
   refine AWr.s ?_
   refine kH [.b false] (¬ ((2 : Int) < 2)) [(3, iV 0), (6, oV 0 0 2 1), (7, iV 2), (8, iV 2), (9, bV false)] [(0, some (3, .ds [iD x, iD y]))] 1 zo ?_
   refine AW.seq ?_
   refine zf ?_
   refine AW.exit ?_
   refine kH [.no, .no] True [(2, iV 0)] [(0, some (3, .ds [iD x, iD y]))] 1 trivial ?_
   refine AW.ret ?_
   exact kA (.inr rfl) [] (P := (((yD x y) : Int) = 0) ∧ (kJ [iD x, iD y])) zk ⟨eH, rfl⟩
theorem v2h (x y z u : Int)  : Fun 144 [.c (.own 0 0 4 1 true)] (kF [(0, some (3, .ds [iD x, iD y, iD z, iD u]))]) 1 (iV (yD x (yD y (yD z u)))) (kF [(0, some (3, .ds [iD x, iD y, iD z, iD u]))]) 1 := by
 refine Fun.mk (n := 18) Tryz.func144 rfl rfl (ka4 rfl) ?_
 intro cx hcx
 refine kH [.no] True [(0, oV 0 0 4 1)] [(0, some (3, .ds [iD x, iD y, iD z, iD u]))] 1 trivial ?_
 refine kQ [.no] True [(0, oV 0 0 4 1), (3, iV 0)] trivial ?_
 refine AW.seq ?_
 refine kQ [.no, .no, .no] True [(3, iV 0), (6, oV 0 0 4 1), (7, iV 4), (8, iV 0)] trivial ?_
 refine AW.block ?_
 refine AW.rounds 5 ?_
 refine AWr.s ?_
 refine kH [.b true] (((0 : Int) < 4)) [(3, iV 0), (6, oV 0 0 4 1), (7, iV 4), (8, iV 0), (9, bV true)] [(0, some (3, .ds [iD x, iD y, iD z, iD u]))] 1 zo ?_
 refine AW.seq ?_
 refine vI ?_
 refine AW.seq ?_
 refine AW.block ?_
 refine kQ [.n2 0 0, .no, .no] ((kM 0) ∧ ((0 : Nat) < 4) ∧ ((0 : Nat) + 0 * 1 = 0)) [(3, iV 0), (5, iV x), (6, oV 0 0 4 1), (7, iV 4), (8, iV 0)] ⟨rfl, zo, zo⟩ ?_
 by_cases hx1 : (x ≠ 0)
 ·refine kQ [.no, .no, .b true] ((x ≠ 0)) [(3, iV 0), (5, iV x), (6, oV 0 0 4 1), (7, iV 4), (8, iV 0), (14, bV true)] zo ?_
  refine zt ?_
  refine kQ [.no, .no] True [(2, iV x)] trivial ?_
  refine AW.ret ?_
  exact kA (.inr rfl) [] (P := (((yD x (yD y (yD z u))) : Int) = x) ∧ (kJ [iD x, iD y, iD z, iD u])) zk ⟨eH, rfl⟩
 ·refine kQ [.no, .no, .b false] (¬ (x ≠ 0)) [(3, iV 0), (5, iV x), (6, oV 0 0 4 1), (7, iV 4), (8, iV 0), (14, bV false)] zo ?_
  refine uP ?_
  refine u2 [.w, .no] (uZ (1 : Int)) [(3, iV 0), (6, oV 0 0 4 1), (7, iV 4), (8, iV 1)] ⟨by omega, by omega⟩ ?_
  refine AWr.s ?_
  refine kH [.b true] (((1 : Int) < 4)) [(3, iV 0), (6, oV 0 0 4 1), (7, iV 4), (8, iV 1), (9, bV true)] [(0, some (3, .ds [iD x, iD y, iD z, iD u]))] 1 zo ?_
  refine AW.seq ?_
  refine vI ?_
  refine AW.seq ?_
  refine AW.block ?_
  refine kQ [.n2 1 1, .no, .no] ((kM 1) ∧ ((1 : Nat) < 4) ∧ ((0 : Nat) + 1 * 1 = 1)) [(3, iV 0), (5, iV y), (6, oV 0 0 4 1), (7, iV 4), (8, iV 1)] ⟨rfl, zo, zo⟩ ?_
  by_cases hx2 : (y ≠ 0)
  ·refine kQ [.no, .no, .b true] ((y ≠ 0)) [(3, iV 0), (5, iV y), (6, oV 0 0 4 1), (7, iV 4), (8, iV 1), (14, bV true)] zo ?_
   refine zt ?_
   refine kQ [.no, .no] True [(2, iV y)] trivial ?_
   refine AW.ret ?_
   exact kA (.inr rfl) [] (P := (((yD x (yD y (yD z u))) : Int) = y) ∧ (kJ [iD x, iD y, iD z, iD u])) zk ⟨eH, rfl⟩
  ·refine kQ [.no, .no, .b false] (¬ (y ≠ 0)) [(3, iV 0), (5, iV y), (6, oV 0 0 4 1), (7, iV 4), (8, iV 1), (14, bV false)] zo ?_
   refine uP ?_
   refine u2 [.w, .no] (uZ (2 : Int)) [(3, iV 0), (6, oV 0 0 4 1), (7, iV 4), (8, iV 2)] ⟨by omega, by omega⟩ ?_
   refine AWr.s ?_
   refine kH [.b true] (((2 : Int) < 4)) [(3, iV 0), (6, oV 0 0 4 1), (7, iV 4), (8, iV 2), (9, bV true)] [(0, some (3, .ds [iD x, iD y, iD z, iD u]))] 1 zo ?_
   refine AW.seq ?_
   refine vI ?_
   refine AW.seq ?_
   refine AW.block ?_
   refine kQ [.n2 2 2, .no, .no] ((kM 2) ∧ ((2 : Nat) < 4) ∧ ((0 : Nat) + 2 * 1 = 2)) [(3, iV 0), (5, iV z), (6, oV 0 0 4 1), (7, iV 4), (8, iV 2)] ⟨rfl, zo, zo⟩ ?_
   by_cases hx3 : (z ≠ 0)
   ·refine kQ [.no, .no, .b true] ((z ≠ 0)) [(3, iV 0), (5, iV z), (6, oV 0 0 4 1), (7, iV 4), (8, iV 2), (14, bV true)] zo ?_
    refine zt ?_
    refine kQ [.no, .no] True [(2, iV z)] trivial ?_
    refine AW.ret ?_
    exact kA (.inr rfl) [] (P := (((yD x (yD y (yD z u))) : Int) = z) ∧ (kJ [iD x, iD y, iD z, iD u])) zk ⟨eH, rfl⟩
   ·refine kQ [.no, .no, .b false] (¬ (z ≠ 0)) [(3, iV 0), (5, iV z), (6, oV 0 0 4 1), (7, iV 4), (8, iV 2), (14, bV false)] zo ?_
    refine uP ?_
    refine u2 [.w, .no] (uZ (3 : Int)) [(3, iV 0), (6, oV 0 0 4 1), (7, iV 4), (8, iV 3)] ⟨by omega, by omega⟩ ?_
    refine AWr.s ?_
    refine kH [.b true] (((3 : Int) < 4)) [(3, iV 0), (6, oV 0 0 4 1), (7, iV 4), (8, iV 3), (9, bV true)] [(0, some (3, .ds [iD x, iD y, iD z, iD u]))] 1 zo ?_
    refine AW.seq ?_
    refine vI ?_
    refine AW.seq ?_
    refine AW.block ?_
    refine kQ [.n2 3 3, .no, .no] ((kM 3) ∧ ((3 : Nat) < 4) ∧ ((0 : Nat) + 3 * 1 = 3)) [(3, iV 0), (5, iV u), (6, oV 0 0 4 1), (7, iV 4), (8, iV 3)] ⟨rfl, zo, zo⟩ ?_
    by_cases hx4 : (u ≠ 0)
    ·refine kQ [.no, .no, .b true] ((u ≠ 0)) [(3, iV 0), (5, iV u), (6, oV 0 0 4 1), (7, iV 4), (8, iV 3), (14, bV true)] zo ?_
     refine zt ?_
     refine kQ [.no, .no] True [(2, iV u)] trivial ?_
     refine AW.ret ?_
     exact kA (.inr rfl) [] (P := (((yD x (yD y (yD z u))) : Int) = u) ∧ (kJ [iD x, iD y, iD z, iD u])) zk ⟨eH, rfl⟩
    ·refine kQ [.no, .no, .b false] (¬ (u ≠ 0)) [(3, iV 0), (5, iV u), (6, oV 0 0 4 1), (7, iV 4), (8, iV 3), (14, bV false)] zo ?_
     refine uP ?_
     refine u2 [.w, .no] (uZ (4 : Int)) [(3, iV 0), (6, oV 0 0 4 1), (7, iV 4), (8, iV 4)] ⟨by omega, by omega⟩ ?_
     refine AWr.s ?_
     refine kH [.b false] (¬ ((4 : Int) < 4)) [(3, iV 0), (6, oV 0 0 4 1), (7, iV 4), (8, iV 4), (9, bV false)] [(0, some (3, .ds [iD x, iD y, iD z, iD u]))] 1 zo ?_
     refine AW.seq ?_
     refine zf ?_
     refine AW.exit ?_
     refine kH [.no, .no] True [(2, iV 0)] [(0, some (3, .ds [iD x, iD y, iD z, iD u]))] 1 trivial ?_
     refine AW.ret ?_
     exact kA (.inr rfl) [] (P := (((yD x (yD y (yD z u))) : Int) = 0) ∧ (kJ [iD x, iD y, iD z, iD u])) zk ⟨eH, rfl⟩
theorem k9s (w a b : Int) (hw : -9223372036854775808 ≤ w ∧ w ≤ 9223372036854775807) (ha : -9223372036854775808 ≤ a ∧ a ≤ 9223372036854775807) (hb : -9223372036854775808 ≤ b ∧ b ≤ 9223372036854775807) : Fun 120 [iE w, iE a, iE b] (kF []) 0 (iV (cH w a b)) (kF []) 0 := by
 refine Fun.mk (n := 19) Tryz.func120 rfl rfl (ka4 rfl) ?_
 intro cx hcx
 refine kH [.no] True [(0, iV w), (1, iV a), (2, iV b)] [] 0 trivial ?_
 have hx1 : ((0 : Int) ≤ (gK w a)) := u53 w a
 have hx2 : ((0 : Int) ≤ (gK w b)) := u53 w b
 refine kH [.no, .no, .call [] (uJ (D.lit (.int .u64 (gK w a)))) [] 0 [] none, .no, .no, .call [] (uJ (D.lit (.int .u64 (gK w b)))) [] 0 [] none, .call [] (iV (yC (gK w a) (gK w b))) [] 0 [] none, .no, .no, .call [] (iV (yC a b)) [] 0 [] none, .no, .call [0] (iV (yD (yC (gK w a) (gK w b)) (yC a b))) [(0, some (3, .ds [iD (yC (gK w a) (gK w b)), iD (yC a b)]))] 1 [] none, .no] ((_) ∧ (_) ∧ (_) ∧ (_) ∧ (_)) [(6, iV (yD (yC (gK w a) (gK w b)) (yC a b)))] [] 1 ⟨(k9u w a zo zo), (k9u w b zo zo), (k41 (gK w a) (gK w b)), (aH a b), (xN (yC (gK w a) (gK w b)) (yC a b))⟩ ?_
 refine AW.ret ?_
 exact kA (.inr rfl) [] (P := (((cH w a b) : Int) = (yD (yC (gK w a) (gK w b)) (yC a b)))) zk (by rfl)
theorem s0 (w a b : Int)  : Fun 113 [iE w, iE a, iE b] (kF []) 0 (iV (cJ w a b)) (kF []) 0 := by
 refine Fun.mk (n := 19) Tryz.func113 rfl rfl (ka4 rfl) ?_
 intro cx hcx
 refine kH [.no] True [(0, iV w), (1, iV a), (2, iV b)] [] 0 trivial ?_
 by_cases hx1 : (a = w)
 ·by_cases hx2 : (b = w)
  ·have hx3 : ((((-1) : Int) ≤ (bL true true)) ∧ ((bL true true) ≤ 1)) := dS true true
   refine kH [.no, .no, .b true, .no, .no, .b true, .call [] (iV (bL true true)) [] 0 [] none, .no, .no, .call [] (iV (yC b a)) [] 0 [] none, .no, .call [0] (iV (yD (bL true true) (yC b a))) [(0, some (3, .ds [iD (bL true true), iD (yC b a)]))] 1 [] none, .no] (((a = w)) ∧ ((b = w)) ∧ (_) ∧ (_) ∧ (_)) [(6, iV (yD (bL true true) (yC b a)))] [] 1 ⟨zo, zo, (iH true true), (aH b a), (xN (bL true true) (yC b a))⟩ ?_
   refine AW.ret ?_
   exact kA (.inr rfl) [] (P := (((cJ w a b) : Int) = (yD (bL true true) (yC b a)))) zk (by (unfold cJ; (unfold yD bL yC; (repeat' split) <;> simp_all <;> omega)))
  ·have hx4 : ((((-1) : Int) ≤ (bL true false)) ∧ ((bL true false) ≤ 1)) := dS true false
   refine kH [.no, .no, .b true, .no, .no, .b false, .call [] (iV (bL true false)) [] 0 [] none, .no, .no, .call [] (iV (yC b a)) [] 0 [] none, .no, .call [0] (iV (yD (bL true false) (yC b a))) [(0, some (3, .ds [iD (bL true false), iD (yC b a)]))] 1 [] none, .no] (((a = w)) ∧ (¬ (b = w)) ∧ (_) ∧ (_) ∧ (_)) [(6, iV (yD (bL true false) (yC b a)))] [] 1 ⟨zo, zo, (iH true false), (aH b a), (xN (bL true false) (yC b a))⟩ ?_
   refine AW.ret ?_
   exact kA (.inr rfl) [] (P := (((cJ w a b) : Int) = (yD (bL true false) (yC b a)))) zk (by (unfold cJ; (unfold yD bL yC; (repeat' split) <;> simp_all <;> omega)))
 ·by_cases hx5 : (b = w)
  ·have hx6 : ((((-1) : Int) ≤ (bL false true)) ∧ ((bL false true) ≤ 1)) := dS false true
   refine kH [.no, .no, .b false, .no, .no, .b true, .call [] (iV (bL false true)) [] 0 [] none, .no, .no, .call [] (iV (yC b a)) [] 0 [] none, .no, .call [0] (iV (yD (bL false true) (yC b a))) [(0, some (3, .ds [iD (bL false true), iD (yC b a)]))] 1 [] none, .no] ((¬ (a = w)) ∧ ((b = w)) ∧ (_) ∧ (_) ∧ (_)) [(6, iV (yD (bL false true) (yC b a)))] [] 1 ⟨zo, zo, (iH false true), (aH b a), (xN (bL false true) (yC b a))⟩ ?_
   refine AW.ret ?_
   exact kA (.inr rfl) [] (P := (((cJ w a b) : Int) = (yD (bL false true) (yC b a)))) zk (by (unfold cJ; (unfold yD bL yC; (repeat' split) <;> simp_all <;> omega)))
  ·have hx7 : ((((-1) : Int) ≤ (bL false false)) ∧ ((bL false false) ≤ 1)) := dS false false
   refine kH [.no, .no, .b false, .no, .no, .b false, .call [] (iV (bL false false)) [] 0 [] none, .no, .no, .call [] (iV (yC b a)) [] 0 [] none, .no, .call [0] (iV (yD (bL false false) (yC b a))) [(0, some (3, .ds [iD (bL false false), iD (yC b a)]))] 1 [] none, .no] ((¬ (a = w)) ∧ (¬ (b = w)) ∧ (_) ∧ (_) ∧ (_)) [(6, iV (yD (bL false false) (yC b a)))] [] 1 ⟨zo, zo, (iH false false), (aH b a), (xN (bL false false) (yC b a))⟩ ?_
   refine AW.ret ?_
   exact kA (.inr rfl) [] (P := (((cJ w a b) : Int) = (yD (bL false false) (yC b a)))) zk (by (unfold cJ; (unfold yD bL yC; (repeat' split) <;> simp_all <;> omega)))
theorem u83 (a b : List Int) (n m : Nat) (hn : ka0 a = n) (hm : ka0 b = m) (h2 : n ≤ 1000000) (h3 : m ≤ 1000000) : Fun 151 [.c (.d (D.sl (dI .i64 a) n)), .c (.d (D.sl (dI .i64 b) m))] (kF []) 0 (iV (c7 a b)) (kF []) 0 := by
 refine Fun.mk (n := 36) Tryz.func151 rfl rfl (ka4 rfl) ?_
 intro cx hcx
 refine kH [.no] True [(0, sV .i64 a n), (1, sV .i64 b m)] [] 0 trivial ?_
 refine AW.seq ?_
 refine kQ [.no, .no, .no] True [(0, sV .i64 a n), (1, sV .i64 b m), (9, sV .i64 a n), (10, uV n), (11, iV 0)] trivial ?_
 refine AW.block ?_
 refine kX 0 hcx (fun (x : {x : Nat // match x with | k => (k ≤ n ∧ k ≤ m) ∧ (c7 a b = c7 (ka3 k a) (ka3 k b))}) => match x with | ⟨k, _⟩ => (⟨[(0, sV .i64 a n), (1, sV .i64 b m), (9, sV .i64 a n), (10, uV n), (11, uV k)], [], 0⟩ : ES)) (fun x => match x with | ⟨k, _⟩ => n - k) ⟨(0 : Nat), ⟨zo, rfl⟩⟩ [] (P := (kJ (dI .i64 a)) ∧ (kG n) ∧ (kJ (dI .i64 b)) ∧ (kG m) ∧ (kJ (dI .i64 a)) ∧ (kG n) ∧ (kM (n : Int)) ∧ (kM 0)) zk ⟨rfl, rfl, rfl, rfl, rfl, rfl, rfl, rfl⟩ ?_
 rintro ⟨k, hinv0⟩
 obtain ⟨hk, hx⟩ : (k ≤ n ∧ k ≤ m) ∧ (c7 a b = c7 (ka3 k a) (ka3 k b)) := hinv0
 refine qU (l := [(0, sV .i64 a n), (1, sV .i64 b m), (9, sV .i64 a n), (10, uV n), (11, uV k)]) (g := []) (nx := 0) rfl rfl rfl ?_
 by_cases hx1 : (((k : Nat) : Int) < ((n : Nat) : Int))
 ·refine kH [.b true] (((k : Int) < (n : Int))) [(0, sV .i64 a n), (1, sV .i64 b m), (9, sV .i64 a n), (10, uV n), (11, uV k), (12, bV true)] [] 0 zo ?_
  refine AW.seq ?_
  refine vI ?_
  refine AW.seq ?_
  refine AW.block ?_
  refine kQ [.no, .n k, .d (D.lit (.int .i64 (ka1 a k 0))), .no, .no] ((kM (k : Int)) ∧ (k < n) ∧ ((ka3 k (dI .i64 a))[0]? = some (D.lit (.int .i64 (ka1 a k 0))))) [(0, sV .i64 a n), (1, sV .i64 b m), (5, uV k), (6, iV (ka1 a k 0)), (9, sV .i64 a n), (10, uV n), (11, uV k)] ⟨rfl, zo, (yG _ _ _ zo)⟩ ?_
  refine AW.seq ?_
  by_cases hx2 : (((m : Nat) : Int) ≤ ((k : Nat) : Int))
  ·refine kQ [.no, .no, .no, .b true] (((m : Int) ≤ (k : Int))) [(0, sV .i64 a n), (1, sV .i64 b m), (5, uV k), (6, iV (ka1 a k 0)), (9, sV .i64 a n), (10, uV n), (11, uV k), (19, bV true)] zo ?_
   refine zt ?_
   refine kQ [.no] True [(4, iV 1)] trivial ?_
   refine AW.ret ?_
   exact kA (.inr rfl) [] (P := (((c7 a b) : Int) = 1)) zk (by exact (v0u hx zo zo))
  ·refine kQ [.no, .no, .no, .b false] (¬ ((m : Int) ≤ (k : Int))) [(0, sV .i64 a n), (1, sV .i64 b m), (5, uV k), (6, iV (ka1 a k 0)), (9, sV .i64 a n), (10, uV n), (11, uV k), (19, bV false)] zo ?_
   refine uP ?_
   refine kQ [.no, .no, .n k, .d (D.lit (.int .i64 (ka1 b k 0))), .no] ((kM (k : Int)) ∧ (k < m) ∧ ((ka3 k (dI .i64 b))[0]? = some (D.lit (.int .i64 (ka1 b k 0))))) [(0, sV .i64 a n), (1, sV .i64 b m), (6, iV (ka1 a k 0)), (7, iV (ka1 b k 0)), (9, sV .i64 a n), (10, uV n), (11, uV k)] ⟨rfl, zo, (yG _ _ _ zo)⟩ ?_
   refine kQ [.no, .no, .call [] (iV (yC (ka1 a k 0) (ka1 b k 0))) [] 0 [] none, .no] _ [(0, sV .i64 a n), (1, sV .i64 b m), (8, iV (yC (ka1 a k 0) (ka1 b k 0))), (9, sV .i64 a n), (10, uV n), (11, uV k)] (aH (ka1 a k 0) (ka1 b k 0)) ?_
   by_cases hx3 : ((yC (ka1 a k 0) (ka1 b k 0)) ≠ 0)
   ·refine kQ [.no, .b true] (((yC (ka1 a k 0) (ka1 b k 0)) ≠ 0)) [(0, sV .i64 a n), (1, sV .i64 b m), (8, iV (yC (ka1 a k 0) (ka1 b k 0))), (9, sV .i64 a n), (10, uV n), (11, uV k), (28, bV true)] zo ?_
    refine zt ?_
    refine kQ [.no, .no] True [(4, iV (yC (ka1 a k 0) (ka1 b k 0)))] trivial ?_
    refine AW.ret ?_
    exact kA (.inr rfl) [] (P := (((c7 a b) : Int) = (yC (ka1 a k 0) (ka1 b k 0)))) zk (by exact (v0s hx zo zo zo))
   ·refine kQ [.no, .b false] (¬ ((yC (ka1 a k 0) (ka1 b k 0)) ≠ 0)) [(0, sV .i64 a n), (1, sV .i64 b m), (8, iV (yC (ka1 a k 0) (ka1 b k 0))), (9, sV .i64 a n), (10, uV n), (11, uV k), (28, bV false)] zo ?_
    refine uP ?_
    refine u2 [.w, .no] (uZ ((k : Int) + 1)) [(0, sV .i64 a n), (1, sV .i64 b m), (9, sV .i64 a n), (10, uV n), (11, iV (↑k + 1))] ⟨by omega, by omega⟩ ?_
    exact kV ⟨((k + 1) : Nat), ⟨zo, (u12 hx zo zo zo)⟩⟩ [] (P := (kJ (dI .i64 a)) ∧ (kG n) ∧ (kJ (dI .i64 b)) ∧ (kG m) ∧ (kJ (dI .i64 a)) ∧ (kG n) ∧ (kM (n : Int)) ∧ (bU k)) zk ⟨rfl, rfl, rfl, rfl, rfl, rfl, rfl, (by rfl)⟩ (show n - (k + 1) < n - k from zo)
 ·refine kH [.b false] (¬ ((k : Int) < (n : Int))) [(0, sV .i64 a n), (1, sV .i64 b m), (9, sV .i64 a n), (10, uV n), (11, uV k), (12, bV false)] [] 0 zo ?_
  refine AW.seq ?_
  refine zf ?_
  refine AW.exit ?_
  refine AW.seq ?_
  by_cases hx4 : (((n : Nat) : Int) < ((m : Nat) : Int))
  ·refine kH (qD 4 [.b true]) (((n : Int) < (m : Int))) [(35, bV true)] [] 0 zo ?_
   refine zt ?_
   refine kQ [.no] True [(4, iV (-1))] trivial ?_
   refine AW.ret ?_
   exact kA (.inr rfl) [] (P := (((c7 a b) : Int) = (-1))) zk (by exact (v0t hx zo zo))
  ·refine kH (qD 4 [.b false]) (¬ ((n : Int) < (m : Int))) [(35, bV false)] [] 0 zo ?_
   refine uP ?_
   refine kQ [.no] True [(4, iV 0)] trivial ?_
   refine AW.ret ?_
   exact kA (.inr rfl) [] (P := (((c7 a b) : Int) = 0)) zk (by exact (v0v hx zo zo))
theorem xM (w a : List Int) (o n : Nat) (ho : ka0 w = o) (hn : ka0 a = n) (h1 : o ≤ 1000000) (h2 : n ≤ 1000000) : Fun 149 [.c (.d (D.sl (dI .i64 a) n)), .c (.ptr 0 0)] (kF [(0, some (38, .ds [D.sl (dI .i64 w) o]))]) 1 (iV (lM w a)) (kF [(0, some (38, .ds [D.sl (dI .i64 w) o]))]) 1 := by
 refine Fun.mk (n := 8) Tryz.func149 rfl rfl (ka4 rfl) ?_
 intro cx hcx
 refine kH [.no] True [(0, sV .i64 a n), (1, rV 0 0)] [(0, some (38, .ds [dl w o]))] 1 trivial ?_
 have hx1 : ((ka0 (xC w a n)) ≤ o) := (by have h9 := k25 w a n; omega)
 refine kQ [.no, .no, .call [] (sV .i64 (xC w a n) (ka0 (xC w a n))) [] 0 [] none, .no, .no] _ [(3, uV (ka0 (xC w a n)))] (k9x w a o n zo zo zo zo) ?_
 refine AW.ret ?_
 exact kA (.inr rfl) [] (P := (((lM w a) : Int) = (ka0 (xC w a n) : Int)) ∧ (kJ [dl w o])) zk ⟨(by (unfold lM; rw [hn])), rfl⟩
theorem k9t (w a b : List Int) (o n m : Nat) (ho : ka0 w = o) (hn : ka0 a = n) (hm : ka0 b = m) (h1 : o ≤ 1000000) (h2 : n ≤ 1000000) (h3 : m ≤ 1000000) : Fun 117 [.c (.d (D.sl (dI .i64 w) o)), .c (.d (D.sl (dI .i64 a) n)), .c (.d (D.sl (dI .i64 b) m))] (kF []) 0 (iV (cI w a b)) (kF []) 0 := by
 refine Fun.mk (n := 33) Tryz.func117 rfl rfl (ka4 rfl) ?_
 intro cx hcx
 refine kH [.no, .no] True [(1, sV .i64 a n), (2, sV .i64 b m), (3, rV 0 0)] [(0, some (38, .ds [dl w o]))] 1 trivial ?_
 refine kQ [.no, .no] True [(1, sV .i64 a n), (2, sV .i64 b m), (3, rV 0 0), (7, .e (.c (.fn 149 [(0, 0)])))] trivial ?_
 have hx1 : ((((-1) : Int) ≤ (bL (aI a w) (aI b w))) ∧ ((bL (aI a w) (aI b w)) ≤ 1)) := dS (aI a w) (aI b w)
 have hx2 : ((0 : Int) ≤ (lM w b)) := Int.natCast_nonneg _
 have hx3 : ((0 : Int) ≤ (lM w a)) := Int.natCast_nonneg _
 have hx4 : ((((-1) : Int) ≤ (c7 a b)) ∧ ((c7 a b) ≤ 1)) := rR a b
 refine kH [.no, .no, .call [] (uJ (D.lit (.bool (aI a w)))) [] 0 [] none, .no, .no, .call [] (uJ (D.lit (.bool (aI b w)))) [] 0 [] none, .call [] (iV (bL (aI a w) (aI b w))) [] 0 [] none, .no, .no, .call [0] (iV (lM w b)) [(0, some (38, .ds [dl w o]))] 1 [] none, .no, .no, .call [0] (iV (lM w a)) [(0, some (38, .ds [dl w o]))] 1 [] none, .call [] (iV (yC (lM w b) (lM w a))) [] 0 [] none, .no, .no, .no, .no, .call [] (iV (yC (n : Int) (m : Int))) [] 0 [] none, .no, .no, .call [] (iV (c7 a b)) [] 0 [] none, .no, .call [1] (iV (yD (bL (aI a w) (aI b w)) (yD (yC (lM w b) (lM w a)) (yD (yC (n : Int) (m : Int)) (c7 a b))))) [(0, some (3, .ds [iD (bL (aI a w) (aI b w)), iD (yC (lM w b) (lM w a)), iD (yC (n : Int) (m : Int)), iD (c7 a b)]))] 1 [] none, .no] ((_) ∧ (_) ∧ (_) ∧ (_) ∧ (_) ∧ (_) ∧ (_) ∧ (_) ∧ (_)) [(6, iV (yD (bL (aI a w) (aI b w)) (yD (yC (lM w b) (lM w a)) (yD (yC ↑n ↑m) (c7 a b)))))] [] 2 ⟨(s6 a w n o zo zo zo zo), (s6 b w m o zo zo zo zo), (iH (aI a w) (aI b w)), (xM w b o m zo zo zo zo), (xM w a o n zo zo zo zo), (aH (lM w b) (lM w a)), (aH (n : Int) (m : Int)), (u83 a b n m zo zo zo zo), (v2h (bL (aI a w) (aI b w)) (yC (lM w b) (lM w a)) (yC (n : Int) (m : Int)) (c7 a b))⟩ ?_
 refine AW.ret ?_
 exact kA (.inr rfl) [] (P := (((cI w a b) : Int) = (yD (bL (aI a w) (aI b w)) (yD (yC (lM w b) (lM w a)) (yD (yC (n : Int) (m : Int)) (c7 a b)))))) zk (by (unfold cI; rw [hn, hm]))
theorem u87 (wk wr wz ak ar az bk br bz : Int) (w a b : List Int) (o n m : Nat) (ho : ka0 w = o) (hn : ka0 a = n) (hm : ka0 b = m) (h1 : o ≤ 1000000) (h2 : n ≤ 1000000) (h3 : m ≤ 1000000) (hwr : -9223372036854775808 ≤ wr ∧ wr ≤ 9223372036854775807) (har : -9223372036854775808 ≤ ar ∧ ar ≤ 9223372036854775807) (hbr : -9223372036854775808 ≤ br ∧ br ≤ 9223372036854775807) (hwz : -9223372036854775808 ≤ wz ∧ wz ≤ 9223372036854775807) (haz : -9223372036854775808 ≤ az ∧ az ≤ 9223372036854775807) (hbz : -9223372036854775808 ≤ bz ∧ bz ≤ 9223372036854775807) : Fun 118 [.c (.ptr 0 0), .c (.ptr 1 0), .c (.ptr 2 0)] (kF [(0, some (42, .ds [iD wk, iD wr, D.sl (dI .i64 w) o, iD wz])), (1, some (42, .ds [iD ak, iD ar, D.sl (dI .i64 a) n, iD az])), (2, some (42, .ds [iD bk, iD br, D.sl (dI .i64 b) m, iD bz]))]) 3 (iV (cJ wk ak bk)) (kF [(0, some (42, .ds [iD wk, iD wr, D.sl (dI .i64 w) o, iD wz])), (1, some (42, .ds [iD ak, iD ar, D.sl (dI .i64 a) n, iD az])), (2, some (42, .ds [iD bk, iD br, D.sl (dI .i64 b) m, iD bz]))]) 3 := by
 refine Fun.mk (n := 14) Tryz.func118 rfl rfl (ka4 rfl) ?_
 intro cx hcx
 refine kH [.no] True [(0, rV 0 0), (1, rV 1 0), (2, rV 2 0)] [(0, some (42, .ds [iD wk, iD wr, dl w o, iD wz])), (1, some (42, .ds [iD ak, iD ar, dl a n, iD az])), (2, some (42, .ds [iD bk, iD br, dl b m, iD bz]))] 3 trivial ?_
 have hx1 : ((((-1) : Int) ≤ (cJ wk ak bk)) ∧ ((cJ wk ak bk) ≤ 1)) := g7 wk ak bk
 refine kQ (qD 9 [.call [] (iV (cJ wk ak bk)) [] 0 [] none, .no]) _ [(3, iV (cJ wk ak bk))] (s0 wk ak bk) ?_
 refine AW.ret ?_
 exact kA (.inr rfl) [] (P := (kM (cJ wk ak bk)) ∧ (kJ [iD wk, iD wr, dl w o, iD wz]) ∧ (kJ [iD ak, iD ar, dl a n, iD az]) ∧ (kJ [iD bk, iD br, dl b m, iD bz])) zk ⟨rfl, rfl, rfl, rfl⟩
theorem u86 (wk wr wz ak ar az bk br bz : Int) (w a b : List Int) (o n m : Nat) (ho : ka0 w = o) (hn : ka0 a = n) (hm : ka0 b = m) (h1 : o ≤ 1000000) (h2 : n ≤ 1000000) (h3 : m ≤ 1000000) (hwr : -9223372036854775808 ≤ wr ∧ wr ≤ 9223372036854775807) (har : -9223372036854775808 ≤ ar ∧ ar ≤ 9223372036854775807) (hbr : -9223372036854775808 ≤ br ∧ br ≤ 9223372036854775807) (hwz : -9223372036854775808 ≤ wz ∧ wz ≤ 9223372036854775807) (haz : -9223372036854775808 ≤ az ∧ az ≤ 9223372036854775807) (hbz : -9223372036854775808 ≤ bz ∧ bz ≤ 9223372036854775807) : Fun 119 [.c (.ptr 0 0), .c (.ptr 1 0), .c (.ptr 2 0)] (kF [(0, some (42, .ds [iD wk, iD wr, D.sl (dI .i64 w) o, iD wz])), (1, some (42, .ds [iD ak, iD ar, D.sl (dI .i64 a) n, iD az])), (2, some (42, .ds [iD bk, iD br, D.sl (dI .i64 b) m, iD bz]))]) 3 (iV (cH wr ar br)) (kF [(0, some (42, .ds [iD wk, iD wr, D.sl (dI .i64 w) o, iD wz])), (1, some (42, .ds [iD ak, iD ar, D.sl (dI .i64 a) n, iD az])), (2, some (42, .ds [iD bk, iD br, D.sl (dI .i64 b) m, iD bz]))]) 3 := by
 refine Fun.mk (n := 14) Tryz.func119 rfl rfl (ka4 rfl) ?_
 intro cx hcx
 refine kH [.no] True [(0, rV 0 0), (1, rV 1 0), (2, rV 2 0)] [(0, some (42, .ds [iD wk, iD wr, dl w o, iD wz])), (1, some (42, .ds [iD ak, iD ar, dl a n, iD az])), (2, some (42, .ds [iD bk, iD br, dl b m, iD bz]))] 3 trivial ?_
 have hx1 : ((((-1) : Int) ≤ (cH wr ar br)) ∧ ((cH wr ar br) ≤ 1)) := fD wr ar br
 refine kQ (qD 9 [.call [] (iV (cH wr ar br)) [] 0 [] none, .no]) _ [(3, iV (cH wr ar br))] (k9s wr ar br zo zo zo) ?_
 refine AW.ret ?_
 exact kA (.inr rfl) [] (P := (kM (cH wr ar br)) ∧ (kJ [iD wk, iD wr, dl w o, iD wz]) ∧ (kJ [iD ak, iD ar, dl a n, iD az]) ∧ (kJ [iD bk, iD br, dl b m, iD bz])) zk ⟨rfl, rfl, rfl, rfl⟩
theorem u85 (wk wr wz ak ar az bk br bz : Int) (w a b : List Int) (o n m : Nat) (ho : ka0 w = o) (hn : ka0 a = n) (hm : ka0 b = m) (h1 : o ≤ 1000000) (h2 : n ≤ 1000000) (h3 : m ≤ 1000000) (hwr : -9223372036854775808 ≤ wr ∧ wr ≤ 9223372036854775807) (har : -9223372036854775808 ≤ ar ∧ ar ≤ 9223372036854775807) (hbr : -9223372036854775808 ≤ br ∧ br ≤ 9223372036854775807) (hwz : -9223372036854775808 ≤ wz ∧ wz ≤ 9223372036854775807) (haz : -9223372036854775808 ≤ az ∧ az ≤ 9223372036854775807) (hbz : -9223372036854775808 ≤ bz ∧ bz ≤ 9223372036854775807) : Fun 121 [.c (.ptr 0 0), .c (.ptr 1 0), .c (.ptr 2 0)] (kF [(0, some (42, .ds [iD wk, iD wr, D.sl (dI .i64 w) o, iD wz])), (1, some (42, .ds [iD ak, iD ar, D.sl (dI .i64 a) n, iD az])), (2, some (42, .ds [iD bk, iD br, D.sl (dI .i64 b) m, iD bz]))]) 3 (iV (cI w a b)) (kF [(0, some (42, .ds [iD wk, iD wr, D.sl (dI .i64 w) o, iD wz])), (1, some (42, .ds [iD ak, iD ar, D.sl (dI .i64 a) n, iD az])), (2, some (42, .ds [iD bk, iD br, D.sl (dI .i64 b) m, iD bz]))]) 3 := by
 refine Fun.mk (n := 14) Tryz.func121 rfl rfl (ka4 rfl) ?_
 intro cx hcx
 refine kH [.no] True [(0, rV 0 0), (1, rV 1 0), (2, rV 2 0)] [(0, some (42, .ds [iD wk, iD wr, dl w o, iD wz])), (1, some (42, .ds [iD ak, iD ar, dl a n, iD az])), (2, some (42, .ds [iD bk, iD br, dl b m, iD bz]))] 3 trivial ?_
 have hx1 : ((((-1) : Int) ≤ (cI w a b)) ∧ ((cI w a b) ≤ 1)) := fF w a b
 refine kQ (qD 9 [.call [] (iV (cI w a b)) [] 0 [] none, .no]) _ [(3, iV (cI w a b))] (k9t w a b o n m zo zo zo zo zo zo) ?_
 refine AW.ret ?_
 exact kA (.inr rfl) [] (P := (kM (cI w a b)) ∧ (kJ [iD wk, iD wr, dl w o, iD wz]) ∧ (kJ [iD ak, iD ar, dl a n, iD az]) ∧ (kJ [iD bk, iD br, dl b m, iD bz])) zk ⟨rfl, rfl, rfl, rfl⟩
theorem u84 (wk wr wz ak ar az bk br bz : Int) (w a b : List Int) (o n m : Nat) (ho : ka0 w = o) (hn : ka0 a = n) (hm : ka0 b = m) (h1 : o ≤ 1000000) (h2 : n ≤ 1000000) (h3 : m ≤ 1000000) (hwr : -9223372036854775808 ≤ wr ∧ wr ≤ 9223372036854775807) (har : -9223372036854775808 ≤ ar ∧ ar ≤ 9223372036854775807) (hbr : -9223372036854775808 ≤ br ∧ br ≤ 9223372036854775807) (hwz : -9223372036854775808 ≤ wz ∧ wz ≤ 9223372036854775807) (haz : -9223372036854775808 ≤ az ∧ az ≤ 9223372036854775807) (hbz : -9223372036854775808 ≤ bz ∧ bz ≤ 9223372036854775807) : Fun 122 [.c (.ptr 0 0), .c (.ptr 1 0), .c (.ptr 2 0)] (kF [(0, some (42, .ds [iD wk, iD wr, D.sl (dI .i64 w) o, iD wz])), (1, some (42, .ds [iD ak, iD ar, D.sl (dI .i64 a) n, iD az])), (2, some (42, .ds [iD bk, iD br, D.sl (dI .i64 b) m, iD bz]))]) 3 (iV (cH wz az bz)) (kF [(0, some (42, .ds [iD wk, iD wr, D.sl (dI .i64 w) o, iD wz])), (1, some (42, .ds [iD ak, iD ar, D.sl (dI .i64 a) n, iD az])), (2, some (42, .ds [iD bk, iD br, D.sl (dI .i64 b) m, iD bz]))]) 3 := by
 refine Fun.mk (n := 11) Tryz.func122 rfl rfl (ka4 rfl) ?_
 intro cx hcx
 refine kH [.no] True [(0, rV 0 0), (1, rV 1 0), (2, rV 2 0)] [(0, some (42, .ds [iD wk, iD wr, dl w o, iD wz])), (1, some (42, .ds [iD ak, iD ar, dl a n, iD az])), (2, some (42, .ds [iD bk, iD br, dl b m, iD bz]))] 3 trivial ?_
 have hx1 : ((((-1) : Int) ≤ (cH wz az bz)) ∧ ((cH wz az bz) ≤ 1)) := fD wz az bz
 refine kQ (qD 6 [.call [] (iV (cH wz az bz)) [] 0 [] none, .no]) _ [(3, iV (cH wz az bz))] (k9s wz az bz zo zo zo) ?_
 refine AW.ret ?_
 exact kA (.inr rfl) [] (P := (kM (cH wz az bz)) ∧ (kJ [iD wk, iD wr, dl w o, iD wz]) ∧ (kJ [iD ak, iD ar, dl a n, iD az]) ∧ (kJ [iD bk, iD br, dl b m, iD bz])) zk ⟨rfl, rfl, rfl, rfl⟩
theorem lX {p : Prop} (h : p := by unfold o3 yD; (repeat' split) <;> omega) : p := h
abbrev fA : BC := .cs [.fn 118 [(0, 0), (1, 0), (2, 0)], .fn 119 [(0, 0), (1, 0), (2, 0)], .fn 121 [(0, 0), (1, 0), (2, 0)], .fn 122 [(0, 0), (1, 0), (2, 0)]]
abbrev aS (wk : Int) (wr : Int) (w : List Int) (o : Nat) (wz : Int) : BC := .ds [iD wk, iD wr, D.sl (dI .i64 w) o, iD wz]
abbrev aR (ak : Int) (ar : Int) (a : List Int) (n : Nat) (az : Int) : BC := .ds [iD ak, iD ar, D.sl (dI .i64 a) n, iD az]
abbrev aQ (bk : Int) (br : Int) (b : List Int) (m : Nat) (bz : Int) : BC := .ds [iD bk, iD br, D.sl (dI .i64 b) m, iD bz]
theorem pA (wk wr wz ak ar az bk br bz : Int) (w a b : List Int) (o n m : Nat) (ho : ka0 w = o) (hn : ka0 a = n) (hm : ka0 b = m) (h1 : o ≤ 1000000) (h2 : n ≤ 1000000) (h3 : m ≤ 1000000) (hwr : -9223372036854775808 ≤ wr ∧ wr ≤ 9223372036854775807) (har : -9223372036854775808 ≤ ar ∧ ar ≤ 9223372036854775807) (hbr : -9223372036854775808 ≤ br ∧ br ≤ 9223372036854775807) (hwz : -9223372036854775808 ≤ wz ∧ wz ≤ 9223372036854775807) (haz : -9223372036854775808 ≤ az ∧ az ≤ 9223372036854775807) (hbz : -9223372036854775808 ≤ bz ∧ bz ≤ 9223372036854775807) : Fun 79 [.agg [iC wk, iC wr, .d (D.sl (dI .i64 w) o), iC wz], .agg [iC ak, iC ar, .d (D.sl (dI .i64 a) n), iC az], .agg [iC bk, iC br, .d (D.sl (dI .i64 b) m), iC bz]] (kF []) 0 (iV (o3 wk wr wz ak ar az bk br bz w a b)) (kF []) 0 := by
 refine Fun.mk (n := 28) Tryz.func79 rfl rfl (ka4 rfl) ?_
 intro cx hcx
 refine kH (qD 4 []) True [(3, rV 0 0), (4, rV 1 0), (5, rV 2 0)] [(0, some (42, (aS wk wr w o wz))), (1, some (42, (aR ak ar a n az))), (2, some (42, (aQ bk br b m bz)))] 3 trivial ?_
 refine kH (qD 6 []) True [(7, oV 3 0 4 1)] [(0, some (42, (aS wk wr w o wz))), (1, some (42, (aR ak ar a n az))), (2, some (42, (aQ bk br b m bz))), (3, some (140, fA))] 4 trivial ?_
 refine AW.seq ?_
 refine kQ [.no, .no, .no] True [(16, oV 3 0 4 1), (17, iV 4), (18, iV 0)] trivial ?_
 refine AW.block ?_
 refine AW.rounds 5 ?_
 refine AWr.s ?_
 refine kH [.b true] (((0 : Int) < 4)) [(16, oV 3 0 4 1), (17, iV 4), (18, iV 0), (19, bV true)] [(0, some (42, (aS wk wr w o wz))), (1, some (42, (aR ak ar a n az))), (2, some (42, (aQ bk br b m bz))), (3, some (140, fA))] 4 zo ?_
 refine AW.seq ?_
 refine vI ?_
 refine AW.seq ?_
 refine AW.block ?_
 refine kQ [.n2 0 0, .no, .no] ((kM 0) ∧ ((0 : Nat) < 4) ∧ ((0 : Nat) + 0 * 1 = 0)) [(9, .e (.c (.fn 118 [(0, 0), (1, 0), (2, 0)]))), (16, oV 3 0 4 1), (17, iV 4), (18, iV 0)] ⟨rfl, zo, zo⟩ ?_
 have hx1 : ((((-1) : Int) ≤ (cJ wk ak bk)) ∧ ((cJ wk ak bk) ≤ 1)) := g7 wk ak bk
 refine kQ [.no, .call [0, 1, 2] (iV (cJ wk ak bk)) [(0, some (42, (aS wk wr w o wz))), (1, some (42, (aR ak ar a n az))), (2, some (42, (aQ bk br b m bz)))] 3 [] none, .no] _ [(10, iV (cJ wk ak bk)), (16, oV 3 0 4 1), (17, iV 4), (18, iV 0)] (u87 wk wr wz ak ar az bk br bz w a b o n m zo zo zo zo zo zo zo zo zo zo zo zo) ?_
 by_cases hx2 : ((cJ wk ak bk) ≠ 0)
 ·refine kQ [.no, .b true] (((cJ wk ak bk) ≠ 0)) [(10, iV (cJ wk ak bk)), (16, oV 3 0 4 1), (17, iV 4), (18, iV 0), (25, bV true)] zo ?_
  refine zt ?_
  refine kH [.no, .no] True [(6, iV (cJ wk ak bk))] [] 4 trivial ?_
  refine AW.ret ?_
  exact kA (.inr rfl) [] (P := (((o3 wk wr wz ak ar az bk br bz w a b) : Int) = (cJ wk ak bk))) zk lX
 ·refine kQ [.no, .b false] (¬ ((cJ wk ak bk) ≠ 0)) [(10, iV (cJ wk ak bk)), (16, oV 3 0 4 1), (17, iV 4), (18, iV 0), (25, bV false)] zo ?_
  refine uP ?_
  refine u2 [.w, .no] (uZ (1 : Int)) [(16, oV 3 0 4 1), (17, iV 4), (18, iV 1)] ⟨by omega, by omega⟩ ?_
  refine AWr.s ?_
  refine kH [.b true] (((1 : Int) < 4)) [(16, oV 3 0 4 1), (17, iV 4), (18, iV 1), (19, bV true)] [(0, some (42, (aS wk wr w o wz))), (1, some (42, (aR ak ar a n az))), (2, some (42, (aQ bk br b m bz))), (3, some (140, fA))] 4 zo ?_
  refine AW.seq ?_
  refine vI ?_
  refine AW.seq ?_
  refine AW.block ?_
  refine kQ [.n2 1 1, .no, .no] ((kM 1) ∧ ((1 : Nat) < 4) ∧ ((0 : Nat) + 1 * 1 = 1)) [(9, .e (.c (.fn 119 [(0, 0), (1, 0), (2, 0)]))), (16, oV 3 0 4 1), (17, iV 4), (18, iV 1)] ⟨rfl, zo, zo⟩ ?_
  have hx3 : ((((-1) : Int) ≤ (cH wr ar br)) ∧ ((cH wr ar br) ≤ 1)) := fD wr ar br
  refine kQ [.no, .call [0, 1, 2] (iV (cH wr ar br)) [(0, some (42, (aS wk wr w o wz))), (1, some (42, (aR ak ar a n az))), (2, some (42, (aQ bk br b m bz)))] 3 [] none, .no] _ [(10, iV (cH wr ar br)), (16, oV 3 0 4 1), (17, iV 4), (18, iV 1)] (u86 wk wr wz ak ar az bk br bz w a b o n m zo zo zo zo zo zo zo zo zo zo zo zo) ?_
  by_cases hx4 : ((cH wr ar br) ≠ 0)
  ·refine kQ [.no, .b true] (((cH wr ar br) ≠ 0)) [(10, iV (cH wr ar br)), (16, oV 3 0 4 1), (17, iV 4), (18, iV 1), (25, bV true)] zo ?_
   refine zt ?_
   refine kH [.no, .no] True [(6, iV (cH wr ar br))] [] 4 trivial ?_
   refine AW.ret ?_
   exact kA (.inr rfl) [] (P := (((o3 wk wr wz ak ar az bk br bz w a b) : Int) = (cH wr ar br))) zk lX
  ·refine kQ [.no, .b false] (¬ ((cH wr ar br) ≠ 0)) [(10, iV (cH wr ar br)), (16, oV 3 0 4 1), (17, iV 4), (18, iV 1), (25, bV false)] zo ?_
   refine uP ?_
   refine u2 [.w, .no] (uZ (2 : Int)) [(16, oV 3 0 4 1), (17, iV 4), (18, iV 2)] ⟨by omega, by omega⟩ ?_
   refine AWr.s ?_
   refine kH [.b true] (((2 : Int) < 4)) [(16, oV 3 0 4 1), (17, iV 4), (18, iV 2), (19, bV true)] [(0, some (42, (aS wk wr w o wz))), (1, some (42, (aR ak ar a n az))), (2, some (42, (aQ bk br b m bz))), (3, some (140, fA))] 4 zo ?_
   refine AW.seq ?_
   refine vI ?_
   refine AW.seq ?_
   refine AW.block ?_
   refine kQ [.n2 2 2, .no, .no] ((kM 2) ∧ ((2 : Nat) < 4) ∧ ((0 : Nat) + 2 * 1 = 2)) [(9, .e (.c (.fn 121 [(0, 0), (1, 0), (2, 0)]))), (16, oV 3 0 4 1), (17, iV 4), (18, iV 2)] ⟨rfl, zo, zo⟩ ?_
   have hx5 : ((((-1) : Int) ≤ (cI w a b)) ∧ ((cI w a b) ≤ 1)) := fF w a b
   refine kQ [.no, .call [0, 1, 2] (iV (cI w a b)) [(0, some (42, (aS wk wr w o wz))), (1, some (42, (aR ak ar a n az))), (2, some (42, (aQ bk br b m bz)))] 3 [] none, .no] _ [(10, iV (cI w a b)), (16, oV 3 0 4 1), (17, iV 4), (18, iV 2)] (u85 wk wr wz ak ar az bk br bz w a b o n m zo zo zo zo zo zo zo zo zo zo zo zo) ?_
   by_cases hx6 : ((cI w a b) ≠ 0)
   ·refine kQ [.no, .b true] (((cI w a b) ≠ 0)) [(10, iV (cI w a b)), (16, oV 3 0 4 1), (17, iV 4), (18, iV 2), (25, bV true)] zo ?_
    refine zt ?_
    refine kH [.no, .no] True [(6, iV (cI w a b))] [] 4 trivial ?_
    refine AW.ret ?_
    exact kA (.inr rfl) [] (P := (((o3 wk wr wz ak ar az bk br bz w a b) : Int) = (cI w a b))) zk lX
   ·refine kQ [.no, .b false] (¬ ((cI w a b) ≠ 0)) [(10, iV (cI w a b)), (16, oV 3 0 4 1), (17, iV 4), (18, iV 2), (25, bV false)] zo ?_
    refine uP ?_
    refine u2 [.w, .no] (uZ (3 : Int)) [(16, oV 3 0 4 1), (17, iV 4), (18, iV 3)] ⟨by omega, by omega⟩ ?_
    refine AWr.s ?_
    refine kH [.b true] (((3 : Int) < 4)) [(16, oV 3 0 4 1), (17, iV 4), (18, iV 3), (19, bV true)] [(0, some (42, (aS wk wr w o wz))), (1, some (42, (aR ak ar a n az))), (2, some (42, (aQ bk br b m bz))), (3, some (140, fA))] 4 zo ?_
    refine AW.seq ?_
    refine vI ?_
    refine AW.seq ?_
    refine AW.block ?_
    refine kQ [.n2 3 3, .no, .no] ((kM 3) ∧ ((3 : Nat) < 4) ∧ ((0 : Nat) + 3 * 1 = 3)) [(9, .e (.c (.fn 122 [(0, 0), (1, 0), (2, 0)]))), (16, oV 3 0 4 1), (17, iV 4), (18, iV 3)] ⟨rfl, zo, zo⟩ ?_
    have hx7 : ((((-1) : Int) ≤ (cH wz az bz)) ∧ ((cH wz az bz) ≤ 1)) := fD wz az bz
    refine kQ [.no, .call [0, 1, 2] (iV (cH wz az bz)) [(0, some (42, (aS wk wr w o wz))), (1, some (42, (aR ak ar a n az))), (2, some (42, (aQ bk br b m bz)))] 3 [] none, .no] _ [(10, iV (cH wz az bz)), (16, oV 3 0 4 1), (17, iV 4), (18, iV 3)] (u84 wk wr wz ak ar az bk br bz w a b o n m zo zo zo zo zo zo zo zo zo zo zo zo) ?_
    by_cases hx8 : ((cH wz az bz) ≠ 0)
    ·refine kQ [.no, .b true] (((cH wz az bz) ≠ 0)) [(10, iV (cH wz az bz)), (16, oV 3 0 4 1), (17, iV 4), (18, iV 3), (25, bV true)] zo ?_
     refine zt ?_
     refine kH [.no, .no] True [(6, iV (cH wz az bz))] [] 4 trivial ?_
     refine AW.ret ?_
     exact kA (.inr rfl) [] (P := (((o3 wk wr wz ak ar az bk br bz w a b) : Int) = (cH wz az bz))) zk lX
    ·refine kQ [.no, .b false] (¬ ((cH wz az bz) ≠ 0)) [(10, iV (cH wz az bz)), (16, oV 3 0 4 1), (17, iV 4), (18, iV 3), (25, bV false)] zo ?_
     refine uP ?_
     refine u2 [.w, .no] (uZ (4 : Int)) [(16, oV 3 0 4 1), (17, iV 4), (18, iV 4)] ⟨by omega, by omega⟩ ?_
     refine AWr.s ?_
     refine kH [.b false] (¬ ((4 : Int) < 4)) [(16, oV 3 0 4 1), (17, iV 4), (18, iV 4), (19, bV false)] [(0, some (42, (aS wk wr w o wz))), (1, some (42, (aR ak ar a n az))), (2, some (42, (aQ bk br b m bz))), (3, some (140, fA))] 4 zo ?_
     refine AW.seq ?_
     refine zf ?_
     refine AW.exit ?_
     refine kH [.no] True [(6, iV 0)] [] 4 trivial ?_
     refine AW.ret ?_
     exact kA (.inr rfl) [] (P := (((o3 wk wr wz ak ar az bk br bz w a b) : Int) = 0)) zk lX
end Go.Proofs.YtbicifcgghmhaaaGreat
