/- Choices compared. No statement is proved here. -/
import Derived.Test.YtbicifcgghmhaaaGreatZL06
namespace Go.Proofs.YtbicifcgghmhaaaGreat
open Go.ChangeShapes Go.WideShapes Go.ChangeAt Go.RowKit
open List renaming drop → ka3, drop_eq_getElem_cons → kd8, drop_eq_nil_of_le → kf7, getD → ka1, getD_eq_getElem?_getD → ka7, getElem?_eq_getElem → ka8, length → ka0, length_append → ka6, length_cons → ka9, length_drop → kb2, length_map → kc4, length_nil → kb1, length_replicate → kb4, length_reverse → kc1, length_set → kb9, length_take → kb0
open Nat renaming le_of_ble_eq_true → ka4
set_option linter.unusedVariables false
set_option linter.unusedSimpArgs false
/-! chapter 10: how choices are compared -/
set_option maxHeartbeats 4000000
set_option maxRecDepth 100000
structure Cmp {α : Type} (f : α → α → Int) : Prop where
 anti : ∀ a b, f a b = - f b a
 tr : ∀ a b c, f a b ≤ 0 → f b c ≤ 0 → f a c ≤ 0
theorem Cmp.zero {α : Type} {f : α → α → Int} (h : Cmp f) (a : α) : f a a = 0 := by
 have := h.anti a a; omega
def yF (a b : Int) : Int := if a = 0 then b else a
theorem u40 {a b : Int} (h : ¬ a = 0) : yF a b = a := if_neg h
theorem u3z {a b : Int} (h : a = 0) : yF a b = b := if_pos h
theorem Cmp.lex {α : Type} {f g : α → α → Int} (hf : Cmp f) (hg : Cmp g) : Cmp (fun a b => yF (f a b) (g a b)) := by
 constructor
 ·intro a b
  have h1 := hf.anti a b; have h2 := hg.anti a b
  show yF _ _ = - yF _ _
  unfold yF
  by_cases h : f a b = 0
  ·rw [if_pos h, if_pos (by omega)]; exact h2
  ·rw [if_neg h, if_neg (by omega)]; exact h1
 ·intro a b c h1 h2
  have a1 := hf.anti a b; have a2 := hf.anti b c; have a3 := hf.anti a c
  have f1 : f a b ≤ 0 := by unfold yF at h1; split at h1 <;> omega
  have f2 : f b c ≤ 0 := by unfold yF at h2; split at h2 <;> omega
  have f3 := hf.tr a b c f1 f2
  show yF _ _ ≤ 0
  unfold yF
  by_cases h : f a c = 0
  ·have x1 := hf.tr c a b (by omega) f1
   have x2 := hf.tr b c a f2 (by omega)
   have y1 := hf.anti c b
   have y2 := hf.anti b a
   have z1 : f a b = 0 := by omega
   have z2 : f b c = 0 := by omega
   rw [if_pos h]
   simp only [yF, if_pos z1] at h1
   simp only [yF, if_pos z2] at h2
   exact hg.tr a b c h1 h2
  ·rw [if_neg h]; omega
def yG (a b : Int) : Int := if a < b then -1 else if a = b then 0 else 1
theorem v1j {a b : Int} : yG a b = 0 ↔ a = b := by
 unfold yG; (repeat' split) <;> omega
theorem gD (a b : Int) : -1 ≤ yG a b ∧ yG a b ≤ 1 := by
 unfold yG; (repeat' split) <;> omega
theorem lM {a b : Int} : yG a b ≤ 0 ↔ a ≤ b := by
 unfold yG; (repeat' split) <;> omega
theorem oD (a b : Int) : yG a b = - yG b a := by
 unfold yG; (repeat' split) <;> omega
theorem u3d {α : Type} (k : α → Int) : Cmp (fun a b => yG (k a) (k b)) :=
 ⟨fun a b => oD _ _, fun a b c h1 h2 => by
  have h1 := lM.1 h1; have h2 := lM.1 h2
  exact lM.2 (by omega)⟩
theorem k00 {α : Type} (k : α → Int) : Cmp (fun a b => yG (k b) (k a)) :=
 ⟨fun a b => oD _ _, fun a b c h1 h2 => by
  have h1 := lM.1 h1; have h2 := lM.1 h2
  exact lM.2 (by omega)⟩
def cB (p q : Bool) : Int := if p = q then 0 else if p = true then -1 else 1
theorem eT (p q : Bool) : -1 ≤ cB p q ∧ cB p q ≤ 1 := by
 cases p <;> cases q <;> decide
theorem Cmp.first {α : Type} (p : α → Bool) : Cmp (fun a b => cB (p a) (p b)) :=
 ⟨fun a b => by cases p a <;> cases p b <;> decide, fun a b c => by cases p a <;> cases p b <;> cases p c <;> decide⟩
def dU : List Int → List Int → Int
 | [], [] => 0
 | [], _ :: _ => -1
 | _ :: _, [] => 1
 | a :: r, b :: s => yF (yG a b) (dU r s)
theorem s6 : ∀ (a b : List Int), -1 ≤ dU a b ∧ dU a b ≤ 1
 | [], [] => by decide
 | [], _ :: _ => by simp [dU]
 | _ :: _, [] => by simp [dU]
 | a :: r, b :: s => by
  have h1 := gD a b; have h2 := s6 r s
  show -1 ≤ yF _ _ ∧ yF _ _ ≤ 1
  unfold yF; split <;> omega
theorem xT : ∀ (a b : List Int), dU a b = - dU b a
 | [], [] => by decide
 | [], _ :: _ => by simp [dU]
 | _ :: _, [] => by simp [dU]
 | a :: r, b :: s => by
  have h1 := oD a b; have h2 := xT r s
  show yF _ _ = - yF _ _
  unfold yF; (repeat' split) <;> omega
theorem k75 : ∀ (a b c : List Int), dU a b ≤ 0 → dU b c ≤ 0 → dU a c ≤ 0
 | [], [], c => fun _ h => h
 | [], _ :: _, [] => fun _ _ => by decide
 | [], _ :: _, _ :: _ => fun _ _ => by simp [dU]
 | _ :: _, [], _ => fun h => by simp [dU] at h
 | _ :: _, _ :: _, [] => fun _ h => by simp [dU] at h
 | a :: r, b :: s, c :: t => by
  intro h1 h2
  have ih := k75 r s t
  have h1 : yF (yG a b) (dU r s) ≤ 0 := h1
  have h2 : yF (yG b c) (dU s t) ≤ 0 := h2
  show yF (yG a c) (dU r t) ≤ 0
  unfold yF at h1 h2 ⊢
  unfold yG at h1 h2 ⊢
  (repeat' split at h1) <;> (repeat' split at h2) <;> (repeat' split) <;> first | omega | (exact ih (by assumption) (by assumption))
theorem u1g {a b : List Int} {k : Nat} {x : Int} (h : x = dU (ka3 k a) (ka3 k b)) (h1 : k < a.length) (h2 : k < b.length) (h3 : yG (ka1 a k 0) (ka1 b k 0) = 0) : x = dU (ka3 (k + 1) a) (ka3 (k + 1) b) := by
 have e1 : ka1 a k 0 = a[k] := by rw [ka7, ka8 h1]; rfl
 have e2 : ka1 b k 0 = b[k] := by rw [ka7, ka8 h2]; rfl
 rw [h, kd8 h1, kd8 h2]
 show yF (yG a[k] b[k]) _ = _
 rw [e1, e2] at h3
 exact u3z h3
theorem k2p {a b : List Int} {k : Nat} {x : Int} (h : x = dU (ka3 k a) (ka3 k b)) (h1 : k < a.length) (h2 : k < b.length) (h3 : ¬ yG (ka1 a k 0) (ka1 b k 0) = 0) : x = yG (ka1 a k 0) (ka1 b k 0) := by
 have e1 : ka1 a k 0 = a[k] := by rw [ka7, ka8 h1]; rfl
 have e2 : ka1 b k 0 = b[k] := by rw [ka7, ka8 h2]; rfl
 rw [h, kd8 h1, kd8 h2]
 show yF (yG a[k] b[k]) _ = _
 rw [e1, e2] at h3 ⊢
 exact u40 h3
theorem k2r {a b : List Int} {k : Nat} {x : Int} (h : x = dU (ka3 k a) (ka3 k b)) (h1 : k < a.length) (h2 : b.length ≤ k) : x = 1 := by
 rw [h, kd8 h1, kf7 h2]; rfl
theorem k2q {a b : List Int} {k : Nat} {x : Int} (h : x = dU (ka3 k a) (ka3 k b)) (h1 : a.length ≤ k) (h2 : k < b.length) : x = -1 := by
 rw [h, kd8 h2, kf7 h1]; rfl
theorem k2s {a b : List Int} {k : Nat} {x : Int} (h : x = dU (ka3 k a) (ka3 k b)) (h1 : a.length ≤ k) (h2 : b.length ≤ k) : x = 0 := by
 rw [h, kf7 h2, kf7 h1]; rfl
theorem u0o {α : Type} (k : α → List Int) : Cmp (fun a b => dU (k a) (k b)) :=
 ⟨fun _ _ => xT _ _, fun _ _ _ => k75 _ _ _⟩
def dX (a b : Int) : Int := if a > b then a - b else b - a
theorem u55 (a b : Int) : 0 ≤ dX a b := by unfold dX; split <;> omega
theorem jH (a b : Int) : dX a b = dX b a := by unfold dX; (repeat' split) <;> omega
def cE (w a b : Int) : Int := yF (yG (dX w a) (dX w b)) (yG a b)
def c9 (w a b : Int) : Int := yF (cB (decide (a = w)) (decide (b = w))) (yG b a)
def mQ (w m : List Int) : Int := ((zE w m (ka0 m)).length : Int)
def c8 (w a b : List Int) : Int := yF (cB (bN a w) (bN b w)) (yF (yG (mQ w b) (mQ w a)) (yF (yG (a.length : Int) (b.length : Int)) (dU a b)))
theorem dD {a b : Int} (h1 : -1 ≤ a ∧ a ≤ 1) (h2 : -1 ≤ b ∧ b ≤ 1) : -1 ≤ yF a b ∧ yF a b ≤ 1 := by
 unfold yF; split <;> assumption
theorem f7 (w a b : Int) : -1 ≤ cE w a b ∧ cE w a b ≤ 1 := dD (gD _ _) (gD _ _)
theorem i6 (w a b : Int) : -1 ≤ c9 w a b ∧ c9 w a b ≤ 1 := dD (eT _ _) (gD _ _)
theorem f8 (w a b : List Int) : -1 ≤ c8 w a b ∧ c8 w a b ≤ 1 := dD (eT _ _) (dD (gD _ _) (dD (gD _ _) (s6 _ _)))
theorem v1h {a b : Int} (h : a < b) : yG a b = -1 := if_pos h
theorem v1i {a b : Int} (h : b < a) : yG a b = 1 := by unfold yG; rw [if_neg (by omega), if_neg (by omega)]
theorem v3n {w a b : Int} (h : ¬ yG (dX a w) (dX b w) = 0) : cE w a b = yG (dX a w) (dX b w) := by
 unfold cE; rw [jH w a, jH w b]; exact u40 h
theorem v3m {w a b x : Int} (h : yG (dX a w) (dX b w) = 0) (hx : yG a b = x) : cE w a b = x := by
 unfold cE; rw [jH w a, jH w b, u3z h]; exact hx
theorem mD {a b : Int} (ha : -9223372036854775808 ≤ a ∧ a ≤ 9223372036854775807) (hb : -9223372036854775808 ≤ b ∧ b ≤ 9223372036854775807) (h : b ≤ a) : IntKind.u64.wrap (IntKind.u64.wrap a - IntKind.u64.wrap b) = a - b := by
 show ((a % 18446744073709551616) - (b % 18446744073709551616)) % 18446744073709551616 = a - b
 omega
theorem v4i {a b : Int} (ha : -9223372036854775808 ≤ a ∧ a ≤ 9223372036854775807) (hb : -9223372036854775808 ≤ b ∧ b ≤ 9223372036854775807) : dX a b = IntKind.u64.wrap (IntKind.u64.wrap (max a b) - IntKind.u64.wrap (min a b)) := by
 unfold dX
 by_cases h : a > b
 ·rw [if_pos h, Int.max_eq_left (by omega), Int.min_eq_right (by omega), mD ha hb (by omega)]
 ·rw [if_neg h, Int.max_eq_right (by omega), Int.min_eq_left (by omega), mD hb ha (by omega)]
theorem v4h {a b : Int} (ha : -9223372036854775808 ≤ a ∧ a ≤ 9223372036854775807) (hb : -9223372036854775808 ≤ b ∧ b ≤ 9223372036854775807) (h : b < a) : dX a b = IntKind.u64.wrap (IntKind.u64.wrap a - IntKind.u64.wrap b) := by
 unfold dX; rw [if_pos h, mD ha hb (by omega)]
theorem v4g {a b : Int} (ha : -9223372036854775808 ≤ a ∧ a ≤ 9223372036854775807) (hb : -9223372036854775808 ≤ b ∧ b ≤ 9223372036854775807) (h : ¬ b < a) : dX a b = IntKind.u64.wrap (IntKind.u64.wrap b - IntKind.u64.wrap a) := by
 unfold dX; rw [if_neg h, mD hb ha (by omega)]
theorem mK (w : Int) : Cmp (c9 w) := (Cmp.first (fun a => decide (a = w))).lex (k00 id)
theorem mI (w : List Int) : Cmp (c8 w) :=
 (Cmp.first (fun a => bN a w)).lex ((k00 (mQ w)).lex ((u3d (fun a : List Int => (a.length : Int))).lex (u0o id)))
structure Co where
 k : Int
 r : Int
 m : List Int
 s : Int
def coV (w a b : Co) : Int := yF (c9 w.k a.k b.k) (yF (cE w.r a.r b.r) (yF (c8 w.m a.m b.m) (cE w.s a.s b.s)))
theorem u2o (w a b : Co) : -1 ≤ coV w a b ∧ coV w a b ≤ 1 := dD (i6 _ _ _) (dD (f7 _ _ _) (dD (f8 _ _ _) (f7 _ _ _)))
def mP (wk wr wz ak ar az bk br bz : Int) (w a b : List Int) : Int := yF (c9 wk ak bk) (yF (cE wr ar br) (yF (c8 w a b) (cE wz az bz)))
theorem k39 (wk wr wz ak ar az bk br bz : Int) (w a b : List Int) : -1 ≤ mP wk wr wz ak ar az bk br bz w a b ∧ mP wk wr wz ak ar az bk br bz w a b ≤ 1 := u2o ⟨wk, wr, w, wz⟩ ⟨ak, ar, a, az⟩ ⟨bk, br, b, bz⟩
theorem rF (a : Int)  : Fun 164 [iE a] (kH []) 0 (bV false) (kH []) 0 := by
 refine Fun.mk (n := 6) Tryz.func164 rfl rfl (ka4 rfl) ?_
 intro cx hcx
 refine kK [.no] True [(0, iV a)] [] 0 trivial ?_
 refine kT [.no, .no, .b false, .no] (¬ (a ≠ a)) [(2, bV false)] zo ?_
 refine AW.ret ?_
 exact kB (.inr rfl) [] (P := (false = false)) zk rfl
theorem jX {p : Prop} (h : p := by first | rfl | (unfold yG; (repeat' split) <;> omega)) : p := h
theorem aU (a b : Int)  : Fun 146 [iE a, iE b] (kH []) 0 (iV (yG a b)) (kH []) 0 := by
 refine Fun.mk (n := 20) Tryz.func146 rfl rfl (ka4 rfl) ?_
 intro cx hcx
 refine kK [.no] True [(0, iV a), (1, iV b)] [] 0 trivial ?_
 refine kT [.no, .call [] (bV false) [] 0 [] none, .no] _ [(0, iV a), (1, iV b), (5, bV false)] (rF a) ?_
 refine kT [.no, .call [] (bV false) [] 0 [] none, .no] _ [(0, iV a), (1, iV b), (5, bV false), (6, bV false)] (rF b) ?_
 refine AW.seq ?_
 refine kT [.no] True [(0, iV a), (1, iV b), (6, bV false), (11, bV false)] trivial ?_
 refine yA ?_
 refine AW.seq ?_
 refine kT [.no] True [(0, iV a), (1, iV b), (13, bV false)] trivial ?_
 refine yA ?_
 refine AW.seq ?_
 by_cases hx1 : (a < b)
 ·refine kT [.no, .no, .b true] ((a < b)) [(0, iV a), (1, iV b), (16, bV true)] zo ?_
  refine zt ?_
  refine kT [.no] True [(4, iV (-1))] trivial ?_
  refine AW.ret ?_
  exact kB (.inr rfl) [] (P := (((yG a b) : Int) = (-1))) zk jX
 ·refine kT [.no, .no, .b false] (¬ (a < b)) [(0, iV a), (1, iV b), (16, bV false)] zo ?_
  refine yA ?_
  refine AW.seq ?_
  by_cases hx2 : (b < a)
  ·refine kT [.no, .no, .b true] ((b < a)) [(19, bV true)] zo ?_
   refine zt ?_
   refine kT [.no] True [(4, iV 1)] trivial ?_
   refine AW.ret ?_
   exact kB (.inr rfl) [] (P := (((yG a b) : Int) = 1)) zk jX
  ·refine kT [.no, .no, .b false] (¬ (b < a)) [(19, bV false)] zo ?_
   refine yA ?_
   refine kT [.no] True [(4, iV 0)] trivial ?_
   refine AW.ret ?_
   exact kB (.inr rfl) [] (P := (((yG a b) : Int) = 0)) zk jX
theorem rE (a : Int)  : Fun 166 [.c (.d (D.lit (.int .u64 a)))] (kH []) 0 (bV false) (kH []) 0 := by
 refine Fun.mk (n := 6) Tryz.func166 rfl rfl (ka4 rfl) ?_
 intro cx hcx
 refine kK [.no] True [(0, yM (D.lit (.int .u64 a)))] [] 0 trivial ?_
 refine kT [.no, .no, .b false, .no] (¬ (a ≠ a)) [(2, bV false)] zo ?_
 refine AW.ret ?_
 exact kB (.inr rfl) [] (P := (false = false)) zk rfl
theorem k4w (a b : Int)  : Fun 152 [.c (.d (D.lit (.int .u64 a))), .c (.d (D.lit (.int .u64 b)))] (kH []) 0 (iV (yG a b)) (kH []) 0 := by
 refine Fun.mk (n := 20) Tryz.func152 rfl rfl (ka4 rfl) ?_
 intro cx hcx
 refine kK [.no] True [(0, yM (D.lit (.int .u64 a))), (1, yM (D.lit (.int .u64 b)))] [] 0 trivial ?_
 refine kT [.no, .call [] (bV false) [] 0 [] none, .no] _ [(0, yM (D.lit (.int .u64 a))), (1, yM (D.lit (.int .u64 b))), (5, bV false)] (rE a) ?_
 refine kT [.no, .call [] (bV false) [] 0 [] none, .no] _ [(0, yM (D.lit (.int .u64 a))), (1, yM (D.lit (.int .u64 b))), (5, bV false), (6, bV false)] (rE b) ?_
 refine AW.seq ?_
 refine kT [.no] True [(0, yM (D.lit (.int .u64 a))), (1, yM (D.lit (.int .u64 b))), (6, bV false), (11, bV false)] trivial ?_
 refine yA ?_
 refine AW.seq ?_
 refine kT [.no] True [(0, yM (D.lit (.int .u64 a))), (1, yM (D.lit (.int .u64 b))), (13, bV false)] trivial ?_
 refine yA ?_
 refine AW.seq ?_
 by_cases hx1 : (a < b)
 ·refine kT [.no, .no, .b true] ((a < b)) [(0, yM (D.lit (.int .u64 a))), (1, yM (D.lit (.int .u64 b))), (16, bV true)] zo ?_
  refine zt ?_
  refine kT [.no] True [(4, iV (-1))] trivial ?_
  refine AW.ret ?_
  exact kB (.inr rfl) [] (P := (((yG a b) : Int) = (-1))) zk jX
 ·refine kT [.no, .no, .b false] (¬ (a < b)) [(0, yM (D.lit (.int .u64 a))), (1, yM (D.lit (.int .u64 b))), (16, bV false)] zo ?_
  refine yA ?_
  refine AW.seq ?_
  by_cases hx2 : (b < a)
  ·refine kT [.no, .no, .b true] ((b < a)) [(19, bV true)] zo ?_
   refine zt ?_
   refine kT [.no] True [(4, iV 1)] trivial ?_
   refine AW.ret ?_
   exact kB (.inr rfl) [] (P := (((yG a b) : Int) = 1)) zk jX
  ·refine kT [.no, .no, .b false] (¬ (b < a)) [(19, bV false)] zo ?_
   refine yA ?_
   refine kT [.no] True [(4, iV 0)] trivial ?_
   refine AW.ret ?_
   exact kB (.inr rfl) [] (P := (((yG a b) : Int) = 0)) zk jX
theorem k4s   : Fun 145 [.c (.d (D.lit (.bool true))), .c (.d (D.lit (.bool true)))] (kH []) 0 (iV 0) (kH []) 0 := by
 refine Fun.mk (n := 11) Tryz.func145 rfl rfl (ka4 rfl) ?_
 intro cx hcx
 refine kK [.no] True [(0, bV true), (1, bV true)] [] 0 trivial ?_
 refine AW.seq ?_
 refine AW.block ?_
 refine kT (qN 4 []) True [(0, bV true), (5, bV true)] trivial ?_
 refine zt ?_
 refine kT [.no] True [(4, iV 0)] trivial ?_
 refine AW.ret ?_
 exact kB (.inr rfl) [] (P := (kS 0)) zk rfl
theorem k4t   : Fun 145 [.c (.d (D.lit (.bool true))), .c (.d (D.lit (.bool false)))] (kH []) 0 (iV (-1)) (kH []) 0 := by
 refine Fun.mk (n := 11) Tryz.func145 rfl rfl (ka4 rfl) ?_
 intro cx hcx
 refine kK [.no] True [(0, bV true), (1, bV false)] [] 0 trivial ?_
 refine AW.seq ?_
 refine AW.block ?_
 refine kT (qN 4 []) True [(0, bV true), (5, bV false)] trivial ?_
 refine zf ?_
 refine kT [.no, .no] True [(9, bV true)] trivial ?_
 refine zt ?_
 refine kT [.no] True [(4, iV (-1))] trivial ?_
 refine AW.ret ?_
 exact kB (.inr rfl) [] (P := (kS (-1))) zk rfl
theorem k4u   : Fun 145 [.c (.d (D.lit (.bool false))), .c (.d (D.lit (.bool true)))] (kH []) 0 (iV 1) (kH []) 0 := by
 refine Fun.mk (n := 11) Tryz.func145 rfl rfl (ka4 rfl) ?_
 intro cx hcx
 refine kK [.no] True [(0, bV false), (1, bV true)] [] 0 trivial ?_
 refine AW.seq ?_
 refine AW.block ?_
 refine kT (qN 4 []) True [(0, bV false), (5, bV false)] trivial ?_
 refine zf ?_
 refine kT [.no, .no] True [(9, bV false)] trivial ?_
 refine yA ?_
 refine kT [.no] True [(4, iV 1)] trivial ?_
 refine AW.ret ?_
 exact kB (.inr rfl) [] (P := (kS 1)) zk rfl
theorem k4v   : Fun 145 [.c (.d (D.lit (.bool false))), .c (.d (D.lit (.bool false)))] (kH []) 0 (iV 0) (kH []) 0 := by
 refine Fun.mk (n := 11) Tryz.func145 rfl rfl (ka4 rfl) ?_
 intro cx hcx
 refine kK [.no] True [(0, bV false), (1, bV false)] [] 0 trivial ?_
 refine AW.seq ?_
 refine AW.block ?_
 refine kT (qN 4 []) True [(0, bV false), (5, bV true)] trivial ?_
 refine zt ?_
 refine kT [.no] True [(4, iV 0)] trivial ?_
 refine AW.ret ?_
 exact kB (.inr rfl) [] (P := (kS 0)) zk rfl
theorem jL (p q : Bool) : Fun 145 [.c (.d (D.lit (.bool (p)))), .c (.d (D.lit (.bool (q))))] (kH []) 0 (iV (cB p q)) (kH []) 0 := by
 cases p <;> cases q
 ·exact k4v
 ·exact k4u
 ·exact k4t
 ·exact k4s
theorem u07 (a b : Int) (ha : -9223372036854775808 ≤ a ∧ a ≤ 9223372036854775807) (hb : -9223372036854775808 ≤ b ∧ b ≤ 9223372036854775807) : Fun 153 [iE a, iE b] (kH []) 0 (yM (D.lit (.int .u64 (dX a b)))) (kH []) 0 := by
 refine Fun.mk (n := 14) Tryz.func153 rfl rfl (ka4 rfl) ?_
 intro cx hcx
 refine kK [.no] True [(0, iV a), (1, iV b)] [] 0 trivial ?_
 refine kT (qN 10 []) True [(4, yM (D.lit (.int .u64 (IntKind.u64.wrap ((IntKind.u64.wrap (max a b)) - (IntKind.u64.wrap (min a b)))))))] trivial ?_
 refine AW.ret ?_
 exact kB (.inr rfl) [] (P := (((dX a b) : Int) = (IntKind.u64.wrap ((IntKind.u64.wrap (max a b)) - (IntKind.u64.wrap (min a b)))))) zk (by first | exact v4i ha hb | exact v4h ha hb zo | exact v4g ha hb zo)
theorem zY (x y : Int)  : Fun 144 [.c (.own 0 0 2 1 true)] (kH [(0, some (3, .ds [iD x, iD y]))]) 1 (iV (yF x y)) (kH [(0, some (3, .ds [iD x, iD y]))]) 1 := by
 refine Fun.mk (n := 18) Tryz.func144 rfl rfl (ka4 rfl) ?_
 intro cx hcx
 refine kK [.no] True [(0, oV 0 0 2 1)] [(0, some (3, .ds [iD x, iD y]))] 1 trivial ?_
 refine kT [.no] True [(0, oV 0 0 2 1), (3, iV 0)] trivial ?_
 refine AW.seq ?_
 refine kT [.no, .no, .no] True [(3, iV 0), (6, oV 0 0 2 1), (7, iV 2), (8, iV 0)] trivial ?_
 refine AW.block ?_
 refine AW.rounds 3 ?_
 refine AWr.s ?_
 refine kK [.b true] (((0 : Int) < 2)) [(3, iV 0), (6, oV 0 0 2 1), (7, iV 2), (8, iV 0), (9, bV true)] [(0, some (3, .ds [iD x, iD y]))] 1 zo ?_
 refine AW.seq ?_
 refine vR ?_
 refine AW.seq ?_
 refine AW.block ?_
 refine kT [.n2 0 0, .no, .no] ((kS 0) ∧ ((0 : Nat) < 2) ∧ ((0 : Nat) + 0 * 1 = 0)) [(3, iV 0), (5, iV x), (6, oV 0 0 2 1), (7, iV 2), (8, iV 0)] ⟨rfl, zo, zo⟩ ?_
 by_cases hx1 : (x ≠ 0)
 ·refine kT [.no, .no, .b true] ((x ≠ 0)) [(3, iV 0), (5, iV x), (6, oV 0 0 2 1), (7, iV 2), (8, iV 0), (14, bV true)] zo ?_
  refine zt ?_
  refine kT [.no, .no] True [(2, iV x)] trivial ?_
  refine AW.ret ?_
  exact kB (.inr rfl) [] (P := (((yF x y) : Int) = x) ∧ (kN [iD x, iD y])) zk ⟨(by unfold yF; (repeat' split) <;> first | omega | contradiction | rfl), rfl⟩
 ·refine kT [.no, .no, .b false] (¬ (x ≠ 0)) [(3, iV 0), (5, iV x), (6, oV 0 0 2 1), (7, iV 2), (8, iV 0), (14, bV false)] zo ?_
  refine yA ?_
  refine yT [.w, .no] (yQ (1 : Int)) [(3, iV 0), (6, oV 0 0 2 1), (7, iV 2), (8, iV 1)] ⟨by omega, by omega⟩ ?_
  refine AWr.s ?_
  refine kK [.b true] (((1 : Int) < 2)) [(3, iV 0), (6, oV 0 0 2 1), (7, iV 2), (8, iV 1), (9, bV true)] [(0, some (3, .ds [iD x, iD y]))] 1 zo ?_
  refine AW.seq ?_
  refine vR ?_
  refine AW.seq ?_
  refine AW.block ?_
  refine kT [.n2 1 1, .no, .no] ((kS 1) ∧ ((1 : Nat) < 2) ∧ ((0 : Nat) + 1 * 1 = 1)) [(3, iV 0), (5, iV y), (6, oV 0 0 2 1), (7, iV 2), (8, iV 1)] ⟨rfl, zo, zo⟩ ?_
  by_cases hx2 : (y ≠ 0)
  ·refine kT [.no, .no, .b true] ((y ≠ 0)) [(3, iV 0), (5, iV y), (6, oV 0 0 2 1), (7, iV 2), (8, iV 1), (14, bV true)] zo ?_
   refine zt ?_
   refine kT [.no, .no] True [(2, iV y)] trivial ?_
   refine AW.ret ?_
   exact kB (.inr rfl) [] (P := (((yF x y) : Int) = y) ∧ (kN [iD x, iD y])) zk ⟨(by unfold yF; (repeat' split) <;> first | omega | contradiction | rfl), rfl⟩
  ·refine kT [.no, .no, .b false] (¬ (y ≠ 0)) [(3, iV 0), (5, iV y), (6, oV 0 0 2 1), (7, iV 2), (8, iV 1), (14, bV false)] zo ?_
   refine yA ?_
   refine yT [.w, .no] (yQ (2 : Int)) [(3, iV 0), (6, oV 0 0 2 1), (7, iV 2), (8, iV 2)] ⟨by omega, by omega⟩ ?_
   refine AWr.s ?_
   refine kK [.b false] (¬ ((2 : Int) < 2)) [(3, iV 0), (6, oV 0 0 2 1), (7, iV 2), (8, iV 2), (9, bV false)] [(0, some (3, .ds [iD x, iD y]))] 1 zo ?_
   refine AW.seq ?_
   refine zf ?_
   refine AW.exit ?_
   refine kK [.no, .no] True [(2, iV 0)] [(0, some (3, .ds [iD x, iD y]))] 1 trivial ?_
   refine AW.ret ?_
   exact kB (.inr rfl) [] (P := (((yF x y) : Int) = 0) ∧ (kN [iD x, iD y])) zk ⟨(by unfold yF; (repeat' split) <;> first | omega | contradiction | rfl), rfl⟩
theorem v2d (x y z u : Int)  : Fun 144 [.c (.own 0 0 4 1 true)] (kH [(0, some (3, .ds [iD x, iD y, iD z, iD u]))]) 1 (iV (yF x (yF y (yF z u)))) (kH [(0, some (3, .ds [iD x, iD y, iD z, iD u]))]) 1 := by
 refine Fun.mk (n := 18) Tryz.func144 rfl rfl (ka4 rfl) ?_
 intro cx hcx
 refine kK [.no] True [(0, oV 0 0 4 1)] [(0, some (3, .ds [iD x, iD y, iD z, iD u]))] 1 trivial ?_
 refine kT [.no] True [(0, oV 0 0 4 1), (3, iV 0)] trivial ?_
 refine AW.seq ?_
 refine kT [.no, .no, .no] True [(3, iV 0), (6, oV 0 0 4 1), (7, iV 4), (8, iV 0)] trivial ?_
 refine AW.block ?_
 refine AW.rounds 5 ?_
 refine AWr.s ?_
 refine kK [.b true] (((0 : Int) < 4)) [(3, iV 0), (6, oV 0 0 4 1), (7, iV 4), (8, iV 0), (9, bV true)] [(0, some (3, .ds [iD x, iD y, iD z, iD u]))] 1 zo ?_
 refine AW.seq ?_
 refine vR ?_
 refine AW.seq ?_
 refine AW.block ?_
 refine kT [.n2 0 0, .no, .no] ((kS 0) ∧ ((0 : Nat) < 4) ∧ ((0 : Nat) + 0 * 1 = 0)) [(3, iV 0), (5, iV x), (6, oV 0 0 4 1), (7, iV 4), (8, iV 0)] ⟨rfl, zo, zo⟩ ?_
 by_cases hx1 : (x ≠ 0)
 ·refine kT [.no, .no, .b true] ((x ≠ 0)) [(3, iV 0), (5, iV x), (6, oV 0 0 4 1), (7, iV 4), (8, iV 0), (14, bV true)] zo ?_
  refine zt ?_
  refine kT [.no, .no] True [(2, iV x)] trivial ?_
  refine AW.ret ?_
  exact kB (.inr rfl) [] (P := (((yF x (yF y (yF z u))) : Int) = x) ∧ (kN [iD x, iD y, iD z, iD u])) zk ⟨(by unfold yF; (repeat' split) <;> first | omega | contradiction | rfl), rfl⟩
 ·refine kT [.no, .no, .b false] (¬ (x ≠ 0)) [(3, iV 0), (5, iV x), (6, oV 0 0 4 1), (7, iV 4), (8, iV 0), (14, bV false)] zo ?_
  refine yA ?_
  refine yT [.w, .no] (yQ (1 : Int)) [(3, iV 0), (6, oV 0 0 4 1), (7, iV 4), (8, iV 1)] ⟨by omega, by omega⟩ ?_
  refine AWr.s ?_
  refine kK [.b true] (((1 : Int) < 4)) [(3, iV 0), (6, oV 0 0 4 1), (7, iV 4), (8, iV 1), (9, bV true)] [(0, some (3, .ds [iD x, iD y, iD z, iD u]))] 1 zo ?_
  refine AW.seq ?_
  refine vR ?_
  refine AW.seq ?_
  refine AW.block ?_
  refine kT [.n2 1 1, .no, .no] ((kS 1) ∧ ((1 : Nat) < 4) ∧ ((0 : Nat) + 1 * 1 = 1)) [(3, iV 0), (5, iV y), (6, oV 0 0 4 1), (7, iV 4), (8, iV 1)] ⟨rfl, zo, zo⟩ ?_
  by_cases hx2 : (y ≠ 0)
  ·refine kT [.no, .no, .b true] ((y ≠ 0)) [(3, iV 0), (5, iV y), (6, oV 0 0 4 1), (7, iV 4), (8, iV 1), (14, bV true)] zo ?_
   refine zt ?_
   refine kT [.no, .no] True [(2, iV y)] trivial ?_
   refine AW.ret ?_
   exact kB (.inr rfl) [] (P := (((yF x (yF y (yF z u))) : Int) = y) ∧ (kN [iD x, iD y, iD z, iD u])) zk ⟨(by unfold yF; (repeat' split) <;> first | omega | contradiction | rfl), rfl⟩
  ·refine kT [.no, .no, .b false] (¬ (y ≠ 0)) [(3, iV 0), (5, iV y), (6, oV 0 0 4 1), (7, iV 4), (8, iV 1), (14, bV false)] zo ?_
   refine yA ?_
   refine yT [.w, .no] (yQ (2 : Int)) [(3, iV 0), (6, oV 0 0 4 1), (7, iV 4), (8, iV 2)] ⟨by omega, by omega⟩ ?_
   refine AWr.s ?_
   refine kK [.b true] (((2 : Int) < 4)) [(3, iV 0), (6, oV 0 0 4 1), (7, iV 4), (8, iV 2), (9, bV true)] [(0, some (3, .ds [iD x, iD y, iD z, iD u]))] 1 zo ?_
   refine AW.seq ?_
   refine vR ?_
   refine AW.seq ?_
   refine AW.block ?_
   refine kT [.n2 2 2, .no, .no] ((kS 2) ∧ ((2 : Nat) < 4) ∧ ((0 : Nat) + 2 * 1 = 2)) [(3, iV 0), (5, iV z), (6, oV 0 0 4 1), (7, iV 4), (8, iV 2)] ⟨rfl, zo, zo⟩ ?_
   by_cases hx3 : (z ≠ 0)
   ·refine kT [.no, .no, .b true] ((z ≠ 0)) [(3, iV 0), (5, iV z), (6, oV 0 0 4 1), (7, iV 4), (8, iV 2), (14, bV true)] zo ?_
    refine zt ?_
    refine kT [.no, .no] True [(2, iV z)] trivial ?_
    refine AW.ret ?_
    exact kB (.inr rfl) [] (P := (((yF x (yF y (yF z u))) : Int) = z) ∧ (kN [iD x, iD y, iD z, iD u])) zk ⟨(by unfold yF; (repeat' split) <;> first | omega | contradiction | rfl), rfl⟩
   ·refine kT [.no, .no, .b false] (¬ (z ≠ 0)) [(3, iV 0), (5, iV z), (6, oV 0 0 4 1), (7, iV 4), (8, iV 2), (14, bV false)] zo ?_
    refine yA ?_
    refine yT [.w, .no] (yQ (3 : Int)) [(3, iV 0), (6, oV 0 0 4 1), (7, iV 4), (8, iV 3)] ⟨by omega, by omega⟩ ?_
    refine AWr.s ?_
    refine kK [.b true] (((3 : Int) < 4)) [(3, iV 0), (6, oV 0 0 4 1), (7, iV 4), (8, iV 3), (9, bV true)] [(0, some (3, .ds [iD x, iD y, iD z, iD u]))] 1 zo ?_
    refine AW.seq ?_
    refine vR ?_
    refine AW.seq ?_
    refine AW.block ?_
    refine kT [.n2 3 3, .no, .no] ((kS 3) ∧ ((3 : Nat) < 4) ∧ ((0 : Nat) + 3 * 1 = 3)) [(3, iV 0), (5, iV u), (6, oV 0 0 4 1), (7, iV 4), (8, iV 3)] ⟨rfl, zo, zo⟩ ?_
    by_cases hx4 : (u ≠ 0)
    ·refine kT [.no, .no, .b true] ((u ≠ 0)) [(3, iV 0), (5, iV u), (6, oV 0 0 4 1), (7, iV 4), (8, iV 3), (14, bV true)] zo ?_
     refine zt ?_
     refine kT [.no, .no] True [(2, iV u)] trivial ?_
     refine AW.ret ?_
     exact kB (.inr rfl) [] (P := (((yF x (yF y (yF z u))) : Int) = u) ∧ (kN [iD x, iD y, iD z, iD u])) zk ⟨(by unfold yF; (repeat' split) <;> first | omega | contradiction | rfl), rfl⟩
    ·refine kT [.no, .no, .b false] (¬ (u ≠ 0)) [(3, iV 0), (5, iV u), (6, oV 0 0 4 1), (7, iV 4), (8, iV 3), (14, bV false)] zo ?_
     refine yA ?_
     refine yT [.w, .no] (yQ (4 : Int)) [(3, iV 0), (6, oV 0 0 4 1), (7, iV 4), (8, iV 4)] ⟨by omega, by omega⟩ ?_
     refine AWr.s ?_
     refine kK [.b false] (¬ ((4 : Int) < 4)) [(3, iV 0), (6, oV 0 0 4 1), (7, iV 4), (8, iV 4), (9, bV false)] [(0, some (3, .ds [iD x, iD y, iD z, iD u]))] 1 zo ?_
     refine AW.seq ?_
     refine zf ?_
     refine AW.exit ?_
     refine kK [.no, .no] True [(2, iV 0)] [(0, some (3, .ds [iD x, iD y, iD z, iD u]))] 1 trivial ?_
     refine AW.ret ?_
     exact kB (.inr rfl) [] (P := (((yF x (yF y (yF z u))) : Int) = 0) ∧ (kN [iD x, iD y, iD z, iD u])) zk ⟨(by unfold yF; (repeat' split) <;> first | omega | contradiction | rfl), rfl⟩
theorem u05 (w a b : Int) (hw : -9223372036854775808 ≤ w ∧ w ≤ 9223372036854775807) (ha : -9223372036854775808 ≤ a ∧ a ≤ 9223372036854775807) (hb : -9223372036854775808 ≤ b ∧ b ≤ 9223372036854775807) : Fun 120 [iE w, iE a, iE b] (kH []) 0 (iV (cE w a b)) (kH []) 0 := by
 refine Fun.mk (n := 19) Tryz.func120 rfl rfl (ka4 rfl) ?_
 intro cx hcx
 refine kK [.no] True [(0, iV w), (1, iV a), (2, iV b)] [] 0 trivial ?_
 have hx1 : ((0 : Int) ≤ (dX w a)) := u55 w a
 have hx2 : ((0 : Int) ≤ (dX w b)) := u55 w b
 refine kK [.no, .no, .call [] (yM (D.lit (.int .u64 (dX w a)))) [] 0 [] none, .no, .no, .call [] (yM (D.lit (.int .u64 (dX w b)))) [] 0 [] none, .call [] (iV (yG (dX w a) (dX w b))) [] 0 [] none, .no, .no, .call [] (iV (yG a b)) [] 0 [] none, .no, .call [0] (iV (yF (yG (dX w a) (dX w b)) (yG a b))) [(0, some (3, .ds [iD (yG (dX w a) (dX w b)), iD (yG a b)]))] 1 [] none, .no] ((_) ∧ (_) ∧ (_) ∧ (_) ∧ (_)) [(6, iV (yF (yG (dX w a) (dX w b)) (yG a b)))] [] 1 ⟨(u07 w a zo zo), (u07 w b zo zo), (k4w (dX w a) (dX w b)), (aU a b), (zY (yG (dX w a) (dX w b)) (yG a b))⟩ ?_
 refine AW.ret ?_
 exact kB (.inr rfl) [] (P := (((cE w a b) : Int) = (yF (yG (dX w a) (dX w b)) (yG a b)))) zk (by first | rfl | exact v3n zo | exact v3m zo (by first | exact v1h zo | exact v1i zo | exact v1j.2 zo))
theorem t8 (w a b : Int)  : Fun 113 [iE w, iE a, iE b] (kH []) 0 (iV (c9 w a b)) (kH []) 0 := by
 refine Fun.mk (n := 19) Tryz.func113 rfl rfl (ka4 rfl) ?_
 intro cx hcx
 refine kK [.no] True [(0, iV w), (1, iV a), (2, iV b)] [] 0 trivial ?_
 by_cases hx1 : (a = w)
 ·by_cases hx2 : (b = w)
  ·have hx3 : ((((-1) : Int) ≤ (cB true true)) ∧ ((cB true true) ≤ 1)) := eT true true
   refine kK [.no, .no, .b true, .no, .no, .b true, .call [] (iV (cB true true)) [] 0 [] none, .no, .no, .call [] (iV (yG b a)) [] 0 [] none, .no, .call [0] (iV (yF (cB true true) (yG b a))) [(0, some (3, .ds [iD (cB true true), iD (yG b a)]))] 1 [] none, .no] (((a = w)) ∧ ((b = w)) ∧ (_) ∧ (_) ∧ (_)) [(6, iV (yF (cB true true) (yG b a)))] [] 1 ⟨zo, zo, (jL true true), (aU b a), (zY (cB true true) (yG b a))⟩ ?_
   refine AW.ret ?_
   exact kB (.inr rfl) [] (P := (((c9 w a b) : Int) = (yF (cB true true) (yG b a)))) zk (by first | rfl | (unfold c9; first | rfl | (unfold yF cB yG; (repeat' split) <;> simp_all <;> omega)))
  ·have hx4 : ((((-1) : Int) ≤ (cB true false)) ∧ ((cB true false) ≤ 1)) := eT true false
   refine kK [.no, .no, .b true, .no, .no, .b false, .call [] (iV (cB true false)) [] 0 [] none, .no, .no, .call [] (iV (yG b a)) [] 0 [] none, .no, .call [0] (iV (yF (cB true false) (yG b a))) [(0, some (3, .ds [iD (cB true false), iD (yG b a)]))] 1 [] none, .no] (((a = w)) ∧ (¬ (b = w)) ∧ (_) ∧ (_) ∧ (_)) [(6, iV (yF (cB true false) (yG b a)))] [] 1 ⟨zo, zo, (jL true false), (aU b a), (zY (cB true false) (yG b a))⟩ ?_
   refine AW.ret ?_
   exact kB (.inr rfl) [] (P := (((c9 w a b) : Int) = (yF (cB true false) (yG b a)))) zk (by first | rfl | (unfold c9; first | rfl | (unfold yF cB yG; (repeat' split) <;> simp_all <;> omega)))
 ·by_cases hx5 : (b = w)
  ·have hx6 : ((((-1) : Int) ≤ (cB false true)) ∧ ((cB false true) ≤ 1)) := eT false true
   refine kK [.no, .no, .b false, .no, .no, .b true, .call [] (iV (cB false true)) [] 0 [] none, .no, .no, .call [] (iV (yG b a)) [] 0 [] none, .no, .call [0] (iV (yF (cB false true) (yG b a))) [(0, some (3, .ds [iD (cB false true), iD (yG b a)]))] 1 [] none, .no] ((¬ (a = w)) ∧ ((b = w)) ∧ (_) ∧ (_) ∧ (_)) [(6, iV (yF (cB false true) (yG b a)))] [] 1 ⟨zo, zo, (jL false true), (aU b a), (zY (cB false true) (yG b a))⟩ ?_
   refine AW.ret ?_
   exact kB (.inr rfl) [] (P := (((c9 w a b) : Int) = (yF (cB false true) (yG b a)))) zk (by first | rfl | (unfold c9; first | rfl | (unfold yF cB yG; (repeat' split) <;> simp_all <;> omega)))
  ·have hx7 : ((((-1) : Int) ≤ (cB false false)) ∧ ((cB false false) ≤ 1)) := eT false false
   refine kK [.no, .no, .b false, .no, .no, .b false, .call [] (iV (cB false false)) [] 0 [] none, .no, .no, .call [] (iV (yG b a)) [] 0 [] none, .no, .call [0] (iV (yF (cB false false) (yG b a))) [(0, some (3, .ds [iD (cB false false), iD (yG b a)]))] 1 [] none, .no] ((¬ (a = w)) ∧ (¬ (b = w)) ∧ (_) ∧ (_) ∧ (_)) [(6, iV (yF (cB false false) (yG b a)))] [] 1 ⟨zo, zo, (jL false false), (aU b a), (zY (cB false false) (yG b a))⟩ ?_
   refine AW.ret ?_
   exact kB (.inr rfl) [] (P := (((c9 w a b) : Int) = (yF (cB false false) (yG b a)))) zk (by first | rfl | (unfold c9; first | rfl | (unfold yF cB yG; (repeat' split) <;> simp_all <;> omega)))
theorem u8d (a b : List Int) (n m : Nat) (hn : ka0 a = n) (hm : ka0 b = m) (h2 : n ≤ 1000000) (h3 : m ≤ 1000000) : Fun 151 [.c (.d (D.sl (dI .i64 a) n)), .c (.d (D.sl (dI .i64 b) m))] (kH []) 0 (iV (dU a b)) (kH []) 0 := by
 refine Fun.mk (n := 36) Tryz.func151 rfl rfl (ka4 rfl) ?_
 intro cx hcx
 refine kK [.no] True [(0, sV .i64 a n), (1, sV .i64 b m)] [] 0 trivial ?_
 refine AW.seq ?_
 refine kT [.no, .no, .no] True [(0, sV .i64 a n), (1, sV .i64 b m), (9, sV .i64 a n), (10, uV n), (11, iV 0)] trivial ?_
 refine AW.block ?_
 refine qH 0 hcx (fun (x : {x : Nat // match x with | k => (k ≤ n ∧ k ≤ m) ∧ (dU a b = dU (ka3 k a) (ka3 k b))}) => match x with | ⟨k, _⟩ => (⟨[(0, sV .i64 a n), (1, sV .i64 b m), (9, sV .i64 a n), (10, uV n), (11, uV k)], [], 0⟩ : ES)) (fun x => match x with | ⟨k, _⟩ => n - k) ⟨(0 : Nat), ⟨(by first | omega | assumption | simp), rfl⟩⟩ [] (P := (kN (dI .i64 a)) ∧ (kJ n) ∧ (kN (dI .i64 b)) ∧ (kJ m) ∧ (kN (dI .i64 a)) ∧ (kJ n) ∧ (kS (n : Int)) ∧ (kS 0)) zk ⟨rfl, rfl, rfl, rfl, rfl, rfl, rfl, rfl⟩ ?_
 rintro ⟨k, hinv0⟩
 obtain ⟨hk, hx⟩ : (k ≤ n ∧ k ≤ m) ∧ (dU a b = dU (ka3 k a) (ka3 k b)) := hinv0
 refine uL (l := [(0, sV .i64 a n), (1, sV .i64 b m), (9, sV .i64 a n), (10, uV n), (11, uV k)]) (g := []) (nx := 0) rfl rfl rfl ?_
 by_cases hx1 : (((k : Nat) : Int) < ((n : Nat) : Int))
 ·refine kK [.b true] (((k : Int) < (n : Int))) [(0, sV .i64 a n), (1, sV .i64 b m), (9, sV .i64 a n), (10, uV n), (11, uV k), (12, bV true)] [] 0 zo ?_
  refine AW.seq ?_
  refine vR ?_
  refine AW.seq ?_
  refine AW.block ?_
  refine kT [.no, .n k, .d (D.lit (.int .i64 (ka1 a k 0))), .no, .no] ((kS (k : Int)) ∧ (k < n) ∧ ((ka3 k (dI .i64 a))[0]? = some (D.lit (.int .i64 (ka1 a k 0))))) [(0, sV .i64 a n), (1, sV .i64 b m), (5, uV k), (6, iV (ka1 a k 0)), (9, sV .i64 a n), (10, uV n), (11, uV k)] ⟨rfl, zo, (yJ _ _ _ (by first | omega | (simp only [uX, f0, eQ, qW, ka6, ka9, kb1, kb0, kb2, kb4, kb9, kc4, kc1, Nat.mul_one] <;> omega) | rfl))⟩ ?_
  refine AW.seq ?_
  by_cases hx2 : (((m : Nat) : Int) ≤ ((k : Nat) : Int))
  ·refine kT [.no, .no, .no, .b true] (((m : Int) ≤ (k : Int))) [(0, sV .i64 a n), (1, sV .i64 b m), (5, uV k), (6, iV (ka1 a k 0)), (9, sV .i64 a n), (10, uV n), (11, uV k), (19, bV true)] zo ?_
   refine zt ?_
   refine kT [.no] True [(4, iV 1)] trivial ?_
   refine AW.ret ?_
   exact kB (.inr rfl) [] (P := (((dU a b) : Int) = 1)) zk (by first | rfl | exact (k2p hx zo zo zo) | exact (k2r hx zo zo) | exact (k2q hx zo zo) | exact (k2s hx zo zo))
  ·refine kT [.no, .no, .no, .b false] (¬ ((m : Int) ≤ (k : Int))) [(0, sV .i64 a n), (1, sV .i64 b m), (5, uV k), (6, iV (ka1 a k 0)), (9, sV .i64 a n), (10, uV n), (11, uV k), (19, bV false)] zo ?_
   refine yA ?_
   refine kT [.no, .no, .n k, .d (D.lit (.int .i64 (ka1 b k 0))), .no] ((kS (k : Int)) ∧ (k < m) ∧ ((ka3 k (dI .i64 b))[0]? = some (D.lit (.int .i64 (ka1 b k 0))))) [(0, sV .i64 a n), (1, sV .i64 b m), (6, iV (ka1 a k 0)), (7, iV (ka1 b k 0)), (9, sV .i64 a n), (10, uV n), (11, uV k)] ⟨rfl, zo, (yJ _ _ _ (by first | omega | (simp only [uX, f0, eQ, qW, ka6, ka9, kb1, kb0, kb2, kb4, kb9, kc4, kc1, Nat.mul_one] <;> omega) | rfl))⟩ ?_
   refine kT [.no, .no, .call [] (iV (yG (ka1 a k 0) (ka1 b k 0))) [] 0 [] none, .no] _ [(0, sV .i64 a n), (1, sV .i64 b m), (8, iV (yG (ka1 a k 0) (ka1 b k 0))), (9, sV .i64 a n), (10, uV n), (11, uV k)] (aU (ka1 a k 0) (ka1 b k 0)) ?_
   by_cases hx3 : ((yG (ka1 a k 0) (ka1 b k 0)) ≠ 0)
   ·refine kT [.no, .b true] (((yG (ka1 a k 0) (ka1 b k 0)) ≠ 0)) [(0, sV .i64 a n), (1, sV .i64 b m), (8, iV (yG (ka1 a k 0) (ka1 b k 0))), (9, sV .i64 a n), (10, uV n), (11, uV k), (28, bV true)] zo ?_
    refine zt ?_
    refine kT [.no, .no] True [(4, iV (yG (ka1 a k 0) (ka1 b k 0)))] trivial ?_
    refine AW.ret ?_
    exact kB (.inr rfl) [] (P := (((dU a b) : Int) = (yG (ka1 a k 0) (ka1 b k 0)))) zk (by first | rfl | exact (k2p hx zo zo zo) | exact (k2r hx zo zo) | exact (k2q hx zo zo) | exact (k2s hx zo zo))
   ·refine kT [.no, .b false] (¬ ((yG (ka1 a k 0) (ka1 b k 0)) ≠ 0)) [(0, sV .i64 a n), (1, sV .i64 b m), (8, iV (yG (ka1 a k 0) (ka1 b k 0))), (9, sV .i64 a n), (10, uV n), (11, uV k), (28, bV false)] zo ?_
    refine yA ?_
    refine yT [.w, .no] (yQ ((k : Int) + 1)) [(0, sV .i64 a n), (1, sV .i64 b m), (9, sV .i64 a n), (10, uV n), (11, iV (↑k + 1))] ⟨by omega, by omega⟩ ?_
    exact qE ⟨((k + 1) : Nat), ⟨(by first | omega | assumption | simp), (u1g hx zo zo zo)⟩⟩ [] (P := (kN (dI .i64 a)) ∧ (kJ n) ∧ (kN (dI .i64 b)) ∧ (kJ m) ∧ (kN (dI .i64 a)) ∧ (kJ n) ∧ (kS (n : Int)) ∧ (c7 k)) zk ⟨rfl, rfl, rfl, rfl, rfl, rfl, rfl, (by first | rfl | omega | assumption | (simp; done) | (simp; omega))⟩ (show n - (k + 1) < n - k from (by first | omega | (show _ < _; simp; omega)))
 ·refine kK [.b false] (¬ ((k : Int) < (n : Int))) [(0, sV .i64 a n), (1, sV .i64 b m), (9, sV .i64 a n), (10, uV n), (11, uV k), (12, bV false)] [] 0 zo ?_
  refine AW.seq ?_
  refine zf ?_
  refine AW.exit ?_
  refine AW.seq ?_
  by_cases hx4 : (((n : Nat) : Int) < ((m : Nat) : Int))
  ·refine kK (qN 4 [.b true]) (((n : Int) < (m : Int))) [(35, bV true)] [] 0 zo ?_
   refine zt ?_
   refine kT [.no] True [(4, iV (-1))] trivial ?_
   refine AW.ret ?_
   exact kB (.inr rfl) [] (P := (((dU a b) : Int) = (-1))) zk (by first | rfl | exact (k2p hx zo zo zo) | exact (k2r hx zo zo) | exact (k2q hx zo zo) | exact (k2s hx zo zo))
  ·refine kK (qN 4 [.b false]) (¬ ((n : Int) < (m : Int))) [(35, bV false)] [] 0 zo ?_
   refine yA ?_
   refine kT [.no] True [(4, iV 0)] trivial ?_
   refine AW.ret ?_
   exact kB (.inr rfl) [] (P := (((dU a b) : Int) = 0)) zk (by first | rfl | exact (k2p hx zo zo zo) | exact (k2r hx zo zo) | exact (k2q hx zo zo) | exact (k2s hx zo zo))
theorem zX (w a : List Int) (o n : Nat) (ho : ka0 w = o) (hn : ka0 a = n) (h1 : o ≤ 1000000) (h2 : n ≤ 1000000) : Fun 149 [.c (.d (D.sl (dI .i64 a) n)), .c (.ptr 0 0)] (kH [(0, some (38, .ds [D.sl (dI .i64 w) o]))]) 1 (iV (mQ w a)) (kH [(0, some (38, .ds [D.sl (dI .i64 w) o]))]) 1 := by
 refine Fun.mk (n := 8) Tryz.func149 rfl rfl (ka4 rfl) ?_
 intro cx hcx
 refine kK [.no] True [(0, sV .i64 a n), (1, rV 0 0)] [(0, some (38, .ds [dl w o]))] 1 trivial ?_
 have hx1 : ((ka0 (zE w a n)) ≤ o) := (by have h9 := k38 w a n; omega)
 refine kT [.no, .no, .call [] (sV .i64 (zE w a n) (ka0 (zE w a n))) [] 0 [] none, .no, .no] _ [(3, uV (ka0 (zE w a n)))] (u0a w a o n zo zo zo zo) ?_
 refine AW.ret ?_
 exact kB (.inr rfl) [] (P := (((mQ w a) : Int) = (ka0 (zE w a n) : Int)) ∧ (kN [dl w o])) zk ⟨(by first | rfl | (unfold mQ; rw [hn])), rfl⟩
theorem u06 (w a b : List Int) (o n m : Nat) (ho : ka0 w = o) (hn : ka0 a = n) (hm : ka0 b = m) (h1 : o ≤ 1000000) (h2 : n ≤ 1000000) (h3 : m ≤ 1000000) : Fun 117 [.c (.d (D.sl (dI .i64 w) o)), .c (.d (D.sl (dI .i64 a) n)), .c (.d (D.sl (dI .i64 b) m))] (kH []) 0 (iV (c8 w a b)) (kH []) 0 := by
 refine Fun.mk (n := 33) Tryz.func117 rfl rfl (ka4 rfl) ?_
 intro cx hcx
 refine kK [.no, .no] True [(1, sV .i64 a n), (2, sV .i64 b m), (3, rV 0 0)] [(0, some (38, .ds [dl w o]))] 1 trivial ?_
 refine kT [.no, .no] True [(1, sV .i64 a n), (2, sV .i64 b m), (3, rV 0 0), (7, .e (.c (.fn 149 [(0, 0)])))] trivial ?_
 have hx1 : ((((-1) : Int) ≤ (cB (bN a w) (bN b w))) ∧ ((cB (bN a w) (bN b w)) ≤ 1)) := eT (bN a w) (bN b w)
 have hx2 : ((0 : Int) ≤ (mQ w b)) := Int.natCast_nonneg _
 have hx3 : ((0 : Int) ≤ (mQ w a)) := Int.natCast_nonneg _
 have hx4 : ((((-1) : Int) ≤ (dU a b)) ∧ ((dU a b) ≤ 1)) := s6 a b
 refine kK [.no, .no, .call [] (yM (D.lit (.bool (bN a w)))) [] 0 [] none, .no, .no, .call [] (yM (D.lit (.bool (bN b w)))) [] 0 [] none, .call [] (iV (cB (bN a w) (bN b w))) [] 0 [] none, .no, .no, .call [0] (iV (mQ w b)) [(0, some (38, .ds [dl w o]))] 1 [] none, .no, .no, .call [0] (iV (mQ w a)) [(0, some (38, .ds [dl w o]))] 1 [] none, .call [] (iV (yG (mQ w b) (mQ w a))) [] 0 [] none, .no, .no, .no, .no, .call [] (iV (yG (n : Int) (m : Int))) [] 0 [] none, .no, .no, .call [] (iV (dU a b)) [] 0 [] none, .no, .call [1] (iV (yF (cB (bN a w) (bN b w)) (yF (yG (mQ w b) (mQ w a)) (yF (yG (n : Int) (m : Int)) (dU a b))))) [(0, some (3, .ds [iD (cB (bN a w) (bN b w)), iD (yG (mQ w b) (mQ w a)), iD (yG (n : Int) (m : Int)), iD (dU a b)]))] 1 [] none, .no] ((_) ∧ (_) ∧ (_) ∧ (_) ∧ (_) ∧ (_) ∧ (_) ∧ (_) ∧ (_)) [(6, iV (yF (cB (bN a w) (bN b w)) (yF (yG (mQ w b) (mQ w a)) (yF (yG ↑n ↑m) (dU a b)))))] [] 2 ⟨(wA a w n o zo zo zo zo), (wA b w m o zo zo zo zo), (jL (bN a w) (bN b w)), (zX w b o m zo zo zo zo), (zX w a o n zo zo zo zo), (aU (mQ w b) (mQ w a)), (aU (n : Int) (m : Int)), (u8d a b n m zo zo zo zo), (v2d (cB (bN a w) (bN b w)) (yG (mQ w b) (mQ w a)) (yG (n : Int) (m : Int)) (dU a b))⟩ ?_
 refine AW.ret ?_
 exact kB (.inr rfl) [] (P := (((c8 w a b) : Int) = (yF (cB (bN a w) (bN b w)) (yF (yG (mQ w b) (mQ w a)) (yF (yG (n : Int) (m : Int)) (dU a b)))))) zk (by first | rfl | (unfold c8; rw [hn, hm]))
theorem u8h (wk wr wz ak ar az bk br bz : Int) (w a b : List Int) (o n m : Nat) (ho : ka0 w = o) (hn : ka0 a = n) (hm : ka0 b = m) (h1 : o ≤ 1000000) (h2 : n ≤ 1000000) (h3 : m ≤ 1000000) (hwr : -9223372036854775808 ≤ wr ∧ wr ≤ 9223372036854775807) (har : -9223372036854775808 ≤ ar ∧ ar ≤ 9223372036854775807) (hbr : -9223372036854775808 ≤ br ∧ br ≤ 9223372036854775807) (hwz : -9223372036854775808 ≤ wz ∧ wz ≤ 9223372036854775807) (haz : -9223372036854775808 ≤ az ∧ az ≤ 9223372036854775807) (hbz : -9223372036854775808 ≤ bz ∧ bz ≤ 9223372036854775807) : Fun 118 [.c (.ptr 0 0), .c (.ptr 1 0), .c (.ptr 2 0)] (kH [(0, some (42, .ds [iD wk, iD wr, D.sl (dI .i64 w) o, iD wz])), (1, some (42, .ds [iD ak, iD ar, D.sl (dI .i64 a) n, iD az])), (2, some (42, .ds [iD bk, iD br, D.sl (dI .i64 b) m, iD bz]))]) 3 (iV (c9 wk ak bk)) (kH [(0, some (42, .ds [iD wk, iD wr, D.sl (dI .i64 w) o, iD wz])), (1, some (42, .ds [iD ak, iD ar, D.sl (dI .i64 a) n, iD az])), (2, some (42, .ds [iD bk, iD br, D.sl (dI .i64 b) m, iD bz]))]) 3 := by
 refine Fun.mk (n := 14) Tryz.func118 rfl rfl (ka4 rfl) ?_
 intro cx hcx
 refine kK [.no] True [(0, rV 0 0), (1, rV 1 0), (2, rV 2 0)] [(0, some (42, .ds [iD wk, iD wr, dl w o, iD wz])), (1, some (42, .ds [iD ak, iD ar, dl a n, iD az])), (2, some (42, .ds [iD bk, iD br, dl b m, iD bz]))] 3 trivial ?_
 have hx1 : ((((-1) : Int) ≤ (c9 wk ak bk)) ∧ ((c9 wk ak bk) ≤ 1)) := i6 wk ak bk
 refine kT (qN 9 [.call [] (iV (c9 wk ak bk)) [] 0 [] none, .no]) _ [(3, iV (c9 wk ak bk))] (t8 wk ak bk) ?_
 refine AW.ret ?_
 exact kB (.inr rfl) [] (P := (kS (c9 wk ak bk)) ∧ (kN [iD wk, iD wr, dl w o, iD wz]) ∧ (kN [iD ak, iD ar, dl a n, iD az]) ∧ (kN [iD bk, iD br, dl b m, iD bz])) zk ⟨rfl, rfl, rfl, rfl⟩
theorem u8g (wk wr wz ak ar az bk br bz : Int) (w a b : List Int) (o n m : Nat) (ho : ka0 w = o) (hn : ka0 a = n) (hm : ka0 b = m) (h1 : o ≤ 1000000) (h2 : n ≤ 1000000) (h3 : m ≤ 1000000) (hwr : -9223372036854775808 ≤ wr ∧ wr ≤ 9223372036854775807) (har : -9223372036854775808 ≤ ar ∧ ar ≤ 9223372036854775807) (hbr : -9223372036854775808 ≤ br ∧ br ≤ 9223372036854775807) (hwz : -9223372036854775808 ≤ wz ∧ wz ≤ 9223372036854775807) (haz : -9223372036854775808 ≤ az ∧ az ≤ 9223372036854775807) (hbz : -9223372036854775808 ≤ bz ∧ bz ≤ 9223372036854775807) : Fun 119 [.c (.ptr 0 0), .c (.ptr 1 0), .c (.ptr 2 0)] (kH [(0, some (42, .ds [iD wk, iD wr, D.sl (dI .i64 w) o, iD wz])), (1, some (42, .ds [iD ak, iD ar, D.sl (dI .i64 a) n, iD az])), (2, some (42, .ds [iD bk, iD br, D.sl (dI .i64 b) m, iD bz]))]) 3 (iV (cE wr ar br)) (kH [(0, some (42, .ds [iD wk, iD wr, D.sl (dI .i64 w) o, iD wz])), (1, some (42, .ds [iD ak, iD ar, D.sl (dI .i64 a) n, iD az])), (2, some (42, .ds [iD bk, iD br, D.sl (dI .i64 b) m, iD bz]))]) 3 := by
 refine Fun.mk (n := 14) Tryz.func119 rfl rfl (ka4 rfl) ?_
 intro cx hcx
 refine kK [.no] True [(0, rV 0 0), (1, rV 1 0), (2, rV 2 0)] [(0, some (42, .ds [iD wk, iD wr, dl w o, iD wz])), (1, some (42, .ds [iD ak, iD ar, dl a n, iD az])), (2, some (42, .ds [iD bk, iD br, dl b m, iD bz]))] 3 trivial ?_
 have hx1 : ((((-1) : Int) ≤ (cE wr ar br)) ∧ ((cE wr ar br) ≤ 1)) := f7 wr ar br
 refine kT (qN 9 [.call [] (iV (cE wr ar br)) [] 0 [] none, .no]) _ [(3, iV (cE wr ar br))] (u05 wr ar br zo zo zo) ?_
 refine AW.ret ?_
 exact kB (.inr rfl) [] (P := (kS (cE wr ar br)) ∧ (kN [iD wk, iD wr, dl w o, iD wz]) ∧ (kN [iD ak, iD ar, dl a n, iD az]) ∧ (kN [iD bk, iD br, dl b m, iD bz])) zk ⟨rfl, rfl, rfl, rfl⟩
theorem u8f (wk wr wz ak ar az bk br bz : Int) (w a b : List Int) (o n m : Nat) (ho : ka0 w = o) (hn : ka0 a = n) (hm : ka0 b = m) (h1 : o ≤ 1000000) (h2 : n ≤ 1000000) (h3 : m ≤ 1000000) (hwr : -9223372036854775808 ≤ wr ∧ wr ≤ 9223372036854775807) (har : -9223372036854775808 ≤ ar ∧ ar ≤ 9223372036854775807) (hbr : -9223372036854775808 ≤ br ∧ br ≤ 9223372036854775807) (hwz : -9223372036854775808 ≤ wz ∧ wz ≤ 9223372036854775807) (haz : -9223372036854775808 ≤ az ∧ az ≤ 9223372036854775807) (hbz : -9223372036854775808 ≤ bz ∧ bz ≤ 9223372036854775807) : Fun 121 [.c (.ptr 0 0), .c (.ptr 1 0), .c (.ptr 2 0)] (kH [(0, some (42, .ds [iD wk, iD wr, D.sl (dI .i64 w) o, iD wz])), (1, some (42, .ds [iD ak, iD ar, D.sl (dI .i64 a) n, iD az])), (2, some (42, .ds [iD bk, iD br, D.sl (dI .i64 b) m, iD bz]))]) 3 (iV (c8 w a b)) (kH [(0, some (42, .ds [iD wk, iD wr, D.sl (dI .i64 w) o, iD wz])), (1, some (42, .ds [iD ak, iD ar, D.sl (dI .i64 a) n, iD az])), (2, some (42, .ds [iD bk, iD br, D.sl (dI .i64 b) m, iD bz]))]) 3 := by
 refine Fun.mk (n := 14) Tryz.func121 rfl rfl (ka4 rfl) ?_
 intro cx hcx
 refine kK [.no] True [(0, rV 0 0), (1, rV 1 0), (2, rV 2 0)] [(0, some (42, .ds [iD wk, iD wr, dl w o, iD wz])), (1, some (42, .ds [iD ak, iD ar, dl a n, iD az])), (2, some (42, .ds [iD bk, iD br, dl b m, iD bz]))] 3 trivial ?_
 have hx1 : ((((-1) : Int) ≤ (c8 w a b)) ∧ ((c8 w a b) ≤ 1)) := f8 w a b
 refine kT (qN 9 [.call [] (iV (c8 w a b)) [] 0 [] none, .no]) _ [(3, iV (c8 w a b))] (u06 w a b o n m zo zo zo zo zo zo) ?_
 refine AW.ret ?_
 exact kB (.inr rfl) [] (P := (kS (c8 w a b)) ∧ (kN [iD wk, iD wr, dl w o, iD wz]) ∧ (kN [iD ak, iD ar, dl a n, iD az]) ∧ (kN [iD bk, iD br, dl b m, iD bz])) zk ⟨rfl, rfl, rfl, rfl⟩
theorem u8e (wk wr wz ak ar az bk br bz : Int) (w a b : List Int) (o n m : Nat) (ho : ka0 w = o) (hn : ka0 a = n) (hm : ka0 b = m) (h1 : o ≤ 1000000) (h2 : n ≤ 1000000) (h3 : m ≤ 1000000) (hwr : -9223372036854775808 ≤ wr ∧ wr ≤ 9223372036854775807) (har : -9223372036854775808 ≤ ar ∧ ar ≤ 9223372036854775807) (hbr : -9223372036854775808 ≤ br ∧ br ≤ 9223372036854775807) (hwz : -9223372036854775808 ≤ wz ∧ wz ≤ 9223372036854775807) (haz : -9223372036854775808 ≤ az ∧ az ≤ 9223372036854775807) (hbz : -9223372036854775808 ≤ bz ∧ bz ≤ 9223372036854775807) : Fun 122 [.c (.ptr 0 0), .c (.ptr 1 0), .c (.ptr 2 0)] (kH [(0, some (42, .ds [iD wk, iD wr, D.sl (dI .i64 w) o, iD wz])), (1, some (42, .ds [iD ak, iD ar, D.sl (dI .i64 a) n, iD az])), (2, some (42, .ds [iD bk, iD br, D.sl (dI .i64 b) m, iD bz]))]) 3 (iV (cE wz az bz)) (kH [(0, some (42, .ds [iD wk, iD wr, D.sl (dI .i64 w) o, iD wz])), (1, some (42, .ds [iD ak, iD ar, D.sl (dI .i64 a) n, iD az])), (2, some (42, .ds [iD bk, iD br, D.sl (dI .i64 b) m, iD bz]))]) 3 := by
 refine Fun.mk (n := 11) Tryz.func122 rfl rfl (ka4 rfl) ?_
 intro cx hcx
 refine kK [.no] True [(0, rV 0 0), (1, rV 1 0), (2, rV 2 0)] [(0, some (42, .ds [iD wk, iD wr, dl w o, iD wz])), (1, some (42, .ds [iD ak, iD ar, dl a n, iD az])), (2, some (42, .ds [iD bk, iD br, dl b m, iD bz]))] 3 trivial ?_
 have hx1 : ((((-1) : Int) ≤ (cE wz az bz)) ∧ ((cE wz az bz) ≤ 1)) := f7 wz az bz
 refine kT (qN 6 [.call [] (iV (cE wz az bz)) [] 0 [] none, .no]) _ [(3, iV (cE wz az bz))] (u05 wz az bz zo zo zo) ?_
 refine AW.ret ?_
 exact kB (.inr rfl) [] (P := (kS (cE wz az bz)) ∧ (kN [iD wk, iD wr, dl w o, iD wz]) ∧ (kN [iD ak, iD ar, dl a n, iD az]) ∧ (kN [iD bk, iD br, dl b m, iD bz])) zk ⟨rfl, rfl, rfl, rfl⟩
abbrev fZ : BC := .cs [.fn 118 [(0, 0), (1, 0), (2, 0)], .fn 119 [(0, 0), (1, 0), (2, 0)], .fn 121 [(0, 0), (1, 0), (2, 0)], .fn 122 [(0, 0), (1, 0), (2, 0)]]
abbrev bC (wk : Int) (wr : Int) (w : List Int) (o : Nat) (wz : Int) : BC := .ds [iD wk, iD wr, D.sl (dI .i64 w) o, iD wz]
abbrev bB (ak : Int) (ar : Int) (a : List Int) (n : Nat) (az : Int) : BC := .ds [iD ak, iD ar, D.sl (dI .i64 a) n, iD az]
abbrev bA (bk : Int) (br : Int) (b : List Int) (m : Nat) (bz : Int) : BC := .ds [iD bk, iD br, D.sl (dI .i64 b) m, iD bz]
theorem rG (wk wr wz ak ar az bk br bz : Int) (w a b : List Int) (o n m : Nat) (ho : ka0 w = o) (hn : ka0 a = n) (hm : ka0 b = m) (h1 : o ≤ 1000000) (h2 : n ≤ 1000000) (h3 : m ≤ 1000000) (hwr : -9223372036854775808 ≤ wr ∧ wr ≤ 9223372036854775807) (har : -9223372036854775808 ≤ ar ∧ ar ≤ 9223372036854775807) (hbr : -9223372036854775808 ≤ br ∧ br ≤ 9223372036854775807) (hwz : -9223372036854775808 ≤ wz ∧ wz ≤ 9223372036854775807) (haz : -9223372036854775808 ≤ az ∧ az ≤ 9223372036854775807) (hbz : -9223372036854775808 ≤ bz ∧ bz ≤ 9223372036854775807) : Fun 79 [.agg [iC wk, iC wr, .d (D.sl (dI .i64 w) o), iC wz], .agg [iC ak, iC ar, .d (D.sl (dI .i64 a) n), iC az], .agg [iC bk, iC br, .d (D.sl (dI .i64 b) m), iC bz]] (kH []) 0 (iV (mP wk wr wz ak ar az bk br bz w a b)) (kH []) 0 := by
 refine Fun.mk (n := 28) Tryz.func79 rfl rfl (ka4 rfl) ?_
 intro cx hcx
 refine kK (qN 4 []) True [(3, rV 0 0), (4, rV 1 0), (5, rV 2 0)] [(0, some (42, (bC wk wr w o wz))), (1, some (42, (bB ak ar a n az))), (2, some (42, (bA bk br b m bz)))] 3 trivial ?_
 refine kK (qN 6 []) True [(7, oV 3 0 4 1)] [(0, some (42, (bC wk wr w o wz))), (1, some (42, (bB ak ar a n az))), (2, some (42, (bA bk br b m bz))), (3, some (140, fZ))] 4 trivial ?_
 refine AW.seq ?_
 refine kT [.no, .no, .no] True [(16, oV 3 0 4 1), (17, iV 4), (18, iV 0)] trivial ?_
 refine AW.block ?_
 refine AW.rounds 5 ?_
 refine AWr.s ?_
 refine kK [.b true] (((0 : Int) < 4)) [(16, oV 3 0 4 1), (17, iV 4), (18, iV 0), (19, bV true)] [(0, some (42, (bC wk wr w o wz))), (1, some (42, (bB ak ar a n az))), (2, some (42, (bA bk br b m bz))), (3, some (140, fZ))] 4 zo ?_
 refine AW.seq ?_
 refine vR ?_
 refine AW.seq ?_
 refine AW.block ?_
 refine kT [.n2 0 0, .no, .no] ((kS 0) ∧ ((0 : Nat) < 4) ∧ ((0 : Nat) + 0 * 1 = 0)) [(9, .e (.c (.fn 118 [(0, 0), (1, 0), (2, 0)]))), (16, oV 3 0 4 1), (17, iV 4), (18, iV 0)] ⟨rfl, zo, zo⟩ ?_
 have hx1 : ((((-1) : Int) ≤ (c9 wk ak bk)) ∧ ((c9 wk ak bk) ≤ 1)) := i6 wk ak bk
 refine kT [.no, .call [0, 1, 2] (iV (c9 wk ak bk)) [(0, some (42, (bC wk wr w o wz))), (1, some (42, (bB ak ar a n az))), (2, some (42, (bA bk br b m bz)))] 3 [] none, .no] _ [(10, iV (c9 wk ak bk)), (16, oV 3 0 4 1), (17, iV 4), (18, iV 0)] (u8h wk wr wz ak ar az bk br bz w a b o n m zo zo zo zo zo zo zo zo zo zo zo zo) ?_
 by_cases hx2 : ((c9 wk ak bk) ≠ 0)
 ·refine kT [.no, .b true] (((c9 wk ak bk) ≠ 0)) [(10, iV (c9 wk ak bk)), (16, oV 3 0 4 1), (17, iV 4), (18, iV 0), (25, bV true)] zo ?_
  refine zt ?_
  refine kK [.no, .no] True [(6, iV (c9 wk ak bk))] [] 4 trivial ?_
  refine AW.ret ?_
  exact kB (.inr rfl) [] (P := (((mP wk wr wz ak ar az bk br bz w a b) : Int) = (c9 wk ak bk))) zk (by unfold mP yF; (repeat' split) <;> first | omega | contradiction | rfl)
 ·refine kT [.no, .b false] (¬ ((c9 wk ak bk) ≠ 0)) [(10, iV (c9 wk ak bk)), (16, oV 3 0 4 1), (17, iV 4), (18, iV 0), (25, bV false)] zo ?_
  refine yA ?_
  refine yT [.w, .no] (yQ (1 : Int)) [(16, oV 3 0 4 1), (17, iV 4), (18, iV 1)] ⟨by omega, by omega⟩ ?_
  refine AWr.s ?_
  refine kK [.b true] (((1 : Int) < 4)) [(16, oV 3 0 4 1), (17, iV 4), (18, iV 1), (19, bV true)] [(0, some (42, (bC wk wr w o wz))), (1, some (42, (bB ak ar a n az))), (2, some (42, (bA bk br b m bz))), (3, some (140, fZ))] 4 zo ?_
  refine AW.seq ?_
  refine vR ?_
  refine AW.seq ?_
  refine AW.block ?_
  refine kT [.n2 1 1, .no, .no] ((kS 1) ∧ ((1 : Nat) < 4) ∧ ((0 : Nat) + 1 * 1 = 1)) [(9, .e (.c (.fn 119 [(0, 0), (1, 0), (2, 0)]))), (16, oV 3 0 4 1), (17, iV 4), (18, iV 1)] ⟨rfl, zo, zo⟩ ?_
  have hx3 : ((((-1) : Int) ≤ (cE wr ar br)) ∧ ((cE wr ar br) ≤ 1)) := f7 wr ar br
  refine kT [.no, .call [0, 1, 2] (iV (cE wr ar br)) [(0, some (42, (bC wk wr w o wz))), (1, some (42, (bB ak ar a n az))), (2, some (42, (bA bk br b m bz)))] 3 [] none, .no] _ [(10, iV (cE wr ar br)), (16, oV 3 0 4 1), (17, iV 4), (18, iV 1)] (u8g wk wr wz ak ar az bk br bz w a b o n m zo zo zo zo zo zo zo zo zo zo zo zo) ?_
  by_cases hx4 : ((cE wr ar br) ≠ 0)
  ·refine kT [.no, .b true] (((cE wr ar br) ≠ 0)) [(10, iV (cE wr ar br)), (16, oV 3 0 4 1), (17, iV 4), (18, iV 1), (25, bV true)] zo ?_
   refine zt ?_
   refine kK [.no, .no] True [(6, iV (cE wr ar br))] [] 4 trivial ?_
   refine AW.ret ?_
   exact kB (.inr rfl) [] (P := (((mP wk wr wz ak ar az bk br bz w a b) : Int) = (cE wr ar br))) zk (by unfold mP yF; (repeat' split) <;> first | omega | contradiction | rfl)
  ·refine kT [.no, .b false] (¬ ((cE wr ar br) ≠ 0)) [(10, iV (cE wr ar br)), (16, oV 3 0 4 1), (17, iV 4), (18, iV 1), (25, bV false)] zo ?_
   refine yA ?_
   refine yT [.w, .no] (yQ (2 : Int)) [(16, oV 3 0 4 1), (17, iV 4), (18, iV 2)] ⟨by omega, by omega⟩ ?_
   refine AWr.s ?_
   refine kK [.b true] (((2 : Int) < 4)) [(16, oV 3 0 4 1), (17, iV 4), (18, iV 2), (19, bV true)] [(0, some (42, (bC wk wr w o wz))), (1, some (42, (bB ak ar a n az))), (2, some (42, (bA bk br b m bz))), (3, some (140, fZ))] 4 zo ?_
   refine AW.seq ?_
   refine vR ?_
   refine AW.seq ?_
   refine AW.block ?_
   refine kT [.n2 2 2, .no, .no] ((kS 2) ∧ ((2 : Nat) < 4) ∧ ((0 : Nat) + 2 * 1 = 2)) [(9, .e (.c (.fn 121 [(0, 0), (1, 0), (2, 0)]))), (16, oV 3 0 4 1), (17, iV 4), (18, iV 2)] ⟨rfl, zo, zo⟩ ?_
   have hx5 : ((((-1) : Int) ≤ (c8 w a b)) ∧ ((c8 w a b) ≤ 1)) := f8 w a b
   refine kT [.no, .call [0, 1, 2] (iV (c8 w a b)) [(0, some (42, (bC wk wr w o wz))), (1, some (42, (bB ak ar a n az))), (2, some (42, (bA bk br b m bz)))] 3 [] none, .no] _ [(10, iV (c8 w a b)), (16, oV 3 0 4 1), (17, iV 4), (18, iV 2)] (u8f wk wr wz ak ar az bk br bz w a b o n m zo zo zo zo zo zo zo zo zo zo zo zo) ?_
   by_cases hx6 : ((c8 w a b) ≠ 0)
   ·refine kT [.no, .b true] (((c8 w a b) ≠ 0)) [(10, iV (c8 w a b)), (16, oV 3 0 4 1), (17, iV 4), (18, iV 2), (25, bV true)] zo ?_
    refine zt ?_
    refine kK [.no, .no] True [(6, iV (c8 w a b))] [] 4 trivial ?_
    refine AW.ret ?_
    exact kB (.inr rfl) [] (P := (((mP wk wr wz ak ar az bk br bz w a b) : Int) = (c8 w a b))) zk (by unfold mP yF; (repeat' split) <;> first | omega | contradiction | rfl)
   ·refine kT [.no, .b false] (¬ ((c8 w a b) ≠ 0)) [(10, iV (c8 w a b)), (16, oV 3 0 4 1), (17, iV 4), (18, iV 2), (25, bV false)] zo ?_
    refine yA ?_
    refine yT [.w, .no] (yQ (3 : Int)) [(16, oV 3 0 4 1), (17, iV 4), (18, iV 3)] ⟨by omega, by omega⟩ ?_
    refine AWr.s ?_
    refine kK [.b true] (((3 : Int) < 4)) [(16, oV 3 0 4 1), (17, iV 4), (18, iV 3), (19, bV true)] [(0, some (42, (bC wk wr w o wz))), (1, some (42, (bB ak ar a n az))), (2, some (42, (bA bk br b m bz))), (3, some (140, fZ))] 4 zo ?_
    refine AW.seq ?_
    refine vR ?_
    refine AW.seq ?_
    refine AW.block ?_
    refine kT [.n2 3 3, .no, .no] ((kS 3) ∧ ((3 : Nat) < 4) ∧ ((0 : Nat) + 3 * 1 = 3)) [(9, .e (.c (.fn 122 [(0, 0), (1, 0), (2, 0)]))), (16, oV 3 0 4 1), (17, iV 4), (18, iV 3)] ⟨rfl, zo, zo⟩ ?_
    have hx7 : ((((-1) : Int) ≤ (cE wz az bz)) ∧ ((cE wz az bz) ≤ 1)) := f7 wz az bz
    refine kT [.no, .call [0, 1, 2] (iV (cE wz az bz)) [(0, some (42, (bC wk wr w o wz))), (1, some (42, (bB ak ar a n az))), (2, some (42, (bA bk br b m bz)))] 3 [] none, .no] _ [(10, iV (cE wz az bz)), (16, oV 3 0 4 1), (17, iV 4), (18, iV 3)] (u8e wk wr wz ak ar az bk br bz w a b o n m zo zo zo zo zo zo zo zo zo zo zo zo) ?_
    by_cases hx8 : ((cE wz az bz) ≠ 0)
    ·refine kT [.no, .b true] (((cE wz az bz) ≠ 0)) [(10, iV (cE wz az bz)), (16, oV 3 0 4 1), (17, iV 4), (18, iV 3), (25, bV true)] zo ?_
     refine zt ?_
     refine kK [.no, .no] True [(6, iV (cE wz az bz))] [] 4 trivial ?_
     refine AW.ret ?_
     exact kB (.inr rfl) [] (P := (((mP wk wr wz ak ar az bk br bz w a b) : Int) = (cE wz az bz))) zk (by unfold mP yF; (repeat' split) <;> first | omega | contradiction | rfl)
    ·refine kT [.no, .b false] (¬ ((cE wz az bz) ≠ 0)) [(10, iV (cE wz az bz)), (16, oV 3 0 4 1), (17, iV 4), (18, iV 3), (25, bV false)] zo ?_
     refine yA ?_
     refine yT [.w, .no] (yQ (4 : Int)) [(16, oV 3 0 4 1), (17, iV 4), (18, iV 4)] ⟨by omega, by omega⟩ ?_
     refine AWr.s ?_
     refine kK [.b false] (¬ ((4 : Int) < 4)) [(16, oV 3 0 4 1), (17, iV 4), (18, iV 4), (19, bV false)] [(0, some (42, (bC wk wr w o wz))), (1, some (42, (bB ak ar a n az))), (2, some (42, (bA bk br b m bz))), (3, some (140, fZ))] 4 zo ?_
     refine AW.seq ?_
     refine zf ?_
     refine AW.exit ?_
     refine kK [.no] True [(6, iV 0)] [] 4 trivial ?_
     refine AW.ret ?_
     exact kB (.inr rfl) [] (P := (((mP wk wr wz ak ar az bk br bz w a b) : Int) = 0)) zk (by unfold mP yF; (repeat' split) <;> first | omega | contradiction | rfl)
end Go.Proofs.YtbicifcgghmhaaaGreat
