/- Choices compared. No statement is proved here. -/
import Derived.Test.YtbicifcgghmhaaaGreatZL06
namespace Go.Proofs.YtbicifcgghmhaaaGreat
open Go.ChangeShapes Go.WideShapes Go.ChangeAt Go.RowKit
open Int renaming le_refl → kd1, natCast_nonneg → km1
open List renaming drop → ka3, drop_eq_getElem_cons → kd4, drop_eq_nil_of_le → kf8, getD → ka1, getD_eq_getElem?_getD → ka6, getElem?_eq_getElem → ka7, length → ka0
open Nat renaming le_of_ble_eq_true → ka4
set_option linter.unusedVariables false
set_option linter.unusedSimpArgs false
/-! chapter 10: how choices are compared -/
set_option maxHeartbeats 4000000
set_option maxRecDepth 100000
structure Cmp {α : Type} (f : α → α → Int) : Prop where
 anti : ∀ a b, f a b = - f b a
 tr : ∀ a b c, f a b ≤ 0 → f b c ≤ 0 → f a c ≤ 0
theorem Cmp.zero {α : Type} {f : α → α → Int} (h : Cmp f) (a : α) : f a a = 0 := by
 have := h.anti a a; omega
def yB (a b : Int) : Int := if a = 0 then b else a
theorem iB {a b : Int} : yB a b = 0 ↔ a = 0 ∧ b = 0 := by
 unfold yB; split <;> omega
theorem k1w {a b : Int} (h : ¬ a = 0) : yB a b = a := if_neg h
theorem o7 {a b : Int} (h : a = 0) : yB a b = b := if_pos h
theorem Cmp.lex {α : Type} {f g : α → α → Int} (hf : Cmp f) (hg : Cmp g) : Cmp (fun a b => yB (f a b) (g a b)) := by
 constructor
 ·intro a b
  have h1 := hf.anti a b; have h2 := hg.anti a b
  show yB _ _ = - yB _ _
  unfold yB
  by_cases h : f a b = 0
  ·rw [if_pos h, if_pos (by omega)]; exact h2
  ·rw [if_neg h, if_neg (by omega)]; exact h1
 ·intro a b c h1 h2
  have a1 := hf.anti a b; have a2 := hf.anti b c; have a3 := hf.anti a c
  have f1 : f a b ≤ 0 := by unfold yB at h1; split at h1 <;> omega
  have f2 : f b c ≤ 0 := by unfold yB at h2; split at h2 <;> omega
  have f3 := hf.tr a b c f1 f2
  show yB _ _ ≤ 0
  unfold yB
  by_cases h : f a c = 0
  ·have x1 := hf.tr c a b (by omega) f1
   have x2 := hf.tr b c a f2 (by omega)
   have y1 := hf.anti c b
   have y2 := hf.anti b a
   have z1 : f a b = 0 := by omega
   have z2 : f b c = 0 := by omega
   rw [if_pos h]
   simp only [yB, if_pos z1] at h1
   simp only [yB, if_pos z2] at h2
   exact hg.tr a b c h1 h2
  ·rw [if_neg h]; omega
def u9 (a b : Int) : Int := if a < b then -1 else if a = b then 0 else 1
theorem eA {a b : Int} : u9 a b = 0 ↔ a = b := by
 unfold u9; (repeat' split) <;> omega
theorem fV (a b : Int) : -1 ≤ u9 a b ∧ u9 a b ≤ 1 := by
 unfold u9; (repeat' split) <;> omega
theorem gU {a b : Int} : u9 a b ≤ 0 ↔ a ≤ b := by
 unfold u9; (repeat' split) <;> omega
theorem nO (a b : Int) : u9 a b = - u9 b a := by
 unfold u9; (repeat' split) <;> omega
theorem tR {α : Type} (k : α → Int) : Cmp (fun a b => u9 (k a) (k b)) :=
 ⟨fun a b => nO _ _, fun a b c h1 h2 => by
  have h1 := gU.1 h1; have h2 := gU.1 h2
  exact gU.2 (by omega)⟩
theorem zD {α : Type} (k : α → Int) : Cmp (fun a b => u9 (k b) (k a)) :=
 ⟨fun a b => nO _ _, fun a b c h1 h2 => by
  have h1 := gU.1 h1; have h2 := gU.1 h2
  exact gU.2 (by omega)⟩
def bH (p q : Bool) : Int := if p = q then 0 else if p = true then -1 else 1
theorem k2k {p q : Bool} : bH p q = 0 ↔ p = q := by
 cases p <;> cases q <;> decide
theorem dX (p q : Bool) : -1 ≤ bH p q ∧ bH p q ≤ 1 := by
 cases p <;> cases q <;> decide
theorem Cmp.first {α : Type} (p : α → Bool) : Cmp (fun a b => bH (p a) (p b)) :=
 ⟨fun a b => by cases p a <;> cases p b <;> decide, fun a b c => by cases p a <;> cases p b <;> cases p c <;> decide⟩
def cL : List Int → List Int → Int
 | [], [] => 0
 | [], _ :: _ => -1
 | _ :: _, [] => 1
 | a :: r, b :: s => yB (u9 a b) (cL r s)
theorem k7a : ∀ {a b : List Int}, cL a b = 0 ↔ a = b
 | [], [] => by simp [cL]
 | [], _ :: _ => by simp [cL]
 | _ :: _, [] => by simp [cL]
 | a :: r, b :: s => by
  show yB _ _ = 0 ↔ _
  rw [iB, eA, k7a, List.cons.injEq]
theorem sH : ∀ (a b : List Int), -1 ≤ cL a b ∧ cL a b ≤ 1
 | [], [] => by decide
 | [], _ :: _ => by simp [cL]
 | _ :: _, [] => by simp [cL]
 | a :: r, b :: s => by
  have h1 := fV a b; have h2 := sH r s
  show -1 ≤ yB _ _ ∧ yB _ _ ≤ 1
  unfold yB; split <;> omega
theorem w7 : ∀ (a b : List Int), cL a b = - cL b a
 | [], [] => by decide
 | [], _ :: _ => by simp [cL]
 | _ :: _, [] => by simp [cL]
 | a :: r, b :: s => by
  have h1 := nO a b; have h2 := w7 r s
  show yB _ _ = - yB _ _
  unfold yB; (repeat' split) <;> omega
theorem k7b : ∀ (a b c : List Int), cL a b ≤ 0 → cL b c ≤ 0 → cL a c ≤ 0
 | [], [], c => fun _ h => h
 | [], _ :: _, [] => fun _ _ => by decide
 | [], _ :: _, _ :: _ => fun _ _ => by simp [cL]
 | _ :: _, [], _ => fun h => by simp [cL] at h
 | _ :: _, _ :: _, [] => fun _ h => by simp [cL] at h
 | a :: r, b :: s, c :: t => by
  intro h1 h2
  have ih := k7b r s t
  have h1 : yB (u9 a b) (cL r s) ≤ 0 := h1
  have h2 : yB (u9 b c) (cL s t) ≤ 0 := h2
  show yB (u9 a c) (cL r t) ≤ 0
  unfold yB at h1 h2 ⊢
  unfold u9 at h1 h2 ⊢
  (repeat' split at h1) <;> (repeat' split at h2) <;> (repeat' split) <;> first | omega | (exact ih (by assumption) (by assumption))
theorem u24 {a b : List Int} {k : Nat} {x : Int} (h : x = cL (ka3 k a) (ka3 k b)) (h1 : k < a.length) (h2 : k < b.length) (h3 : u9 (ka1 a k 0) (ka1 b k 0) = 0) : x = cL (ka3 (k + 1) a) (ka3 (k + 1) b) := by
 have e1 : ka1 a k 0 = a[k] := by rw [ka6, ka7 h1]; rfl
 have e2 : ka1 b k 0 = b[k] := by rw [ka6, ka7 h2]; rfl
 rw [h, kd4 h1, kd4 h2]
 show yB (u9 a[k] b[k]) _ = _
 rw [e1, e2] at h3
 exact o7 h3
theorem v1u {a b : List Int} {k : Nat} {x : Int} (h : x = cL (ka3 k a) (ka3 k b)) (h1 : k < a.length) (h2 : k < b.length) (h3 : ¬ u9 (ka1 a k 0) (ka1 b k 0) = 0) : x = u9 (ka1 a k 0) (ka1 b k 0) := by
 have e1 : ka1 a k 0 = a[k] := by rw [ka6, ka7 h1]; rfl
 have e2 : ka1 b k 0 = b[k] := by rw [ka6, ka7 h2]; rfl
 rw [h, kd4 h1, kd4 h2]
 show yB (u9 a[k] b[k]) _ = _
 rw [e1, e2] at h3 ⊢
 exact k1w h3
theorem v1w {a b : List Int} {k : Nat} {x : Int} (h : x = cL (ka3 k a) (ka3 k b)) (h1 : k < a.length) (h2 : b.length ≤ k) : x = 1 := by
 rw [h, kd4 h1, kf8 h2]; rfl
theorem v1v {a b : List Int} {k : Nat} {x : Int} (h : x = cL (ka3 k a) (ka3 k b)) (h1 : a.length ≤ k) (h2 : k < b.length) : x = -1 := by
 rw [h, kd4 h2, kf8 h1]; rfl
theorem v1x {a b : List Int} {k : Nat} {x : Int} (h : x = cL (ka3 k a) (ka3 k b)) (h1 : a.length ≤ k) (h2 : b.length ≤ k) : x = 0 := by
 rw [h, kf8 h2, kf8 h1]; rfl
theorem u1e {α : Type} (k : α → List Int) : Cmp (fun a b => cL (k a) (k b)) :=
 ⟨fun _ _ => w7 _ _, fun _ _ _ => k7b _ _ _⟩
def eF (a b : Int) : Int := if a > b then a - b else b - a
theorem u66 (a b : Int) : 0 ≤ eF a b := by unfold eF; split <;> omega
theorem u65 {a b : Int} : eF a b = 0 ↔ a = b := by unfold eF; split <;> omega
def bQ (w a b : Int) : Int := yB (u9 (eF w a) (eF w b)) (u9 a b)
def b7 (w a b : Int) : Int := yB (bH (decide (a = w)) (decide (b = w))) (u9 b a)
def l4 (w m : List Int) : Int := ((xR w m (ka0 m)).length : Int)
def bX (w a b : List Int) : Int := yB (bH (aJ a w) (aJ b w)) (yB (u9 (l4 w b) (l4 w a)) (yB (u9 (a.length : Int) (b.length : Int)) (cL a b)))
theorem cV {a b : Int} (h1 : -1 ≤ a ∧ a ≤ 1) (h2 : -1 ≤ b ∧ b ≤ 1) : -1 ≤ yB a b ∧ yB a b ≤ 1 := by
 unfold yB; split <;> assumption
theorem fM (w a b : Int) : -1 ≤ bQ w a b ∧ bQ w a b ≤ 1 := cV (fV _ _) (fV _ _)
theorem iL (w a b : Int) : -1 ≤ b7 w a b ∧ b7 w a b ≤ 1 := cV (dX _ _) (fV _ _)
theorem fO (w a b : List Int) : -1 ≤ bX w a b ∧ bX w a b ≤ 1 := cV (dX _ _) (cV (fV _ _) (cV (fV _ _) (sH _ _)))
theorem k1b {a b : Int} (ha : -9223372036854775808 ≤ a ∧ a ≤ 9223372036854775807) (hb : -9223372036854775808 ≤ b ∧ b ≤ 9223372036854775807) (h : b ≤ a) : IntKind.u64.wrap (IntKind.u64.wrap a - IntKind.u64.wrap b) = a - b := by
 show ((a % 18446744073709551616) - (b % 18446744073709551616)) % 18446744073709551616 = a - b
 omega
theorem v6m {a b : Int} (ha : -9223372036854775808 ≤ a ∧ a ≤ 9223372036854775807) (hb : -9223372036854775808 ≤ b ∧ b ≤ 9223372036854775807) : eF a b = IntKind.u64.wrap (IntKind.u64.wrap (max a b) - IntKind.u64.wrap (min a b)) := by
 unfold eF
 by_cases h : a > b
 ·rw [if_pos h, Int.max_eq_left (by omega), Int.min_eq_right (by omega), k1b ha hb (by omega)]
 ·rw [if_neg h, Int.max_eq_right (by omega), Int.min_eq_left (by omega), k1b hb ha (by omega)]
theorem k22 (w : Int) : Cmp (bQ w) := (tR (fun a => eF w a)).lex (tR id)
theorem iM (w : Int) : Cmp (b7 w) := (Cmp.first (fun a => decide (a = w))).lex (zD id)
theorem iI (w : List Int) : Cmp (bX w) :=
 (Cmp.first (fun a => aJ a w)).lex ((zD (l4 w)).lex ((tR (fun a : List Int => (a.length : Int))).lex (u1e id)))
theorem u4s {w a b : Int} : bQ w a b = 0 ↔ a = b := by
 unfold bQ; rw [iB, eA, eA]
 exact ⟨fun h => h.2, fun h => ⟨by rw [h], h⟩⟩
theorem v23 {w a b : Int} : b7 w a b = 0 ↔ a = b := by
 unfold b7; rw [iB, k2k, eA]
 exact ⟨fun h => h.2.symm, fun h => ⟨by rw [h], h.symm⟩⟩
theorem v1p {w a b : List Int} : bX w a b = 0 ↔ a = b := by
 unfold bX; rw [iB, iB, iB, k2k, eA, eA, k7a]
 exact ⟨fun h => h.2.2.2, fun h => ⟨by rw [h], by rw [h], by rw [h], h⟩⟩
structure Co where
 k : Int
 r : Int
 m : List Int
 s : Int
def n4 (w a b : Co) : Int := yB (b7 w.k a.k b.k) (yB (bQ w.r a.r b.r) (yB (bX w.m a.m b.m) (bQ w.s a.s b.s)))
theorem u3c (w a b : Co) : -1 ≤ n4 w a b ∧ n4 w a b ≤ 1 := cV (iL _ _ _) (cV (fM _ _ _) (cV (fO _ _ _) (fM _ _ _)))
theorem Cmp.via {α β : Type} {f : α → α → Int} (h : Cmp f) (k : β → α) : Cmp (fun a b => f (k a) (k b)) :=
 ⟨fun _ _ => h.anti _ _, fun _ _ _ => h.tr _ _ _⟩
theorem iU (w : Co) : Cmp (n4 w) :=
 ((iM w.k).via Co.k).lex (((k22 w.r).via Co.r).lex (((iI w.m).via Co.m).lex ((k22 w.s).via Co.s)))
theorem v2m {w a b : Co} : n4 w a b = 0 ↔ a = b := by
 unfold n4; rw [iB, iB, iB, v23, u4s, v1p, u4s]
 cases a; cases b
 simp only [Co.mk.injEq]
theorem wQ (w x : Int) : bQ w w x ≤ 0 := by
 unfold bQ
 have h0 : eF w w = 0 := u65.2 rfl
 have h1 : 0 ≤ eF w x := by unfold eF; split <;> omega
 rw [h0]
 by_cases h : eF w x = 0
 ·have := u65.1 h
  subst this
  rw [o7 (eA.2 h.symm), eA.2 rfl]; exact kd1 0
 ·have h2 : u9 0 (eF w x) ≤ 0 := gU.2 h1
  rw [k1w (fun h3 => h (eA.1 h3).symm)]; exact h2
theorem k80 {α : Type} [DecidableEq α] {w x : α} (h : ¬ x = w) : bH (decide (w = w)) (decide (x = w)) = -1 := by
 rw [decide_eq_true rfl, decide_eq_false h]; decide
theorem k7f (w x : Int) : b7 w w x ≤ 0 := by
 unfold b7
 by_cases h : x = w
 ·subst h; rw [o7 (k2k.2 rfl), eA.2 rfl]; exact kd1 0
 ·rw [k80 h, k1w (by decide)]; decide
theorem k6x (w x : List Int) : bX w w x ≤ 0 := by
 unfold bX
 by_cases h : x = w
 ·subst h; rw [o7 (k2k.2 rfl), o7 (eA.2 rfl), o7 (eA.2 rfl), k7a.2 rfl]; exact kd1 0
 ·rw [v06 w, z6 h, show bH true false = -1 from rfl, k1w (by decide)]; decide
theorem k9t (w x : Co) : n4 w w x ≤ 0 := by
 have h1 := k7f w.k x.k; have h2 := wQ w.r x.r; have h3 := k6x w.m x.m; have h4 := wQ w.s x.s
 unfold n4 yB
 (repeat' split) <;> omega
theorem u8u (w x y z : Co) : n4 w x y = - n4 w y x ∧ (n4 w x y = 0 ↔ x = y) ∧ (n4 w x y > 0 ∨ n4 w y z > 0 ∨ n4 w x z ≤ 0) ∧ n4 w w x ≤ 0 := by
 refine ⟨(iU w).anti x y, v2m, ?_, k9t w x⟩
 by_cases h1 : n4 w x y > 0
 ·exact .inl h1
 by_cases h2 : n4 w y z > 0
 ·exact .inr (.inl h2)
 exact .inr (.inr ((iU w).tr x y z (by omega) (by omega)))
def pO (wk wr wz ak ar az bk br bz : Int) (w a b : List Int) : Int := yB (b7 wk ak bk) (yB (bQ wr ar br) (yB (bX w a b) (bQ wz az bz)))
theorem k2t (wk wr wz ak ar az bk br bz : Int) (w a b : List Int) : -1 ≤ pO wk wr wz ak ar az bk br bz w a b ∧ pO wk wr wz ak ar az bk br bz w a b ≤ 1 := u3c ⟨wk, wr, w, wz⟩ ⟨ak, ar, a, az⟩ ⟨bk, br, b, bz⟩
theorem pU (a : Int)  : Fun 164 [iE a] (kF []) 0 (bV false) (kF []) 0 := by
 refine Fun.mk (n := 6) Tryz.func164 rfl rfl (ka4 rfl) ?_
 intro cx hcx
 refine kH [.no] True [(0, iV a)] [] 0 trivial ?_
 refine kS [.no, .no, .b false, .no] (¬ (a ≠ a)) [(2, bV false)] zo ?_
 refine AW.ret ?_
 exact kA (.inr rfl) [] (P := (false = false)) zk rfl
theorem jF {p : Prop} (h : p := by (unfold u9; (repeat' split) <;> omega)) : p := h
theorem aM (a b : Int)  : Fun 146 [iE a, iE b] (kF []) 0 (iV (u9 a b)) (kF []) 0 := by
 refine Fun.mk (n := 20) Tryz.func146 rfl rfl (ka4 rfl) ?_
 intro cx hcx
 refine kH [.no] True [(0, iV a), (1, iV b)] [] 0 trivial ?_
 refine kS [.no, .call [] (bV false) [] 0 [] none, .no] _ [(0, iV a), (1, iV b), (5, bV false)] (pU a) ?_
 refine kS [.no, .call [] (bV false) [] 0 [] none, .no] _ [(0, iV a), (1, iV b), (5, bV false), (6, bV false)] (pU b) ?_
 refine AW.seq ?_
 refine kS [.no] True [(0, iV a), (1, iV b), (6, bV false), (11, bV false)] trivial ?_
 refine uO ?_
 refine AW.seq ?_
 refine kS [.no] True [(0, iV a), (1, iV b), (13, bV false)] trivial ?_
 refine uO ?_
 refine AW.seq ?_
 by_cases hx1 : (a < b)
 ·refine kS [.no, .no, .b true] ((a < b)) [(0, iV a), (1, iV b), (16, bV true)] zo ?_
  refine zt ?_
  refine kS [.no] True [(4, iV (-1))] trivial ?_
  refine AW.ret ?_
  exact kA (.inr rfl) [] (P := (((u9 a b) : Int) = (-1))) zk jF
 ·refine kS [.no, .no, .b false] (¬ (a < b)) [(0, iV a), (1, iV b), (16, bV false)] zo ?_
  refine uO ?_
  refine AW.seq ?_
  by_cases hx2 : (b < a)
  ·refine kS [.no, .no, .b true] ((b < a)) [(19, bV true)] zo ?_
   refine zt ?_
   refine kS [.no] True [(4, iV 1)] trivial ?_
   refine AW.ret ?_
   exact kA (.inr rfl) [] (P := (((u9 a b) : Int) = 1)) zk jF
  ·refine kS [.no, .no, .b false] (¬ (b < a)) [(19, bV false)] zo ?_
   refine uO ?_
   refine kS [.no] True [(4, iV 0)] trivial ?_
   refine AW.ret ?_
   exact kA (.inr rfl) [] (P := (((u9 a b) : Int) = 0)) zk jF
theorem pT (a : Int)  : Fun 166 [.c (.d (D.lit (.int .u64 a)))] (kF []) 0 (bV false) (kF []) 0 := by
 refine Fun.mk (n := 6) Tryz.func166 rfl rfl (ka4 rfl) ?_
 intro cx hcx
 refine kH [.no] True [(0, uW (D.lit (.int .u64 a)))] [] 0 trivial ?_
 refine kS [.no, .no, .b false, .no] (¬ (a ≠ a)) [(2, bV false)] zo ?_
 refine AW.ret ?_
 exact kA (.inr rfl) [] (P := (false = false)) zk rfl
theorem k4o (a b : Int)  : Fun 152 [.c (.d (D.lit (.int .u64 a))), .c (.d (D.lit (.int .u64 b)))] (kF []) 0 (iV (u9 a b)) (kF []) 0 := by
 refine Fun.mk (n := 20) Tryz.func152 rfl rfl (ka4 rfl) ?_
 intro cx hcx
 refine kH [.no] True [(0, uW (D.lit (.int .u64 a))), (1, uW (D.lit (.int .u64 b)))] [] 0 trivial ?_
 refine kS [.no, .call [] (bV false) [] 0 [] none, .no] _ [(0, uW (D.lit (.int .u64 a))), (1, uW (D.lit (.int .u64 b))), (5, bV false)] (pT a) ?_
 refine kS [.no, .call [] (bV false) [] 0 [] none, .no] _ [(0, uW (D.lit (.int .u64 a))), (1, uW (D.lit (.int .u64 b))), (5, bV false), (6, bV false)] (pT b) ?_
 refine AW.seq ?_
 refine kS [.no] True [(0, uW (D.lit (.int .u64 a))), (1, uW (D.lit (.int .u64 b))), (6, bV false), (11, bV false)] trivial ?_
 refine uO ?_
 refine AW.seq ?_
 refine kS [.no] True [(0, uW (D.lit (.int .u64 a))), (1, uW (D.lit (.int .u64 b))), (13, bV false)] trivial ?_
 refine uO ?_
 refine AW.seq ?_
 by_cases hx1 : (a < b)
 ·refine kS [.no, .no, .b true] ((a < b)) [(0, uW (D.lit (.int .u64 a))), (1, uW (D.lit (.int .u64 b))), (16, bV true)] zo ?_
  refine zt ?_
  refine kS [.no] True [(4, iV (-1))] trivial ?_
  refine AW.ret ?_
  exact kA (.inr rfl) [] (P := (((u9 a b) : Int) = (-1))) zk jF
 ·refine kS [.no, .no, .b false] (¬ (a < b)) [(0, uW (D.lit (.int .u64 a))), (1, uW (D.lit (.int .u64 b))), (16, bV false)] zo ?_
  refine uO ?_
  refine AW.seq ?_
  by_cases hx2 : (b < a)
  ·refine kS [.no, .no, .b true] ((b < a)) [(19, bV true)] zo ?_
   refine zt ?_
   refine kS [.no] True [(4, iV 1)] trivial ?_
   refine AW.ret ?_
   exact kA (.inr rfl) [] (P := (((u9 a b) : Int) = 1)) zk jF
  ·refine kS [.no, .no, .b false] (¬ (b < a)) [(19, bV false)] zo ?_
   refine uO ?_
   refine kS [.no] True [(4, iV 0)] trivial ?_
   refine AW.ret ?_
   exact kA (.inr rfl) [] (P := (((u9 a b) : Int) = 0)) zk jF
theorem k4k   : Fun 145 [.c (.d (D.lit (.bool true))), .c (.d (D.lit (.bool true)))] (kF []) 0 (iV 0) (kF []) 0 := by
 refine Fun.mk (n := 11) Tryz.func145 rfl rfl (ka4 rfl) ?_
 intro cx hcx
 refine kH [.no] True [(0, bV true), (1, bV true)] [] 0 trivial ?_
 refine AW.seq ?_
 refine AW.block ?_
 refine kS (qE 4 []) True [(0, bV true), (5, bV true)] trivial ?_
 refine zt ?_
 refine kS [.no] True [(4, iV 0)] trivial ?_
 refine AW.ret ?_
 exact kA (.inr rfl) [] (P := (kM 0)) zk rfl
theorem k4l   : Fun 145 [.c (.d (D.lit (.bool true))), .c (.d (D.lit (.bool false)))] (kF []) 0 (iV (-1)) (kF []) 0 := by
 refine Fun.mk (n := 11) Tryz.func145 rfl rfl (ka4 rfl) ?_
 intro cx hcx
 refine kH [.no] True [(0, bV true), (1, bV false)] [] 0 trivial ?_
 refine AW.seq ?_
 refine AW.block ?_
 refine kS (qE 4 []) True [(0, bV true), (5, bV false)] trivial ?_
 refine zf ?_
 refine kS [.no, .no] True [(9, bV true)] trivial ?_
 refine zt ?_
 refine kS [.no] True [(4, iV (-1))] trivial ?_
 refine AW.ret ?_
 exact kA (.inr rfl) [] (P := (kM (-1))) zk rfl
theorem k4m   : Fun 145 [.c (.d (D.lit (.bool false))), .c (.d (D.lit (.bool true)))] (kF []) 0 (iV 1) (kF []) 0 := by
 refine Fun.mk (n := 11) Tryz.func145 rfl rfl (ka4 rfl) ?_
 intro cx hcx
 refine kH [.no] True [(0, bV false), (1, bV true)] [] 0 trivial ?_
 refine AW.seq ?_
 refine AW.block ?_
 refine kS (qE 4 []) True [(0, bV false), (5, bV false)] trivial ?_
 refine zf ?_
 refine kS [.no, .no] True [(9, bV false)] trivial ?_
 refine uO ?_
 refine kS [.no] True [(4, iV 1)] trivial ?_
 refine AW.ret ?_
 exact kA (.inr rfl) [] (P := (kM 1)) zk rfl
theorem k4n   : Fun 145 [.c (.d (D.lit (.bool false))), .c (.d (D.lit (.bool false)))] (kF []) 0 (iV 0) (kF []) 0 := by
 refine Fun.mk (n := 11) Tryz.func145 rfl rfl (ka4 rfl) ?_
 intro cx hcx
 refine kH [.no] True [(0, bV false), (1, bV false)] [] 0 trivial ?_
 refine AW.seq ?_
 refine AW.block ?_
 refine kS (qE 4 []) True [(0, bV false), (5, bV true)] trivial ?_
 refine zt ?_
 refine kS [.no] True [(4, iV 0)] trivial ?_
 refine AW.ret ?_
 exact kA (.inr rfl) [] (P := (kM 0)) zk rfl
theorem i5 (p q : Bool) : Fun 145 [.c (.d (D.lit (.bool (p)))), .c (.d (D.lit (.bool (q))))] (kF []) 0 (iV (bH p q)) (kF []) 0 := by
 cases p <;> cases q
 ·exact k4n
 ·exact k4m
 ·exact k4l
 ·exact k4k
theorem u0s (a b : Int) (ha : -9223372036854775808 ≤ a ∧ a ≤ 9223372036854775807) (hb : -9223372036854775808 ≤ b ∧ b ≤ 9223372036854775807) : Fun 153 [iE a, iE b] (kF []) 0 (uW (D.lit (.int .u64 (eF a b)))) (kF []) 0 := by
 refine Fun.mk (n := 14) Tryz.func153 rfl rfl (ka4 rfl) ?_
 intro cx hcx
 refine kH [.no] True [(0, iV a), (1, iV b)] [] 0 trivial ?_
 refine kS (qE 10 []) True [(4, uW (D.lit (.int .u64 (IntKind.u64.wrap ((IntKind.u64.wrap (max a b)) - (IntKind.u64.wrap (min a b)))))))] trivial ?_
 refine AW.ret ?_
 exact kA (.inr rfl) [] (P := (((eF a b) : Int) = (IntKind.u64.wrap ((IntKind.u64.wrap (max a b)) - (IntKind.u64.wrap (min a b)))))) zk (by exact v6m ha hb)
theorem eQ {p : Prop} (h : p := by unfold yB; (repeat' split) <;> omega) : p := h
theorem x5 (x y : Int)  : Fun 144 [.c (.own 0 0 2 1 true)] (kF [(0, some (3, .ds [iD x, iD y]))]) 1 (iV (yB x y)) (kF [(0, some (3, .ds [iD x, iD y]))]) 1 := by
 refine Fun.mk (n := 18) Tryz.func144 rfl rfl (ka4 rfl) ?_
 intro cx hcx
 refine kH [.no] True [(0, oV 0 0 2 1)] [(0, some (3, .ds [iD x, iD y]))] 1 trivial ?_
 refine kS [.no] True [(0, oV 0 0 2 1), (3, iV 0)] trivial ?_
 refine AW.seq ?_
 refine kS [.no, .no, .no] True [(3, iV 0), (6, oV 0 0 2 1), (7, iV 2), (8, iV 0)] trivial ?_
 refine AW.block ?_
 refine AW.rounds 3 ?_
 refine AWr.s ?_
 refine kH [.b true] (((0 : Int) < 2)) [(3, iV 0), (6, oV 0 0 2 1), (7, iV 2), (8, iV 0), (9, bV true)] [(0, some (3, .ds [iD x, iD y]))] 1 zo ?_
 refine AW.seq ?_
 refine vL ?_
 refine AW.seq ?_
 refine AW.block ?_
 refine kS [.n2 0 0, .no, .no] ((kM 0) ∧ ((0 : Nat) < 2) ∧ ((0 : Nat) + 0 * 1 = 0)) [(3, iV 0), (5, iV x), (6, oV 0 0 2 1), (7, iV 2), (8, iV 0)] ⟨rfl, zo, zo⟩ ?_
 by_cases hx1 : (x ≠ 0)
 ·refine kS [.no, .no, .b true] ((x ≠ 0)) [(3, iV 0), (5, iV x), (6, oV 0 0 2 1), (7, iV 2), (8, iV 0), (14, bV true)] zo ?_
  refine zt ?_
  refine kS [.no, .no] True [(2, iV x)] trivial ?_
  refine AW.ret ?_
  exact kA (.inr rfl) [] (P := (((yB x y) : Int) = x) ∧ (kJ [iD x, iD y])) zk ⟨eQ, rfl⟩
 ·refine kS [.no, .no, .b false] (¬ (x ≠ 0)) [(3, iV 0), (5, iV x), (6, oV 0 0 2 1), (7, iV 2), (8, iV 0), (14, bV false)] zo ?_
  refine uO ?_
  refine yA [.w, .no] (u3 (1 : Int)) [(3, iV 0), (6, oV 0 0 2 1), (7, iV 2), (8, iV 1)] ⟨by omega, by omega⟩ ?_
  refine AWr.s ?_
  refine kH [.b true] (((1 : Int) < 2)) [(3, iV 0), (6, oV 0 0 2 1), (7, iV 2), (8, iV 1), (9, bV true)] [(0, some (3, .ds [iD x, iD y]))] 1 zo ?_
  refine AW.seq ?_
  refine vL ?_
  refine AW.seq ?_
  refine AW.block ?_
  refine kS [.n2 1 1, .no, .no] ((kM 1) ∧ ((1 : Nat) < 2) ∧ ((0 : Nat) + 1 * 1 = 1)) [(3, iV 0), (5, iV y), (6, oV 0 0 2 1), (7, iV 2), (8, iV 1)] ⟨rfl, zo, zo⟩ ?_
  by_cases hx2 : (y ≠ 0)
  ·refine kS [.no, .no, .b true] ((y ≠ 0)) [(3, iV 0), (5, iV y), (6, oV 0 0 2 1), (7, iV 2), (8, iV 1), (14, bV true)] zo ?_
   refine zt ?_
   refine kS [.no, .no] True [(2, iV y)] trivial ?_
   refine AW.ret ?_
   exact kA (.inr rfl) [] (P := (((yB x y) : Int) = y) ∧ (kJ [iD x, iD y])) zk ⟨eQ, rfl⟩
  ·refine kS [.no, .no, .b false] (¬ (y ≠ 0)) [(3, iV 0), (5, iV y), (6, oV 0 0 2 1), (7, iV 2), (8, iV 1), (14, bV false)] zo ?_
   refine uO ?_
   refine yA [.w, .no] (u3 (2 : Int)) [(3, iV 0), (6, oV 0 0 2 1), (7, iV 2), (8, iV 2)] ⟨by omega, by omega⟩ ?_
   refine AWr.s ?_
   refine kH [.b false] (¬ ((2 : Int) < 2)) [(3, iV 0), (6, oV 0 0 2 1), (7, iV 2), (8, iV 2), (9, bV false)] [(0, some (3, .ds [iD x, iD y]))] 1 zo ?_
   refine AW.seq ?_
   refine zf ?_
   refine AW.exit ?_
   refine kH [.no, .no] True [(2, iV 0)] [(0, some (3, .ds [iD x, iD y]))] 1 trivial ?_
   refine AW.ret ?_
   exact kA (.inr rfl) [] (P := (((yB x y) : Int) = 0) ∧ (kJ [iD x, iD y])) zk ⟨eQ, rfl⟩
theorem v3h (x y z u : Int)  : Fun 144 [.c (.own 0 0 4 1 true)] (kF [(0, some (3, .ds [iD x, iD y, iD z, iD u]))]) 1 (iV (yB x (yB y (yB z u)))) (kF [(0, some (3, .ds [iD x, iD y, iD z, iD u]))]) 1 := by
 refine Fun.mk (n := 18) Tryz.func144 rfl rfl (ka4 rfl) ?_
 intro cx hcx
 refine kH [.no] True [(0, oV 0 0 4 1)] [(0, some (3, .ds [iD x, iD y, iD z, iD u]))] 1 trivial ?_
 refine kS [.no] True [(0, oV 0 0 4 1), (3, iV 0)] trivial ?_
 refine AW.seq ?_
 refine kS [.no, .no, .no] True [(3, iV 0), (6, oV 0 0 4 1), (7, iV 4), (8, iV 0)] trivial ?_
 refine AW.block ?_
 refine AW.rounds 5 ?_
 refine AWr.s ?_
 refine kH [.b true] (((0 : Int) < 4)) [(3, iV 0), (6, oV 0 0 4 1), (7, iV 4), (8, iV 0), (9, bV true)] [(0, some (3, .ds [iD x, iD y, iD z, iD u]))] 1 zo ?_
 refine AW.seq ?_
 refine vL ?_
 refine AW.seq ?_
 refine AW.block ?_
 refine kS [.n2 0 0, .no, .no] ((kM 0) ∧ ((0 : Nat) < 4) ∧ ((0 : Nat) + 0 * 1 = 0)) [(3, iV 0), (5, iV x), (6, oV 0 0 4 1), (7, iV 4), (8, iV 0)] ⟨rfl, zo, zo⟩ ?_
 by_cases hx1 : (x ≠ 0)
 ·refine kS [.no, .no, .b true] ((x ≠ 0)) [(3, iV 0), (5, iV x), (6, oV 0 0 4 1), (7, iV 4), (8, iV 0), (14, bV true)] zo ?_
  refine zt ?_
  refine kS [.no, .no] True [(2, iV x)] trivial ?_
  refine AW.ret ?_
  exact kA (.inr rfl) [] (P := (((yB x (yB y (yB z u))) : Int) = x) ∧ (kJ [iD x, iD y, iD z, iD u])) zk ⟨eQ, rfl⟩
 ·refine kS [.no, .no, .b false] (¬ (x ≠ 0)) [(3, iV 0), (5, iV x), (6, oV 0 0 4 1), (7, iV 4), (8, iV 0), (14, bV false)] zo ?_
  refine uO ?_
  refine yA [.w, .no] (u3 (1 : Int)) [(3, iV 0), (6, oV 0 0 4 1), (7, iV 4), (8, iV 1)] ⟨by omega, by omega⟩ ?_
  refine AWr.s ?_
  refine kH [.b true] (((1 : Int) < 4)) [(3, iV 0), (6, oV 0 0 4 1), (7, iV 4), (8, iV 1), (9, bV true)] [(0, some (3, .ds [iD x, iD y, iD z, iD u]))] 1 zo ?_
  refine AW.seq ?_
  refine vL ?_
  refine AW.seq ?_
  refine AW.block ?_
  refine kS [.n2 1 1, .no, .no] ((kM 1) ∧ ((1 : Nat) < 4) ∧ ((0 : Nat) + 1 * 1 = 1)) [(3, iV 0), (5, iV y), (6, oV 0 0 4 1), (7, iV 4), (8, iV 1)] ⟨rfl, zo, zo⟩ ?_
  by_cases hx2 : (y ≠ 0)
  ·refine kS [.no, .no, .b true] ((y ≠ 0)) [(3, iV 0), (5, iV y), (6, oV 0 0 4 1), (7, iV 4), (8, iV 1), (14, bV true)] zo ?_
   refine zt ?_
   refine kS [.no, .no] True [(2, iV y)] trivial ?_
   refine AW.ret ?_
   exact kA (.inr rfl) [] (P := (((yB x (yB y (yB z u))) : Int) = y) ∧ (kJ [iD x, iD y, iD z, iD u])) zk ⟨eQ, rfl⟩
  ·refine kS [.no, .no, .b false] (¬ (y ≠ 0)) [(3, iV 0), (5, iV y), (6, oV 0 0 4 1), (7, iV 4), (8, iV 1), (14, bV false)] zo ?_
   refine uO ?_
   refine yA [.w, .no] (u3 (2 : Int)) [(3, iV 0), (6, oV 0 0 4 1), (7, iV 4), (8, iV 2)] ⟨by omega, by omega⟩ ?_
   refine AWr.s ?_
   refine kH [.b true] (((2 : Int) < 4)) [(3, iV 0), (6, oV 0 0 4 1), (7, iV 4), (8, iV 2), (9, bV true)] [(0, some (3, .ds [iD x, iD y, iD z, iD u]))] 1 zo ?_
   refine AW.seq ?_
   refine vL ?_
   refine AW.seq ?_
   refine AW.block ?_
   refine kS [.n2 2 2, .no, .no] ((kM 2) ∧ ((2 : Nat) < 4) ∧ ((0 : Nat) + 2 * 1 = 2)) [(3, iV 0), (5, iV z), (6, oV 0 0 4 1), (7, iV 4), (8, iV 2)] ⟨rfl, zo, zo⟩ ?_
   by_cases hx3 : (z ≠ 0)
   ·refine kS [.no, .no, .b true] ((z ≠ 0)) [(3, iV 0), (5, iV z), (6, oV 0 0 4 1), (7, iV 4), (8, iV 2), (14, bV true)] zo ?_
    refine zt ?_
    refine kS [.no, .no] True [(2, iV z)] trivial ?_
    refine AW.ret ?_
    exact kA (.inr rfl) [] (P := (((yB x (yB y (yB z u))) : Int) = z) ∧ (kJ [iD x, iD y, iD z, iD u])) zk ⟨eQ, rfl⟩
   ·refine kS [.no, .no, .b false] (¬ (z ≠ 0)) [(3, iV 0), (5, iV z), (6, oV 0 0 4 1), (7, iV 4), (8, iV 2), (14, bV false)] zo ?_
    refine uO ?_
    refine yA [.w, .no] (u3 (3 : Int)) [(3, iV 0), (6, oV 0 0 4 1), (7, iV 4), (8, iV 3)] ⟨by omega, by omega⟩ ?_
    refine AWr.s ?_
    refine kH [.b true] (((3 : Int) < 4)) [(3, iV 0), (6, oV 0 0 4 1), (7, iV 4), (8, iV 3), (9, bV true)] [(0, some (3, .ds [iD x, iD y, iD z, iD u]))] 1 zo ?_
    refine AW.seq ?_
    refine vL ?_
    refine AW.seq ?_
    refine AW.block ?_
    refine kS [.n2 3 3, .no, .no] ((kM 3) ∧ ((3 : Nat) < 4) ∧ ((0 : Nat) + 3 * 1 = 3)) [(3, iV 0), (5, iV u), (6, oV 0 0 4 1), (7, iV 4), (8, iV 3)] ⟨rfl, zo, zo⟩ ?_
    by_cases hx4 : (u ≠ 0)
    ·refine kS [.no, .no, .b true] ((u ≠ 0)) [(3, iV 0), (5, iV u), (6, oV 0 0 4 1), (7, iV 4), (8, iV 3), (14, bV true)] zo ?_
     refine zt ?_
     refine kS [.no, .no] True [(2, iV u)] trivial ?_
     refine AW.ret ?_
     exact kA (.inr rfl) [] (P := (((yB x (yB y (yB z u))) : Int) = u) ∧ (kJ [iD x, iD y, iD z, iD u])) zk ⟨eQ, rfl⟩
    ·refine kS [.no, .no, .b false] (¬ (u ≠ 0)) [(3, iV 0), (5, iV u), (6, oV 0 0 4 1), (7, iV 4), (8, iV 3), (14, bV false)] zo ?_
     refine uO ?_
     refine yA [.w, .no] (u3 (4 : Int)) [(3, iV 0), (6, oV 0 0 4 1), (7, iV 4), (8, iV 4)] ⟨by omega, by omega⟩ ?_
     refine AWr.s ?_
     refine kH [.b false] (¬ ((4 : Int) < 4)) [(3, iV 0), (6, oV 0 0 4 1), (7, iV 4), (8, iV 4), (9, bV false)] [(0, some (3, .ds [iD x, iD y, iD z, iD u]))] 1 zo ?_
     refine AW.seq ?_
     refine zf ?_
     refine AW.exit ?_
     refine kH [.no, .no] True [(2, iV 0)] [(0, some (3, .ds [iD x, iD y, iD z, iD u]))] 1 trivial ?_
     refine AW.ret ?_
     exact kA (.inr rfl) [] (P := (((yB x (yB y (yB z u))) : Int) = 0) ∧ (kJ [iD x, iD y, iD z, iD u])) zk ⟨eQ, rfl⟩
theorem u0q (w a b : Int) (hw : -9223372036854775808 ≤ w ∧ w ≤ 9223372036854775807) (ha : -9223372036854775808 ≤ a ∧ a ≤ 9223372036854775807) (hb : -9223372036854775808 ≤ b ∧ b ≤ 9223372036854775807) : Fun 120 [iE w, iE a, iE b] (kF []) 0 (iV (bQ w a b)) (kF []) 0 := by
 refine Fun.mk (n := 19) Tryz.func120 rfl rfl (ka4 rfl) ?_
 intro cx hcx
 refine kH [.no] True [(0, iV w), (1, iV a), (2, iV b)] [] 0 trivial ?_
 have hx1 : ((0 : Int) ≤ (eF w a)) := u66 w a
 have hx2 : ((0 : Int) ≤ (eF w b)) := u66 w b
 refine kH [.no, .no, .call [] (uW (D.lit (.int .u64 (eF w a)))) [] 0 [] none, .no, .no, .call [] (uW (D.lit (.int .u64 (eF w b)))) [] 0 [] none, .call [] (iV (u9 (eF w a) (eF w b))) [] 0 [] none, .no, .no, .call [] (iV (u9 a b)) [] 0 [] none, .no, .call [0] (iV (yB (u9 (eF w a) (eF w b)) (u9 a b))) [(0, some (3, .ds [iD (u9 (eF w a) (eF w b)), iD (u9 a b)]))] 1 [] none, .no] ((_) ∧ (_) ∧ (_) ∧ (_) ∧ (_)) [(6, iV (yB (u9 (eF w a) (eF w b)) (u9 a b)))] [] 1 ⟨(u0s w a zo zo), (u0s w b zo zo), (k4o (eF w a) (eF w b)), (aM a b), (x5 (u9 (eF w a) (eF w b)) (u9 a b))⟩ ?_
 refine AW.ret ?_
 exact kA (.inr rfl) [] (P := (((bQ w a b) : Int) = (yB (u9 (eF w a) (eF w b)) (u9 a b)))) zk (by rfl)
theorem tL (w a b : Int)  : Fun 113 [iE w, iE a, iE b] (kF []) 0 (iV (b7 w a b)) (kF []) 0 := by
 refine Fun.mk (n := 19) Tryz.func113 rfl rfl (ka4 rfl) ?_
 intro cx hcx
 refine kH [.no] True [(0, iV w), (1, iV a), (2, iV b)] [] 0 trivial ?_
 by_cases hx1 : (a = w)
 ·by_cases hx2 : (b = w)
  ·have hx3 : ((((-1) : Int) ≤ (bH true true)) ∧ ((bH true true) ≤ 1)) := dX true true
   refine kH [.no, .no, .b true, .no, .no, .b true, .call [] (iV (bH true true)) [] 0 [] none, .no, .no, .call [] (iV (u9 b a)) [] 0 [] none, .no, .call [0] (iV (yB (bH true true) (u9 b a))) [(0, some (3, .ds [iD (bH true true), iD (u9 b a)]))] 1 [] none, .no] (((a = w)) ∧ ((b = w)) ∧ (_) ∧ (_) ∧ (_)) [(6, iV (yB (bH true true) (u9 b a)))] [] 1 ⟨zo, zo, (i5 true true), (aM b a), (x5 (bH true true) (u9 b a))⟩ ?_
   refine AW.ret ?_
   exact kA (.inr rfl) [] (P := (((b7 w a b) : Int) = (yB (bH true true) (u9 b a)))) zk (by (unfold b7; (unfold yB bH u9; (repeat' split) <;> simp_all <;> omega)))
  ·have hx4 : ((((-1) : Int) ≤ (bH true false)) ∧ ((bH true false) ≤ 1)) := dX true false
   refine kH [.no, .no, .b true, .no, .no, .b false, .call [] (iV (bH true false)) [] 0 [] none, .no, .no, .call [] (iV (u9 b a)) [] 0 [] none, .no, .call [0] (iV (yB (bH true false) (u9 b a))) [(0, some (3, .ds [iD (bH true false), iD (u9 b a)]))] 1 [] none, .no] (((a = w)) ∧ (¬ (b = w)) ∧ (_) ∧ (_) ∧ (_)) [(6, iV (yB (bH true false) (u9 b a)))] [] 1 ⟨zo, zo, (i5 true false), (aM b a), (x5 (bH true false) (u9 b a))⟩ ?_
   refine AW.ret ?_
   exact kA (.inr rfl) [] (P := (((b7 w a b) : Int) = (yB (bH true false) (u9 b a)))) zk (by (unfold b7; (unfold yB bH u9; (repeat' split) <;> simp_all <;> omega)))
 ·by_cases hx5 : (b = w)
  ·have hx6 : ((((-1) : Int) ≤ (bH false true)) ∧ ((bH false true) ≤ 1)) := dX false true
   refine kH [.no, .no, .b false, .no, .no, .b true, .call [] (iV (bH false true)) [] 0 [] none, .no, .no, .call [] (iV (u9 b a)) [] 0 [] none, .no, .call [0] (iV (yB (bH false true) (u9 b a))) [(0, some (3, .ds [iD (bH false true), iD (u9 b a)]))] 1 [] none, .no] ((¬ (a = w)) ∧ ((b = w)) ∧ (_) ∧ (_) ∧ (_)) [(6, iV (yB (bH false true) (u9 b a)))] [] 1 ⟨zo, zo, (i5 false true), (aM b a), (x5 (bH false true) (u9 b a))⟩ ?_
   refine AW.ret ?_
   exact kA (.inr rfl) [] (P := (((b7 w a b) : Int) = (yB (bH false true) (u9 b a)))) zk (by (unfold b7; (unfold yB bH u9; (repeat' split) <;> simp_all <;> omega)))
  ·have hx7 : ((((-1) : Int) ≤ (bH false false)) ∧ ((bH false false) ≤ 1)) := dX false false
   refine kH [.no, .no, .b false, .no, .no, .b false, .call [] (iV (bH false false)) [] 0 [] none, .no, .no, .call [] (iV (u9 b a)) [] 0 [] none, .no, .call [0] (iV (yB (bH false false) (u9 b a))) [(0, some (3, .ds [iD (bH false false), iD (u9 b a)]))] 1 [] none, .no] ((¬ (a = w)) ∧ (¬ (b = w)) ∧ (_) ∧ (_) ∧ (_)) [(6, iV (yB (bH false false) (u9 b a)))] [] 1 ⟨zo, zo, (i5 false false), (aM b a), (x5 (bH false false) (u9 b a))⟩ ?_
   refine AW.ret ?_
   exact kA (.inr rfl) [] (P := (((b7 w a b) : Int) = (yB (bH false false) (u9 b a)))) zk (by (unfold b7; (unfold yB bH u9; (repeat' split) <;> simp_all <;> omega)))
theorem u92 (a b : List Int) (n m : Nat) (hn : ka0 a = n) (hm : ka0 b = m) (h2 : n ≤ 1000000) (h3 : m ≤ 1000000) : Fun 151 [.c (.d (D.sl (dI .i64 a) n)), .c (.d (D.sl (dI .i64 b) m))] (kF []) 0 (iV (cL a b)) (kF []) 0 := by
 refine Fun.mk (n := 36) Tryz.func151 rfl rfl (ka4 rfl) ?_
 intro cx hcx
 refine kH [.no] True [(0, sV .i64 a n), (1, sV .i64 b m)] [] 0 trivial ?_
 refine AW.seq ?_
 refine kS [.no, .no, .no] True [(0, sV .i64 a n), (1, sV .i64 b m), (9, sV .i64 a n), (10, uV n), (11, iV 0)] trivial ?_
 refine AW.block ?_
 refine k8 0 hcx (fun (x : {x : Nat // match x with | k => (k ≤ n ∧ k ≤ m) ∧ (cL a b = cL (ka3 k a) (ka3 k b))}) => match x with | ⟨k, _⟩ => (⟨[(0, sV .i64 a n), (1, sV .i64 b m), (9, sV .i64 a n), (10, uV n), (11, uV k)], [], 0⟩ : ES)) (fun x => match x with | ⟨k, _⟩ => n - k) ⟨(0 : Nat), ⟨zo, rfl⟩⟩ [] (P := (kJ (dI .i64 a)) ∧ (kG n) ∧ (kJ (dI .i64 b)) ∧ (kG m) ∧ (kJ (dI .i64 a)) ∧ (kG n) ∧ (kM (n : Int)) ∧ (kM 0)) zk ⟨rfl, rfl, rfl, rfl, rfl, rfl, rfl, rfl⟩ ?_
 rintro ⟨k, hinv0⟩
 obtain ⟨hk, hx⟩ : (k ≤ n ∧ k ≤ m) ∧ (cL a b = cL (ka3 k a) (ka3 k b)) := hinv0
 refine qW (l := [(0, sV .i64 a n), (1, sV .i64 b m), (9, sV .i64 a n), (10, uV n), (11, uV k)]) (g := []) (nx := 0) rfl rfl rfl ?_
 by_cases hx1 : (((k : Nat) : Int) < ((n : Nat) : Int))
 ·refine kH [.b true] (((k : Int) < (n : Int))) [(0, sV .i64 a n), (1, sV .i64 b m), (9, sV .i64 a n), (10, uV n), (11, uV k), (12, bV true)] [] 0 zo ?_
  refine AW.seq ?_
  refine vL ?_
  refine AW.seq ?_
  refine AW.block ?_
  refine kS [.no, .n k, .d (D.lit (.int .i64 (ka1 a k 0))), .no, .no] ((kM (k : Int)) ∧ (k < n) ∧ ((ka3 k (dI .i64 a))[0]? = some (D.lit (.int .i64 (ka1 a k 0))))) [(0, sV .i64 a n), (1, sV .i64 b m), (5, uV k), (6, iV (ka1 a k 0)), (9, sV .i64 a n), (10, uV n), (11, uV k)] ⟨rfl, zo, (yF _ _ _ zo)⟩ ?_
  refine AW.seq ?_
  by_cases hx2 : (((m : Nat) : Int) ≤ ((k : Nat) : Int))
  ·refine kS [.no, .no, .no, .b true] (((m : Int) ≤ (k : Int))) [(0, sV .i64 a n), (1, sV .i64 b m), (5, uV k), (6, iV (ka1 a k 0)), (9, sV .i64 a n), (10, uV n), (11, uV k), (19, bV true)] zo ?_
   refine zt ?_
   refine kS [.no] True [(4, iV 1)] trivial ?_
   refine AW.ret ?_
   exact kA (.inr rfl) [] (P := (((cL a b) : Int) = 1)) zk (by exact (v1w hx zo zo))
  ·refine kS [.no, .no, .no, .b false] (¬ ((m : Int) ≤ (k : Int))) [(0, sV .i64 a n), (1, sV .i64 b m), (5, uV k), (6, iV (ka1 a k 0)), (9, sV .i64 a n), (10, uV n), (11, uV k), (19, bV false)] zo ?_
   refine uO ?_
   refine kS [.no, .no, .n k, .d (D.lit (.int .i64 (ka1 b k 0))), .no] ((kM (k : Int)) ∧ (k < m) ∧ ((ka3 k (dI .i64 b))[0]? = some (D.lit (.int .i64 (ka1 b k 0))))) [(0, sV .i64 a n), (1, sV .i64 b m), (6, iV (ka1 a k 0)), (7, iV (ka1 b k 0)), (9, sV .i64 a n), (10, uV n), (11, uV k)] ⟨rfl, zo, (yF _ _ _ zo)⟩ ?_
   refine kS [.no, .no, .call [] (iV (u9 (ka1 a k 0) (ka1 b k 0))) [] 0 [] none, .no] _ [(0, sV .i64 a n), (1, sV .i64 b m), (8, iV (u9 (ka1 a k 0) (ka1 b k 0))), (9, sV .i64 a n), (10, uV n), (11, uV k)] (aM (ka1 a k 0) (ka1 b k 0)) ?_
   by_cases hx3 : ((u9 (ka1 a k 0) (ka1 b k 0)) ≠ 0)
   ·refine kS [.no, .b true] (((u9 (ka1 a k 0) (ka1 b k 0)) ≠ 0)) [(0, sV .i64 a n), (1, sV .i64 b m), (8, iV (u9 (ka1 a k 0) (ka1 b k 0))), (9, sV .i64 a n), (10, uV n), (11, uV k), (28, bV true)] zo ?_
    refine zt ?_
    refine kS [.no, .no] True [(4, iV (u9 (ka1 a k 0) (ka1 b k 0)))] trivial ?_
    refine AW.ret ?_
    exact kA (.inr rfl) [] (P := (((cL a b) : Int) = (u9 (ka1 a k 0) (ka1 b k 0)))) zk (by exact (v1u hx zo zo zo))
   ·refine kS [.no, .b false] (¬ ((u9 (ka1 a k 0) (ka1 b k 0)) ≠ 0)) [(0, sV .i64 a n), (1, sV .i64 b m), (8, iV (u9 (ka1 a k 0) (ka1 b k 0))), (9, sV .i64 a n), (10, uV n), (11, uV k), (28, bV false)] zo ?_
    refine uO ?_
    refine yA [.w, .no] (u3 ((k : Int) + 1)) [(0, sV .i64 a n), (1, sV .i64 b m), (9, sV .i64 a n), (10, uV n), (11, iV (↑k + 1))] ⟨by omega, by omega⟩ ?_
    exact kW ⟨((k + 1) : Nat), ⟨zo, (u24 hx zo zo zo)⟩⟩ [] (P := (kJ (dI .i64 a)) ∧ (kG n) ∧ (kJ (dI .i64 b)) ∧ (kG m) ∧ (kJ (dI .i64 a)) ∧ (kG n) ∧ (kM (n : Int)) ∧ (bU k)) zk ⟨rfl, rfl, rfl, rfl, rfl, rfl, rfl, (by rfl)⟩ (show n - (k + 1) < n - k from zo)
 ·refine kH [.b false] (¬ ((k : Int) < (n : Int))) [(0, sV .i64 a n), (1, sV .i64 b m), (9, sV .i64 a n), (10, uV n), (11, uV k), (12, bV false)] [] 0 zo ?_
  refine AW.seq ?_
  refine zf ?_
  refine AW.exit ?_
  refine AW.seq ?_
  by_cases hx4 : (((n : Nat) : Int) < ((m : Nat) : Int))
  ·refine kH (qE 4 [.b true]) (((n : Int) < (m : Int))) [(35, bV true)] [] 0 zo ?_
   refine zt ?_
   refine kS [.no] True [(4, iV (-1))] trivial ?_
   refine AW.ret ?_
   exact kA (.inr rfl) [] (P := (((cL a b) : Int) = (-1))) zk (by exact (v1v hx zo zo))
  ·refine kH (qE 4 [.b false]) (¬ ((n : Int) < (m : Int))) [(35, bV false)] [] 0 zo ?_
   refine uO ?_
   refine kS [.no] True [(4, iV 0)] trivial ?_
   refine AW.ret ?_
   exact kA (.inr rfl) [] (P := (((cL a b) : Int) = 0)) zk (by exact (v1x hx zo zo))
theorem xZ (w a : List Int) (o n : Nat) (ho : ka0 w = o) (hn : ka0 a = n) (h1 : o ≤ 1000000) (h2 : n ≤ 1000000) : Fun 149 [.c (.d (D.sl (dI .i64 a) n)), .c (.ptr 0 0)] (kF [(0, some (38, .ds [D.sl (dI .i64 w) o]))]) 1 (iV (l4 w a)) (kF [(0, some (38, .ds [D.sl (dI .i64 w) o]))]) 1 := by
 refine Fun.mk (n := 8) Tryz.func149 rfl rfl (ka4 rfl) ?_
 intro cx hcx
 refine kH [.no] True [(0, sV .i64 a n), (1, rV 0 0)] [(0, some (38, .ds [dl w o]))] 1 trivial ?_
 have hx1 : ((ka0 (xR w a n)) ≤ o) := (by have h9 := k2s w a n; omega)
 refine kS [.no, .no, .call [] (sV .i64 (xR w a n) (ka0 (xR w a n))) [] 0 [] none, .no, .no] _ [(3, uV (ka0 (xR w a n)))] (u0v w a o n zo zo zo zo) ?_
 refine AW.ret ?_
 exact kA (.inr rfl) [] (P := (((l4 w a) : Int) = (ka0 (xR w a n) : Int)) ∧ (kJ [dl w o])) zk ⟨(by (unfold l4; rw [hn])), rfl⟩
theorem u0r (w a b : List Int) (o n m : Nat) (ho : ka0 w = o) (hn : ka0 a = n) (hm : ka0 b = m) (h1 : o ≤ 1000000) (h2 : n ≤ 1000000) (h3 : m ≤ 1000000) : Fun 117 [.c (.d (D.sl (dI .i64 w) o)), .c (.d (D.sl (dI .i64 a) n)), .c (.d (D.sl (dI .i64 b) m))] (kF []) 0 (iV (bX w a b)) (kF []) 0 := by
 refine Fun.mk (n := 33) Tryz.func117 rfl rfl (ka4 rfl) ?_
 intro cx hcx
 refine kH [.no, .no] True [(1, sV .i64 a n), (2, sV .i64 b m), (3, rV 0 0)] [(0, some (38, .ds [dl w o]))] 1 trivial ?_
 refine kS [.no, .no] True [(1, sV .i64 a n), (2, sV .i64 b m), (3, rV 0 0), (7, .e (.c (.fn 149 [(0, 0)])))] trivial ?_
 have hx1 : ((((-1) : Int) ≤ (bH (aJ a w) (aJ b w))) ∧ ((bH (aJ a w) (aJ b w)) ≤ 1)) := dX (aJ a w) (aJ b w)
 have hx2 : ((0 : Int) ≤ (l4 w b)) := km1 _
 have hx3 : ((0 : Int) ≤ (l4 w a)) := km1 _
 have hx4 : ((((-1) : Int) ≤ (cL a b)) ∧ ((cL a b) ≤ 1)) := sH a b
 refine kH [.no, .no, .call [] (uW (D.lit (.bool (aJ a w)))) [] 0 [] none, .no, .no, .call [] (uW (D.lit (.bool (aJ b w)))) [] 0 [] none, .call [] (iV (bH (aJ a w) (aJ b w))) [] 0 [] none, .no, .no, .call [0] (iV (l4 w b)) [(0, some (38, .ds [dl w o]))] 1 [] none, .no, .no, .call [0] (iV (l4 w a)) [(0, some (38, .ds [dl w o]))] 1 [] none, .call [] (iV (u9 (l4 w b) (l4 w a))) [] 0 [] none, .no, .no, .no, .no, .call [] (iV (u9 (n : Int) (m : Int))) [] 0 [] none, .no, .no, .call [] (iV (cL a b)) [] 0 [] none, .no, .call [1] (iV (yB (bH (aJ a w) (aJ b w)) (yB (u9 (l4 w b) (l4 w a)) (yB (u9 (n : Int) (m : Int)) (cL a b))))) [(0, some (3, .ds [iD (bH (aJ a w) (aJ b w)), iD (u9 (l4 w b) (l4 w a)), iD (u9 (n : Int) (m : Int)), iD (cL a b)]))] 1 [] none, .no] ((_) ∧ (_) ∧ (_) ∧ (_) ∧ (_) ∧ (_) ∧ (_) ∧ (_) ∧ (_)) [(6, iV (yB (bH (aJ a w) (aJ b w)) (yB (u9 (l4 w b) (l4 w a)) (yB (u9 ↑n ↑m) (cL a b)))))] [] 2 ⟨(tN a w n o zo zo zo zo), (tN b w m o zo zo zo zo), (i5 (aJ a w) (aJ b w)), (xZ w b o m zo zo zo zo), (xZ w a o n zo zo zo zo), (aM (l4 w b) (l4 w a)), (aM (n : Int) (m : Int)), (u92 a b n m zo zo zo zo), (v3h (bH (aJ a w) (aJ b w)) (u9 (l4 w b) (l4 w a)) (u9 (n : Int) (m : Int)) (cL a b))⟩ ?_
 refine AW.ret ?_
 exact kA (.inr rfl) [] (P := (((bX w a b) : Int) = (yB (bH (aJ a w) (aJ b w)) (yB (u9 (l4 w b) (l4 w a)) (yB (u9 (n : Int) (m : Int)) (cL a b)))))) zk (by (unfold bX; rw [hn, hm]))
theorem u96 (wk wr wz ak ar az bk br bz : Int) (w a b : List Int) (o n m : Nat) (ho : ka0 w = o) (hn : ka0 a = n) (hm : ka0 b = m) (h1 : o ≤ 1000000) (h2 : n ≤ 1000000) (h3 : m ≤ 1000000) (hwr : -9223372036854775808 ≤ wr ∧ wr ≤ 9223372036854775807) (har : -9223372036854775808 ≤ ar ∧ ar ≤ 9223372036854775807) (hbr : -9223372036854775808 ≤ br ∧ br ≤ 9223372036854775807) (hwz : -9223372036854775808 ≤ wz ∧ wz ≤ 9223372036854775807) (haz : -9223372036854775808 ≤ az ∧ az ≤ 9223372036854775807) (hbz : -9223372036854775808 ≤ bz ∧ bz ≤ 9223372036854775807) : Fun 118 [.c (.ptr 0 0), .c (.ptr 1 0), .c (.ptr 2 0)] (kF [(0, some (42, .ds [iD wk, iD wr, D.sl (dI .i64 w) o, iD wz])), (1, some (42, .ds [iD ak, iD ar, D.sl (dI .i64 a) n, iD az])), (2, some (42, .ds [iD bk, iD br, D.sl (dI .i64 b) m, iD bz]))]) 3 (iV (b7 wk ak bk)) (kF [(0, some (42, .ds [iD wk, iD wr, D.sl (dI .i64 w) o, iD wz])), (1, some (42, .ds [iD ak, iD ar, D.sl (dI .i64 a) n, iD az])), (2, some (42, .ds [iD bk, iD br, D.sl (dI .i64 b) m, iD bz]))]) 3 := by
 refine Fun.mk (n := 14) Tryz.func118 rfl rfl (ka4 rfl) ?_
 intro cx hcx
 refine kH [.no] True [(0, rV 0 0), (1, rV 1 0), (2, rV 2 0)] [(0, some (42, .ds [iD wk, iD wr, dl w o, iD wz])), (1, some (42, .ds [iD ak, iD ar, dl a n, iD az])), (2, some (42, .ds [iD bk, iD br, dl b m, iD bz]))] 3 trivial ?_
 have hx1 : ((((-1) : Int) ≤ (b7 wk ak bk)) ∧ ((b7 wk ak bk) ≤ 1)) := iL wk ak bk
 refine kS (qE 9 [.call [] (iV (b7 wk ak bk)) [] 0 [] none, .no]) _ [(3, iV (b7 wk ak bk))] (tL wk ak bk) ?_
 refine AW.ret ?_
 exact kA (.inr rfl) [] (P := (kM (b7 wk ak bk)) ∧ (kJ [iD wk, iD wr, dl w o, iD wz]) ∧ (kJ [iD ak, iD ar, dl a n, iD az]) ∧ (kJ [iD bk, iD br, dl b m, iD bz])) zk ⟨rfl, rfl, rfl, rfl⟩
theorem u95 (wk wr wz ak ar az bk br bz : Int) (w a b : List Int) (o n m : Nat) (ho : ka0 w = o) (hn : ka0 a = n) (hm : ka0 b = m) (h1 : o ≤ 1000000) (h2 : n ≤ 1000000) (h3 : m ≤ 1000000) (hwr : -9223372036854775808 ≤ wr ∧ wr ≤ 9223372036854775807) (har : -9223372036854775808 ≤ ar ∧ ar ≤ 9223372036854775807) (hbr : -9223372036854775808 ≤ br ∧ br ≤ 9223372036854775807) (hwz : -9223372036854775808 ≤ wz ∧ wz ≤ 9223372036854775807) (haz : -9223372036854775808 ≤ az ∧ az ≤ 9223372036854775807) (hbz : -9223372036854775808 ≤ bz ∧ bz ≤ 9223372036854775807) : Fun 119 [.c (.ptr 0 0), .c (.ptr 1 0), .c (.ptr 2 0)] (kF [(0, some (42, .ds [iD wk, iD wr, D.sl (dI .i64 w) o, iD wz])), (1, some (42, .ds [iD ak, iD ar, D.sl (dI .i64 a) n, iD az])), (2, some (42, .ds [iD bk, iD br, D.sl (dI .i64 b) m, iD bz]))]) 3 (iV (bQ wr ar br)) (kF [(0, some (42, .ds [iD wk, iD wr, D.sl (dI .i64 w) o, iD wz])), (1, some (42, .ds [iD ak, iD ar, D.sl (dI .i64 a) n, iD az])), (2, some (42, .ds [iD bk, iD br, D.sl (dI .i64 b) m, iD bz]))]) 3 := by
 refine Fun.mk (n := 14) Tryz.func119 rfl rfl (ka4 rfl) ?_
 intro cx hcx
 refine kH [.no] True [(0, rV 0 0), (1, rV 1 0), (2, rV 2 0)] [(0, some (42, .ds [iD wk, iD wr, dl w o, iD wz])), (1, some (42, .ds [iD ak, iD ar, dl a n, iD az])), (2, some (42, .ds [iD bk, iD br, dl b m, iD bz]))] 3 trivial ?_
 have hx1 : ((((-1) : Int) ≤ (bQ wr ar br)) ∧ ((bQ wr ar br) ≤ 1)) := fM wr ar br
 refine kS (qE 9 [.call [] (iV (bQ wr ar br)) [] 0 [] none, .no]) _ [(3, iV (bQ wr ar br))] (u0q wr ar br zo zo zo) ?_
 refine AW.ret ?_
 exact kA (.inr rfl) [] (P := (kM (bQ wr ar br)) ∧ (kJ [iD wk, iD wr, dl w o, iD wz]) ∧ (kJ [iD ak, iD ar, dl a n, iD az]) ∧ (kJ [iD bk, iD br, dl b m, iD bz])) zk ⟨rfl, rfl, rfl, rfl⟩
theorem u94 (wk wr wz ak ar az bk br bz : Int) (w a b : List Int) (o n m : Nat) (ho : ka0 w = o) (hn : ka0 a = n) (hm : ka0 b = m) (h1 : o ≤ 1000000) (h2 : n ≤ 1000000) (h3 : m ≤ 1000000) (hwr : -9223372036854775808 ≤ wr ∧ wr ≤ 9223372036854775807) (har : -9223372036854775808 ≤ ar ∧ ar ≤ 9223372036854775807) (hbr : -9223372036854775808 ≤ br ∧ br ≤ 9223372036854775807) (hwz : -9223372036854775808 ≤ wz ∧ wz ≤ 9223372036854775807) (haz : -9223372036854775808 ≤ az ∧ az ≤ 9223372036854775807) (hbz : -9223372036854775808 ≤ bz ∧ bz ≤ 9223372036854775807) : Fun 121 [.c (.ptr 0 0), .c (.ptr 1 0), .c (.ptr 2 0)] (kF [(0, some (42, .ds [iD wk, iD wr, D.sl (dI .i64 w) o, iD wz])), (1, some (42, .ds [iD ak, iD ar, D.sl (dI .i64 a) n, iD az])), (2, some (42, .ds [iD bk, iD br, D.sl (dI .i64 b) m, iD bz]))]) 3 (iV (bX w a b)) (kF [(0, some (42, .ds [iD wk, iD wr, D.sl (dI .i64 w) o, iD wz])), (1, some (42, .ds [iD ak, iD ar, D.sl (dI .i64 a) n, iD az])), (2, some (42, .ds [iD bk, iD br, D.sl (dI .i64 b) m, iD bz]))]) 3 := by
 refine Fun.mk (n := 14) Tryz.func121 rfl rfl (ka4 rfl) ?_
 intro cx hcx
 refine kH [.no] True [(0, rV 0 0), (1, rV 1 0), (2, rV 2 0)] [(0, some (42, .ds [iD wk, iD wr, dl w o, iD wz])), (1, some (42, .ds [iD ak, iD ar, dl a n, iD az])), (2, some (42, .ds [iD bk, iD br, dl b m, iD bz]))] 3 trivial ?_
 have hx1 : ((((-1) : Int) ≤ (bX w a b)) ∧ ((bX w a b) ≤ 1)) := fO w a b
 refine kS (qE 9 [.call [] (iV (bX w a b)) [] 0 [] none, .no]) _ [(3, iV (bX w a b))] (u0r w a b o n m zo zo zo zo zo zo) ?_
 refine AW.ret ?_
 exact kA (.inr rfl) [] (P := (kM (bX w a b)) ∧ (kJ [iD wk, iD wr, dl w o, iD wz]) ∧ (kJ [iD ak, iD ar, dl a n, iD az]) ∧ (kJ [iD bk, iD br, dl b m, iD bz])) zk ⟨rfl, rfl, rfl, rfl⟩
theorem u93 (wk wr wz ak ar az bk br bz : Int) (w a b : List Int) (o n m : Nat) (ho : ka0 w = o) (hn : ka0 a = n) (hm : ka0 b = m) (h1 : o ≤ 1000000) (h2 : n ≤ 1000000) (h3 : m ≤ 1000000) (hwr : -9223372036854775808 ≤ wr ∧ wr ≤ 9223372036854775807) (har : -9223372036854775808 ≤ ar ∧ ar ≤ 9223372036854775807) (hbr : -9223372036854775808 ≤ br ∧ br ≤ 9223372036854775807) (hwz : -9223372036854775808 ≤ wz ∧ wz ≤ 9223372036854775807) (haz : -9223372036854775808 ≤ az ∧ az ≤ 9223372036854775807) (hbz : -9223372036854775808 ≤ bz ∧ bz ≤ 9223372036854775807) : Fun 122 [.c (.ptr 0 0), .c (.ptr 1 0), .c (.ptr 2 0)] (kF [(0, some (42, .ds [iD wk, iD wr, D.sl (dI .i64 w) o, iD wz])), (1, some (42, .ds [iD ak, iD ar, D.sl (dI .i64 a) n, iD az])), (2, some (42, .ds [iD bk, iD br, D.sl (dI .i64 b) m, iD bz]))]) 3 (iV (bQ wz az bz)) (kF [(0, some (42, .ds [iD wk, iD wr, D.sl (dI .i64 w) o, iD wz])), (1, some (42, .ds [iD ak, iD ar, D.sl (dI .i64 a) n, iD az])), (2, some (42, .ds [iD bk, iD br, D.sl (dI .i64 b) m, iD bz]))]) 3 := by
 refine Fun.mk (n := 11) Tryz.func122 rfl rfl (ka4 rfl) ?_
 intro cx hcx
 refine kH [.no] True [(0, rV 0 0), (1, rV 1 0), (2, rV 2 0)] [(0, some (42, .ds [iD wk, iD wr, dl w o, iD wz])), (1, some (42, .ds [iD ak, iD ar, dl a n, iD az])), (2, some (42, .ds [iD bk, iD br, dl b m, iD bz]))] 3 trivial ?_
 have hx1 : ((((-1) : Int) ≤ (bQ wz az bz)) ∧ ((bQ wz az bz) ≤ 1)) := fM wz az bz
 refine kS (qE 6 [.call [] (iV (bQ wz az bz)) [] 0 [] none, .no]) _ [(3, iV (bQ wz az bz))] (u0q wz az bz zo zo zo) ?_
 refine AW.ret ?_
 exact kA (.inr rfl) [] (P := (kM (bQ wz az bz)) ∧ (kJ [iD wk, iD wr, dl w o, iD wz]) ∧ (kJ [iD ak, iD ar, dl a n, iD az]) ∧ (kJ [iD bk, iD br, dl b m, iD bz])) zk ⟨rfl, rfl, rfl, rfl⟩
theorem mF {p : Prop} (h : p := by unfold pO yB; (repeat' split) <;> omega) : p := h
abbrev fJ : BC := .cs [.fn 118 [(0, 0), (1, 0), (2, 0)], .fn 119 [(0, 0), (1, 0), (2, 0)], .fn 121 [(0, 0), (1, 0), (2, 0)], .fn 122 [(0, 0), (1, 0), (2, 0)]]
abbrev aX (wk : Int) (wr : Int) (w : List Int) (o : Nat) (wz : Int) : BC := .ds [iD wk, iD wr, D.sl (dI .i64 w) o, iD wz]
abbrev aW (ak : Int) (ar : Int) (a : List Int) (n : Nat) (az : Int) : BC := .ds [iD ak, iD ar, D.sl (dI .i64 a) n, iD az]
abbrev aV (bk : Int) (br : Int) (b : List Int) (m : Nat) (bz : Int) : BC := .ds [iD bk, iD br, D.sl (dI .i64 b) m, iD bz]
theorem pV (wk wr wz ak ar az bk br bz : Int) (w a b : List Int) (o n m : Nat) (ho : ka0 w = o) (hn : ka0 a = n) (hm : ka0 b = m) (h1 : o ≤ 1000000) (h2 : n ≤ 1000000) (h3 : m ≤ 1000000) (hwr : -9223372036854775808 ≤ wr ∧ wr ≤ 9223372036854775807) (har : -9223372036854775808 ≤ ar ∧ ar ≤ 9223372036854775807) (hbr : -9223372036854775808 ≤ br ∧ br ≤ 9223372036854775807) (hwz : -9223372036854775808 ≤ wz ∧ wz ≤ 9223372036854775807) (haz : -9223372036854775808 ≤ az ∧ az ≤ 9223372036854775807) (hbz : -9223372036854775808 ≤ bz ∧ bz ≤ 9223372036854775807) : Fun 79 [.agg [iC wk, iC wr, .d (D.sl (dI .i64 w) o), iC wz], .agg [iC ak, iC ar, .d (D.sl (dI .i64 a) n), iC az], .agg [iC bk, iC br, .d (D.sl (dI .i64 b) m), iC bz]] (kF []) 0 (iV (pO wk wr wz ak ar az bk br bz w a b)) (kF []) 0 := by
 refine Fun.mk (n := 28) Tryz.func79 rfl rfl (ka4 rfl) ?_
 intro cx hcx
 refine kH (qE 4 []) True [(3, rV 0 0), (4, rV 1 0), (5, rV 2 0)] [(0, some (42, (aX wk wr w o wz))), (1, some (42, (aW ak ar a n az))), (2, some (42, (aV bk br b m bz)))] 3 trivial ?_
 refine kH (qE 6 []) True [(7, oV 3 0 4 1)] [(0, some (42, (aX wk wr w o wz))), (1, some (42, (aW ak ar a n az))), (2, some (42, (aV bk br b m bz))), (3, some (140, fJ))] 4 trivial ?_
 refine AW.seq ?_
 refine kS [.no, .no, .no] True [(16, oV 3 0 4 1), (17, iV 4), (18, iV 0)] trivial ?_
 refine AW.block ?_
 refine AW.rounds 5 ?_
 refine AWr.s ?_
 refine kH [.b true] (((0 : Int) < 4)) [(16, oV 3 0 4 1), (17, iV 4), (18, iV 0), (19, bV true)] [(0, some (42, (aX wk wr w o wz))), (1, some (42, (aW ak ar a n az))), (2, some (42, (aV bk br b m bz))), (3, some (140, fJ))] 4 zo ?_
 refine AW.seq ?_
 refine vL ?_
 refine AW.seq ?_
 refine AW.block ?_
 refine kS [.n2 0 0, .no, .no] ((kM 0) ∧ ((0 : Nat) < 4) ∧ ((0 : Nat) + 0 * 1 = 0)) [(9, .e (.c (.fn 118 [(0, 0), (1, 0), (2, 0)]))), (16, oV 3 0 4 1), (17, iV 4), (18, iV 0)] ⟨rfl, zo, zo⟩ ?_
 have hx1 : ((((-1) : Int) ≤ (b7 wk ak bk)) ∧ ((b7 wk ak bk) ≤ 1)) := iL wk ak bk
 refine kS [.no, .call [0, 1, 2] (iV (b7 wk ak bk)) [(0, some (42, (aX wk wr w o wz))), (1, some (42, (aW ak ar a n az))), (2, some (42, (aV bk br b m bz)))] 3 [] none, .no] _ [(10, iV (b7 wk ak bk)), (16, oV 3 0 4 1), (17, iV 4), (18, iV 0)] (u96 wk wr wz ak ar az bk br bz w a b o n m zo zo zo zo zo zo zo zo zo zo zo zo) ?_
 by_cases hx2 : ((b7 wk ak bk) ≠ 0)
 ·refine kS [.no, .b true] (((b7 wk ak bk) ≠ 0)) [(10, iV (b7 wk ak bk)), (16, oV 3 0 4 1), (17, iV 4), (18, iV 0), (25, bV true)] zo ?_
  refine zt ?_
  refine kH [.no, .no] True [(6, iV (b7 wk ak bk))] [] 4 trivial ?_
  refine AW.ret ?_
  exact kA (.inr rfl) [] (P := (((pO wk wr wz ak ar az bk br bz w a b) : Int) = (b7 wk ak bk))) zk mF
 ·refine kS [.no, .b false] (¬ ((b7 wk ak bk) ≠ 0)) [(10, iV (b7 wk ak bk)), (16, oV 3 0 4 1), (17, iV 4), (18, iV 0), (25, bV false)] zo ?_
  refine uO ?_
  refine yA [.w, .no] (u3 (1 : Int)) [(16, oV 3 0 4 1), (17, iV 4), (18, iV 1)] ⟨by omega, by omega⟩ ?_
  refine AWr.s ?_
  refine kH [.b true] (((1 : Int) < 4)) [(16, oV 3 0 4 1), (17, iV 4), (18, iV 1), (19, bV true)] [(0, some (42, (aX wk wr w o wz))), (1, some (42, (aW ak ar a n az))), (2, some (42, (aV bk br b m bz))), (3, some (140, fJ))] 4 zo ?_
  refine AW.seq ?_
  refine vL ?_
  refine AW.seq ?_
  refine AW.block ?_
  refine kS [.n2 1 1, .no, .no] ((kM 1) ∧ ((1 : Nat) < 4) ∧ ((0 : Nat) + 1 * 1 = 1)) [(9, .e (.c (.fn 119 [(0, 0), (1, 0), (2, 0)]))), (16, oV 3 0 4 1), (17, iV 4), (18, iV 1)] ⟨rfl, zo, zo⟩ ?_
  have hx3 : ((((-1) : Int) ≤ (bQ wr ar br)) ∧ ((bQ wr ar br) ≤ 1)) := fM wr ar br
  refine kS [.no, .call [0, 1, 2] (iV (bQ wr ar br)) [(0, some (42, (aX wk wr w o wz))), (1, some (42, (aW ak ar a n az))), (2, some (42, (aV bk br b m bz)))] 3 [] none, .no] _ [(10, iV (bQ wr ar br)), (16, oV 3 0 4 1), (17, iV 4), (18, iV 1)] (u95 wk wr wz ak ar az bk br bz w a b o n m zo zo zo zo zo zo zo zo zo zo zo zo) ?_
  by_cases hx4 : ((bQ wr ar br) ≠ 0)
  ·refine kS [.no, .b true] (((bQ wr ar br) ≠ 0)) [(10, iV (bQ wr ar br)), (16, oV 3 0 4 1), (17, iV 4), (18, iV 1), (25, bV true)] zo ?_
   refine zt ?_
   refine kH [.no, .no] True [(6, iV (bQ wr ar br))] [] 4 trivial ?_
   refine AW.ret ?_
   exact kA (.inr rfl) [] (P := (((pO wk wr wz ak ar az bk br bz w a b) : Int) = (bQ wr ar br))) zk mF
  ·refine kS [.no, .b false] (¬ ((bQ wr ar br) ≠ 0)) [(10, iV (bQ wr ar br)), (16, oV 3 0 4 1), (17, iV 4), (18, iV 1), (25, bV false)] zo ?_
   refine uO ?_
   refine yA [.w, .no] (u3 (2 : Int)) [(16, oV 3 0 4 1), (17, iV 4), (18, iV 2)] ⟨by omega, by omega⟩ ?_
   refine AWr.s ?_
   refine kH [.b true] (((2 : Int) < 4)) [(16, oV 3 0 4 1), (17, iV 4), (18, iV 2), (19, bV true)] [(0, some (42, (aX wk wr w o wz))), (1, some (42, (aW ak ar a n az))), (2, some (42, (aV bk br b m bz))), (3, some (140, fJ))] 4 zo ?_
   refine AW.seq ?_
   refine vL ?_
   refine AW.seq ?_
   refine AW.block ?_
   refine kS [.n2 2 2, .no, .no] ((kM 2) ∧ ((2 : Nat) < 4) ∧ ((0 : Nat) + 2 * 1 = 2)) [(9, .e (.c (.fn 121 [(0, 0), (1, 0), (2, 0)]))), (16, oV 3 0 4 1), (17, iV 4), (18, iV 2)] ⟨rfl, zo, zo⟩ ?_
   have hx5 : ((((-1) : Int) ≤ (bX w a b)) ∧ ((bX w a b) ≤ 1)) := fO w a b
   refine kS [.no, .call [0, 1, 2] (iV (bX w a b)) [(0, some (42, (aX wk wr w o wz))), (1, some (42, (aW ak ar a n az))), (2, some (42, (aV bk br b m bz)))] 3 [] none, .no] _ [(10, iV (bX w a b)), (16, oV 3 0 4 1), (17, iV 4), (18, iV 2)] (u94 wk wr wz ak ar az bk br bz w a b o n m zo zo zo zo zo zo zo zo zo zo zo zo) ?_
   by_cases hx6 : ((bX w a b) ≠ 0)
   ·refine kS [.no, .b true] (((bX w a b) ≠ 0)) [(10, iV (bX w a b)), (16, oV 3 0 4 1), (17, iV 4), (18, iV 2), (25, bV true)] zo ?_
    refine zt ?_
    refine kH [.no, .no] True [(6, iV (bX w a b))] [] 4 trivial ?_
    refine AW.ret ?_
    exact kA (.inr rfl) [] (P := (((pO wk wr wz ak ar az bk br bz w a b) : Int) = (bX w a b))) zk mF
   ·refine kS [.no, .b false] (¬ ((bX w a b) ≠ 0)) [(10, iV (bX w a b)), (16, oV 3 0 4 1), (17, iV 4), (18, iV 2), (25, bV false)] zo ?_
    refine uO ?_
    refine yA [.w, .no] (u3 (3 : Int)) [(16, oV 3 0 4 1), (17, iV 4), (18, iV 3)] ⟨by omega, by omega⟩ ?_
    refine AWr.s ?_
    refine kH [.b true] (((3 : Int) < 4)) [(16, oV 3 0 4 1), (17, iV 4), (18, iV 3), (19, bV true)] [(0, some (42, (aX wk wr w o wz))), (1, some (42, (aW ak ar a n az))), (2, some (42, (aV bk br b m bz))), (3, some (140, fJ))] 4 zo ?_
    refine AW.seq ?_
    refine vL ?_
    refine AW.seq ?_
    refine AW.block ?_
    refine kS [.n2 3 3, .no, .no] ((kM 3) ∧ ((3 : Nat) < 4) ∧ ((0 : Nat) + 3 * 1 = 3)) [(9, .e (.c (.fn 122 [(0, 0), (1, 0), (2, 0)]))), (16, oV 3 0 4 1), (17, iV 4), (18, iV 3)] ⟨rfl, zo, zo⟩ ?_
    have hx7 : ((((-1) : Int) ≤ (bQ wz az bz)) ∧ ((bQ wz az bz) ≤ 1)) := fM wz az bz
    refine kS [.no, .call [0, 1, 2] (iV (bQ wz az bz)) [(0, some (42, (aX wk wr w o wz))), (1, some (42, (aW ak ar a n az))), (2, some (42, (aV bk br b m bz)))] 3 [] none, .no] _ [(10, iV (bQ wz az bz)), (16, oV 3 0 4 1), (17, iV 4), (18, iV 3)] (u93 wk wr wz ak ar az bk br bz w a b o n m zo zo zo zo zo zo zo zo zo zo zo zo) ?_
    by_cases hx8 : ((bQ wz az bz) ≠ 0)
    ·refine kS [.no, .b true] (((bQ wz az bz) ≠ 0)) [(10, iV (bQ wz az bz)), (16, oV 3 0 4 1), (17, iV 4), (18, iV 3), (25, bV true)] zo ?_
     refine zt ?_
     refine kH [.no, .no] True [(6, iV (bQ wz az bz))] [] 4 trivial ?_
     refine AW.ret ?_
     exact kA (.inr rfl) [] (P := (((pO wk wr wz ak ar az bk br bz w a b) : Int) = (bQ wz az bz))) zk mF
    ·refine kS [.no, .b false] (¬ ((bQ wz az bz) ≠ 0)) [(10, iV (bQ wz az bz)), (16, oV 3 0 4 1), (17, iV 4), (18, iV 3), (25, bV false)] zo ?_
     refine uO ?_
     refine yA [.w, .no] (u3 (4 : Int)) [(16, oV 3 0 4 1), (17, iV 4), (18, iV 4)] ⟨by omega, by omega⟩ ?_
     refine AWr.s ?_
     refine kH [.b false] (¬ ((4 : Int) < 4)) [(16, oV 3 0 4 1), (17, iV 4), (18, iV 4), (19, bV false)] [(0, some (42, (aX wk wr w o wz))), (1, some (42, (aW ak ar a n az))), (2, some (42, (aV bk br b m bz))), (3, some (140, fJ))] 4 zo ?_
     refine AW.seq ?_
     refine zf ?_
     refine AW.exit ?_
     refine kH [.no] True [(6, iV 0)] [] 4 trivial ?_
     refine AW.ret ?_
     exact kA (.inr rfl) [] (P := (((pO wk wr wz ak ar az bk br bz w a b) : Int) = 0)) zk mF
end Go.Proofs.YtbicifcgghmhaaaGreat
