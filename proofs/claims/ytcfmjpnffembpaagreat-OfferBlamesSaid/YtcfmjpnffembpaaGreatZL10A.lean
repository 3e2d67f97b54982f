/- Choices compared. No statement is proved here. -/
import Derived.Test.YtcfmjpnffembpaaGreatZL06
namespace Go.Proofs.YtcfmjpnffembpaaGreat
open Go.ChangeShapes Go.WideShapes Go.ChangeAt Go.RowKit
open Bool renaming eq_false_or_eq_true → ka9
open List renaming drop → ka3, drop_eq_getElem_cons → kd3, drop_eq_nil_of_le → kf5, getD → ka1, getD_eq_getElem?_getD → ka7, getElem?_eq_getElem → ka8, length → ka0
open Nat renaming le_of_ble_eq_true → ka4
set_option linter.unusedVariables false
set_option linter.unusedSimpArgs false
/-! chapter 10: how choices are compared -/
set_option maxHeartbeats 4000000
set_option maxRecDepth 100000
structure Cmp {α : Type} (f : α → α → Int) : Prop where
 anti : ∀ a b, f a b = - f b a
 tr : ∀ a b c, f a b ≤ 0 → f b c ≤ 0 → f a c ≤ 0
theorem Cmp.zero {α : Type} {f : α → α → Int} (h : Cmp f) (a : α) : f a a = 0 := by
 have := h.anti a a; omega
def u0 (a b : Int) : Int := if a = 0 then b else a
theorem k3h {a b : Int} (h : ¬ a = 0) : u0 a b = a := if_neg h
theorem m9 {a b : Int} (h : a = 0) : u0 a b = b := if_pos h
theorem Cmp.lex {α : Type} {f g : α → α → Int} (hf : Cmp f) (hg : Cmp g) : Cmp (fun a b => u0 (f a b) (g a b)) := by
 constructor
 ·intro a b
  have h1 := hf.anti a b; have h2 := hg.anti a b
  show u0 _ _ = - u0 _ _
  unfold u0
  by_cases h : f a b = 0
  ·rw [if_pos h, if_pos (by omega)]; exact h2
  ·rw [if_neg h, if_neg (by omega)]; exact h1
 ·intro a b c h1 h2
  have a1 := hf.anti a b; have a2 := hf.anti b c; have a3 := hf.anti a c
  have f1 : f a b ≤ 0 := by unfold u0 at h1; split at h1 <;> omega
  have f2 : f b c ≤ 0 := by unfold u0 at h2; split at h2 <;> omega
  have f3 := hf.tr a b c f1 f2
  show u0 _ _ ≤ 0
  unfold u0
  by_cases h : f a c = 0
  ·have x1 := hf.tr c a b (by omega) f1
   have x2 := hf.tr b c a f2 (by omega)
   have y1 := hf.anti c b
   have y2 := hf.anti b a
   have z1 : f a b = 0 := by omega
   have z2 : f b c = 0 := by omega
   rw [if_pos h]
   simp only [u0, if_pos z1] at h1
   simp only [u0, if_pos z2] at h2
   exact hg.tr a b c h1 h2
  ·rw [if_neg h]; omega
def qV (a b : Int) : Int := if a < b then -1 else if a = b then 0 else 1
theorem fN {a b : Int} : qV a b = 0 ↔ a = b := by
 unfold qV; (repeat' split) <;> omega
theorem hD (a b : Int) : -1 ≤ qV a b ∧ qV a b ≤ 1 := by
 unfold qV; (repeat' split) <;> omega
theorem mS {a b : Int} : qV a b ≤ 0 ↔ a ≤ b := by
 unfold qV; (repeat' split) <;> omega
theorem pN (a b : Int) : qV a b = - qV b a := by
 unfold qV; (repeat' split) <;> omega
theorem u3u {α : Type} (k : α → Int) : Cmp (fun a b => qV (k a) (k b)) :=
 ⟨fun a b => pN _ _, fun a b c h1 h2 => by
  have h1 := mS.1 h1; have h2 := mS.1 h2
  exact mS.2 (by omega)⟩
theorem k15 {α : Type} (k : α → Int) : Cmp (fun a b => qV (k b) (k a)) :=
 ⟨fun a b => pN _ _, fun a b c h1 h2 => by
  have h1 := mS.1 h1; have h2 := mS.1 h2
  exact mS.2 (by omega)⟩
def bJ (p q : Bool) : Int := if p = q then 0 else if p = true then -1 else 1
theorem k8i {p q : Bool} : bJ p q = 0 ↔ p = q := by
 cases p <;> cases q <;> decide
theorem fE (p q : Bool) : -1 ≤ bJ p q ∧ bJ p q ≤ 1 := by
 cases p <;> cases q <;> decide
theorem Cmp.first {α : Type} (p : α → Bool) : Cmp (fun a b => bJ (p a) (p b)) :=
 ⟨fun a b => by cases p a <;> cases p b <;> decide, fun a b c => by cases p a <;> cases p b <;> cases p c <;> decide⟩
def bW : List Int → List Int → Int
 | [], [] => 0
 | [], _ :: _ => -1
 | _ :: _, [] => 1
 | a :: r, b :: s => u0 (qV a b) (bW r s)
theorem wM : ∀ (a b : List Int), -1 ≤ bW a b ∧ bW a b ≤ 1
 | [], [] => by decide
 | [], _ :: _ => by simp [bW]
 | _ :: _, [] => by simp [bW]
 | a :: r, b :: s => by
  have h1 := hD a b; have h2 := wM r s
  show -1 ≤ u0 _ _ ∧ u0 _ _ ≤ 1
  unfold u0; split <;> omega
theorem k07 : ∀ (a b : List Int), bW a b = - bW b a
 | [], [] => by decide
 | [], _ :: _ => by simp [bW]
 | _ :: _, [] => by simp [bW]
 | a :: r, b :: s => by
  have h1 := pN a b; have h2 := k07 r s
  show u0 _ _ = - u0 _ _
  unfold u0; (repeat' split) <;> omega
theorem k7y : ∀ (a b c : List Int), bW a b ≤ 0 → bW b c ≤ 0 → bW a c ≤ 0
 | [], [], c => fun _ h => h
 | [], _ :: _, [] => fun _ _ => by decide
 | [], _ :: _, _ :: _ => fun _ _ => by simp [bW]
 | _ :: _, [], _ => fun h => by simp [bW] at h
 | _ :: _, _ :: _, [] => fun _ h => by simp [bW] at h
 | a :: r, b :: s, c :: t => by
  intro h1 h2
  have ih := k7y r s t
  have h1 : u0 (qV a b) (bW r s) ≤ 0 := h1
  have h2 : u0 (qV b c) (bW s t) ≤ 0 := h2
  show u0 (qV a c) (bW r t) ≤ 0
  unfold u0 at h1 h2 ⊢
  unfold qV at h1 h2 ⊢
  (repeat' split at h1) <;> (repeat' split at h2) <;> (repeat' split) <;> first | omega | (exact ih (by assumption) (by assumption))
theorem wL {a b : List Int} {k : Nat} {x : Int} (h : x = bW (ka3 k a) (ka3 k b)) (h1 : k < a.length) (h2 : k < b.length) (h3 : qV (ka1 a k 0) (ka1 b k 0) = 0) : x = bW (ka3 (k + 1) a) (ka3 (k + 1) b) := by
 have e1 : ka1 a k 0 = a[k] := by rw [ka7, ka8 h1]; rfl
 have e2 : ka1 b k 0 = b[k] := by rw [ka7, ka8 h2]; rfl
 rw [h, kd3 h1, kd3 h2]
 show u0 (qV a[k] b[k]) _ = _
 rw [e1, e2] at h3
 exact m9 h3
theorem sN {a b : List Int} {k : Nat} {x : Int} (h : x = bW (ka3 k a) (ka3 k b)) (h1 : k < a.length) (h2 : k < b.length) (h3 : ¬ qV (ka1 a k 0) (ka1 b k 0) = 0) : x = qV (ka1 a k 0) (ka1 b k 0) := by
 have e1 : ka1 a k 0 = a[k] := by rw [ka7, ka8 h1]; rfl
 have e2 : ka1 b k 0 = b[k] := by rw [ka7, ka8 h2]; rfl
 rw [h, kd3 h1, kd3 h2]
 show u0 (qV a[k] b[k]) _ = _
 rw [e1, e2] at h3 ⊢
 exact k3h h3
theorem k3u {a b : List Int} {k : Nat} {x : Int} (h : x = bW (ka3 k a) (ka3 k b)) (h1 : k < a.length) (h2 : b.length ≤ k) : x = 1 := by
 rw [h, kd3 h1, kf5 h2]; rfl
theorem k3t {a b : List Int} {k : Nat} {x : Int} (h : x = bW (ka3 k a) (ka3 k b)) (h1 : a.length ≤ k) (h2 : k < b.length) : x = -1 := by
 rw [h, kd3 h2, kf5 h1]; rfl
theorem cG {a b : List Int} {k : Nat} {x : Int} (h : x = bW (ka3 k a) (ka3 k b)) (h1 : a.length ≤ k) (h2 : b.length ≤ k) : x = 0 := by
 rw [h, kf5 h2, kf5 h1]; rfl
theorem nR {a b : List Int} {k : Nat} {x : Int} (h : x = bW (ka3 k a) (ka3 k b)) (h1 : k < a.length) (h2 : k < b.length) (h3 : ka1 a k 0 < ka1 b k 0) : x = -1 := by
 rw [sN h h1 h2 (fun e => by have := fN.1 e; omega)]; unfold qV; exact if_pos h3
theorem nS {a b : List Int} {k : Nat} {x : Int} (h : x = bW (ka3 k a) (ka3 k b)) (h1 : k < a.length) (h2 : k < b.length) (h3 : ka1 b k 0 < ka1 a k 0) : x = 1 := by
 rw [sN h h1 h2 (fun e => by have := fN.1 e; omega)]; unfold qV; rw [if_neg (by omega), if_neg (by omega)]
theorem u1a {α : Type} (k : α → List Int) : Cmp (fun a b => bW (k a) (k b)) :=
 ⟨fun _ _ => k07 _ _, fun _ _ _ => k7y _ _ _⟩
def vT (a b : Int) : Int := if a > b then a - b else b - a
theorem k4g (a b : Int) : 0 ≤ vT a b := by unfold vT; split <;> omega
theorem eH (a b : Int) : vT a b = vT b a := by unfold vT; (repeat' split) <;> omega
def aA (w a b : Int) : Int := u0 (qV (vT w a) (vT w b)) (qV a b)
def vJ (w a b : Int) : Int := u0 (bJ (decide (a = w)) (decide (b = w))) (qV b a)
def g9 (w m : List Int) : Int := ((yX w m (ka0 m)).length : Int)
def yP (w a b : List Int) : Int := u0 (bJ (v8 a w) (v8 b w)) (u0 (qV (g9 w b) (g9 w a)) (u0 (qV (a.length : Int) (b.length : Int)) (bW a b)))
theorem dD {a b : Int} (h1 : -1 ≤ a ∧ a ≤ 1) (h2 : -1 ≤ b ∧ b ≤ 1) : -1 ≤ u0 a b ∧ u0 a b ≤ 1 := by
 unfold u0; split <;> assumption
theorem dF (w a b : Int) : -1 ≤ aA w a b ∧ aA w a b ≤ 1 := dD (hD _ _) (hD _ _)
theorem dJ (w a b : Int) : -1 ≤ vJ w a b ∧ vJ w a b ≤ 1 := dD (fE _ _) (hD _ _)
theorem cK (w a b : List Int) : -1 ≤ yP w a b ∧ yP w a b ≤ 1 := dD (fE _ _) (dD (hD _ _) (dD (hD _ _) (wM _ _)))
theorem nQ {w a b : List Int} (h1 : v8 a w = true) (h2 : v8 b w = false) : yP w a b = -1 := by
 unfold yP; rw [h1, h2]; rfl
theorem nP {w a b : List Int} (h1 : v8 a w = false) (h2 : v8 b w = true) : yP w a b = 1 := by
 unfold yP; rw [h1, h2]; rfl
theorem nO {w a b : List Int} {p q : Int} (hp : p = g9 w b) (hq : q = g9 w a) (h : v8 a w = v8 b w) (hc : ¬ qV p q = 0) : yP w a b = qV p q := by
 subst hp; subst hq
 unfold yP; rw [m9 (k8i.2 h), k3h hc]
theorem nN {w a b : List Int} {p q : Int} (hp : p = g9 w b) (hq : q = g9 w a) {n m : Nat} (h : v8 a w = v8 b w) (hc : qV p q = 0) (hn : a.length = n) (hm : b.length = m) (hl : ¬ qV (n : Int) (m : Int) = 0) : yP w a b = qV (n : Int) (m : Int) := by
 subst hp; subst hq
 unfold yP; rw [m9 (k8i.2 h), m9 hc, hn, hm, k3h hl]
theorem nM {w a b : List Int} {p q : Int} (hp : p = g9 w b) (hq : q = g9 w a) {n m : Nat} {x : Int} (h : v8 a w = v8 b w) (hc : qV p q = 0) (hn : a.length = n) (hm : b.length = m) (hl : qV (n : Int) (m : Int) = 0) (hx : bW a b = x) : yP w a b = x := by
 subst hp; subst hq
 unfold yP; rw [m9 (k8i.2 h), m9 hc, hn, hm, m9 hl, hx]
theorem k0q {a b : Int} (h : a < b) : qV a b = -1 := if_pos h
theorem k0r {a b : Int} (h : b < a) : qV a b = 1 := by unfold qV; rw [if_neg (by omega), if_neg (by omega)]
theorem k7g {w a b : Int} (h : ¬ qV (vT a w) (vT b w) = 0) : aA w a b = qV (vT a w) (vT b w) := by
 unfold aA; rw [eH w a, eH w b]; exact k3h h
theorem k7f {w a b x : Int} (h : qV (vT a w) (vT b w) = 0) (hx : qV a b = x) : aA w a b = x := by
 unfold aA; rw [eH w a, eH w b, m9 h]; exact hx
theorem nW {a b : Int} (ha : -9223372036854775808 ≤ a ∧ a ≤ 9223372036854775807) (hb : -9223372036854775808 ≤ b ∧ b ≤ 9223372036854775807) (h : b ≤ a) : IntKind.u64.wrap (IntKind.u64.wrap a - IntKind.u64.wrap b) = a - b := by
 show ((a % 18446744073709551616) - (b % 18446744073709551616)) % 18446744073709551616 = a - b
 omega
theorem u7u {a b : Int} (ha : -9223372036854775808 ≤ a ∧ a ≤ 9223372036854775807) (hb : -9223372036854775808 ≤ b ∧ b ≤ 9223372036854775807) : vT a b = IntKind.u64.wrap (IntKind.u64.wrap (max a b) - IntKind.u64.wrap (min a b)) := by
 unfold vT
 by_cases h : a > b
 ·rw [if_pos h, Int.max_eq_left (by omega), Int.min_eq_right (by omega), nW ha hb (by omega)]
 ·rw [if_neg h, Int.max_eq_right (by omega), Int.min_eq_left (by omega), nW hb ha (by omega)]
theorem u7t {a b : Int} (ha : -9223372036854775808 ≤ a ∧ a ≤ 9223372036854775807) (hb : -9223372036854775808 ≤ b ∧ b ≤ 9223372036854775807) (h : b < a) : vT a b = IntKind.u64.wrap (IntKind.u64.wrap a - IntKind.u64.wrap b) := by
 unfold vT; rw [if_pos h, nW ha hb (by omega)]
theorem u7s {a b : Int} (ha : -9223372036854775808 ≤ a ∧ a ≤ 9223372036854775807) (hb : -9223372036854775808 ≤ b ∧ b ≤ 9223372036854775807) (h : ¬ b < a) : vT a b = IntKind.u64.wrap (IntKind.u64.wrap b - IntKind.u64.wrap a) := by
 unfold vT; rw [if_neg h, nW hb ha (by omega)]
theorem n8 (w : Int) : Cmp (vJ w) := (Cmp.first (fun a => decide (a = w))).lex (k15 id)
theorem n7 (w : List Int) : Cmp (yP w) :=
 (Cmp.first (fun a => v8 a w)).lex ((k15 (g9 w)).lex ((u3u (fun a : List Int => (a.length : Int))).lex (u1a id)))
structure Co where
 k : Int
 r : Int
 m : List Int
 s : Int
def coV (w a b : Co) : Int := u0 (vJ w.k a.k b.k) (u0 (aA w.r a.r b.r) (u0 (yP w.m a.m b.m) (aA w.s a.s b.s)))
theorem u3b (w a b : Co) : -1 ≤ coV w a b ∧ coV w a b ≤ 1 := dD (dJ _ _ _) (dD (dF _ _ _) (dD (cK _ _ _) (dF _ _ _)))
def d8 (wk wr wz ak ar az bk br bz : Int) (w a b : List Int) : Int := u0 (vJ wk ak bk) (u0 (aA wr ar br) (u0 (yP w a b) (aA wz az bz)))
theorem oB (wk wr wz ak ar az bk br bz : Int) (w a b : List Int) : -1 ≤ d8 wk wr wz ak ar az bk br bz w a b ∧ d8 wk wr wz ak ar az bk br bz w a b ≤ 1 := u3b ⟨wk, wr, w, wz⟩ ⟨ak, ar, a, az⟩ ⟨bk, br, b, bz⟩
theorem sZ (a : Int)  : Fun 139 [iE a] (kH []) 0 (bV false) (kH []) 0 := by
 refine Fun.mk (n := 6) Tryz.func139 rfl rfl (ka4 rfl) ?_
 intro cx hcx
 refine kK [.no] True [(0, iV a)] [] 0 trivial ?_
 refine kO [.no, .no, .b false, .no] (¬ (a ≠ a)) [(2, bV false)] zo ?_
 refine AW.ret ?_
 exact kA (.inr rfl) [] (P := (false = false)) zk rfl
theorem eU {p : Prop} (h : p := by first | rfl | (unfold qV; (repeat' split) <;> omega)) : p := h
theorem aY (a b : Int)  : Fun 107 [iE a, iE b] (kH []) 0 (iV (qV a b)) (kH []) 0 := by
 refine Fun.mk (n := 20) Tryz.func107 rfl rfl (ka4 rfl) ?_
 intro cx hcx
 refine kK [.no] True [(0, iV a), (1, iV b)] [] 0 trivial ?_
 refine kO [.no, .call [] (bV false) [] 0 [] none, .no] _ [(0, iV a), (1, iV b), (5, bV false)] (sZ a) ?_
 refine kO [.no, .call [] (bV false) [] 0 [] none, .no] _ [(0, iV a), (1, iV b), (5, bV false), (6, bV false)] (sZ b) ?_
 refine AW.seq ?_
 refine kO [.no] True [(0, iV a), (1, iV b), (6, bV false), (11, bV false)] trivial ?_
 refine q8 ?_
 refine AW.seq ?_
 refine kO [.no] True [(0, iV a), (1, iV b), (13, bV false)] trivial ?_
 refine q8 ?_
 refine AW.seq ?_
 by_cases hx1 : (a < b)
 ·refine kO [.no, .no, .b true] ((a < b)) [(0, iV a), (1, iV b), (16, bV true)] zo ?_
  refine zt ?_
  refine kO [.no] True [(4, iV (-1))] trivial ?_
  refine AW.ret ?_
  exact kA (.inr rfl) [] (P := (((qV a b) : Int) = (-1))) zk eU
 ·refine kO [.no, .no, .b false] (¬ (a < b)) [(0, iV a), (1, iV b), (16, bV false)] zo ?_
  refine q8 ?_
  refine AW.seq ?_
  by_cases hx2 : (b < a)
  ·refine kO [.no, .no, .b true] ((b < a)) [(19, bV true)] zo ?_
   refine zt ?_
   refine kO [.no] True [(4, iV 1)] trivial ?_
   refine AW.ret ?_
   exact kA (.inr rfl) [] (P := (((qV a b) : Int) = 1)) zk eU
  ·refine kO [.no, .no, .b false] (¬ (b < a)) [(19, bV false)] zo ?_
   refine q8 ?_
   refine kO [.no] True [(4, iV 0)] trivial ?_
   refine AW.ret ?_
   exact kA (.inr rfl) [] (P := (((qV a b) : Int) = 0)) zk eU
theorem sY (a : Int)  : Fun 140 [.c (.d (D.lit (.int .u64 a)))] (kH []) 0 (bV false) (kH []) 0 := by
 refine Fun.mk (n := 6) Tryz.func140 rfl rfl (ka4 rfl) ?_
 intro cx hcx
 refine kK [.no] True [(0, uP (D.lit (.int .u64 a)))] [] 0 trivial ?_
 refine kO [.no, .no, .b false, .no] (¬ (a ≠ a)) [(2, bV false)] zo ?_
 refine AW.ret ?_
 exact kA (.inr rfl) [] (P := (false = false)) zk rfl
theorem k5t (a b : Int)  : Fun 108 [.c (.d (D.lit (.int .u64 a))), .c (.d (D.lit (.int .u64 b)))] (kH []) 0 (iV (qV a b)) (kH []) 0 := by
 refine Fun.mk (n := 20) Tryz.func108 rfl rfl (ka4 rfl) ?_
 intro cx hcx
 refine kK [.no] True [(0, uP (D.lit (.int .u64 a))), (1, uP (D.lit (.int .u64 b)))] [] 0 trivial ?_
 refine kO [.no, .call [] (bV false) [] 0 [] none, .no] _ [(0, uP (D.lit (.int .u64 a))), (1, uP (D.lit (.int .u64 b))), (5, bV false)] (sY a) ?_
 refine kO [.no, .call [] (bV false) [] 0 [] none, .no] _ [(0, uP (D.lit (.int .u64 a))), (1, uP (D.lit (.int .u64 b))), (5, bV false), (6, bV false)] (sY b) ?_
 refine AW.seq ?_
 refine kO [.no] True [(0, uP (D.lit (.int .u64 a))), (1, uP (D.lit (.int .u64 b))), (6, bV false), (11, bV false)] trivial ?_
 refine q8 ?_
 refine AW.seq ?_
 refine kO [.no] True [(0, uP (D.lit (.int .u64 a))), (1, uP (D.lit (.int .u64 b))), (13, bV false)] trivial ?_
 refine q8 ?_
 refine AW.seq ?_
 by_cases hx1 : (a < b)
 ·refine kO [.no, .no, .b true] ((a < b)) [(0, uP (D.lit (.int .u64 a))), (1, uP (D.lit (.int .u64 b))), (16, bV true)] zo ?_
  refine zt ?_
  refine kO [.no] True [(4, iV (-1))] trivial ?_
  refine AW.ret ?_
  exact kA (.inr rfl) [] (P := (((qV a b) : Int) = (-1))) zk eU
 ·refine kO [.no, .no, .b false] (¬ (a < b)) [(0, uP (D.lit (.int .u64 a))), (1, uP (D.lit (.int .u64 b))), (16, bV false)] zo ?_
  refine q8 ?_
  refine AW.seq ?_
  by_cases hx2 : (b < a)
  ·refine kO [.no, .no, .b true] ((b < a)) [(19, bV true)] zo ?_
   refine zt ?_
   refine kO [.no] True [(4, iV 1)] trivial ?_
   refine AW.ret ?_
   exact kA (.inr rfl) [] (P := (((qV a b) : Int) = 1)) zk eU
  ·refine kO [.no, .no, .b false] (¬ (b < a)) [(19, bV false)] zo ?_
   refine q8 ?_
   refine kO [.no] True [(4, iV 0)] trivial ?_
   refine AW.ret ?_
   exact kA (.inr rfl) [] (P := (((qV a b) : Int) = 0)) zk eU
theorem k5p   : Fun 106 [.c (.d (D.lit (.bool true))), .c (.d (D.lit (.bool true)))] (kH []) 0 (iV 0) (kH []) 0 := by
 refine Fun.mk (n := 11) Tryz.func106 rfl rfl (ka4 rfl) ?_
 intro cx hcx
 refine kK [.no] True [(0, bV true), (1, bV true)] [] 0 trivial ?_
 refine AW.seq ?_
 refine AW.block ?_
 refine kO (qE 4 []) True [(0, bV true), (5, bV true)] trivial ?_
 refine zt ?_
 refine kO [.no] True [(4, iV 0)] trivial ?_
 refine AW.ret ?_
 exact kA (.inr rfl) [] (P := (kN 0)) zk rfl
theorem k5q   : Fun 106 [.c (.d (D.lit (.bool true))), .c (.d (D.lit (.bool false)))] (kH []) 0 (iV (-1)) (kH []) 0 := by
 refine Fun.mk (n := 11) Tryz.func106 rfl rfl (ka4 rfl) ?_
 intro cx hcx
 refine kK [.no] True [(0, bV true), (1, bV false)] [] 0 trivial ?_
 refine AW.seq ?_
 refine AW.block ?_
 refine kO (qE 4 []) True [(0, bV true), (5, bV false)] trivial ?_
 refine zf ?_
 refine kO [.no, .no] True [(9, bV true)] trivial ?_
 refine zt ?_
 refine kO [.no] True [(4, iV (-1))] trivial ?_
 refine AW.ret ?_
 exact kA (.inr rfl) [] (P := (kN (-1))) zk rfl
theorem k5r   : Fun 106 [.c (.d (D.lit (.bool false))), .c (.d (D.lit (.bool true)))] (kH []) 0 (iV 1) (kH []) 0 := by
 refine Fun.mk (n := 11) Tryz.func106 rfl rfl (ka4 rfl) ?_
 intro cx hcx
 refine kK [.no] True [(0, bV false), (1, bV true)] [] 0 trivial ?_
 refine AW.seq ?_
 refine AW.block ?_
 refine kO (qE 4 []) True [(0, bV false), (5, bV false)] trivial ?_
 refine zf ?_
 refine kO [.no, .no] True [(9, bV false)] trivial ?_
 refine q8 ?_
 refine kO [.no] True [(4, iV 1)] trivial ?_
 refine AW.ret ?_
 exact kA (.inr rfl) [] (P := (kN 1)) zk rfl
theorem k5s   : Fun 106 [.c (.d (D.lit (.bool false))), .c (.d (D.lit (.bool false)))] (kH []) 0 (iV 0) (kH []) 0 := by
 refine Fun.mk (n := 11) Tryz.func106 rfl rfl (ka4 rfl) ?_
 intro cx hcx
 refine kK [.no] True [(0, bV false), (1, bV false)] [] 0 trivial ?_
 refine AW.seq ?_
 refine AW.block ?_
 refine kO (qE 4 []) True [(0, bV false), (5, bV true)] trivial ?_
 refine zt ?_
 refine kO [.no] True [(4, iV 0)] trivial ?_
 refine AW.ret ?_
 exact kA (.inr rfl) [] (P := (kN 0)) zk rfl
theorem lM (p q : Bool) : Fun 106 [.c (.d (D.lit (.bool (p)))), .c (.d (D.lit (.bool (q))))] (kH []) 0 (iV (bJ p q)) (kH []) 0 := by
 cases p <;> cases q
 ·exact k5s
 ·exact k5r
 ·exact k5q
 ·exact k5p
theorem u0s (a b : Int) (ha : -9223372036854775808 ≤ a ∧ a ≤ 9223372036854775807) (hb : -9223372036854775808 ≤ b ∧ b ≤ 9223372036854775807) : Fun 109 [iE a, iE b] (kH []) 0 (uP (D.lit (.int .u64 (vT a b)))) (kH []) 0 := by
 refine Fun.mk (n := 14) Tryz.func109 rfl rfl (ka4 rfl) ?_
 intro cx hcx
 refine kK [.no] True [(0, iV a), (1, iV b)] [] 0 trivial ?_
 refine kO (qE 10 []) True [(4, uP (D.lit (.int .u64 (IntKind.u64.wrap ((IntKind.u64.wrap (max a b)) - (IntKind.u64.wrap (min a b)))))))] trivial ?_
 refine AW.ret ?_
 exact kA (.inr rfl) [] (P := (((vT a b) : Int) = (IntKind.u64.wrap ((IntKind.u64.wrap (max a b)) - (IntKind.u64.wrap (min a b)))))) zk (by first | exact u7u ha hb | exact u7t ha hb zo | exact u7s ha hb zo)
theorem u0t (a b : Int) (ha : -9223372036854775808 ≤ a ∧ a ≤ 9223372036854775807) (hb : -9223372036854775808 ≤ b ∧ b ≤ 9223372036854775807) : Fun 115 [iE a, iE b] (kH []) 0 (uP (D.lit (.int .u64 (vT a b)))) (kH []) 0 := by
 refine Fun.mk (n := 18) Tryz.func115 rfl rfl (ka4 rfl) ?_
 intro cx hcx
 refine kK [.no] True [(0, iV a), (1, iV b)] [] 0 trivial ?_
 refine AW.seq ?_
 by_cases hx1 : (b < a)
 ·refine kO [.no, .no, .b true] ((b < a)) [(0, iV a), (1, iV b), (7, bV true)] zo ?_
  refine zt ?_
  refine kO (qE 6 []) True [(4, uP (D.lit (.int .u64 (IntKind.u64.wrap ((IntKind.u64.wrap a) - (IntKind.u64.wrap b))))))] trivial ?_
  refine AW.ret ?_
  exact kA (.inr rfl) [] (P := (((vT a b) : Int) = (IntKind.u64.wrap ((IntKind.u64.wrap a) - (IntKind.u64.wrap b))))) zk (by first | exact u7u ha hb | exact u7t ha hb zo | exact u7s ha hb zo)
 ·refine kO [.no, .no, .b false] (¬ (b < a)) [(0, iV a), (1, iV b), (7, bV false)] zo ?_
  refine q8 ?_
  refine kO (qE 6 []) True [(4, uP (D.lit (.int .u64 (IntKind.u64.wrap ((IntKind.u64.wrap b) - (IntKind.u64.wrap a))))))] trivial ?_
  refine AW.ret ?_
  exact kA (.inr rfl) [] (P := (((vT a b) : Int) = (IntKind.u64.wrap ((IntKind.u64.wrap b) - (IntKind.u64.wrap a))))) zk (by first | exact u7u ha hb | exact u7t ha hb zo | exact u7s ha hb zo)
theorem lL (a b : Int)  : Fun 114 [.c (.d (D.lit (.int .u64 a))), .c (.d (D.lit (.int .u64 b)))] (kH []) 0 (iV (qV a b)) (kH []) 0 := by
 refine Fun.mk (n := 13) Tryz.func114 rfl rfl (ka4 rfl) ?_
 intro cx hcx
 refine kK [.no] True [(0, uP (D.lit (.int .u64 a))), (1, uP (D.lit (.int .u64 b)))] [] 0 trivial ?_
 refine AW.seq ?_
 refine AW.block ?_
 by_cases hx1 : (a < b)
 ·refine kO [.no, .no, .b true, .no] ((a < b)) [(0, uP (D.lit (.int .u64 a))), (1, uP (D.lit (.int .u64 b))), (5, bV true)] zo ?_
  refine zt ?_
  refine kO [.no] True [(4, iV (-1))] trivial ?_
  refine AW.ret ?_
  exact kA (.inr rfl) [] (P := (((qV a b) : Int) = (-1))) zk eU
 ·refine kO [.no, .no, .b false, .no] (¬ (a < b)) [(0, uP (D.lit (.int .u64 a))), (1, uP (D.lit (.int .u64 b))), (5, bV false)] zo ?_
  refine zf ?_
  by_cases hx2 : (b < a)
  ·refine kO [.no, .no, .b true, .no] ((b < a)) [(9, bV true)] zo ?_
   refine zt ?_
   refine kO [.no] True [(4, iV 1)] trivial ?_
   refine AW.ret ?_
   exact kA (.inr rfl) [] (P := (((qV a b) : Int) = 1)) zk eU
  ·refine kO [.no, .no, .b false, .no] (¬ (b < a)) [(9, bV false)] zo ?_
   refine q8 ?_
   refine kO [.no] True [(4, iV 0)] trivial ?_
   refine AW.ret ?_
   exact kA (.inr rfl) [] (P := (((qV a b) : Int) = 0)) zk eU
theorem k0y (x y : Int)  : Fun 105 [.c (.own 0 0 2 1 true)] (kH [(0, some (3, .ds [iD x, iD y]))]) 1 (iV (u0 x y)) (kH [(0, some (3, .ds [iD x, iD y]))]) 1 := by
 refine Fun.mk (n := 18) Tryz.func105 rfl rfl (ka4 rfl) ?_
 intro cx hcx
 refine kK [.no] True [(0, oV 0 0 2 1)] [(0, some (3, .ds [iD x, iD y]))] 1 trivial ?_
 refine kO [.no] True [(0, oV 0 0 2 1), (3, iV 0)] trivial ?_
 refine AW.seq ?_
 refine kO [.no, .no, .no] True [(3, iV 0), (6, oV 0 0 2 1), (7, iV 2), (8, iV 0)] trivial ?_
 refine AW.block ?_
 refine AW.rounds 3 ?_
 refine AWr.s ?_
 refine kK [.b true] (((0 : Int) < 2)) [(3, iV 0), (6, oV 0 0 2 1), (7, iV 2), (8, iV 0), (9, bV true)] [(0, some (3, .ds [iD x, iD y]))] 1 zo ?_
 refine AW.seq ?_
 refine vB ?_
 refine AW.seq ?_
 refine AW.block ?_
 refine kO [.n2 0 0, .no, .no] ((kN 0) ∧ ((0 : Nat) < 2) ∧ ((0 : Nat) + 0 * 1 = 0)) [(3, iV 0), (5, iV x), (6, oV 0 0 2 1), (7, iV 2), (8, iV 0)] ⟨rfl, zo, zo⟩ ?_
 by_cases hx1 : (x ≠ 0)
 ·refine kO [.no, .no, .b true] ((x ≠ 0)) [(3, iV 0), (5, iV x), (6, oV 0 0 2 1), (7, iV 2), (8, iV 0), (14, bV true)] zo ?_
  refine zt ?_
  refine kO [.no, .no] True [(2, iV x)] trivial ?_
  refine AW.ret ?_
  exact kA (.inr rfl) [] (P := (((u0 x y) : Int) = x) ∧ (kM [iD x, iD y])) zk ⟨(by unfold u0; (repeat' split) <;> first | omega | contradiction | rfl), rfl⟩
 ·refine kO [.no, .no, .b false] (¬ (x ≠ 0)) [(3, iV 0), (5, iV x), (6, oV 0 0 2 1), (7, iV 2), (8, iV 0), (14, bV false)] zo ?_
  refine q8 ?_
  refine uT [.w, .no] ((-9223372036854775808) ≤ (1 : Int) ∧ (1 : Int) ≤ 9223372036854775807) [(3, iV 0), (6, oV 0 0 2 1), (7, iV 2), (8, iV 1)] ⟨by omega, by omega⟩ ?_
  refine AWr.s ?_
  refine kK [.b true] (((1 : Int) < 2)) [(3, iV 0), (6, oV 0 0 2 1), (7, iV 2), (8, iV 1), (9, bV true)] [(0, some (3, .ds [iD x, iD y]))] 1 zo ?_
  refine AW.seq ?_
  refine vB ?_
  refine AW.seq ?_
  refine AW.block ?_
  refine kO [.n2 1 1, .no, .no] ((kN 1) ∧ ((1 : Nat) < 2) ∧ ((0 : Nat) + 1 * 1 = 1)) [(3, iV 0), (5, iV y), (6, oV 0 0 2 1), (7, iV 2), (8, iV 1)] ⟨rfl, zo, zo⟩ ?_
  by_cases hx2 : (y ≠ 0)
  ·refine kO [.no, .no, .b true] ((y ≠ 0)) [(3, iV 0), (5, iV y), (6, oV 0 0 2 1), (7, iV 2), (8, iV 1), (14, bV true)] zo ?_
   refine zt ?_
   refine kO [.no, .no] True [(2, iV y)] trivial ?_
   refine AW.ret ?_
   exact kA (.inr rfl) [] (P := (((u0 x y) : Int) = y) ∧ (kM [iD x, iD y])) zk ⟨(by unfold u0; (repeat' split) <;> first | omega | contradiction | rfl), rfl⟩
  ·refine kO [.no, .no, .b false] (¬ (y ≠ 0)) [(3, iV 0), (5, iV y), (6, oV 0 0 2 1), (7, iV 2), (8, iV 1), (14, bV false)] zo ?_
   refine q8 ?_
   refine uT [.w, .no] ((-9223372036854775808) ≤ (2 : Int) ∧ (2 : Int) ≤ 9223372036854775807) [(3, iV 0), (6, oV 0 0 2 1), (7, iV 2), (8, iV 2)] ⟨by omega, by omega⟩ ?_
   refine AWr.s ?_
   refine kK [.b false] (¬ ((2 : Int) < 2)) [(3, iV 0), (6, oV 0 0 2 1), (7, iV 2), (8, iV 2), (9, bV false)] [(0, some (3, .ds [iD x, iD y]))] 1 zo ?_
   refine AW.seq ?_
   refine zf ?_
   refine AW.exit ?_
   refine kK [.no, .no] True [(2, iV 0)] [(0, some (3, .ds [iD x, iD y]))] 1 trivial ?_
   refine AW.ret ?_
   exact kA (.inr rfl) [] (P := (((u0 x y) : Int) = 0) ∧ (kM [iD x, iD y])) zk ⟨(by unfold u0; (repeat' split) <;> first | omega | contradiction | rfl), rfl⟩
theorem v1a (x y z u : Int)  : Fun 105 [.c (.own 0 0 4 1 true)] (kH [(0, some (3, .ds [iD x, iD y, iD z, iD u]))]) 1 (iV (u0 x (u0 y (u0 z u)))) (kH [(0, some (3, .ds [iD x, iD y, iD z, iD u]))]) 1 := by
 refine Fun.mk (n := 18) Tryz.func105 rfl rfl (ka4 rfl) ?_
 intro cx hcx
 refine kK [.no] True [(0, oV 0 0 4 1)] [(0, some (3, .ds [iD x, iD y, iD z, iD u]))] 1 trivial ?_
 refine kO [.no] True [(0, oV 0 0 4 1), (3, iV 0)] trivial ?_
 refine AW.seq ?_
 refine kO [.no, .no, .no] True [(3, iV 0), (6, oV 0 0 4 1), (7, iV 4), (8, iV 0)] trivial ?_
 refine AW.block ?_
 refine AW.rounds 5 ?_
 refine AWr.s ?_
 refine kK [.b true] (((0 : Int) < 4)) [(3, iV 0), (6, oV 0 0 4 1), (7, iV 4), (8, iV 0), (9, bV true)] [(0, some (3, .ds [iD x, iD y, iD z, iD u]))] 1 zo ?_
 refine AW.seq ?_
 refine vB ?_
 refine AW.seq ?_
 refine AW.block ?_
 refine kO [.n2 0 0, .no, .no] ((kN 0) ∧ ((0 : Nat) < 4) ∧ ((0 : Nat) + 0 * 1 = 0)) [(3, iV 0), (5, iV x), (6, oV 0 0 4 1), (7, iV 4), (8, iV 0)] ⟨rfl, zo, zo⟩ ?_
 by_cases hx1 : (x ≠ 0)
 ·refine kO [.no, .no, .b true] ((x ≠ 0)) [(3, iV 0), (5, iV x), (6, oV 0 0 4 1), (7, iV 4), (8, iV 0), (14, bV true)] zo ?_
  refine zt ?_
  refine kO [.no, .no] True [(2, iV x)] trivial ?_
  refine AW.ret ?_
  exact kA (.inr rfl) [] (P := (((u0 x (u0 y (u0 z u))) : Int) = x) ∧ (kM [iD x, iD y, iD z, iD u])) zk ⟨(by unfold u0; (repeat' split) <;> first | omega | contradiction | rfl), rfl⟩
 ·refine kO [.no, .no, .b false] (¬ (x ≠ 0)) [(3, iV 0), (5, iV x), (6, oV 0 0 4 1), (7, iV 4), (8, iV 0), (14, bV false)] zo ?_
  refine q8 ?_
  refine uT [.w, .no] ((-9223372036854775808) ≤ (1 : Int) ∧ (1 : Int) ≤ 9223372036854775807) [(3, iV 0), (6, oV 0 0 4 1), (7, iV 4), (8, iV 1)] ⟨by omega, by omega⟩ ?_
  refine AWr.s ?_
  refine kK [.b true] (((1 : Int) < 4)) [(3, iV 0), (6, oV 0 0 4 1), (7, iV 4), (8, iV 1), (9, bV true)] [(0, some (3, .ds [iD x, iD y, iD z, iD u]))] 1 zo ?_
  refine AW.seq ?_
  refine vB ?_
  refine AW.seq ?_
  refine AW.block ?_
  refine kO [.n2 1 1, .no, .no] ((kN 1) ∧ ((1 : Nat) < 4) ∧ ((0 : Nat) + 1 * 1 = 1)) [(3, iV 0), (5, iV y), (6, oV 0 0 4 1), (7, iV 4), (8, iV 1)] ⟨rfl, zo, zo⟩ ?_
  by_cases hx2 : (y ≠ 0)
  ·refine kO [.no, .no, .b true] ((y ≠ 0)) [(3, iV 0), (5, iV y), (6, oV 0 0 4 1), (7, iV 4), (8, iV 1), (14, bV true)] zo ?_
   refine zt ?_
   refine kO [.no, .no] True [(2, iV y)] trivial ?_
   refine AW.ret ?_
   exact kA (.inr rfl) [] (P := (((u0 x (u0 y (u0 z u))) : Int) = y) ∧ (kM [iD x, iD y, iD z, iD u])) zk ⟨(by unfold u0; (repeat' split) <;> first | omega | contradiction | rfl), rfl⟩
  ·refine kO [.no, .no, .b false] (¬ (y ≠ 0)) [(3, iV 0), (5, iV y), (6, oV 0 0 4 1), (7, iV 4), (8, iV 1), (14, bV false)] zo ?_
   refine q8 ?_
   refine uT [.w, .no] ((-9223372036854775808) ≤ (2 : Int) ∧ (2 : Int) ≤ 9223372036854775807) [(3, iV 0), (6, oV 0 0 4 1), (7, iV 4), (8, iV 2)] ⟨by omega, by omega⟩ ?_
   refine AWr.s ?_
   refine kK [.b true] (((2 : Int) < 4)) [(3, iV 0), (6, oV 0 0 4 1), (7, iV 4), (8, iV 2), (9, bV true)] [(0, some (3, .ds [iD x, iD y, iD z, iD u]))] 1 zo ?_
   refine AW.seq ?_
   refine vB ?_
   refine AW.seq ?_
   refine AW.block ?_
   refine kO [.n2 2 2, .no, .no] ((kN 2) ∧ ((2 : Nat) < 4) ∧ ((0 : Nat) + 2 * 1 = 2)) [(3, iV 0), (5, iV z), (6, oV 0 0 4 1), (7, iV 4), (8, iV 2)] ⟨rfl, zo, zo⟩ ?_
   by_cases hx3 : (z ≠ 0)
   ·refine kO [.no, .no, .b true] ((z ≠ 0)) [(3, iV 0), (5, iV z), (6, oV 0 0 4 1), (7, iV 4), (8, iV 2), (14, bV true)] zo ?_
    refine zt ?_
    refine kO [.no, .no] True [(2, iV z)] trivial ?_
    refine AW.ret ?_
    exact kA (.inr rfl) [] (P := (((u0 x (u0 y (u0 z u))) : Int) = z) ∧ (kM [iD x, iD y, iD z, iD u])) zk ⟨(by unfold u0; (repeat' split) <;> first | omega | contradiction | rfl), rfl⟩
   ·refine kO [.no, .no, .b false] (¬ (z ≠ 0)) [(3, iV 0), (5, iV z), (6, oV 0 0 4 1), (7, iV 4), (8, iV 2), (14, bV false)] zo ?_
    refine q8 ?_
    refine uT [.w, .no] ((-9223372036854775808) ≤ (3 : Int) ∧ (3 : Int) ≤ 9223372036854775807) [(3, iV 0), (6, oV 0 0 4 1), (7, iV 4), (8, iV 3)] ⟨by omega, by omega⟩ ?_
    refine AWr.s ?_
    refine kK [.b true] (((3 : Int) < 4)) [(3, iV 0), (6, oV 0 0 4 1), (7, iV 4), (8, iV 3), (9, bV true)] [(0, some (3, .ds [iD x, iD y, iD z, iD u]))] 1 zo ?_
    refine AW.seq ?_
    refine vB ?_
    refine AW.seq ?_
    refine AW.block ?_
    refine kO [.n2 3 3, .no, .no] ((kN 3) ∧ ((3 : Nat) < 4) ∧ ((0 : Nat) + 3 * 1 = 3)) [(3, iV 0), (5, iV u), (6, oV 0 0 4 1), (7, iV 4), (8, iV 3)] ⟨rfl, zo, zo⟩ ?_
    by_cases hx4 : (u ≠ 0)
    ·refine kO [.no, .no, .b true] ((u ≠ 0)) [(3, iV 0), (5, iV u), (6, oV 0 0 4 1), (7, iV 4), (8, iV 3), (14, bV true)] zo ?_
     refine zt ?_
     refine kO [.no, .no] True [(2, iV u)] trivial ?_
     refine AW.ret ?_
     exact kA (.inr rfl) [] (P := (((u0 x (u0 y (u0 z u))) : Int) = u) ∧ (kM [iD x, iD y, iD z, iD u])) zk ⟨(by unfold u0; (repeat' split) <;> first | omega | contradiction | rfl), rfl⟩
    ·refine kO [.no, .no, .b false] (¬ (u ≠ 0)) [(3, iV 0), (5, iV u), (6, oV 0 0 4 1), (7, iV 4), (8, iV 3), (14, bV false)] zo ?_
     refine q8 ?_
     refine uT [.w, .no] ((-9223372036854775808) ≤ (4 : Int) ∧ (4 : Int) ≤ 9223372036854775807) [(3, iV 0), (6, oV 0 0 4 1), (7, iV 4), (8, iV 4)] ⟨by omega, by omega⟩ ?_
     refine AWr.s ?_
     refine kK [.b false] (¬ ((4 : Int) < 4)) [(3, iV 0), (6, oV 0 0 4 1), (7, iV 4), (8, iV 4), (9, bV false)] [(0, some (3, .ds [iD x, iD y, iD z, iD u]))] 1 zo ?_
     refine AW.seq ?_
     refine zf ?_
     refine AW.exit ?_
     refine kK [.no, .no] True [(2, iV 0)] [(0, some (3, .ds [iD x, iD y, iD z, iD u]))] 1 trivial ?_
     refine AW.ret ?_
     exact kA (.inr rfl) [] (P := (((u0 x (u0 y (u0 z u))) : Int) = 0) ∧ (kM [iD x, iD y, iD z, iD u])) zk ⟨(by unfold u0; (repeat' split) <;> first | omega | contradiction | rfl), rfl⟩
theorem u0q (w a b : Int) (hw : -9223372036854775808 ≤ w ∧ w ≤ 9223372036854775807) (ha : -9223372036854775808 ≤ a ∧ a ≤ 9223372036854775807) (hb : -9223372036854775808 ≤ b ∧ b ≤ 9223372036854775807) : Fun 66 [iE w, iE a, iE b] (kH []) 0 (iV (aA w a b)) (kH []) 0 := by
 refine Fun.mk (n := 19) Tryz.func66 rfl rfl (ka4 rfl) ?_
 intro cx hcx
 refine kK [.no] True [(0, iV w), (1, iV a), (2, iV b)] [] 0 trivial ?_
 have hx1 : ((0 : Int) ≤ (vT w a)) := k4g w a
 have hx2 : ((0 : Int) ≤ (vT w b)) := k4g w b
 refine kK [.no, .no, .call [] (uP (D.lit (.int .u64 (vT w a)))) [] 0 [] none, .no, .no, .call [] (uP (D.lit (.int .u64 (vT w b)))) [] 0 [] none, .call [] (iV (qV (vT w a) (vT w b))) [] 0 [] none, .no, .no, .call [] (iV (qV a b)) [] 0 [] none, .no, .call [0] (iV (u0 (qV (vT w a) (vT w b)) (qV a b))) [(0, some (3, .ds [iD (qV (vT w a) (vT w b)), iD (qV a b)]))] 1 [] none, .no] ((_) ∧ (_) ∧ (_) ∧ (_) ∧ (_)) [(6, iV (u0 (qV (vT w a) (vT w b)) (qV a b)))] [] 1 ⟨(u0s w a zo zo), (u0s w b zo zo), (k5t (vT w a) (vT w b)), (aY a b), (k0y (qV (vT w a) (vT w b)) (qV a b))⟩ ?_
 refine AW.ret ?_
 exact kA (.inr rfl) [] (P := (((aA w a b) : Int) = (u0 (qV (vT w a) (vT w b)) (qV a b)))) zk (by first | rfl | exact k7g zo | exact k7f zo (by first | exact k0q zo | exact k0r zo | exact fN.2 zo))
theorem k4j (w a b : Int) (hw : -9223372036854775808 ≤ w ∧ w ≤ 9223372036854775807) (ha : -9223372036854775808 ≤ a ∧ a ≤ 9223372036854775807) (hb : -9223372036854775808 ≤ b ∧ b ≤ 9223372036854775807) : Fun 71 [iE w, iE a, iE b] (kH []) 0 (iV (aA w a b)) (kH []) 0 := by
 have hc1 : vT a w = vT w a := eH a w
 have hc2 : vT b w = vT w b := eH b w
 refine Fun.mk (n := 26) Tryz.func71 rfl rfl (ka4 rfl) ?_
 intro cx hcx
 refine kK [.no] True [(0, iV w), (1, iV a), (2, iV b)] [] 0 trivial ?_
 refine AW.seq ?_
 have hx1 : ((0 : Int) ≤ (vT a w)) := k4g a w
 have hx2 : ((0 : Int) ≤ (vT b w)) := k4g b w
 refine kO [.no, .no, .call [] (uP (D.lit (.int .u64 (vT a w)))) [] 0 [] none, .no, .no, .call [] (uP (D.lit (.int .u64 (vT b w)))) [] 0 [] none, .call [] (iV (qV (vT a w) (vT b w))) [] 0 [] none, .no] ((_) ∧ (_) ∧ (_)) [(1, iV a), (2, iV b), (7, iV (qV (vT a w) (vT b w)))] ⟨(u0t a w zo zo), (u0t b w zo zo), (lL (vT a w) (vT b w))⟩ ?_
 by_cases hx3 : ((qV (vT a w) (vT b w)) ≠ 0)
 ·refine kO [.no, .b true] (((qV (vT a w) (vT b w)) ≠ 0)) [(1, iV a), (2, iV b), (7, iV (qV (vT a w) (vT b w))), (16, bV true)] zo ?_
  refine zt ?_
  refine kO [.no, .no] True [(6, iV (qV (vT a w) (vT b w)))] trivial ?_
  refine AW.ret ?_
  exact kA (.inr rfl) [] (P := (((aA w a b) : Int) = (qV (vT a w) (vT b w)))) zk (by first | rfl | exact k7g zo | exact k7f zo (by first | exact k0q zo | exact k0r zo | exact fN.2 zo))
 ·refine kO [.no, .b false] (¬ ((qV (vT a w) (vT b w)) ≠ 0)) [(1, iV a), (2, iV b), (7, iV (qV (vT a w) (vT b w))), (16, bV false)] zo ?_
  refine q8 ?_
  refine AW.seq ?_
  refine AW.block ?_
  by_cases hx4 : (a < b)
  ·refine kO [.no, .no, .b true, .no] ((a < b)) [(1, iV a), (2, iV b), (18, bV true)] zo ?_
   refine zt ?_
   refine kO [.no] True [(6, iV (-1))] trivial ?_
   refine AW.ret ?_
   exact kA (.inr rfl) [] (P := (((aA w a b) : Int) = (-1))) zk (by first | rfl | exact k7g zo | exact k7f zo (by first | exact k0q zo | exact k0r zo | exact fN.2 zo))
  ·refine kO [.no, .no, .b false, .no] (¬ (a < b)) [(1, iV a), (2, iV b), (18, bV false)] zo ?_
   refine zf ?_
   by_cases hx5 : (b < a)
   ·refine kO [.no, .no, .b true, .no] ((b < a)) [(22, bV true)] zo ?_
    refine zt ?_
    refine kO [.no] True [(6, iV 1)] trivial ?_
    refine AW.ret ?_
    exact kA (.inr rfl) [] (P := (((aA w a b) : Int) = 1)) zk (by first | rfl | exact k7g zo | exact k7f zo (by first | exact k0q zo | exact k0r zo | exact fN.2 zo))
   ·refine kO [.no, .no, .b false, .no] (¬ (b < a)) [(22, bV false)] zo ?_
    refine q8 ?_
    refine kO [.no] True [(6, iV 0)] trivial ?_
    refine AW.ret ?_
    exact kA (.inr rfl) [] (P := (((aA w a b) : Int) = 0)) zk (by first | rfl | exact k7g zo | exact k7f zo (by first | exact k0q zo | exact k0r zo | exact fN.2 zo))
theorem xQ (w a b : Int)  : Fun 64 [iE w, iE a, iE b] (kH []) 0 (iV (vJ w a b)) (kH []) 0 := by
 refine Fun.mk (n := 19) Tryz.func64 rfl rfl (ka4 rfl) ?_
 intro cx hcx
 refine kK [.no] True [(0, iV w), (1, iV a), (2, iV b)] [] 0 trivial ?_
 by_cases hx1 : (a = w)
 ·by_cases hx2 : (b = w)
  ·have hx3 : ((((-1) : Int) ≤ (bJ true true)) ∧ ((bJ true true) ≤ 1)) := fE true true
   refine kK [.no, .no, .b true, .no, .no, .b true, .call [] (iV (bJ true true)) [] 0 [] none, .no, .no, .call [] (iV (qV b a)) [] 0 [] none, .no, .call [0] (iV (u0 (bJ true true) (qV b a))) [(0, some (3, .ds [iD (bJ true true), iD (qV b a)]))] 1 [] none, .no] (((a = w)) ∧ ((b = w)) ∧ (_) ∧ (_) ∧ (_)) [(6, iV (u0 (bJ true true) (qV b a)))] [] 1 ⟨zo, zo, (lM true true), (aY b a), (k0y (bJ true true) (qV b a))⟩ ?_
   refine AW.ret ?_
   exact kA (.inr rfl) [] (P := (((vJ w a b) : Int) = (u0 (bJ true true) (qV b a)))) zk (by first | rfl | (unfold vJ; first | rfl | (unfold u0 bJ qV; (repeat' split) <;> simp_all <;> omega)))
  ·have hx4 : ((((-1) : Int) ≤ (bJ true false)) ∧ ((bJ true false) ≤ 1)) := fE true false
   refine kK [.no, .no, .b true, .no, .no, .b false, .call [] (iV (bJ true false)) [] 0 [] none, .no, .no, .call [] (iV (qV b a)) [] 0 [] none, .no, .call [0] (iV (u0 (bJ true false) (qV b a))) [(0, some (3, .ds [iD (bJ true false), iD (qV b a)]))] 1 [] none, .no] (((a = w)) ∧ (¬ (b = w)) ∧ (_) ∧ (_) ∧ (_)) [(6, iV (u0 (bJ true false) (qV b a)))] [] 1 ⟨zo, zo, (lM true false), (aY b a), (k0y (bJ true false) (qV b a))⟩ ?_
   refine AW.ret ?_
   exact kA (.inr rfl) [] (P := (((vJ w a b) : Int) = (u0 (bJ true false) (qV b a)))) zk (by first | rfl | (unfold vJ; first | rfl | (unfold u0 bJ qV; (repeat' split) <;> simp_all <;> omega)))
 ·by_cases hx5 : (b = w)
  ·have hx6 : ((((-1) : Int) ≤ (bJ false true)) ∧ ((bJ false true) ≤ 1)) := fE false true
   refine kK [.no, .no, .b false, .no, .no, .b true, .call [] (iV (bJ false true)) [] 0 [] none, .no, .no, .call [] (iV (qV b a)) [] 0 [] none, .no, .call [0] (iV (u0 (bJ false true) (qV b a))) [(0, some (3, .ds [iD (bJ false true), iD (qV b a)]))] 1 [] none, .no] ((¬ (a = w)) ∧ ((b = w)) ∧ (_) ∧ (_) ∧ (_)) [(6, iV (u0 (bJ false true) (qV b a)))] [] 1 ⟨zo, zo, (lM false true), (aY b a), (k0y (bJ false true) (qV b a))⟩ ?_
   refine AW.ret ?_
   exact kA (.inr rfl) [] (P := (((vJ w a b) : Int) = (u0 (bJ false true) (qV b a)))) zk (by first | rfl | (unfold vJ; first | rfl | (unfold u0 bJ qV; (repeat' split) <;> simp_all <;> omega)))
  ·have hx7 : ((((-1) : Int) ≤ (bJ false false)) ∧ ((bJ false false) ≤ 1)) := fE false false
   refine kK [.no, .no, .b false, .no, .no, .b false, .call [] (iV (bJ false false)) [] 0 [] none, .no, .no, .call [] (iV (qV b a)) [] 0 [] none, .no, .call [0] (iV (u0 (bJ false false) (qV b a))) [(0, some (3, .ds [iD (bJ false false), iD (qV b a)]))] 1 [] none, .no] ((¬ (a = w)) ∧ (¬ (b = w)) ∧ (_) ∧ (_) ∧ (_)) [(6, iV (u0 (bJ false false) (qV b a)))] [] 1 ⟨zo, zo, (lM false false), (aY b a), (k0y (bJ false false) (qV b a))⟩ ?_
   refine AW.ret ?_
   exact kA (.inr rfl) [] (P := (((vJ w a b) : Int) = (u0 (bJ false false) (qV b a)))) zk (by first | rfl | (unfold vJ; first | rfl | (unfold u0 bJ qV; (repeat' split) <;> simp_all <;> omega)))
theorem pR (w a b : Int)  : Fun 70 [iE w, iE a, iE b] (kH []) 0 (iV (vJ w a b)) (kH []) 0 := by
 refine Fun.mk (n := 23) Tryz.func70 rfl rfl (ka4 rfl) ?_
 intro cx hcx
 refine kK [.no] True [(0, iV w), (1, iV a), (2, iV b)] [] 0 trivial ?_
 refine AW.seq ?_
 by_cases hx1 : (a = b)
 ·refine kO [.no, .no, .b true] ((a = b)) [(0, iV w), (1, iV a), (2, iV b), (9, bV true)] zo ?_
  refine zt ?_
  refine kO [.no] True [(6, iV 0)] trivial ?_
  refine AW.ret ?_
  exact kA (.inr rfl) [] (P := (((vJ w a b) : Int) = 0)) zk (by first | rfl | (unfold vJ; first | rfl | (unfold u0 bJ qV; (repeat' split) <;> simp_all <;> omega)))
 ·refine kO [.no, .no, .b false] (¬ (a = b)) [(0, iV w), (1, iV a), (2, iV b), (9, bV false)] zo ?_
  refine q8 ?_
  refine AW.seq ?_
  by_cases hx2 : (a = w)
  ·refine kO [.no, .no, .b true, .no, .no] ((a = w)) [(22, bV true)] zo ?_
   refine zt ?_
   refine kO [.no] True [(6, iV (-1))] trivial ?_
   refine AW.ret ?_
   exact kA (.inr rfl) [] (P := (((vJ w a b) : Int) = (-1))) zk (by first | rfl | (unfold vJ; first | rfl | (unfold u0 bJ qV; (repeat' split) <;> simp_all <;> omega)))
  ·by_cases hx3 : (b ≠ w)
   ·by_cases hx4 : (b < a)
    ·refine kO [.no, .no, .b false, .no, .no, .no, .b true, .no, .no, .no, .b true, .no, .no] ((¬ (a = w)) ∧ ((b ≠ w)) ∧ ((b < a))) [(22, bV true)] ⟨zo, zo, zo⟩ ?_
     refine zt ?_
     refine kO [.no] True [(6, iV (-1))] trivial ?_
     refine AW.ret ?_
     exact kA (.inr rfl) [] (P := (((vJ w a b) : Int) = (-1))) zk (by first | rfl | (unfold vJ; first | rfl | (unfold u0 bJ qV; (repeat' split) <;> simp_all <;> omega)))
    ·refine kO [.no, .no, .b false, .no, .no, .no, .b true, .no, .no, .no, .b false, .no, .no] ((¬ (a = w)) ∧ ((b ≠ w)) ∧ (¬ (b < a))) [(22, bV false)] ⟨zo, zo, zo⟩ ?_
     refine q8 ?_
     refine kO [.no] True [(6, iV 1)] trivial ?_
     refine AW.ret ?_
     exact kA (.inr rfl) [] (P := (((vJ w a b) : Int) = 1)) zk (by first | rfl | (unfold vJ; first | rfl | (unfold u0 bJ qV; (repeat' split) <;> simp_all <;> omega)))
   ·refine kO [.no, .no, .b false, .no, .no, .no, .b false, .no, .no, .no] ((¬ (a = w)) ∧ (¬ (b ≠ w))) [(22, bV false)] ⟨zo, zo⟩ ?_
    refine q8 ?_
    refine kO [.no] True [(6, iV 1)] trivial ?_
    refine AW.ret ?_
    exact kA (.inr rfl) [] (P := (((vJ w a b) : Int) = 1)) zk (by first | rfl | (unfold vJ; first | rfl | (unfold u0 bJ qV; (repeat' split) <;> simp_all <;> omega)))
theorem l1 {p : Prop} (h : p := by first | omega | assumption | simp) : p := h
theorem vL {p : Prop} (h : p := by first | omega | (simp only [uN, jX, gU, qQ, List.length_append, List.length_cons, List.length_nil, List.length_take, List.length_drop, List.length_replicate, List.length_set, List.length_map, List.length_reverse, Nat.mul_one] <;> omega) | rfl) : p := h
theorem u7x (a b : List Int) (n m : Nat) (hn : ka0 a = n) (hm : ka0 b = m) (h2 : n ≤ 1000000) (h3 : m ≤ 1000000) : Fun 113 [.c (.d (D.sl (dI .i64 a) n)), .c (.d (D.sl (dI .i64 b) m))] (kH []) 0 (iV (bW a b)) (kH []) 0 := by
 refine Fun.mk (n := 36) Tryz.func113 rfl rfl (ka4 rfl) ?_
 intro cx hcx
 refine kK [.no] True [(0, sV .i64 a n), (1, sV .i64 b m)] [] 0 trivial ?_
 refine AW.seq ?_
 refine kO [.no, .no, .no] True [(0, sV .i64 a n), (1, sV .i64 b m), (9, sV .i64 a n), (10, uV n), (11, iV 0)] trivial ?_
 refine AW.block ?_
 refine kY 0 hcx (fun (x : {x : Nat // match x with | k => (k ≤ n ∧ k ≤ m) ∧ (bW a b = bW (ka3 k a) (ka3 k b))}) => match x with | ⟨k, _⟩ => (⟨[(0, sV .i64 a n), (1, sV .i64 b m), (9, sV .i64 a n), (10, uV n), (11, uV k)], [], 0⟩ : ES)) (fun x => match x with | ⟨k, _⟩ => n - k) ⟨(0 : Nat), ⟨l1, rfl⟩⟩ [] (P := (kM (dI .i64 a)) ∧ (kJ n) ∧ (kM (dI .i64 b)) ∧ (kJ m) ∧ (kM (dI .i64 a)) ∧ (kJ n) ∧ (kN (n : Int)) ∧ (kN 0)) zk ⟨rfl, rfl, rfl, rfl, rfl, rfl, rfl, rfl⟩ ?_
 rintro ⟨k, hinv0⟩
 obtain ⟨hk, hx⟩ : (k ≤ n ∧ k ≤ m) ∧ (bW a b = bW (ka3 k a) (ka3 k b)) := hinv0
 refine qR (l := [(0, sV .i64 a n), (1, sV .i64 b m), (9, sV .i64 a n), (10, uV n), (11, uV k)]) (g := []) (nx := 0) rfl rfl rfl ?_
 by_cases hx1 : (((k : Nat) : Int) < ((n : Nat) : Int))
 ·refine kK [.b true] (((k : Int) < (n : Int))) [(0, sV .i64 a n), (1, sV .i64 b m), (9, sV .i64 a n), (10, uV n), (11, uV k), (12, bV true)] [] 0 zo ?_
  refine AW.seq ?_
  refine vB ?_
  refine AW.seq ?_
  refine AW.block ?_
  refine kO [.no, .n k, .d (D.lit (.int .i64 (ka1 a k 0))), .no, .no] ((kN (k : Int)) ∧ (k < n) ∧ ((ka3 k (dI .i64 a))[0]? = some (D.lit (.int .i64 (ka1 a k 0))))) [(0, sV .i64 a n), (1, sV .i64 b m), (5, uV k), (6, iV (ka1 a k 0)), (9, sV .i64 a n), (10, uV n), (11, uV k)] ⟨rfl, zo, (q6 _ _ _ vL)⟩ ?_
  refine AW.seq ?_
  by_cases hx2 : (((m : Nat) : Int) ≤ ((k : Nat) : Int))
  ·refine kO [.no, .no, .no, .b true] (((m : Int) ≤ (k : Int))) [(0, sV .i64 a n), (1, sV .i64 b m), (5, uV k), (6, iV (ka1 a k 0)), (9, sV .i64 a n), (10, uV n), (11, uV k), (19, bV true)] zo ?_
   refine zt ?_
   refine kO [.no] True [(4, iV 1)] trivial ?_
   refine AW.ret ?_
   exact kA (.inr rfl) [] (P := (((bW a b) : Int) = 1)) zk (by first | rfl | exact (sN hx zo zo zo) | exact (k3u hx zo zo) | exact (k3t hx zo zo) | exact (cG hx zo zo))
  ·refine kO [.no, .no, .no, .b false] (¬ ((m : Int) ≤ (k : Int))) [(0, sV .i64 a n), (1, sV .i64 b m), (5, uV k), (6, iV (ka1 a k 0)), (9, sV .i64 a n), (10, uV n), (11, uV k), (19, bV false)] zo ?_
   refine q8 ?_
   refine kO [.no, .no, .n k, .d (D.lit (.int .i64 (ka1 b k 0))), .no] ((kN (k : Int)) ∧ (k < m) ∧ ((ka3 k (dI .i64 b))[0]? = some (D.lit (.int .i64 (ka1 b k 0))))) [(0, sV .i64 a n), (1, sV .i64 b m), (6, iV (ka1 a k 0)), (7, iV (ka1 b k 0)), (9, sV .i64 a n), (10, uV n), (11, uV k)] ⟨rfl, zo, (q6 _ _ _ vL)⟩ ?_
   refine kO [.no, .no, .call [] (iV (qV (ka1 a k 0) (ka1 b k 0))) [] 0 [] none, .no] _ [(0, sV .i64 a n), (1, sV .i64 b m), (8, iV (qV (ka1 a k 0) (ka1 b k 0))), (9, sV .i64 a n), (10, uV n), (11, uV k)] (aY (ka1 a k 0) (ka1 b k 0)) ?_
   by_cases hx3 : ((qV (ka1 a k 0) (ka1 b k 0)) ≠ 0)
   ·refine kO [.no, .b true] (((qV (ka1 a k 0) (ka1 b k 0)) ≠ 0)) [(0, sV .i64 a n), (1, sV .i64 b m), (8, iV (qV (ka1 a k 0) (ka1 b k 0))), (9, sV .i64 a n), (10, uV n), (11, uV k), (28, bV true)] zo ?_
    refine zt ?_
    refine kO [.no, .no] True [(4, iV (qV (ka1 a k 0) (ka1 b k 0)))] trivial ?_
    refine AW.ret ?_
    exact kA (.inr rfl) [] (P := (((bW a b) : Int) = (qV (ka1 a k 0) (ka1 b k 0)))) zk (by first | rfl | exact (sN hx zo zo zo) | exact (k3u hx zo zo) | exact (k3t hx zo zo) | exact (cG hx zo zo))
   ·refine kO [.no, .b false] (¬ ((qV (ka1 a k 0) (ka1 b k 0)) ≠ 0)) [(0, sV .i64 a n), (1, sV .i64 b m), (8, iV (qV (ka1 a k 0) (ka1 b k 0))), (9, sV .i64 a n), (10, uV n), (11, uV k), (28, bV false)] zo ?_
    refine q8 ?_
    refine uT [.w, .no] ((-9223372036854775808) ≤ ((k : Int) + 1) ∧ ((k : Int) + 1) ≤ 9223372036854775807) [(0, sV .i64 a n), (1, sV .i64 b m), (9, sV .i64 a n), (10, uV n), (11, iV (↑k + 1))] ⟨by omega, by omega⟩ ?_
    exact kW ⟨((k + 1) : Nat), ⟨l1, (wL hx zo zo zo)⟩⟩ [] (P := (kM (dI .i64 a)) ∧ (kJ n) ∧ (kM (dI .i64 b)) ∧ (kJ m) ∧ (kM (dI .i64 a)) ∧ (kJ n) ∧ (kN (n : Int)) ∧ (((((k + 1) : Nat) : Int) : Int) = ((k : Int) + 1))) zk ⟨rfl, rfl, rfl, rfl, rfl, rfl, rfl, (by first | rfl | omega | assumption | (simp; done) | (simp; omega))⟩ (show n - (k + 1) < n - k from (by first | omega | (show _ < _; simp; omega)))
 ·refine kK [.b false] (¬ ((k : Int) < (n : Int))) [(0, sV .i64 a n), (1, sV .i64 b m), (9, sV .i64 a n), (10, uV n), (11, uV k), (12, bV false)] [] 0 zo ?_
  refine AW.seq ?_
  refine zf ?_
  refine AW.exit ?_
  refine AW.seq ?_
  by_cases hx4 : (((n : Nat) : Int) < ((m : Nat) : Int))
  ·refine kK (qE 4 [.b true]) (((n : Int) < (m : Int))) [(35, bV true)] [] 0 zo ?_
   refine zt ?_
   refine kO [.no] True [(4, iV (-1))] trivial ?_
   refine AW.ret ?_
   exact kA (.inr rfl) [] (P := (((bW a b) : Int) = (-1))) zk (by first | rfl | exact (sN hx zo zo zo) | exact (k3u hx zo zo) | exact (k3t hx zo zo) | exact (cG hx zo zo))
  ·refine kK (qE 4 [.b false]) (¬ ((n : Int) < (m : Int))) [(35, bV false)] [] 0 zo ?_
   refine q8 ?_
   refine kO [.no] True [(4, iV 0)] trivial ?_
   refine AW.ret ?_
   exact kA (.inr rfl) [] (P := (((bW a b) : Int) = 0)) zk (by first | rfl | exact (sN hx zo zo zo) | exact (k3u hx zo zo) | exact (k3t hx zo zo) | exact (cG hx zo zo))
theorem k0x (w a : List Int) (o n : Nat) (ho : ka0 w = o) (hn : ka0 a = n) (h1 : o ≤ 1000000) (h2 : n ≤ 1000000) : Fun 110 [.c (.d (D.sl (dI .i64 a) n)), .c (.ptr 0 0)] (kH [(0, some (23, .ds [D.sl (dI .i64 w) o]))]) 1 (iV (g9 w a)) (kH [(0, some (23, .ds [D.sl (dI .i64 w) o]))]) 1 := by
 refine Fun.mk (n := 8) Tryz.func110 rfl rfl (ka4 rfl) ?_
 intro cx hcx
 refine kK [.no] True [(0, sV .i64 a n), (1, rV 0 0)] [(0, some (23, .ds [dl w o]))] 1 trivial ?_
 have hx1 : ((ka0 (yX w a n)) ≤ o) := (by have h9 := g8 w a n; omega)
 refine kO [.no, .no, .call [] (sV .i64 (yX w a n) (ka0 (yX w a n))) [] 0 [] none, .no, .no] _ [(3, uV (ka0 (yX w a n)))] (u0v w a o n zo zo zo zo) ?_
 refine AW.ret ?_
 exact kA (.inr rfl) [] (P := (((g9 w a) : Int) = (ka0 (yX w a n) : Int)) ∧ (kM [dl w o])) zk ⟨(by first | rfl | (unfold g9; rw [hn])), rfl⟩
theorem u0r (w a b : List Int) (o n m : Nat) (ho : ka0 w = o) (hn : ka0 a = n) (hm : ka0 b = m) (h1 : o ≤ 1000000) (h2 : n ≤ 1000000) (h3 : m ≤ 1000000) : Fun 68 [.c (.d (D.sl (dI .i64 w) o)), .c (.d (D.sl (dI .i64 a) n)), .c (.d (D.sl (dI .i64 b) m))] (kH []) 0 (iV (yP w a b)) (kH []) 0 := by
 refine Fun.mk (n := 33) Tryz.func68 rfl rfl (ka4 rfl) ?_
 intro cx hcx
 refine kK [.no, .no] True [(1, sV .i64 a n), (2, sV .i64 b m), (3, rV 0 0)] [(0, some (23, .ds [dl w o]))] 1 trivial ?_
 refine kO [.no, .no] True [(1, sV .i64 a n), (2, sV .i64 b m), (3, rV 0 0), (7, .e (.c (.fn 110 [(0, 0)])))] trivial ?_
 have hx1 : ((((-1) : Int) ≤ (bJ (v8 a w) (v8 b w))) ∧ ((bJ (v8 a w) (v8 b w)) ≤ 1)) := fE (v8 a w) (v8 b w)
 have hx2 : ((0 : Int) ≤ (g9 w b)) := Int.natCast_nonneg _
 have hx3 : ((0 : Int) ≤ (g9 w a)) := Int.natCast_nonneg _
 have hx4 : ((((-1) : Int) ≤ (bW a b)) ∧ ((bW a b) ≤ 1)) := wM a b
 refine kK [.no, .no, .call [] (uP (D.lit (.bool (v8 a w)))) [] 0 [] none, .no, .no, .call [] (uP (D.lit (.bool (v8 b w)))) [] 0 [] none, .call [] (iV (bJ (v8 a w) (v8 b w))) [] 0 [] none, .no, .no, .call [0] (iV (g9 w b)) [(0, some (23, .ds [dl w o]))] 1 [] none, .no, .no, .call [0] (iV (g9 w a)) [(0, some (23, .ds [dl w o]))] 1 [] none, .call [] (iV (qV (g9 w b) (g9 w a))) [] 0 [] none, .no, .no, .no, .no, .call [] (iV (qV (n : Int) (m : Int))) [] 0 [] none, .no, .no, .call [] (iV (bW a b)) [] 0 [] none, .no, .call [1] (iV (u0 (bJ (v8 a w) (v8 b w)) (u0 (qV (g9 w b) (g9 w a)) (u0 (qV (n : Int) (m : Int)) (bW a b))))) [(0, some (3, .ds [iD (bJ (v8 a w) (v8 b w)), iD (qV (g9 w b) (g9 w a)), iD (qV (n : Int) (m : Int)), iD (bW a b)]))] 1 [] none, .no] ((_) ∧ (_) ∧ (_) ∧ (_) ∧ (_) ∧ (_) ∧ (_) ∧ (_) ∧ (_)) [(6, iV (u0 (bJ (v8 a w) (v8 b w)) (u0 (qV (g9 w b) (g9 w a)) (u0 (qV ↑n ↑m) (bW a b)))))] [] 2 ⟨(k2r a w n o zo zo zo zo), (k2r b w m o zo zo zo zo), (lM (v8 a w) (v8 b w)), (k0x w b o m zo zo zo zo), (k0x w a o n zo zo zo zo), (aY (g9 w b) (g9 w a)), (aY (n : Int) (m : Int)), (u7x a b n m zo zo zo zo), (v1a (bJ (v8 a w) (v8 b w)) (qV (g9 w b) (g9 w a)) (qV (n : Int) (m : Int)) (bW a b))⟩ ?_
 refine AW.ret ?_
 exact kA (.inr rfl) [] (P := (((yP w a b) : Int) = (u0 (bJ (v8 a w) (v8 b w)) (u0 (qV (g9 w b) (g9 w a)) (u0 (qV (n : Int) (m : Int)) (bW a b)))))) zk (by first | rfl | (unfold yP; rw [hn, hm]))
theorem k9 {p : Prop} (h : p := by first | assumption | (simp only [*]; done)) : p := h
theorem xP (w a b : List Int) (o n m : Nat) (ho : ka0 w = o) (hn : ka0 a = n) (hm : ka0 b = m) (h1 : o ≤ 1000000) (h2 : n ≤ 1000000) (h3 : m ≤ 1000000) : Fun 72 [.c (.d (D.sl (dI .i64 w) o)), .c (.d (D.sl (dI .i64 a) n)), .c (.d (D.sl (dI .i64 b) m))] (kH []) 0 (iV (yP w a b)) (kH []) 0 := by
 have hca : ((ka0 (yX w a n) : Nat) : Int) = g9 w a := by unfold g9; rw [hn]
 have hcb : ((ka0 (yX w b m) : Nat) : Int) = g9 w b := by unfold g9; rw [hm]
 have hzz : ∀ x y : Int, qV x y = 0 → x = y := fun x y h => fN.1 h
 refine Fun.mk (n := 70) Tryz.func72 rfl rfl (ka4 rfl) ?_
 intro cx hcx
 refine kK [.no] True [(0, sV .i64 w o), (1, sV .i64 a n), (2, sV .i64 b m)] [] 0 trivial ?_
 refine AW.seq ?_
 rcases ka9 (v8 a w) with hx1 | hx1
 ·rcases ka9 (v8 b w) with hx2 | hx2
  ·refine kO [.no, .no, .call [] (bV true) [] 0 [] none, .no, .no, .call [] (bV true) [] 0 [] none, .no, .no] ((Fun 94 [.c (.d (dl a n)), .c (.d (dl w o))] (kH []) 0 (bV true) (kH []) 0) ∧ (Fun 94 [.c (.d (dl b m)), .c (.d (dl w o))] (kH []) 0 (bV true) (kH []) 0)) [(0, sV .i64 w o), (1, sV .i64 a n), (2, sV .i64 b m), (7, bV true), (8, bV true)] ⟨(by have h0 := (bX a w n o zo zo zo zo); rw [hx1] at h0; exact h0), (by have h0 := (bX b w m o zo zo zo zo); rw [hx2] at h0; exact h0)⟩ ?_
   refine kO [.no, .no, .no] True [(0, sV .i64 w o), (1, sV .i64 a n), (2, sV .i64 b m), (7, bV true), (20, bV false)] trivial ?_
   refine q8 ?_
   refine AW.seq ?_
   have hx3 : ((ka0 (yX w b m)) ≤ o) := (by have h9 := g8 w b m; omega)
   have hx4 : ((ka0 (yX w a n)) ≤ o) := (by have h9 := g8 w a n; omega)
   refine kO [.no, .no, .call [] (sV .i64 (yX w b m) (ka0 (yX w b m))) [] 0 [] none, .no, .w, .no, .no, .call [] (sV .i64 (yX w a n) (ka0 (yX w a n))) [] 0 [] none, .no, .w, .call [] (iV (qV (ka0 (yX w b m) : Int) (ka0 (yX w a n) : Int))) [] 0 [] none, .no] ((_) ∧ (0 ≤ (ka0 (yX w b m) : Int) ∧ (ka0 (yX w b m) : Int) ≤ 18446744073709551615) ∧ (_) ∧ (0 ≤ (ka0 (yX w a n) : Int) ∧ (ka0 (yX w a n) : Int) ≤ 18446744073709551615) ∧ (_)) [(1, sV .i64 a n), (2, sV .i64 b m), (9, iV (qV (ka0 (yX w b m) : Int) (ka0 (yX w a n) : Int)))] ⟨(iF w b o m zo zo zo zo), ⟨by omega, by omega⟩, (iF w a o n zo zo zo zo), ⟨by omega, by omega⟩, (lL (ka0 (yX w b m) : Int) (ka0 (yX w a n) : Int))⟩ ?_
   by_cases hx5 : ((qV (((ka0 (yX w b m)) : Nat) : Int) (((ka0 (yX w a n)) : Nat) : Int)) ≠ 0)
   ·refine kO [.no, .b true] (((qV (ka0 (yX w b m) : Int) (ka0 (yX w a n) : Int)) ≠ 0)) [(1, sV .i64 a n), (2, sV .i64 b m), (9, iV (qV (ka0 (yX w b m) : Int) (ka0 (yX w a n) : Int))), (34, bV true)] zo ?_
    refine zt ?_
    refine kO [.no, .no] True [(6, iV (qV (ka0 (yX w b m) : Int) (ka0 (yX w a n) : Int)))] trivial ?_
    refine AW.ret ?_
    exact kA (.inr rfl) [] (P := (((yP w a b) : Int) = (qV (ka0 (yX w b m) : Int) (ka0 (yX w a n) : Int)))) zk (by first | exact nM hcb hca k9 zo hn hm zo (by first | exact nR hx zo zo zo | exact nS hx zo zo zo | exact cG hx zo zo) | exact nN hcb hca k9 zo hn hm zo | exact nO hcb hca k9 zo | exact nQ k9 k9 | exact nP k9 k9)
   ·refine kO [.no, .b false] (¬ ((qV (ka0 (yX w b m) : Int) (ka0 (yX w a n) : Int)) ≠ 0)) [(1, sV .i64 a n), (2, sV .i64 b m), (9, iV (qV (ka0 (yX w b m) : Int) (ka0 (yX w a n) : Int))), (34, bV false)] zo ?_
    refine q8 ?_
    refine AW.seq ?_
    refine kO [.no, .no, .w, .no, .no, .w, .call [] (iV (qV (n : Int) (m : Int))) [] 0 [] none, .no] ((0 ≤ (n : Int) ∧ (n : Int) ≤ 18446744073709551615) ∧ (0 ≤ (m : Int) ∧ (m : Int) ≤ 18446744073709551615) ∧ (_)) [(1, sV .i64 a n), (2, sV .i64 b m), (10, iV (qV ↑n ↑m))] ⟨⟨by omega, by omega⟩, ⟨by omega, by omega⟩, (lL (n : Int) (m : Int))⟩ ?_
    by_cases hx6 : ((qV ((n : Nat) : Int) ((m : Nat) : Int)) ≠ 0)
    ·refine kO [.no, .b true] (((qV (n : Int) (m : Int)) ≠ 0)) [(1, sV .i64 a n), (2, sV .i64 b m), (10, iV (qV ↑n ↑m)), (44, bV true)] zo ?_
     refine zt ?_
     refine kO [.no, .no] True [(6, iV (qV ↑n ↑m))] trivial ?_
     refine AW.ret ?_
     exact kA (.inr rfl) [] (P := (((yP w a b) : Int) = (qV (n : Int) (m : Int)))) zk (by first | exact nM hcb hca k9 zo hn hm zo (by first | exact nR hx zo zo zo | exact nS hx zo zo zo | exact cG hx zo zo) | exact nN hcb hca k9 zo hn hm zo | exact nO hcb hca k9 zo | exact nQ k9 k9 | exact nP k9 k9)
    ·refine kO [.no, .b false] (¬ ((qV (n : Int) (m : Int)) ≠ 0)) [(1, sV .i64 a n), (2, sV .i64 b m), (10, iV (qV ↑n ↑m)), (44, bV false)] zo ?_
     refine q8 ?_
     refine AW.seq ?_
     refine kO [.no, .no, .no] True [(1, sV .i64 a n), (2, sV .i64 b m), (47, uV n), (48, iV 0)] trivial ?_
     refine AW.block ?_
     refine kY 0 hcx (fun (x : {x : Nat // match x with | k => (n = m) ∧ (k ≤ n ∧ k ≤ m) ∧ (bW a b = bW (ka3 k a) (ka3 k b))}) => match x with | ⟨k, _⟩ => (⟨[(1, sV .i64 a n), (2, sV .i64 b m), (47, uV n), (48, uV k)], [], 0⟩ : ES)) (fun x => match x with | ⟨k, _⟩ => n - k) ⟨(0 : Nat), ⟨(by have h9 := fN.1 (show qV (n : Int) (m : Int) = 0 by omega); omega), l1, rfl⟩⟩ [] (P := (kM (dI .i64 a)) ∧ (kJ n) ∧ (kM (dI .i64 b)) ∧ (kJ m) ∧ (kN (n : Int)) ∧ (kN 0)) zk ⟨rfl, rfl, rfl, rfl, rfl, rfl⟩ ?_
     rintro ⟨k, hinv0⟩
     obtain ⟨hnm, hk, hx⟩ : (n = m) ∧ (k ≤ n ∧ k ≤ m) ∧ (bW a b = bW (ka3 k a) (ka3 k b)) := hinv0
     refine qR (l := [(1, sV .i64 a n), (2, sV .i64 b m), (47, uV n), (48, uV k)]) (g := []) (nx := 0) rfl rfl rfl ?_
     by_cases hx7 : (((k : Nat) : Int) < ((n : Nat) : Int))
     ·refine kK [.b true] (((k : Int) < (n : Int))) [(1, sV .i64 a n), (2, sV .i64 b m), (47, uV n), (48, uV k), (49, bV true)] [] 0 zo ?_
      refine AW.seq ?_
      refine vB ?_
      refine AW.seq ?_
      refine AW.block ?_
      refine kO [.no, .no] True [(1, sV .i64 a n), (2, sV .i64 b m), (11, uV k), (47, uV n), (48, uV k)] trivial ?_
      by_cases hx8 : ((ka1 a k 0) ≠ (ka1 b k 0))
      ·refine kO [.no, .no, .n k, .d (D.lit (.int .i64 (ka1 a k 0))), .no, .no, .n k, .d (D.lit (.int .i64 (ka1 b k 0))), .b true] ((kN (k : Int)) ∧ (k < n) ∧ ((ka3 k (dI .i64 a))[0]? = some (D.lit (.int .i64 (ka1 a k 0)))) ∧ (kN (k : Int)) ∧ (k < m) ∧ ((ka3 k (dI .i64 b))[0]? = some (D.lit (.int .i64 (ka1 b k 0)))) ∧ (((ka1 a k 0) ≠ (ka1 b k 0)))) [(1, sV .i64 a n), (2, sV .i64 b m), (11, uV k), (47, uV n), (48, uV k), (59, bV true)] ⟨rfl, zo, (q6 _ _ _ vL), rfl, zo, (q6 _ _ _ vL), zo⟩ ?_
       refine zt ?_
       refine AW.seq ?_
       by_cases hx9 : ((ka1 a k 0) < (ka1 b k 0))
       ·refine kO [.no, .no, .n k, .d (D.lit (.int .i64 (ka1 a k 0))), .no, .no, .n k, .d (D.lit (.int .i64 (ka1 b k 0))), .b true] ((kN (k : Int)) ∧ (k < n) ∧ ((ka3 k (dI .i64 a))[0]? = some (D.lit (.int .i64 (ka1 a k 0)))) ∧ (kN (k : Int)) ∧ (k < m) ∧ ((ka3 k (dI .i64 b))[0]? = some (D.lit (.int .i64 (ka1 b k 0)))) ∧ (((ka1 a k 0) < (ka1 b k 0)))) [(68, bV true)] ⟨rfl, zo, (q6 _ _ _ vL), rfl, zo, (q6 _ _ _ vL), zo⟩ ?_
        refine zt ?_
        refine kO [.no] True [(6, iV (-1))] trivial ?_
        refine AW.ret ?_
        exact kA (.inr rfl) [] (P := (((yP w a b) : Int) = (-1))) zk (by first | exact nM hcb hca k9 zo hn hm zo (by first | exact nR hx zo zo zo | exact nS hx zo zo zo | exact cG hx zo zo) | exact nN hcb hca k9 zo hn hm zo | exact nO hcb hca k9 zo | exact nQ k9 k9 | exact nP k9 k9)
       ·refine kO [.no, .no, .n k, .d (D.lit (.int .i64 (ka1 a k 0))), .no, .no, .n k, .d (D.lit (.int .i64 (ka1 b k 0))), .b false] ((kN (k : Int)) ∧ (k < n) ∧ ((ka3 k (dI .i64 a))[0]? = some (D.lit (.int .i64 (ka1 a k 0)))) ∧ (kN (k : Int)) ∧ (k < m) ∧ ((ka3 k (dI .i64 b))[0]? = some (D.lit (.int .i64 (ka1 b k 0)))) ∧ (¬ ((ka1 a k 0) < (ka1 b k 0)))) [(68, bV false)] ⟨rfl, zo, (q6 _ _ _ vL), rfl, zo, (q6 _ _ _ vL), zo⟩ ?_
        refine q8 ?_
        refine kO [.no] True [(6, iV 1)] trivial ?_
        refine AW.ret ?_
        exact kA (.inr rfl) [] (P := (((yP w a b) : Int) = 1)) zk (by first | exact nM hcb hca k9 zo hn hm zo (by first | exact nR hx zo zo zo | exact nS hx zo zo zo | exact cG hx zo zo) | exact nN hcb hca k9 zo hn hm zo | exact nO hcb hca k9 zo | exact nQ k9 k9 | exact nP k9 k9)
      ·refine kO [.no, .no, .n k, .d (D.lit (.int .i64 (ka1 a k 0))), .no, .no, .n k, .d (D.lit (.int .i64 (ka1 b k 0))), .b false] ((kN (k : Int)) ∧ (k < n) ∧ ((ka3 k (dI .i64 a))[0]? = some (D.lit (.int .i64 (ka1 a k 0)))) ∧ (kN (k : Int)) ∧ (k < m) ∧ ((ka3 k (dI .i64 b))[0]? = some (D.lit (.int .i64 (ka1 b k 0)))) ∧ (¬ ((ka1 a k 0) ≠ (ka1 b k 0)))) [(1, sV .i64 a n), (2, sV .i64 b m), (11, uV k), (47, uV n), (48, uV k), (59, bV false)] ⟨rfl, zo, (q6 _ _ _ vL), rfl, zo, (q6 _ _ _ vL), zo⟩ ?_
       refine q8 ?_
       refine uT [.w, .no] ((-9223372036854775808) ≤ ((k : Int) + 1) ∧ ((k : Int) + 1) ≤ 9223372036854775807) [(1, sV .i64 a n), (2, sV .i64 b m), (47, uV n), (48, iV (↑k + 1))] ⟨by omega, by omega⟩ ?_
       exact kW ⟨((k + 1) : Nat), ⟨hnm, l1, (wL hx zo zo (fN.2 zo))⟩⟩ [] (P := (kM (dI .i64 a)) ∧ (kJ n) ∧ (kM (dI .i64 b)) ∧ (kJ m) ∧ (kN (n : Int)) ∧ (((((k + 1) : Nat) : Int) : Int) = ((k : Int) + 1))) zk ⟨rfl, rfl, rfl, rfl, rfl, (by first | rfl | omega | assumption | (simp; done) | (simp; omega))⟩ (show n - (k + 1) < n - k from (by first | omega | (show _ < _; simp; omega)))
     ·refine kK [.b false] (¬ ((k : Int) < (n : Int))) [(1, sV .i64 a n), (2, sV .i64 b m), (47, uV n), (48, uV k), (49, bV false)] [] 0 zo ?_
      refine AW.seq ?_
      refine zf ?_
      refine AW.exit ?_
      refine kK [.no] True [(6, iV 0)] [] 0 trivial ?_
      refine AW.ret ?_
      exact kA (.inr rfl) [] (P := (((yP w a b) : Int) = 0)) zk (by first | exact nM hcb hca k9 zo hn hm zo (by first | exact nR hx zo zo zo | exact nS hx zo zo zo | exact cG hx zo zo) | exact nN hcb hca k9 zo hn hm zo | exact nO hcb hca k9 zo | exact nQ k9 k9 | exact nP k9 k9)
  ·refine kO [.no, .no, .call [] (bV true) [] 0 [] none, .no, .no, .call [] (bV false) [] 0 [] none, .no, .no] ((Fun 94 [.c (.d (dl a n)), .c (.d (dl w o))] (kH []) 0 (bV true) (kH []) 0) ∧ (Fun 94 [.c (.d (dl b m)), .c (.d (dl w o))] (kH []) 0 (bV false) (kH []) 0)) [(0, sV .i64 w o), (1, sV .i64 a n), (2, sV .i64 b m), (7, bV true), (8, bV false)] ⟨(by have h0 := (bX a w n o zo zo zo zo); rw [hx1] at h0; exact h0), (by have h0 := (bX b w m o zo zo zo zo); rw [hx2] at h0; exact h0)⟩ ?_
   refine kO [.no, .no, .no] True [(0, sV .i64 w o), (1, sV .i64 a n), (2, sV .i64 b m), (7, bV true), (20, bV true)] trivial ?_
   refine zt ?_
   refine AW.seq ?_
   refine kO [.no] True [(21, bV true)] trivial ?_
   refine zt ?_
   refine kO [.no] True [(6, iV (-1))] trivial ?_
   refine AW.ret ?_
   exact kA (.inr rfl) [] (P := (((yP w a b) : Int) = (-1))) zk (by first | exact nM hcb hca k9 zo hn hm zo (by first | exact nR hx zo zo zo | exact nS hx zo zo zo | exact cG hx zo zo) | exact nN hcb hca k9 zo hn hm zo | exact nO hcb hca k9 zo | exact nQ k9 k9 | exact nP k9 k9)
 ·rcases ka9 (v8 b w) with hx10 | hx10
  ·refine kO [.no, .no, .call [] (bV false) [] 0 [] none, .no, .no, .call [] (bV true) [] 0 [] none, .no, .no] ((Fun 94 [.c (.d (dl a n)), .c (.d (dl w o))] (kH []) 0 (bV false) (kH []) 0) ∧ (Fun 94 [.c (.d (dl b m)), .c (.d (dl w o))] (kH []) 0 (bV true) (kH []) 0)) [(0, sV .i64 w o), (1, sV .i64 a n), (2, sV .i64 b m), (7, bV false), (8, bV true)] ⟨(by have h0 := (bX a w n o zo zo zo zo); rw [hx1] at h0; exact h0), (by have h0 := (bX b w m o zo zo zo zo); rw [hx10] at h0; exact h0)⟩ ?_
   refine kO [.no, .no, .no] True [(0, sV .i64 w o), (1, sV .i64 a n), (2, sV .i64 b m), (7, bV false), (20, bV true)] trivial ?_
   refine zt ?_
   refine AW.seq ?_
   refine kO [.no] True [(21, bV false)] trivial ?_
   refine q8 ?_
   refine kO [.no] True [(6, iV 1)] trivial ?_
   refine AW.ret ?_
   exact kA (.inr rfl) [] (P := (((yP w a b) : Int) = 1)) zk (by first | exact nM hcb hca k9 zo hn hm zo (by first | exact nR hx zo zo zo | exact nS hx zo zo zo | exact cG hx zo zo) | exact nN hcb hca k9 zo hn hm zo | exact nO hcb hca k9 zo | exact nQ k9 k9 | exact nP k9 k9)
  ·refine kO [.no, .no, .call [] (bV false) [] 0 [] none, .no, .no, .call [] (bV false) [] 0 [] none, .no, .no] ((Fun 94 [.c (.d (dl a n)), .c (.d (dl w o))] (kH []) 0 (bV false) (kH []) 0) ∧ (Fun 94 [.c (.d (dl b m)), .c (.d (dl w o))] (kH []) 0 (bV false) (kH []) 0)) [(0, sV .i64 w o), (1, sV .i64 a n), (2, sV .i64 b m), (7, bV false), (8, bV false)] ⟨(by have h0 := (bX a w n o zo zo zo zo); rw [hx1] at h0; exact h0), (by have h0 := (bX b w m o zo zo zo zo); rw [hx10] at h0; exact h0)⟩ ?_
   refine kO [.no, .no, .no] True [(0, sV .i64 w o), (1, sV .i64 a n), (2, sV .i64 b m), (7, bV false), (20, bV false)] trivial ?_
   refine q8 ?_
   refine AW.seq ?_
   have hx11 : ((ka0 (yX w b m)) ≤ o) := (by have h9 := g8 w b m; omega)
   have hx12 : ((ka0 (yX w a n)) ≤ o) := (by have h9 := g8 w a n; omega)
   refine kO [.no, .no, .call [] (sV .i64 (yX w b m) (ka0 (yX w b m))) [] 0 [] none, .no, .w, .no, .no, .call [] (sV .i64 (yX w a n) (ka0 (yX w a n))) [] 0 [] none, .no, .w, .call [] (iV (qV (ka0 (yX w b m) : Int) (ka0 (yX w a n) : Int))) [] 0 [] none, .no] ((_) ∧ (0 ≤ (ka0 (yX w b m) : Int) ∧ (ka0 (yX w b m) : Int) ≤ 18446744073709551615) ∧ (_) ∧ (0 ≤ (ka0 (yX w a n) : Int) ∧ (ka0 (yX w a n) : Int) ≤ 18446744073709551615) ∧ (_)) [(1, sV .i64 a n), (2, sV .i64 b m), (9, iV (qV (ka0 (yX w b m) : Int) (ka0 (yX w a n) : Int)))] ⟨(iF w b o m zo zo zo zo), ⟨by omega, by omega⟩, (iF w a o n zo zo zo zo), ⟨by omega, by omega⟩, (lL (ka0 (yX w b m) : Int) (ka0 (yX w a n) : Int))⟩ ?_
   by_cases hx13 : ((qV (((ka0 (yX w b m)) : Nat) : Int) (((ka0 (yX w a n)) : Nat) : Int)) ≠ 0)
   ·refine kO [.no, .b true] (((qV (ka0 (yX w b m) : Int) (ka0 (yX w a n) : Int)) ≠ 0)) [(1, sV .i64 a n), (2, sV .i64 b m), (9, iV (qV (ka0 (yX w b m) : Int) (ka0 (yX w a n) : Int))), (34, bV true)] zo ?_
    refine zt ?_
    refine kO [.no, .no] True [(6, iV (qV (ka0 (yX w b m) : Int) (ka0 (yX w a n) : Int)))] trivial ?_
    refine AW.ret ?_
    exact kA (.inr rfl) [] (P := (((yP w a b) : Int) = (qV (ka0 (yX w b m) : Int) (ka0 (yX w a n) : Int)))) zk (by first | exact nM hcb hca k9 zo hn hm zo (by first | exact nR hx zo zo zo | exact nS hx zo zo zo | exact cG hx zo zo) | exact nN hcb hca k9 zo hn hm zo | exact nO hcb hca k9 zo | exact nQ k9 k9 | exact nP k9 k9)
   ·refine kO [.no, .b false] (¬ ((qV (ka0 (yX w b m) : Int) (ka0 (yX w a n) : Int)) ≠ 0)) [(1, sV .i64 a n), (2, sV .i64 b m), (9, iV (qV (ka0 (yX w b m) : Int) (ka0 (yX w a n) : Int))), (34, bV false)] zo ?_
    refine q8 ?_
    refine AW.seq ?_
    refine kO [.no, .no, .w, .no, .no, .w, .call [] (iV (qV (n : Int) (m : Int))) [] 0 [] none, .no] ((0 ≤ (n : Int) ∧ (n : Int) ≤ 18446744073709551615) ∧ (0 ≤ (m : Int) ∧ (m : Int) ≤ 18446744073709551615) ∧ (_)) [(1, sV .i64 a n), (2, sV .i64 b m), (10, iV (qV ↑n ↑m))] ⟨⟨by omega, by omega⟩, ⟨by omega, by omega⟩, (lL (n : Int) (m : Int))⟩ ?_
    by_cases hx14 : ((qV ((n : Nat) : Int) ((m : Nat) : Int)) ≠ 0)
    ·refine kO [.no, .b true] (((qV (n : Int) (m : Int)) ≠ 0)) [(1, sV .i64 a n), (2, sV .i64 b m), (10, iV (qV ↑n ↑m)), (44, bV true)] zo ?_
     refine zt ?_
     refine kO [.no, .no] True [(6, iV (qV ↑n ↑m))] trivial ?_
     refine AW.ret ?_
     exact kA (.inr rfl) [] (P := (((yP w a b) : Int) = (qV (n : Int) (m : Int)))) zk (by first | exact nM hcb hca k9 zo hn hm zo (by first | exact nR hx zo zo zo | exact nS hx zo zo zo | exact cG hx zo zo) | exact nN hcb hca k9 zo hn hm zo | exact nO hcb hca k9 zo | exact nQ k9 k9 | exact nP k9 k9)
    ·refine kO [.no, .b false] (¬ ((qV (n : Int) (m : Int)) ≠ 0)) [(1, sV .i64 a n), (2, sV .i64 b m), (10, iV (qV ↑n ↑m)), (44, bV false)] zo ?_
     refine q8 ?_
     refine AW.seq ?_
     refine kO [.no, .no, .no] True [(1, sV .i64 a n), (2, sV .i64 b m), (47, uV n), (48, iV 0)] trivial ?_
     refine AW.block ?_
     refine kY 0 hcx (fun (x : {x : Nat // match x with | k => (n = m) ∧ (k ≤ n ∧ k ≤ m) ∧ (bW a b = bW (ka3 k a) (ka3 k b))}) => match x with | ⟨k, _⟩ => (⟨[(1, sV .i64 a n), (2, sV .i64 b m), (47, uV n), (48, uV k)], [], 0⟩ : ES)) (fun x => match x with | ⟨k, _⟩ => n - k) ⟨(0 : Nat), ⟨(by have h9 := fN.1 (show qV (n : Int) (m : Int) = 0 by omega); omega), l1, rfl⟩⟩ [] (P := (kM (dI .i64 a)) ∧ (kJ n) ∧ (kM (dI .i64 b)) ∧ (kJ m) ∧ (kN (n : Int)) ∧ (kN 0)) zk ⟨rfl, rfl, rfl, rfl, rfl, rfl⟩ ?_
     rintro ⟨k, hinv0⟩
     obtain ⟨hnm, hk, hx⟩ : (n = m) ∧ (k ≤ n ∧ k ≤ m) ∧ (bW a b = bW (ka3 k a) (ka3 k b)) := hinv0
     refine qR (l := [(1, sV .i64 a n), (2, sV .i64 b m), (47, uV n), (48, uV k)]) (g := []) (nx := 0) rfl rfl rfl ?_
     by_cases hx15 : (((k : Nat) : Int) < ((n : Nat) : Int))
     ·refine kK [.b true] (((k : Int) < (n : Int))) [(1, sV .i64 a n), (2, sV .i64 b m), (47, uV n), (48, uV k), (49, bV true)] [] 0 zo ?_
      refine AW.seq ?_
      refine vB ?_
      refine AW.seq ?_
      refine AW.block ?_
      refine kO [.no, .no] True [(1, sV .i64 a n), (2, sV .i64 b m), (11, uV k), (47, uV n), (48, uV k)] trivial ?_
      by_cases hx16 : ((ka1 a k 0) ≠ (ka1 b k 0))
      ·refine kO [.no, .no, .n k, .d (D.lit (.int .i64 (ka1 a k 0))), .no, .no, .n k, .d (D.lit (.int .i64 (ka1 b k 0))), .b true] ((kN (k : Int)) ∧ (k < n) ∧ ((ka3 k (dI .i64 a))[0]? = some (D.lit (.int .i64 (ka1 a k 0)))) ∧ (kN (k : Int)) ∧ (k < m) ∧ ((ka3 k (dI .i64 b))[0]? = some (D.lit (.int .i64 (ka1 b k 0)))) ∧ (((ka1 a k 0) ≠ (ka1 b k 0)))) [(1, sV .i64 a n), (2, sV .i64 b m), (11, uV k), (47, uV n), (48, uV k), (59, bV true)] ⟨rfl, zo, (q6 _ _ _ vL), rfl, zo, (q6 _ _ _ vL), zo⟩ ?_
       refine zt ?_
       refine AW.seq ?_
       by_cases hx17 : ((ka1 a k 0) < (ka1 b k 0))
       ·refine kO [.no, .no, .n k, .d (D.lit (.int .i64 (ka1 a k 0))), .no, .no, .n k, .d (D.lit (.int .i64 (ka1 b k 0))), .b true] ((kN (k : Int)) ∧ (k < n) ∧ ((ka3 k (dI .i64 a))[0]? = some (D.lit (.int .i64 (ka1 a k 0)))) ∧ (kN (k : Int)) ∧ (k < m) ∧ ((ka3 k (dI .i64 b))[0]? = some (D.lit (.int .i64 (ka1 b k 0)))) ∧ (((ka1 a k 0) < (ka1 b k 0)))) [(68, bV true)] ⟨rfl, zo, (q6 _ _ _ vL), rfl, zo, (q6 _ _ _ vL), zo⟩ ?_
        refine zt ?_
        refine kO [.no] True [(6, iV (-1))] trivial ?_
        refine AW.ret ?_
        exact kA (.inr rfl) [] (P := (((yP w a b) : Int) = (-1))) zk (by first | exact nM hcb hca k9 zo hn hm zo (by first | exact nR hx zo zo zo | exact nS hx zo zo zo | exact cG hx zo zo) | exact nN hcb hca k9 zo hn hm zo | exact nO hcb hca k9 zo | exact nQ k9 k9 | exact nP k9 k9)
       ·refine kO [.no, .no, .n k, .d (D.lit (.int .i64 (ka1 a k 0))), .no, .no, .n k, .d (D.lit (.int .i64 (ka1 b k 0))), .b false] ((kN (k : Int)) ∧ (k < n) ∧ ((ka3 k (dI .i64 a))[0]? = some (D.lit (.int .i64 (ka1 a k 0)))) ∧ (kN (k : Int)) ∧ (k < m) ∧ ((ka3 k (dI .i64 b))[0]? = some (D.lit (.int .i64 (ka1 b k 0)))) ∧ (¬ ((ka1 a k 0) < (ka1 b k 0)))) [(68, bV false)] ⟨rfl, zo, (q6 _ _ _ vL), rfl, zo, (q6 _ _ _ vL), zo⟩ ?_
        refine q8 ?_
        refine kO [.no] True [(6, iV 1)] trivial ?_
        refine AW.ret ?_
        exact kA (.inr rfl) [] (P := (((yP w a b) : Int) = 1)) zk (by first | exact nM hcb hca k9 zo hn hm zo (by first | exact nR hx zo zo zo | exact nS hx zo zo zo | exact cG hx zo zo) | exact nN hcb hca k9 zo hn hm zo | exact nO hcb hca k9 zo | exact nQ k9 k9 | exact nP k9 k9)
      ·refine kO [.no, .no, .n k, .d (D.lit (.int .i64 (ka1 a k 0))), .no, .no, .n k, .d (D.lit (.int .i64 (ka1 b k 0))), .b false] ((kN (k : Int)) ∧ (k < n) ∧ ((ka3 k (dI .i64 a))[0]? = some (D.lit (.int .i64 (ka1 a k 0)))) ∧ (kN (k : Int)) ∧ (k < m) ∧ ((ka3 k (dI .i64 b))[0]? = some (D.lit (.int .i64 (ka1 b k 0)))) ∧ (¬ ((ka1 a k 0) ≠ (ka1 b k 0)))) [(1, sV .i64 a n), (2, sV .i64 b m), (11, uV k), (47, uV n), (48, uV k), (59, bV false)] ⟨rfl, zo, (q6 _ _ _ vL), rfl, zo, (q6 _ _ _ vL), zo⟩ ?_
       refine q8 ?_
       refine uT [.w, .no] ((-9223372036854775808) ≤ ((k : Int) + 1) ∧ ((k : Int) + 1) ≤ 9223372036854775807) [(1, sV .i64 a n), (2, sV .i64 b m), (47, uV n), (48, iV (↑k + 1))] ⟨by omega, by omega⟩ ?_
       exact kW ⟨((k + 1) : Nat), ⟨hnm, l1, (wL hx zo zo (fN.2 zo))⟩⟩ [] (P := (kM (dI .i64 a)) ∧ (kJ n) ∧ (kM (dI .i64 b)) ∧ (kJ m) ∧ (kN (n : Int)) ∧ (((((k + 1) : Nat) : Int) : Int) = ((k : Int) + 1))) zk ⟨rfl, rfl, rfl, rfl, rfl, (by first | rfl | omega | assumption | (simp; done) | (simp; omega))⟩ (show n - (k + 1) < n - k from (by first | omega | (show _ < _; simp; omega)))
     ·refine kK [.b false] (¬ ((k : Int) < (n : Int))) [(1, sV .i64 a n), (2, sV .i64 b m), (47, uV n), (48, uV k), (49, bV false)] [] 0 zo ?_
      refine AW.seq ?_
      refine zf ?_
      refine AW.exit ?_
      refine kK [.no] True [(6, iV 0)] [] 0 trivial ?_
      refine AW.ret ?_
      exact kA (.inr rfl) [] (P := (((yP w a b) : Int) = 0)) zk (by first | exact nM hcb hca k9 zo hn hm zo (by first | exact nR hx zo zo zo | exact nS hx zo zo zo | exact cG hx zo zo) | exact nN hcb hca k9 zo hn hm zo | exact nO hcb hca k9 zo | exact nQ k9 k9 | exact nP k9 k9)
theorem u81 (wk wr wz ak ar az bk br bz : Int) (w a b : List Int) (o n m : Nat) (ho : ka0 w = o) (hn : ka0 a = n) (hm : ka0 b = m) (h1 : o ≤ 1000000) (h2 : n ≤ 1000000) (h3 : m ≤ 1000000) (hwr : -9223372036854775808 ≤ wr ∧ wr ≤ 9223372036854775807) (har : -9223372036854775808 ≤ ar ∧ ar ≤ 9223372036854775807) (hbr : -9223372036854775808 ≤ br ∧ br ≤ 9223372036854775807) (hwz : -9223372036854775808 ≤ wz ∧ wz ≤ 9223372036854775807) (haz : -9223372036854775808 ≤ az ∧ az ≤ 9223372036854775807) (hbz : -9223372036854775808 ≤ bz ∧ bz ≤ 9223372036854775807) : Fun 63 [.c (.ptr 0 0), .c (.ptr 1 0), .c (.ptr 2 0)] (kH [(0, some (27, .ds [iD wk, iD wr, D.sl (dI .i64 w) o, iD wz])), (1, some (27, .ds [iD ak, iD ar, D.sl (dI .i64 a) n, iD az])), (2, some (27, .ds [iD bk, iD br, D.sl (dI .i64 b) m, iD bz]))]) 3 (iV (vJ wk ak bk)) (kH [(0, some (27, .ds [iD wk, iD wr, D.sl (dI .i64 w) o, iD wz])), (1, some (27, .ds [iD ak, iD ar, D.sl (dI .i64 a) n, iD az])), (2, some (27, .ds [iD bk, iD br, D.sl (dI .i64 b) m, iD bz]))]) 3 := by
 refine Fun.mk (n := 14) Tryz.func63 rfl rfl (ka4 rfl) ?_
 intro cx hcx
 refine kK [.no] True [(0, rV 0 0), (1, rV 1 0), (2, rV 2 0)] [(0, some (27, .ds [iD wk, iD wr, dl w o, iD wz])), (1, some (27, .ds [iD ak, iD ar, dl a n, iD az])), (2, some (27, .ds [iD bk, iD br, dl b m, iD bz]))] 3 trivial ?_
 have hx1 : ((((-1) : Int) ≤ (vJ wk ak bk)) ∧ ((vJ wk ak bk) ≤ 1)) := dJ wk ak bk
 refine kO (qE 9 [.call [] (iV (vJ wk ak bk)) [] 0 [] none, .no]) _ [(3, iV (vJ wk ak bk))] (xQ wk ak bk) ?_
 refine AW.ret ?_
 exact kA (.inr rfl) [] (P := (kN (vJ wk ak bk)) ∧ (kM [iD wk, iD wr, dl w o, iD wz]) ∧ (kM [iD ak, iD ar, dl a n, iD az]) ∧ (kM [iD bk, iD br, dl b m, iD bz])) zk ⟨rfl, rfl, rfl, rfl⟩
theorem u80 (wk wr wz ak ar az bk br bz : Int) (w a b : List Int) (o n m : Nat) (ho : ka0 w = o) (hn : ka0 a = n) (hm : ka0 b = m) (h1 : o ≤ 1000000) (h2 : n ≤ 1000000) (h3 : m ≤ 1000000) (hwr : -9223372036854775808 ≤ wr ∧ wr ≤ 9223372036854775807) (har : -9223372036854775808 ≤ ar ∧ ar ≤ 9223372036854775807) (hbr : -9223372036854775808 ≤ br ∧ br ≤ 9223372036854775807) (hwz : -9223372036854775808 ≤ wz ∧ wz ≤ 9223372036854775807) (haz : -9223372036854775808 ≤ az ∧ az ≤ 9223372036854775807) (hbz : -9223372036854775808 ≤ bz ∧ bz ≤ 9223372036854775807) : Fun 65 [.c (.ptr 0 0), .c (.ptr 1 0), .c (.ptr 2 0)] (kH [(0, some (27, .ds [iD wk, iD wr, D.sl (dI .i64 w) o, iD wz])), (1, some (27, .ds [iD ak, iD ar, D.sl (dI .i64 a) n, iD az])), (2, some (27, .ds [iD bk, iD br, D.sl (dI .i64 b) m, iD bz]))]) 3 (iV (aA wr ar br)) (kH [(0, some (27, .ds [iD wk, iD wr, D.sl (dI .i64 w) o, iD wz])), (1, some (27, .ds [iD ak, iD ar, D.sl (dI .i64 a) n, iD az])), (2, some (27, .ds [iD bk, iD br, D.sl (dI .i64 b) m, iD bz]))]) 3 := by
 refine Fun.mk (n := 14) Tryz.func65 rfl rfl (ka4 rfl) ?_
 intro cx hcx
 refine kK [.no] True [(0, rV 0 0), (1, rV 1 0), (2, rV 2 0)] [(0, some (27, .ds [iD wk, iD wr, dl w o, iD wz])), (1, some (27, .ds [iD ak, iD ar, dl a n, iD az])), (2, some (27, .ds [iD bk, iD br, dl b m, iD bz]))] 3 trivial ?_
 have hx1 : ((((-1) : Int) ≤ (aA wr ar br)) ∧ ((aA wr ar br) ≤ 1)) := dF wr ar br
 refine kO (qE 9 [.call [] (iV (aA wr ar br)) [] 0 [] none, .no]) _ [(3, iV (aA wr ar br))] (u0q wr ar br zo zo zo) ?_
 refine AW.ret ?_
 exact kA (.inr rfl) [] (P := (kN (aA wr ar br)) ∧ (kM [iD wk, iD wr, dl w o, iD wz]) ∧ (kM [iD ak, iD ar, dl a n, iD az]) ∧ (kM [iD bk, iD br, dl b m, iD bz])) zk ⟨rfl, rfl, rfl, rfl⟩
theorem u7z (wk wr wz ak ar az bk br bz : Int) (w a b : List Int) (o n m : Nat) (ho : ka0 w = o) (hn : ka0 a = n) (hm : ka0 b = m) (h1 : o ≤ 1000000) (h2 : n ≤ 1000000) (h3 : m ≤ 1000000) (hwr : -9223372036854775808 ≤ wr ∧ wr ≤ 9223372036854775807) (har : -9223372036854775808 ≤ ar ∧ ar ≤ 9223372036854775807) (hbr : -9223372036854775808 ≤ br ∧ br ≤ 9223372036854775807) (hwz : -9223372036854775808 ≤ wz ∧ wz ≤ 9223372036854775807) (haz : -9223372036854775808 ≤ az ∧ az ≤ 9223372036854775807) (hbz : -9223372036854775808 ≤ bz ∧ bz ≤ 9223372036854775807) : Fun 67 [.c (.ptr 0 0), .c (.ptr 1 0), .c (.ptr 2 0)] (kH [(0, some (27, .ds [iD wk, iD wr, D.sl (dI .i64 w) o, iD wz])), (1, some (27, .ds [iD ak, iD ar, D.sl (dI .i64 a) n, iD az])), (2, some (27, .ds [iD bk, iD br, D.sl (dI .i64 b) m, iD bz]))]) 3 (iV (yP w a b)) (kH [(0, some (27, .ds [iD wk, iD wr, D.sl (dI .i64 w) o, iD wz])), (1, some (27, .ds [iD ak, iD ar, D.sl (dI .i64 a) n, iD az])), (2, some (27, .ds [iD bk, iD br, D.sl (dI .i64 b) m, iD bz]))]) 3 := by
 refine Fun.mk (n := 14) Tryz.func67 rfl rfl (ka4 rfl) ?_
 intro cx hcx
 refine kK [.no] True [(0, rV 0 0), (1, rV 1 0), (2, rV 2 0)] [(0, some (27, .ds [iD wk, iD wr, dl w o, iD wz])), (1, some (27, .ds [iD ak, iD ar, dl a n, iD az])), (2, some (27, .ds [iD bk, iD br, dl b m, iD bz]))] 3 trivial ?_
 have hx1 : ((((-1) : Int) ≤ (yP w a b)) ∧ ((yP w a b) ≤ 1)) := cK w a b
 refine kO (qE 9 [.call [] (iV (yP w a b)) [] 0 [] none, .no]) _ [(3, iV (yP w a b))] (u0r w a b o n m zo zo zo zo zo zo) ?_
 refine AW.ret ?_
 exact kA (.inr rfl) [] (P := (kN (yP w a b)) ∧ (kM [iD wk, iD wr, dl w o, iD wz]) ∧ (kM [iD ak, iD ar, dl a n, iD az]) ∧ (kM [iD bk, iD br, dl b m, iD bz])) zk ⟨rfl, rfl, rfl, rfl⟩
theorem u7y (wk wr wz ak ar az bk br bz : Int) (w a b : List Int) (o n m : Nat) (ho : ka0 w = o) (hn : ka0 a = n) (hm : ka0 b = m) (h1 : o ≤ 1000000) (h2 : n ≤ 1000000) (h3 : m ≤ 1000000) (hwr : -9223372036854775808 ≤ wr ∧ wr ≤ 9223372036854775807) (har : -9223372036854775808 ≤ ar ∧ ar ≤ 9223372036854775807) (hbr : -9223372036854775808 ≤ br ∧ br ≤ 9223372036854775807) (hwz : -9223372036854775808 ≤ wz ∧ wz ≤ 9223372036854775807) (haz : -9223372036854775808 ≤ az ∧ az ≤ 9223372036854775807) (hbz : -9223372036854775808 ≤ bz ∧ bz ≤ 9223372036854775807) : Fun 69 [.c (.ptr 0 0), .c (.ptr 1 0), .c (.ptr 2 0)] (kH [(0, some (27, .ds [iD wk, iD wr, D.sl (dI .i64 w) o, iD wz])), (1, some (27, .ds [iD ak, iD ar, D.sl (dI .i64 a) n, iD az])), (2, some (27, .ds [iD bk, iD br, D.sl (dI .i64 b) m, iD bz]))]) 3 (iV (aA wz az bz)) (kH [(0, some (27, .ds [iD wk, iD wr, D.sl (dI .i64 w) o, iD wz])), (1, some (27, .ds [iD ak, iD ar, D.sl (dI .i64 a) n, iD az])), (2, some (27, .ds [iD bk, iD br, D.sl (dI .i64 b) m, iD bz]))]) 3 := by
 refine Fun.mk (n := 11) Tryz.func69 rfl rfl (ka4 rfl) ?_
 intro cx hcx
 refine kK [.no] True [(0, rV 0 0), (1, rV 1 0), (2, rV 2 0)] [(0, some (27, .ds [iD wk, iD wr, dl w o, iD wz])), (1, some (27, .ds [iD ak, iD ar, dl a n, iD az])), (2, some (27, .ds [iD bk, iD br, dl b m, iD bz]))] 3 trivial ?_
 have hx1 : ((((-1) : Int) ≤ (aA wz az bz)) ∧ ((aA wz az bz) ≤ 1)) := dF wz az bz
 refine kO (qE 6 [.call [] (iV (aA wz az bz)) [] 0 [] none, .no]) _ [(3, iV (aA wz az bz))] (u0q wz az bz zo zo zo) ?_
 refine AW.ret ?_
 exact kA (.inr rfl) [] (P := (kN (aA wz az bz)) ∧ (kM [iD wk, iD wr, dl w o, iD wz]) ∧ (kM [iD ak, iD ar, dl a n, iD az]) ∧ (kM [iD bk, iD br, dl b m, iD bz])) zk ⟨rfl, rfl, rfl, rfl⟩
abbrev gT : BC := .cs [.fn 63 [(0, 0), (1, 0), (2, 0)], .fn 65 [(0, 0), (1, 0), (2, 0)], .fn 67 [(0, 0), (1, 0), (2, 0)], .fn 69 [(0, 0), (1, 0), (2, 0)]]
abbrev bE (wk : Int) (wr : Int) (w : List Int) (o : Nat) (wz : Int) : BC := .ds [iD wk, iD wr, D.sl (dI .i64 w) o, iD wz]
abbrev bD (ak : Int) (ar : Int) (a : List Int) (n : Nat) (az : Int) : BC := .ds [iD ak, iD ar, D.sl (dI .i64 a) n, iD az]
abbrev bC (bk : Int) (br : Int) (b : List Int) (m : Nat) (bz : Int) : BC := .ds [iD bk, iD br, D.sl (dI .i64 b) m, iD bz]
theorem s0 (wk wr wz ak ar az bk br bz : Int) (w a b : List Int) (o n m : Nat) (ho : ka0 w = o) (hn : ka0 a = n) (hm : ka0 b = m) (h1 : o ≤ 1000000) (h2 : n ≤ 1000000) (h3 : m ≤ 1000000) (hwr : -9223372036854775808 ≤ wr ∧ wr ≤ 9223372036854775807) (har : -9223372036854775808 ≤ ar ∧ ar ≤ 9223372036854775807) (hbr : -9223372036854775808 ≤ br ∧ br ≤ 9223372036854775807) (hwz : -9223372036854775808 ≤ wz ∧ wz ≤ 9223372036854775807) (haz : -9223372036854775808 ≤ az ∧ az ≤ 9223372036854775807) (hbz : -9223372036854775808 ≤ bz ∧ bz ≤ 9223372036854775807) : Fun 29 [.agg [iC wk, iC wr, .d (D.sl (dI .i64 w) o), iC wz], .agg [iC ak, iC ar, .d (D.sl (dI .i64 a) n), iC az], .agg [iC bk, iC br, .d (D.sl (dI .i64 b) m), iC bz]] (kH []) 0 (iV (d8 wk wr wz ak ar az bk br bz w a b)) (kH []) 0 := by
 refine Fun.mk (n := 28) Tryz.func29 rfl rfl (ka4 rfl) ?_
 intro cx hcx
 refine kK (qE 4 []) True [(3, rV 0 0), (4, rV 1 0), (5, rV 2 0)] [(0, some (27, (bE wk wr w o wz))), (1, some (27, (bD ak ar a n az))), (2, some (27, (bC bk br b m bz)))] 3 trivial ?_
 refine kK (qE 6 []) True [(7, oV 3 0 4 1)] [(0, some (27, (bE wk wr w o wz))), (1, some (27, (bD ak ar a n az))), (2, some (27, (bC bk br b m bz))), (3, some (85, gT))] 4 trivial ?_
 refine AW.seq ?_
 refine kO [.no, .no, .no] True [(16, oV 3 0 4 1), (17, iV 4), (18, iV 0)] trivial ?_
 refine AW.block ?_
 refine AW.rounds 5 ?_
 refine AWr.s ?_
 refine kK [.b true] (((0 : Int) < 4)) [(16, oV 3 0 4 1), (17, iV 4), (18, iV 0), (19, bV true)] [(0, some (27, (bE wk wr w o wz))), (1, some (27, (bD ak ar a n az))), (2, some (27, (bC bk br b m bz))), (3, some (85, gT))] 4 zo ?_
 refine AW.seq ?_
 refine vB ?_
 refine AW.seq ?_
 refine AW.block ?_
 refine kO [.n2 0 0, .no, .no] ((kN 0) ∧ ((0 : Nat) < 4) ∧ ((0 : Nat) + 0 * 1 = 0)) [(9, .e (.c (.fn 63 [(0, 0), (1, 0), (2, 0)]))), (16, oV 3 0 4 1), (17, iV 4), (18, iV 0)] ⟨rfl, zo, zo⟩ ?_
 have hx1 : ((((-1) : Int) ≤ (vJ wk ak bk)) ∧ ((vJ wk ak bk) ≤ 1)) := dJ wk ak bk
 refine kO [.no, .call [0, 1, 2] (iV (vJ wk ak bk)) [(0, some (27, (bE wk wr w o wz))), (1, some (27, (bD ak ar a n az))), (2, some (27, (bC bk br b m bz)))] 3 [] none, .no] _ [(10, iV (vJ wk ak bk)), (16, oV 3 0 4 1), (17, iV 4), (18, iV 0)] (u81 wk wr wz ak ar az bk br bz w a b o n m zo zo zo zo zo zo zo zo zo zo zo zo) ?_
 by_cases hx2 : ((vJ wk ak bk) ≠ 0)
 ·refine kO [.no, .b true] (((vJ wk ak bk) ≠ 0)) [(10, iV (vJ wk ak bk)), (16, oV 3 0 4 1), (17, iV 4), (18, iV 0), (25, bV true)] zo ?_
  refine zt ?_
  refine kK [.no, .no] True [(6, iV (vJ wk ak bk))] [] 4 trivial ?_
  refine AW.ret ?_
  exact kA (.inr rfl) [] (P := (((d8 wk wr wz ak ar az bk br bz w a b) : Int) = (vJ wk ak bk))) zk (by unfold d8 u0; (repeat' split) <;> first | omega | contradiction | rfl)
 ·refine kO [.no, .b false] (¬ ((vJ wk ak bk) ≠ 0)) [(10, iV (vJ wk ak bk)), (16, oV 3 0 4 1), (17, iV 4), (18, iV 0), (25, bV false)] zo ?_
  refine q8 ?_
  refine uT [.w, .no] ((-9223372036854775808) ≤ (1 : Int) ∧ (1 : Int) ≤ 9223372036854775807) [(16, oV 3 0 4 1), (17, iV 4), (18, iV 1)] ⟨by omega, by omega⟩ ?_
  refine AWr.s ?_
  refine kK [.b true] (((1 : Int) < 4)) [(16, oV 3 0 4 1), (17, iV 4), (18, iV 1), (19, bV true)] [(0, some (27, (bE wk wr w o wz))), (1, some (27, (bD ak ar a n az))), (2, some (27, (bC bk br b m bz))), (3, some (85, gT))] 4 zo ?_
  refine AW.seq ?_
  refine vB ?_
  refine AW.seq ?_
  refine AW.block ?_
  refine kO [.n2 1 1, .no, .no] ((kN 1) ∧ ((1 : Nat) < 4) ∧ ((0 : Nat) + 1 * 1 = 1)) [(9, .e (.c (.fn 65 [(0, 0), (1, 0), (2, 0)]))), (16, oV 3 0 4 1), (17, iV 4), (18, iV 1)] ⟨rfl, zo, zo⟩ ?_
  have hx3 : ((((-1) : Int) ≤ (aA wr ar br)) ∧ ((aA wr ar br) ≤ 1)) := dF wr ar br
  refine kO [.no, .call [0, 1, 2] (iV (aA wr ar br)) [(0, some (27, (bE wk wr w o wz))), (1, some (27, (bD ak ar a n az))), (2, some (27, (bC bk br b m bz)))] 3 [] none, .no] _ [(10, iV (aA wr ar br)), (16, oV 3 0 4 1), (17, iV 4), (18, iV 1)] (u80 wk wr wz ak ar az bk br bz w a b o n m zo zo zo zo zo zo zo zo zo zo zo zo) ?_
  by_cases hx4 : ((aA wr ar br) ≠ 0)
  ·refine kO [.no, .b true] (((aA wr ar br) ≠ 0)) [(10, iV (aA wr ar br)), (16, oV 3 0 4 1), (17, iV 4), (18, iV 1), (25, bV true)] zo ?_
   refine zt ?_
   refine kK [.no, .no] True [(6, iV (aA wr ar br))] [] 4 trivial ?_
   refine AW.ret ?_
   exact kA (.inr rfl) [] (P := (((d8 wk wr wz ak ar az bk br bz w a b) : Int) = (aA wr ar br))) zk (by unfold d8 u0; (repeat' split) <;> first | omega | contradiction | rfl)
  ·refine kO [.no, .b false] (¬ ((aA wr ar br) ≠ 0)) [(10, iV (aA wr ar br)), (16, oV 3 0 4 1), (17, iV 4), (18, iV 1), (25, bV false)] zo ?_
   refine q8 ?_
   refine uT [.w, .no] ((-9223372036854775808) ≤ (2 : Int) ∧ (2 : Int) ≤ 9223372036854775807) [(16, oV 3 0 4 1), (17, iV 4), (18, iV 2)] ⟨by omega, by omega⟩ ?_
   refine AWr.s ?_
   refine kK [.b true] (((2 : Int) < 4)) [(16, oV 3 0 4 1), (17, iV 4), (18, iV 2), (19, bV true)] [(0, some (27, (bE wk wr w o wz))), (1, some (27, (bD ak ar a n az))), (2, some (27, (bC bk br b m bz))), (3, some (85, gT))] 4 zo ?_
   refine AW.seq ?_
   refine vB ?_
   refine AW.seq ?_
   refine AW.block ?_
   refine kO [.n2 2 2, .no, .no] ((kN 2) ∧ ((2 : Nat) < 4) ∧ ((0 : Nat) + 2 * 1 = 2)) [(9, .e (.c (.fn 67 [(0, 0), (1, 0), (2, 0)]))), (16, oV 3 0 4 1), (17, iV 4), (18, iV 2)] ⟨rfl, zo, zo⟩ ?_
   have hx5 : ((((-1) : Int) ≤ (yP w a b)) ∧ ((yP w a b) ≤ 1)) := cK w a b
   refine kO [.no, .call [0, 1, 2] (iV (yP w a b)) [(0, some (27, (bE wk wr w o wz))), (1, some (27, (bD ak ar a n az))), (2, some (27, (bC bk br b m bz)))] 3 [] none, .no] _ [(10, iV (yP w a b)), (16, oV 3 0 4 1), (17, iV 4), (18, iV 2)] (u7z wk wr wz ak ar az bk br bz w a b o n m zo zo zo zo zo zo zo zo zo zo zo zo) ?_
   by_cases hx6 : ((yP w a b) ≠ 0)
   ·refine kO [.no, .b true] (((yP w a b) ≠ 0)) [(10, iV (yP w a b)), (16, oV 3 0 4 1), (17, iV 4), (18, iV 2), (25, bV true)] zo ?_
    refine zt ?_
    refine kK [.no, .no] True [(6, iV (yP w a b))] [] 4 trivial ?_
    refine AW.ret ?_
    exact kA (.inr rfl) [] (P := (((d8 wk wr wz ak ar az bk br bz w a b) : Int) = (yP w a b))) zk (by unfold d8 u0; (repeat' split) <;> first | omega | contradiction | rfl)
   ·refine kO [.no, .b false] (¬ ((yP w a b) ≠ 0)) [(10, iV (yP w a b)), (16, oV 3 0 4 1), (17, iV 4), (18, iV 2), (25, bV false)] zo ?_
    refine q8 ?_
    refine uT [.w, .no] ((-9223372036854775808) ≤ (3 : Int) ∧ (3 : Int) ≤ 9223372036854775807) [(16, oV 3 0 4 1), (17, iV 4), (18, iV 3)] ⟨by omega, by omega⟩ ?_
    refine AWr.s ?_
    refine kK [.b true] (((3 : Int) < 4)) [(16, oV 3 0 4 1), (17, iV 4), (18, iV 3), (19, bV true)] [(0, some (27, (bE wk wr w o wz))), (1, some (27, (bD ak ar a n az))), (2, some (27, (bC bk br b m bz))), (3, some (85, gT))] 4 zo ?_
    refine AW.seq ?_
    refine vB ?_
    refine AW.seq ?_
    refine AW.block ?_
    refine kO [.n2 3 3, .no, .no] ((kN 3) ∧ ((3 : Nat) < 4) ∧ ((0 : Nat) + 3 * 1 = 3)) [(9, .e (.c (.fn 69 [(0, 0), (1, 0), (2, 0)]))), (16, oV 3 0 4 1), (17, iV 4), (18, iV 3)] ⟨rfl, zo, zo⟩ ?_
    have hx7 : ((((-1) : Int) ≤ (aA wz az bz)) ∧ ((aA wz az bz) ≤ 1)) := dF wz az bz
    refine kO [.no, .call [0, 1, 2] (iV (aA wz az bz)) [(0, some (27, (bE wk wr w o wz))), (1, some (27, (bD ak ar a n az))), (2, some (27, (bC bk br b m bz)))] 3 [] none, .no] _ [(10, iV (aA wz az bz)), (16, oV 3 0 4 1), (17, iV 4), (18, iV 3)] (u7y wk wr wz ak ar az bk br bz w a b o n m zo zo zo zo zo zo zo zo zo zo zo zo) ?_
    by_cases hx8 : ((aA wz az bz) ≠ 0)
    ·refine kO [.no, .b true] (((aA wz az bz) ≠ 0)) [(10, iV (aA wz az bz)), (16, oV 3 0 4 1), (17, iV 4), (18, iV 3), (25, bV true)] zo ?_
     refine zt ?_
     refine kK [.no, .no] True [(6, iV (aA wz az bz))] [] 4 trivial ?_
     refine AW.ret ?_
     exact kA (.inr rfl) [] (P := (((d8 wk wr wz ak ar az bk br bz w a b) : Int) = (aA wz az bz))) zk (by unfold d8 u0; (repeat' split) <;> first | omega | contradiction | rfl)
    ·refine kO [.no, .b false] (¬ ((aA wz az bz) ≠ 0)) [(10, iV (aA wz az bz)), (16, oV 3 0 4 1), (17, iV 4), (18, iV 3), (25, bV false)] zo ?_
     refine q8 ?_
     refine uT [.w, .no] ((-9223372036854775808) ≤ (4 : Int) ∧ (4 : Int) ≤ 9223372036854775807) [(16, oV 3 0 4 1), (17, iV 4), (18, iV 4)] ⟨by omega, by omega⟩ ?_
     refine AWr.s ?_
     refine kK [.b false] (¬ ((4 : Int) < 4)) [(16, oV 3 0 4 1), (17, iV 4), (18, iV 4), (19, bV false)] [(0, some (27, (bE wk wr w o wz))), (1, some (27, (bD ak ar a n az))), (2, some (27, (bC bk br b m bz))), (3, some (85, gT))] 4 zo ?_
     refine AW.seq ?_
     refine zf ?_
     refine AW.exit ?_
     refine kK [.no] True [(6, iV 0)] [] 4 trivial ?_
     refine AW.ret ?_
     exact kA (.inr rfl) [] (P := (((d8 wk wr wz ak ar az bk br bz w a b) : Int) = 0)) zk (by unfold d8 u0; (repeat' split) <;> first | omega | contradiction | rfl)
theorem pS (wk wr wz ak ar az bk br bz : Int) (w a b : List Int) (o n m : Nat) (ho : ka0 w = o) (hn : ka0 a = n) (hm : ka0 b = m) (h1 : o ≤ 1000000) (h2 : n ≤ 1000000) (h3 : m ≤ 1000000) (hwr : -9223372036854775808 ≤ wr ∧ wr ≤ 9223372036854775807) (har : -9223372036854775808 ≤ ar ∧ ar ≤ 9223372036854775807) (hbr : -9223372036854775808 ≤ br ∧ br ≤ 9223372036854775807) (hwz : -9223372036854775808 ≤ wz ∧ wz ≤ 9223372036854775807) (haz : -9223372036854775808 ≤ az ∧ az ≤ 9223372036854775807) (hbz : -9223372036854775808 ≤ bz ∧ bz ≤ 9223372036854775807) : Fun 30 [.agg [iC wk, iC wr, .d (D.sl (dI .i64 w) o), iC wz], .agg [iC ak, iC ar, .d (D.sl (dI .i64 a) n), iC az], .agg [iC bk, iC br, .d (D.sl (dI .i64 b) m), iC bz]] (kH []) 0 (iV (d8 wk wr wz ak ar az bk br bz w a b)) (kH []) 0 := by
 refine Fun.mk (n := 56) Tryz.func30 rfl rfl (ka4 rfl) ?_
 intro cx hcx
 refine kK (qE 4 []) True [(3, rV 0 0), (4, rV 1 0), (5, rV 2 0)] [(0, some (27, .ds [iD wk, iD wr, dl w o, iD wz])), (1, some (27, .ds [iD ak, iD ar, dl a n, iD az])), (2, some (27, .ds [iD bk, iD br, dl b m, iD bz]))] 3 trivial ?_
 refine AW.seq ?_
 have hx1 : ((((-1) : Int) ≤ (vJ wk ak bk)) ∧ ((vJ wk ak bk) ≤ 1)) := dJ wk ak bk
 refine kO (qE 9 [.call [] (iV (vJ wk ak bk)) [] 0 [] none, .no]) _ [(3, rV 0 0), (4, rV 1 0), (5, rV 2 0), (7, iV (vJ wk ak bk))] (pR wk ak bk) ?_
 by_cases hx2 : ((vJ wk ak bk) ≠ 0)
 ·refine kO [.no, .b true] (((vJ wk ak bk) ≠ 0)) [(3, rV 0 0), (4, rV 1 0), (5, rV 2 0), (7, iV (vJ wk ak bk)), (21, bV true)] zo ?_
  refine zt ?_
  refine kK [.no, .no] True [(6, iV (vJ wk ak bk))] [] 3 trivial ?_
  refine AW.ret ?_
  exact kA (.inr rfl) [] (P := (((d8 wk wr wz ak ar az bk br bz w a b) : Int) = (vJ wk ak bk))) zk (by unfold d8 u0; (repeat' split) <;> first | omega | contradiction | rfl)
 ·refine kO [.no, .b false] (¬ ((vJ wk ak bk) ≠ 0)) [(3, rV 0 0), (4, rV 1 0), (5, rV 2 0), (7, iV (vJ wk ak bk)), (21, bV false)] zo ?_
  refine q8 ?_
  refine AW.seq ?_
  have hx3 : ((((-1) : Int) ≤ (aA wr ar br)) ∧ ((aA wr ar br) ≤ 1)) := dF wr ar br
  refine kO (qE 9 [.call [] (iV (aA wr ar br)) [] 0 [] none, .no]) _ [(3, rV 0 0), (4, rV 1 0), (5, rV 2 0), (8, iV (aA wr ar br))] (k4j wr ar br zo zo zo) ?_
  by_cases hx4 : ((aA wr ar br) ≠ 0)
  ·refine kO [.no, .b true] (((aA wr ar br) ≠ 0)) [(3, rV 0 0), (4, rV 1 0), (5, rV 2 0), (8, iV (aA wr ar br)), (34, bV true)] zo ?_
   refine zt ?_
   refine kK [.no, .no] True [(6, iV (aA wr ar br))] [] 3 trivial ?_
   refine AW.ret ?_
   exact kA (.inr rfl) [] (P := (((d8 wk wr wz ak ar az bk br bz w a b) : Int) = (aA wr ar br))) zk (by unfold d8 u0; (repeat' split) <;> first | omega | contradiction | rfl)
  ·refine kO [.no, .b false] (¬ ((aA wr ar br) ≠ 0)) [(3, rV 0 0), (4, rV 1 0), (5, rV 2 0), (8, iV (aA wr ar br)), (34, bV false)] zo ?_
   refine q8 ?_
   refine AW.seq ?_
   have hx5 : ((((-1) : Int) ≤ (yP w a b)) ∧ ((yP w a b) ≤ 1)) := cK w a b
   refine kO (qE 9 [.call [] (iV (yP w a b)) [] 0 [] none, .no]) _ [(3, rV 0 0), (4, rV 1 0), (5, rV 2 0), (9, iV (yP w a b))] (xP w a b o n m zo zo zo zo zo zo) ?_
   by_cases hx6 : ((yP w a b) ≠ 0)
   ·refine kO [.no, .b true] (((yP w a b) ≠ 0)) [(3, rV 0 0), (4, rV 1 0), (5, rV 2 0), (9, iV (yP w a b)), (47, bV true)] zo ?_
    refine zt ?_
    refine kK [.no, .no] True [(6, iV (yP w a b))] [] 3 trivial ?_
    refine AW.ret ?_
    exact kA (.inr rfl) [] (P := (((d8 wk wr wz ak ar az bk br bz w a b) : Int) = (yP w a b))) zk (by unfold d8 u0; (repeat' split) <;> first | omega | contradiction | rfl)
   ·refine kO [.no, .b false] (¬ ((yP w a b) ≠ 0)) [(3, rV 0 0), (4, rV 1 0), (5, rV 2 0), (9, iV (yP w a b)), (47, bV false)] zo ?_
    refine q8 ?_
    have hx7 : ((((-1) : Int) ≤ (aA wz az bz)) ∧ ((aA wz az bz) ≤ 1)) := dF wz az bz
    refine kK (qE 6 [.call [] (iV (aA wz az bz)) [] 0 [] none, .no]) _ [(6, iV (aA wz az bz))] [] 3 (k4j wz az bz zo zo zo) ?_
    refine AW.ret ?_
    exact kA (.inr rfl) [] (P := (((d8 wk wr wz ak ar az bk br bz w a b) : Int) = (aA wz az bz))) zk (by unfold d8 u0; (repeat' split) <;> first | omega | contradiction | rfl)
end Go.Proofs.YtcfmjpnffembpaaGreat
