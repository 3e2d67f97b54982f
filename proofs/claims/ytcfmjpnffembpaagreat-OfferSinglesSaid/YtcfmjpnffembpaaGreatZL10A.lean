/- Choices compared. No statement is proved here. -/
import Derived.Test.YtcfmjpnffembpaaGreatZL06
namespace Go.Proofs.YtcfmjpnffembpaaGreat
open Go.ChangeShapes Go.WideShapes Go.ChangeAt Go.RowKit
set_option linter.unusedVariables false
set_option linter.unusedSimpArgs false
/-! chapter 10: how choices are compared -/
set_option maxHeartbeats 4000000
set_option maxRecDepth 100000
structure Cmp {α : Type} (f : α → α → Int) : Prop where
 anti : ∀ a b, f a b = - f b a
 tr : ∀ a b c, f a b ≤ 0 → f b c ≤ 0 → f a c ≤ 0
theorem Cmp.zero {α : Type} {f : α → α → Int} (h : Cmp f) (a : α) : f a a = 0 := by
 have := h.anti a a; omega
def orV (a b : Int) : Int := if a = 0 then b else a
theorem orV_l {a b : Int} (h : ¬ a = 0) : orV a b = a := if_neg h
theorem orV_r {a b : Int} (h : a = 0) : orV a b = b := if_pos h
theorem Cmp.lex {α : Type} {f g : α → α → Int} (hf : Cmp f) (hg : Cmp g) : Cmp (fun a b => orV (f a b) (g a b)) := by
 constructor
 ·intro a b
  have h1 := hf.anti a b; have h2 := hg.anti a b
  show orV _ _ = - orV _ _
  unfold orV
  by_cases h : f a b = 0
  ·rw [if_pos h, if_pos (by omega)]; exact h2
  ·rw [if_neg h, if_neg (by omega)]; exact h1
 ·intro a b c h1 h2
  have a1 := hf.anti a b; have a2 := hf.anti b c; have a3 := hf.anti a c
  have f1 : f a b ≤ 0 := by unfold orV at h1; split at h1 <;> omega
  have f2 : f b c ≤ 0 := by unfold orV at h2; split at h2 <;> omega
  have f3 := hf.tr a b c f1 f2
  show orV _ _ ≤ 0
  unfold orV
  by_cases h : f a c = 0
  ·have x1 := hf.tr c a b (by omega) f1
   have x2 := hf.tr b c a f2 (by omega)
   have y1 := hf.anti c b
   have y2 := hf.anti b a
   have z1 : f a b = 0 := by omega
   have z2 : f b c = 0 := by omega
   rw [if_pos h]
   simp only [orV, if_pos z1] at h1
   simp only [orV, if_pos z2] at h2
   exact hg.tr a b c h1 h2
  ·rw [if_neg h]; omega
def cmV (a b : Int) : Int := if a < b then -1 else if a = b then 0 else 1
theorem cmV_z {a b : Int} : cmV a b = 0 ↔ a = b := by
 unfold cmV; (repeat' split) <;> omega
theorem cmV_rng (a b : Int) : -1 ≤ cmV a b ∧ cmV a b ≤ 1 := by
 unfold cmV; (repeat' split) <;> omega
theorem cmV_le {a b : Int} : cmV a b ≤ 0 ↔ a ≤ b := by
 unfold cmV; (repeat' split) <;> omega
theorem cmV_anti (a b : Int) : cmV a b = - cmV b a := by
 unfold cmV; (repeat' split) <;> omega
theorem Cmp.key {α : Type} (k : α → Int) : Cmp (fun a b => cmV (k a) (k b)) :=
 ⟨fun a b => cmV_anti _ _, fun a b c h1 h2 => by
  have h1 := cmV_le.1 h1; have h2 := cmV_le.1 h2
  exact cmV_le.2 (by omega)⟩
theorem Cmp.back {α : Type} (k : α → Int) : Cmp (fun a b => cmV (k b) (k a)) :=
 ⟨fun a b => cmV_anti _ _, fun a b c h1 h2 => by
  have h1 := cmV_le.1 h1; have h2 := cmV_le.1 h2
  exact cmV_le.2 (by omega)⟩
def fsV (p q : Bool) : Int := if p = q then 0 else if p = true then -1 else 1
theorem fsV_z {p q : Bool} : fsV p q = 0 ↔ p = q := by
 cases p <;> cases q <;> decide
theorem fsV_rng (p q : Bool) : -1 ≤ fsV p q ∧ fsV p q ≤ 1 := by
 cases p <;> cases q <;> decide
theorem Cmp.first {α : Type} (p : α → Bool) : Cmp (fun a b => fsV (p a) (p b)) :=
 ⟨fun a b => by cases p a <;> cases p b <;> decide, fun a b c => by cases p a <;> cases p b <;> cases p c <;> decide⟩
def lxV : List Int → List Int → Int
 | [], [] => 0
 | [], _ :: _ => -1
 | _ :: _, [] => 1
 | a :: r, b :: s => orV (cmV a b) (lxV r s)
theorem lxV_rng : ∀ (a b : List Int), -1 ≤ lxV a b ∧ lxV a b ≤ 1
 | [], [] => by decide
 | [], _ :: _ => by simp [lxV]
 | _ :: _, [] => by simp [lxV]
 | a :: r, b :: s => by
  have h1 := cmV_rng a b; have h2 := lxV_rng r s
  show -1 ≤ orV _ _ ∧ orV _ _ ≤ 1
  unfold orV; split <;> omega
theorem lxV_anti : ∀ (a b : List Int), lxV a b = - lxV b a
 | [], [] => by decide
 | [], _ :: _ => by simp [lxV]
 | _ :: _, [] => by simp [lxV]
 | a :: r, b :: s => by
  have h1 := cmV_anti a b; have h2 := lxV_anti r s
  show orV _ _ = - orV _ _
  unfold orV; (repeat' split) <;> omega
theorem lxV_tr : ∀ (a b c : List Int), lxV a b ≤ 0 → lxV b c ≤ 0 → lxV a c ≤ 0
 | [], [], c => fun _ h => h
 | [], _ :: _, [] => fun _ _ => by decide
 | [], _ :: _, _ :: _ => fun _ _ => by simp [lxV]
 | _ :: _, [], _ => fun h => by simp [lxV] at h
 | _ :: _, _ :: _, [] => fun _ h => by simp [lxV] at h
 | a :: r, b :: s, c :: t => by
  intro h1 h2
  have ih := lxV_tr r s t
  have h1 : orV (cmV a b) (lxV r s) ≤ 0 := h1
  have h2 : orV (cmV b c) (lxV s t) ≤ 0 := h2
  show orV (cmV a c) (lxV r t) ≤ 0
  unfold orV at h1 h2 ⊢
  unfold cmV at h1 h2 ⊢
  (repeat' split at h1) <;> (repeat' split at h2) <;> (repeat' split) <;> first | omega | (exact ih (by assumption) (by assumption))
theorem lx_step {a b : List Int} {k : Nat} {x : Int} (h : x = lxV (List.drop k a) (List.drop k b)) (h1 : k < a.length) (h2 : k < b.length) (h3 : cmV (List.getD a k 0) (List.getD b k 0) = 0) : x = lxV (List.drop (k + 1) a) (List.drop (k + 1) b) := by
 have e1 : List.getD a k 0 = a[k] := by rw [List.getD_eq_getElem?_getD, List.getElem?_eq_getElem h1]; rfl
 have e2 : List.getD b k 0 = b[k] := by rw [List.getD_eq_getElem?_getD, List.getElem?_eq_getElem h2]; rfl
 rw [h, List.drop_eq_getElem_cons h1, List.drop_eq_getElem_cons h2]
 show orV (cmV a[k] b[k]) _ = _
 rw [e1, e2] at h3
 exact orV_r h3
theorem lx_ne {a b : List Int} {k : Nat} {x : Int} (h : x = lxV (List.drop k a) (List.drop k b)) (h1 : k < a.length) (h2 : k < b.length) (h3 : ¬ cmV (List.getD a k 0) (List.getD b k 0) = 0) : x = cmV (List.getD a k 0) (List.getD b k 0) := by
 have e1 : List.getD a k 0 = a[k] := by rw [List.getD_eq_getElem?_getD, List.getElem?_eq_getElem h1]; rfl
 have e2 : List.getD b k 0 = b[k] := by rw [List.getD_eq_getElem?_getD, List.getElem?_eq_getElem h2]; rfl
 rw [h, List.drop_eq_getElem_cons h1, List.drop_eq_getElem_cons h2]
 show orV (cmV a[k] b[k]) _ = _
 rw [e1, e2] at h3 ⊢
 exact orV_l h3
theorem lx_gt {a b : List Int} {k : Nat} {x : Int} (h : x = lxV (List.drop k a) (List.drop k b)) (h1 : k < a.length) (h2 : b.length ≤ k) : x = 1 := by
 rw [h, List.drop_eq_getElem_cons h1, List.drop_eq_nil_of_le h2]; rfl
theorem lx_lt {a b : List Int} {k : Nat} {x : Int} (h : x = lxV (List.drop k a) (List.drop k b)) (h1 : a.length ≤ k) (h2 : k < b.length) : x = -1 := by
 rw [h, List.drop_eq_getElem_cons h2, List.drop_eq_nil_of_le h1]; rfl
theorem lx_eq {a b : List Int} {k : Nat} {x : Int} (h : x = lxV (List.drop k a) (List.drop k b)) (h1 : a.length ≤ k) (h2 : b.length ≤ k) : x = 0 := by
 rw [h, List.drop_eq_nil_of_le h2, List.drop_eq_nil_of_le h1]; rfl
theorem lx_l {a b : List Int} {k : Nat} {x : Int} (h : x = lxV (List.drop k a) (List.drop k b)) (h1 : k < a.length) (h2 : k < b.length) (h3 : List.getD a k 0 < List.getD b k 0) : x = -1 := by
 rw [lx_ne h h1 h2 (fun e => by have := cmV_z.1 e; omega)]; unfold cmV; exact if_pos h3
theorem lx_g {a b : List Int} {k : Nat} {x : Int} (h : x = lxV (List.drop k a) (List.drop k b)) (h1 : k < a.length) (h2 : k < b.length) (h3 : List.getD b k 0 < List.getD a k 0) : x = 1 := by
 rw [lx_ne h h1 h2 (fun e => by have := cmV_z.1 e; omega)]; unfold cmV; rw [if_neg (by omega), if_neg (by omega)]
theorem Cmp.list {α : Type} (k : α → List Int) : Cmp (fun a b => lxV (k a) (k b)) :=
 ⟨fun _ _ => lxV_anti _ _, fun _ _ _ => lxV_tr _ _ _⟩
def awV (a b : Int) : Int := if a > b then a - b else b - a
theorem awV_p (a b : Int) : 0 ≤ awV a b := by unfold awV; split <;> omega
theorem awV_comm (a b : Int) : awV a b = awV b a := by unfold awV; (repeat' split) <;> omega
def nrV (w a b : Int) : Int := orV (cmV (awV w a) (awV w b)) (cmV a b)
def kdV (w a b : Int) : Int := orV (fsV (decide (a = w)) (decide (b = w))) (cmV b a)
def cnC (w m : List Int) : Int := ((coL w m (List.length m)).length : Int)
def mpV (w a b : List Int) : Int := orV (fsV (sqB a w) (sqB b w)) (orV (cmV (cnC w b) (cnC w a)) (orV (cmV (a.length : Int) (b.length : Int)) (lxV a b)))
theorem orV_rng {a b : Int} (h1 : -1 ≤ a ∧ a ≤ 1) (h2 : -1 ≤ b ∧ b ≤ 1) : -1 ≤ orV a b ∧ orV a b ≤ 1 := by
 unfold orV; split <;> assumption
theorem nrV_rng (w a b : Int) : -1 ≤ nrV w a b ∧ nrV w a b ≤ 1 := orV_rng (cmV_rng _ _) (cmV_rng _ _)
theorem kdV_rng (w a b : Int) : -1 ≤ kdV w a b ∧ kdV w a b ≤ 1 := orV_rng (fsV_rng _ _) (cmV_rng _ _)
theorem mpV_rng (w a b : List Int) : -1 ≤ mpV w a b ∧ mpV w a b ≤ 1 := orV_rng (fsV_rng _ _) (orV_rng (cmV_rng _ _) (orV_rng (cmV_rng _ _) (lxV_rng _ _)))
theorem mp_1 {w a b : List Int} (h1 : sqB a w = true) (h2 : sqB b w = false) : mpV w a b = -1 := by
 unfold mpV; rw [h1, h2]; rfl
theorem mp_2 {w a b : List Int} (h1 : sqB a w = false) (h2 : sqB b w = true) : mpV w a b = 1 := by
 unfold mpV; rw [h1, h2]; rfl
theorem mp_3 {w a b : List Int} {p q : Int} (hp : p = cnC w b) (hq : q = cnC w a) (h : sqB a w = sqB b w) (hc : ¬ cmV p q = 0) : mpV w a b = cmV p q := by
 subst hp; subst hq
 unfold mpV; rw [orV_r (fsV_z.2 h), orV_l hc]
theorem mp_4 {w a b : List Int} {p q : Int} (hp : p = cnC w b) (hq : q = cnC w a) {n m : Nat} (h : sqB a w = sqB b w) (hc : cmV p q = 0) (hn : a.length = n) (hm : b.length = m) (hl : ¬ cmV (n : Int) (m : Int) = 0) : mpV w a b = cmV (n : Int) (m : Int) := by
 subst hp; subst hq
 unfold mpV; rw [orV_r (fsV_z.2 h), orV_r hc, hn, hm, orV_l hl]
theorem mp_5 {w a b : List Int} {p q : Int} (hp : p = cnC w b) (hq : q = cnC w a) {n m : Nat} {x : Int} (h : sqB a w = sqB b w) (hc : cmV p q = 0) (hn : a.length = n) (hm : b.length = m) (hl : cmV (n : Int) (m : Int) = 0) (hx : lxV a b = x) : mpV w a b = x := by
 subst hp; subst hq
 unfold mpV; rw [orV_r (fsV_z.2 h), orV_r hc, hn, hm, orV_r hl, hx]
theorem cm_lt {a b : Int} (h : a < b) : cmV a b = -1 := if_pos h
theorem cm_gt {a b : Int} (h : b < a) : cmV a b = 1 := by unfold cmV; rw [if_neg (by omega), if_neg (by omega)]
theorem nr_1 {w a b : Int} (h : ¬ cmV (awV a w) (awV b w) = 0) : nrV w a b = cmV (awV a w) (awV b w) := by
 unfold nrV; rw [awV_comm w a, awV_comm w b]; exact orV_l h
theorem nr_2 {w a b x : Int} (h : cmV (awV a w) (awV b w) = 0) (hx : cmV a b = x) : nrV w a b = x := by
 unfold nrV; rw [awV_comm w a, awV_comm w b, orV_r h]; exact hx
theorem u64_sub {a b : Int} (ha : -9223372036854775808 ≤ a ∧ a ≤ 9223372036854775807) (hb : -9223372036854775808 ≤ b ∧ b ≤ 9223372036854775807) (h : b ≤ a) : IntKind.u64.wrap (IntKind.u64.wrap a - IntKind.u64.wrap b) = a - b := by
 show ((a % 18446744073709551616) - (b % 18446744073709551616)) % 18446744073709551616 = a - b
 omega
theorem aw_1 {a b : Int} (ha : -9223372036854775808 ≤ a ∧ a ≤ 9223372036854775807) (hb : -9223372036854775808 ≤ b ∧ b ≤ 9223372036854775807) : awV a b = IntKind.u64.wrap (IntKind.u64.wrap (max a b) - IntKind.u64.wrap (min a b)) := by
 unfold awV
 by_cases h : a > b
 ·rw [if_pos h, Int.max_eq_left (by omega), Int.min_eq_right (by omega), u64_sub ha hb (by omega)]
 ·rw [if_neg h, Int.max_eq_right (by omega), Int.min_eq_left (by omega), u64_sub hb ha (by omega)]
theorem aw_2 {a b : Int} (ha : -9223372036854775808 ≤ a ∧ a ≤ 9223372036854775807) (hb : -9223372036854775808 ≤ b ∧ b ≤ 9223372036854775807) (h : b < a) : awV a b = IntKind.u64.wrap (IntKind.u64.wrap a - IntKind.u64.wrap b) := by
 unfold awV; rw [if_pos h, u64_sub ha hb (by omega)]
theorem aw_3 {a b : Int} (ha : -9223372036854775808 ≤ a ∧ a ≤ 9223372036854775807) (hb : -9223372036854775808 ≤ b ∧ b ≤ 9223372036854775807) (h : ¬ b < a) : awV a b = IntKind.u64.wrap (IntKind.u64.wrap b - IntKind.u64.wrap a) := by
 unfold awV; rw [if_neg h, u64_sub hb ha (by omega)]
theorem kdV_cmp (w : Int) : Cmp (kdV w) := (Cmp.first (fun a => decide (a = w))).lex (Cmp.back id)
theorem mpV_cmp (w : List Int) : Cmp (mpV w) :=
 (Cmp.first (fun a => sqB a w)).lex ((Cmp.back (cnC w)).lex ((Cmp.key (fun a : List Int => (a.length : Int))).lex (Cmp.list id)))
structure Co where
 k : Int
 r : Int
 m : List Int
 s : Int
def coV (w a b : Co) : Int := orV (kdV w.k a.k b.k) (orV (nrV w.r a.r b.r) (orV (mpV w.m a.m b.m) (nrV w.s a.s b.s)))
theorem coV_rng (w a b : Co) : -1 ≤ coV w a b ∧ coV w a b ≤ 1 := orV_rng (kdV_rng _ _ _) (orV_rng (nrV_rng _ _ _) (orV_rng (mpV_rng _ _ _) (nrV_rng _ _ _)))
def coK (wk wr wz ak ar az bk br bz : Int) (w a b : List Int) : Int := orV (kdV wk ak bk) (orV (nrV wr ar br) (orV (mpV w a b) (nrV wz az bz)))
theorem coK_rng (wk wr wz ak ar az bk br bz : Int) (w a b : List Int) : -1 ≤ coK wk wr wz ak ar az bk br bz w a b ∧ coK wk wr wz ak ar az bk br bz w a b ≤ 1 := coV_rng ⟨wk, wr, w, wz⟩ ⟨ak, ar, a, az⟩ ⟨bk, br, b, bz⟩
theorem Y_nan_i64 (a : Int)  : Fun 139 [iE a] (toG []) 0 (bV false) (toG []) 0 := by
 refine Fun.mk (n := 6) Tryz.func139 rfl rfl (Nat.le_of_ble_eq_true rfl) ?_
 intro cx hcx
 refine y9r [.no] True [(0, iV a)] [] 0 trivial ?_
 refine y9s [.no, .no, .b false, .no] (¬ (a ≠ a)) [(2, bV false)] zo ?_
 refine AW.ret ?_
 exact EndP.of (.inr rfl) [] (P := (false = false)) zk rfl
theorem zl10a1 {p : Prop} (h : p := by first | rfl | (unfold cmV; (repeat' split) <;> omega)) : p := h
theorem Y_cmp_i64 (a b : Int)  : Fun 107 [iE a, iE b] (toG []) 0 (iV (cmV a b)) (toG []) 0 := by
 refine Fun.mk (n := 20) Tryz.func107 rfl rfl (Nat.le_of_ble_eq_true rfl) ?_
 intro cx hcx
 refine y9r [.no] True [(0, iV a), (1, iV b)] [] 0 trivial ?_
 refine y9s [.no, .call [] (bV false) [] 0 [] none, .no] _ [(0, iV a), (1, iV b), (5, bV false)] (Y_nan_i64 a) ?_
 refine y9s [.no, .call [] (bV false) [] 0 [] none, .no] _ [(0, iV a), (1, iV b), (5, bV false), (6, bV false)] (Y_nan_i64 b) ?_
 refine AW.seq ?_
 refine y9s [.no] True [(0, iV a), (1, iV b), (6, bV false), (11, bV false)] trivial ?_
 refine zfs ?_
 refine AW.seq ?_
 refine y9s [.no] True [(0, iV a), (1, iV b), (13, bV false)] trivial ?_
 refine zfs ?_
 refine AW.seq ?_
 by_cases hx1 : (a < b)
 ·refine y9s [.no, .no, .b true] ((a < b)) [(0, iV a), (1, iV b), (16, bV true)] zo ?_
  refine zt ?_
  refine y9s [.no] True [(4, iV (-1))] trivial ?_
  refine AW.ret ?_
  exact EndP.of (.inr rfl) [] (P := (((cmV a b) : Int) = (-1))) zk zl10a1
 ·refine y9s [.no, .no, .b false] (¬ (a < b)) [(0, iV a), (1, iV b), (16, bV false)] zo ?_
  refine zfs ?_
  refine AW.seq ?_
  by_cases hx2 : (b < a)
  ·refine y9s [.no, .no, .b true] ((b < a)) [(19, bV true)] zo ?_
   refine zt ?_
   refine y9s [.no] True [(4, iV 1)] trivial ?_
   refine AW.ret ?_
   exact EndP.of (.inr rfl) [] (P := (((cmV a b) : Int) = 1)) zk zl10a1
  ·refine y9s [.no, .no, .b false] (¬ (b < a)) [(19, bV false)] zo ?_
   refine zfs ?_
   refine y9s [.no] True [(4, iV 0)] trivial ?_
   refine AW.ret ?_
   exact EndP.of (.inr rfl) [] (P := (((cmV a b) : Int) = 0)) zk zl10a1
theorem Y_nan_u64 (a : Int)  : Fun 140 [.c (.d (D.lit (.int .u64 a)))] (toG []) 0 (bV false) (toG []) 0 := by
 refine Fun.mk (n := 6) Tryz.func140 rfl rfl (Nat.le_of_ble_eq_true rfl) ?_
 intro cx hcx
 refine y9r [.no] True [(0, .e (.c (.d (D.lit (.int .u64 a)))))] [] 0 trivial ?_
 refine y9s [.no, .no, .b false, .no] (¬ (a ≠ a)) [(2, bV false)] zo ?_
 refine AW.ret ?_
 exact EndP.of (.inr rfl) [] (P := (false = false)) zk rfl
theorem Y_cmp_u64 (a b : Int)  : Fun 108 [.c (.d (D.lit (.int .u64 a))), .c (.d (D.lit (.int .u64 b)))] (toG []) 0 (iV (cmV a b)) (toG []) 0 := by
 refine Fun.mk (n := 20) Tryz.func108 rfl rfl (Nat.le_of_ble_eq_true rfl) ?_
 intro cx hcx
 refine y9r [.no] True [(0, .e (.c (.d (D.lit (.int .u64 a))))), (1, .e (.c (.d (D.lit (.int .u64 b)))))] [] 0 trivial ?_
 refine y9s [.no, .call [] (bV false) [] 0 [] none, .no] _ [(0, .e (.c (.d (D.lit (.int .u64 a))))), (1, .e (.c (.d (D.lit (.int .u64 b))))), (5, bV false)] (Y_nan_u64 a) ?_
 refine y9s [.no, .call [] (bV false) [] 0 [] none, .no] _ [(0, .e (.c (.d (D.lit (.int .u64 a))))), (1, .e (.c (.d (D.lit (.int .u64 b))))), (5, bV false), (6, bV false)] (Y_nan_u64 b) ?_
 refine AW.seq ?_
 refine y9s [.no] True [(0, .e (.c (.d (D.lit (.int .u64 a))))), (1, .e (.c (.d (D.lit (.int .u64 b))))), (6, bV false), (11, bV false)] trivial ?_
 refine zfs ?_
 refine AW.seq ?_
 refine y9s [.no] True [(0, .e (.c (.d (D.lit (.int .u64 a))))), (1, .e (.c (.d (D.lit (.int .u64 b))))), (13, bV false)] trivial ?_
 refine zfs ?_
 refine AW.seq ?_
 by_cases hx1 : (a < b)
 ·refine y9s [.no, .no, .b true] ((a < b)) [(0, .e (.c (.d (D.lit (.int .u64 a))))), (1, .e (.c (.d (D.lit (.int .u64 b))))), (16, bV true)] zo ?_
  refine zt ?_
  refine y9s [.no] True [(4, iV (-1))] trivial ?_
  refine AW.ret ?_
  exact EndP.of (.inr rfl) [] (P := (((cmV a b) : Int) = (-1))) zk zl10a1
 ·refine y9s [.no, .no, .b false] (¬ (a < b)) [(0, .e (.c (.d (D.lit (.int .u64 a))))), (1, .e (.c (.d (D.lit (.int .u64 b))))), (16, bV false)] zo ?_
  refine zfs ?_
  refine AW.seq ?_
  by_cases hx2 : (b < a)
  ·refine y9s [.no, .no, .b true] ((b < a)) [(19, bV true)] zo ?_
   refine zt ?_
   refine y9s [.no] True [(4, iV 1)] trivial ?_
   refine AW.ret ?_
   exact EndP.of (.inr rfl) [] (P := (((cmV a b) : Int) = 1)) zk zl10a1
  ·refine y9s [.no, .no, .b false] (¬ (b < a)) [(19, bV false)] zo ?_
   refine zfs ?_
   refine y9s [.no] True [(4, iV 0)] trivial ?_
   refine AW.ret ?_
   exact EndP.of (.inr rfl) [] (P := (((cmV a b) : Int) = 0)) zk zl10a1
theorem Y_firstTT   : Fun 106 [.c (.d (D.lit (.bool true))), .c (.d (D.lit (.bool true)))] (toG []) 0 (iV 0) (toG []) 0 := by
 refine Fun.mk (n := 11) Tryz.func106 rfl rfl (Nat.le_of_ble_eq_true rfl) ?_
 intro cx hcx
 refine y9r [.no] True [(0, bV true), (1, bV true)] [] 0 trivial ?_
 refine AW.seq ?_
 refine AW.block ?_
 refine y9s (nz9 4 []) True [(0, bV true), (5, bV true)] trivial ?_
 refine zt ?_
 refine y9s [.no] True [(4, iV 0)] trivial ?_
 refine AW.ret ?_
 exact EndP.of (.inr rfl) [] (P := (q9i 0)) zk rfl
theorem Y_firstTF   : Fun 106 [.c (.d (D.lit (.bool true))), .c (.d (D.lit (.bool false)))] (toG []) 0 (iV (-1)) (toG []) 0 := by
 refine Fun.mk (n := 11) Tryz.func106 rfl rfl (Nat.le_of_ble_eq_true rfl) ?_
 intro cx hcx
 refine y9r [.no] True [(0, bV true), (1, bV false)] [] 0 trivial ?_
 refine AW.seq ?_
 refine AW.block ?_
 refine y9s (nz9 4 []) True [(0, bV true), (5, bV false)] trivial ?_
 refine zf ?_
 refine y9s [.no, .no] True [(9, bV true)] trivial ?_
 refine zt ?_
 refine y9s [.no] True [(4, iV (-1))] trivial ?_
 refine AW.ret ?_
 exact EndP.of (.inr rfl) [] (P := (q9i (-1))) zk rfl
theorem Y_firstFT   : Fun 106 [.c (.d (D.lit (.bool false))), .c (.d (D.lit (.bool true)))] (toG []) 0 (iV 1) (toG []) 0 := by
 refine Fun.mk (n := 11) Tryz.func106 rfl rfl (Nat.le_of_ble_eq_true rfl) ?_
 intro cx hcx
 refine y9r [.no] True [(0, bV false), (1, bV true)] [] 0 trivial ?_
 refine AW.seq ?_
 refine AW.block ?_
 refine y9s (nz9 4 []) True [(0, bV false), (5, bV false)] trivial ?_
 refine zf ?_
 refine y9s [.no, .no] True [(9, bV false)] trivial ?_
 refine zfs ?_
 refine y9s [.no] True [(4, iV 1)] trivial ?_
 refine AW.ret ?_
 exact EndP.of (.inr rfl) [] (P := (q9i 1)) zk rfl
theorem Y_firstFF   : Fun 106 [.c (.d (D.lit (.bool false))), .c (.d (D.lit (.bool false)))] (toG []) 0 (iV 0) (toG []) 0 := by
 refine Fun.mk (n := 11) Tryz.func106 rfl rfl (Nat.le_of_ble_eq_true rfl) ?_
 intro cx hcx
 refine y9r [.no] True [(0, bV false), (1, bV false)] [] 0 trivial ?_
 refine AW.seq ?_
 refine AW.block ?_
 refine y9s (nz9 4 []) True [(0, bV false), (5, bV true)] trivial ?_
 refine zt ?_
 refine y9s [.no] True [(4, iV 0)] trivial ?_
 refine AW.ret ?_
 exact EndP.of (.inr rfl) [] (P := (q9i 0)) zk rfl
theorem Y_first (p q : Bool) : Fun 106 [.c (.d (D.lit (.bool (p)))), .c (.d (D.lit (.bool (q))))] (toG []) 0 (iV (fsV p q)) (toG []) 0 := by
 cases p <;> cases q
 ·exact Y_firstFF
 ·exact Y_firstFT
 ·exact Y_firstTF
 ·exact Y_firstTT
theorem Y_dist (a b : Int) (ha : -9223372036854775808 ≤ a ∧ a ≤ 9223372036854775807) (hb : -9223372036854775808 ≤ b ∧ b ≤ 9223372036854775807) : Fun 109 [iE a, iE b] (toG []) 0 (.e (.c (.d (D.lit (.int .u64 (awV a b)))))) (toG []) 0 := by
 refine Fun.mk (n := 14) Tryz.func109 rfl rfl (Nat.le_of_ble_eq_true rfl) ?_
 intro cx hcx
 refine y9r [.no] True [(0, iV a), (1, iV b)] [] 0 trivial ?_
 refine y9s (nz9 10 []) True [(4, .e (.c (.d (D.lit (.int .u64 (IntKind.u64.wrap ((IntKind.u64.wrap (max a b)) - (IntKind.u64.wrap (min a b)))))))))] trivial ?_
 refine AW.ret ?_
 exact EndP.of (.inr rfl) [] (P := (((awV a b) : Int) = (IntKind.u64.wrap ((IntKind.u64.wrap (max a b)) - (IntKind.u64.wrap (min a b)))))) zk (by first | exact aw_1 ha hb | exact aw_2 ha hb zo | exact aw_3 ha hb zo)
theorem Y_away (a b : Int) (ha : -9223372036854775808 ≤ a ∧ a ≤ 9223372036854775807) (hb : -9223372036854775808 ≤ b ∧ b ≤ 9223372036854775807) : Fun 115 [iE a, iE b] (toG []) 0 (.e (.c (.d (D.lit (.int .u64 (awV a b)))))) (toG []) 0 := by
 refine Fun.mk (n := 18) Tryz.func115 rfl rfl (Nat.le_of_ble_eq_true rfl) ?_
 intro cx hcx
 refine y9r [.no] True [(0, iV a), (1, iV b)] [] 0 trivial ?_
 refine AW.seq ?_
 by_cases hx1 : (b < a)
 ·refine y9s [.no, .no, .b true] ((b < a)) [(0, iV a), (1, iV b), (7, bV true)] zo ?_
  refine zt ?_
  refine y9s (nz9 6 []) True [(4, .e (.c (.d (D.lit (.int .u64 (IntKind.u64.wrap ((IntKind.u64.wrap a) - (IntKind.u64.wrap b))))))))] trivial ?_
  refine AW.ret ?_
  exact EndP.of (.inr rfl) [] (P := (((awV a b) : Int) = (IntKind.u64.wrap ((IntKind.u64.wrap a) - (IntKind.u64.wrap b))))) zk (by first | exact aw_1 ha hb | exact aw_2 ha hb zo | exact aw_3 ha hb zo)
 ·refine y9s [.no, .no, .b false] (¬ (b < a)) [(0, iV a), (1, iV b), (7, bV false)] zo ?_
  refine zfs ?_
  refine y9s (nz9 6 []) True [(4, .e (.c (.d (D.lit (.int .u64 (IntKind.u64.wrap ((IntKind.u64.wrap b) - (IntKind.u64.wrap a))))))))] trivial ?_
  refine AW.ret ?_
  exact EndP.of (.inr rfl) [] (P := (((awV a b) : Int) = (IntKind.u64.wrap ((IntKind.u64.wrap b) - (IntKind.u64.wrap a))))) zk (by first | exact aw_1 ha hb | exact aw_2 ha hb zo | exact aw_3 ha hb zo)
theorem Y_order (a b : Int)  : Fun 114 [.c (.d (D.lit (.int .u64 a))), .c (.d (D.lit (.int .u64 b)))] (toG []) 0 (iV (cmV a b)) (toG []) 0 := by
 refine Fun.mk (n := 13) Tryz.func114 rfl rfl (Nat.le_of_ble_eq_true rfl) ?_
 intro cx hcx
 refine y9r [.no] True [(0, .e (.c (.d (D.lit (.int .u64 a))))), (1, .e (.c (.d (D.lit (.int .u64 b)))))] [] 0 trivial ?_
 refine AW.seq ?_
 refine AW.block ?_
 by_cases hx1 : (a < b)
 ·refine y9s [.no, .no, .b true, .no] ((a < b)) [(0, .e (.c (.d (D.lit (.int .u64 a))))), (1, .e (.c (.d (D.lit (.int .u64 b))))), (5, bV true)] zo ?_
  refine zt ?_
  refine y9s [.no] True [(4, iV (-1))] trivial ?_
  refine AW.ret ?_
  exact EndP.of (.inr rfl) [] (P := (((cmV a b) : Int) = (-1))) zk zl10a1
 ·refine y9s [.no, .no, .b false, .no] (¬ (a < b)) [(0, .e (.c (.d (D.lit (.int .u64 a))))), (1, .e (.c (.d (D.lit (.int .u64 b))))), (5, bV false)] zo ?_
  refine zf ?_
  by_cases hx2 : (b < a)
  ·refine y9s [.no, .no, .b true, .no] ((b < a)) [(9, bV true)] zo ?_
   refine zt ?_
   refine y9s [.no] True [(4, iV 1)] trivial ?_
   refine AW.ret ?_
   exact EndP.of (.inr rfl) [] (P := (((cmV a b) : Int) = 1)) zk zl10a1
  ·refine y9s [.no, .no, .b false, .no] (¬ (b < a)) [(9, bV false)] zo ?_
   refine zfs ?_
   refine y9s [.no] True [(4, iV 0)] trivial ?_
   refine AW.ret ?_
   exact EndP.of (.inr rfl) [] (P := (((cmV a b) : Int) = 0)) zk zl10a1
theorem Y_or2 (x y : Int)  : Fun 105 [.c (.own 0 0 2 1 true)] (toG [(0, some (3, .ds [iD x, iD y]))]) 1 (iV (orV x y)) (toG [(0, some (3, .ds [iD x, iD y]))]) 1 := by
 refine Fun.mk (n := 18) Tryz.func105 rfl rfl (Nat.le_of_ble_eq_true rfl) ?_
 intro cx hcx
 refine y9r [.no] True [(0, oV 0 0 2 1)] [(0, some (3, .ds [iD x, iD y]))] 1 trivial ?_
 refine y9s [.no] True [(0, oV 0 0 2 1), (3, iV 0)] trivial ?_
 refine AW.seq ?_
 refine y9s [.no, .no, .no] True [(3, iV 0), (6, oV 0 0 2 1), (7, iV 2), (8, iV 0)] trivial ?_
 refine AW.block ?_
 refine AW.rounds 3 ?_
 refine AWr.s ?_
 refine y9r [.b true] (((0 : Int) < 2)) [(3, iV 0), (6, oV 0 0 2 1), (7, iV 2), (8, iV 0), (9, bV true)] [(0, some (3, .ds [iD x, iD y]))] 1 zo ?_
 refine AW.seq ?_
 refine zts ?_
 refine AW.seq ?_
 refine AW.block ?_
 refine y9s [.n2 0 0, .no, .no] ((q9i 0) ∧ ((0 : Nat) < 2) ∧ ((0 : Nat) + 0 * 1 = 0)) [(3, iV 0), (5, iV x), (6, oV 0 0 2 1), (7, iV 2), (8, iV 0)] ⟨rfl, zo, zo⟩ ?_
 by_cases hx1 : (x ≠ 0)
 ·refine y9s [.no, .no, .b true] ((x ≠ 0)) [(3, iV 0), (5, iV x), (6, oV 0 0 2 1), (7, iV 2), (8, iV 0), (14, bV true)] zo ?_
  refine zt ?_
  refine y9s [.no, .no] True [(2, iV x)] trivial ?_
  refine AW.ret ?_
  exact EndP.of (.inr rfl) [] (P := (((orV x y) : Int) = x) ∧ (q9d [iD x, iD y])) zk ⟨(by unfold orV; (repeat' split) <;> first | omega | contradiction | rfl), rfl⟩
 ·refine y9s [.no, .no, .b false] (¬ (x ≠ 0)) [(3, iV 0), (5, iV x), (6, oV 0 0 2 1), (7, iV 2), (8, iV 0), (14, bV false)] zo ?_
  refine zfs ?_
  refine y9h [.w, .no] ((-9223372036854775808) ≤ (1 : Int) ∧ (1 : Int) ≤ 9223372036854775807) [(3, iV 0), (6, oV 0 0 2 1), (7, iV 2), (8, iV 1)] ⟨by omega, by omega⟩ ?_
  refine AWr.s ?_
  refine y9r [.b true] (((1 : Int) < 2)) [(3, iV 0), (6, oV 0 0 2 1), (7, iV 2), (8, iV 1), (9, bV true)] [(0, some (3, .ds [iD x, iD y]))] 1 zo ?_
  refine AW.seq ?_
  refine zts ?_
  refine AW.seq ?_
  refine AW.block ?_
  refine y9s [.n2 1 1, .no, .no] ((q9i 1) ∧ ((1 : Nat) < 2) ∧ ((0 : Nat) + 1 * 1 = 1)) [(3, iV 0), (5, iV y), (6, oV 0 0 2 1), (7, iV 2), (8, iV 1)] ⟨rfl, zo, zo⟩ ?_
  by_cases hx2 : (y ≠ 0)
  ·refine y9s [.no, .no, .b true] ((y ≠ 0)) [(3, iV 0), (5, iV y), (6, oV 0 0 2 1), (7, iV 2), (8, iV 1), (14, bV true)] zo ?_
   refine zt ?_
   refine y9s [.no, .no] True [(2, iV y)] trivial ?_
   refine AW.ret ?_
   exact EndP.of (.inr rfl) [] (P := (((orV x y) : Int) = y) ∧ (q9d [iD x, iD y])) zk ⟨(by unfold orV; (repeat' split) <;> first | omega | contradiction | rfl), rfl⟩
  ·refine y9s [.no, .no, .b false] (¬ (y ≠ 0)) [(3, iV 0), (5, iV y), (6, oV 0 0 2 1), (7, iV 2), (8, iV 1), (14, bV false)] zo ?_
   refine zfs ?_
   refine y9h [.w, .no] ((-9223372036854775808) ≤ (2 : Int) ∧ (2 : Int) ≤ 9223372036854775807) [(3, iV 0), (6, oV 0 0 2 1), (7, iV 2), (8, iV 2)] ⟨by omega, by omega⟩ ?_
   refine AWr.s ?_
   refine y9r [.b false] (¬ ((2 : Int) < 2)) [(3, iV 0), (6, oV 0 0 2 1), (7, iV 2), (8, iV 2), (9, bV false)] [(0, some (3, .ds [iD x, iD y]))] 1 zo ?_
   refine AW.seq ?_
   refine zf ?_
   refine AW.exit ?_
   refine y9r [.no, .no] True [(2, iV 0)] [(0, some (3, .ds [iD x, iD y]))] 1 trivial ?_
   refine AW.ret ?_
   exact EndP.of (.inr rfl) [] (P := (((orV x y) : Int) = 0) ∧ (q9d [iD x, iD y])) zk ⟨(by unfold orV; (repeat' split) <;> first | omega | contradiction | rfl), rfl⟩
theorem Y_or4 (x y z u : Int)  : Fun 105 [.c (.own 0 0 4 1 true)] (toG [(0, some (3, .ds [iD x, iD y, iD z, iD u]))]) 1 (iV (orV x (orV y (orV z u)))) (toG [(0, some (3, .ds [iD x, iD y, iD z, iD u]))]) 1 := by
 refine Fun.mk (n := 18) Tryz.func105 rfl rfl (Nat.le_of_ble_eq_true rfl) ?_
 intro cx hcx
 refine y9r [.no] True [(0, oV 0 0 4 1)] [(0, some (3, .ds [iD x, iD y, iD z, iD u]))] 1 trivial ?_
 refine y9s [.no] True [(0, oV 0 0 4 1), (3, iV 0)] trivial ?_
 refine AW.seq ?_
 refine y9s [.no, .no, .no] True [(3, iV 0), (6, oV 0 0 4 1), (7, iV 4), (8, iV 0)] trivial ?_
 refine AW.block ?_
 refine AW.rounds 5 ?_
 refine AWr.s ?_
 refine y9r [.b true] (((0 : Int) < 4)) [(3, iV 0), (6, oV 0 0 4 1), (7, iV 4), (8, iV 0), (9, bV true)] [(0, some (3, .ds [iD x, iD y, iD z, iD u]))] 1 zo ?_
 refine AW.seq ?_
 refine zts ?_
 refine AW.seq ?_
 refine AW.block ?_
 refine y9s [.n2 0 0, .no, .no] ((q9i 0) ∧ ((0 : Nat) < 4) ∧ ((0 : Nat) + 0 * 1 = 0)) [(3, iV 0), (5, iV x), (6, oV 0 0 4 1), (7, iV 4), (8, iV 0)] ⟨rfl, zo, zo⟩ ?_
 by_cases hx1 : (x ≠ 0)
 ·refine y9s [.no, .no, .b true] ((x ≠ 0)) [(3, iV 0), (5, iV x), (6, oV 0 0 4 1), (7, iV 4), (8, iV 0), (14, bV true)] zo ?_
  refine zt ?_
  refine y9s [.no, .no] True [(2, iV x)] trivial ?_
  refine AW.ret ?_
  exact EndP.of (.inr rfl) [] (P := (((orV x (orV y (orV z u))) : Int) = x) ∧ (q9d [iD x, iD y, iD z, iD u])) zk ⟨(by unfold orV; (repeat' split) <;> first | omega | contradiction | rfl), rfl⟩
 ·refine y9s [.no, .no, .b false] (¬ (x ≠ 0)) [(3, iV 0), (5, iV x), (6, oV 0 0 4 1), (7, iV 4), (8, iV 0), (14, bV false)] zo ?_
  refine zfs ?_
  refine y9h [.w, .no] ((-9223372036854775808) ≤ (1 : Int) ∧ (1 : Int) ≤ 9223372036854775807) [(3, iV 0), (6, oV 0 0 4 1), (7, iV 4), (8, iV 1)] ⟨by omega, by omega⟩ ?_
  refine AWr.s ?_
  refine y9r [.b true] (((1 : Int) < 4)) [(3, iV 0), (6, oV 0 0 4 1), (7, iV 4), (8, iV 1), (9, bV true)] [(0, some (3, .ds [iD x, iD y, iD z, iD u]))] 1 zo ?_
  refine AW.seq ?_
  refine zts ?_
  refine AW.seq ?_
  refine AW.block ?_
  refine y9s [.n2 1 1, .no, .no] ((q9i 1) ∧ ((1 : Nat) < 4) ∧ ((0 : Nat) + 1 * 1 = 1)) [(3, iV 0), (5, iV y), (6, oV 0 0 4 1), (7, iV 4), (8, iV 1)] ⟨rfl, zo, zo⟩ ?_
  by_cases hx2 : (y ≠ 0)
  ·refine y9s [.no, .no, .b true] ((y ≠ 0)) [(3, iV 0), (5, iV y), (6, oV 0 0 4 1), (7, iV 4), (8, iV 1), (14, bV true)] zo ?_
   refine zt ?_
   refine y9s [.no, .no] True [(2, iV y)] trivial ?_
   refine AW.ret ?_
   exact EndP.of (.inr rfl) [] (P := (((orV x (orV y (orV z u))) : Int) = y) ∧ (q9d [iD x, iD y, iD z, iD u])) zk ⟨(by unfold orV; (repeat' split) <;> first | omega | contradiction | rfl), rfl⟩
  ·refine y9s [.no, .no, .b false] (¬ (y ≠ 0)) [(3, iV 0), (5, iV y), (6, oV 0 0 4 1), (7, iV 4), (8, iV 1), (14, bV false)] zo ?_
   refine zfs ?_
   refine y9h [.w, .no] ((-9223372036854775808) ≤ (2 : Int) ∧ (2 : Int) ≤ 9223372036854775807) [(3, iV 0), (6, oV 0 0 4 1), (7, iV 4), (8, iV 2)] ⟨by omega, by omega⟩ ?_
   refine AWr.s ?_
   refine y9r [.b true] (((2 : Int) < 4)) [(3, iV 0), (6, oV 0 0 4 1), (7, iV 4), (8, iV 2), (9, bV true)] [(0, some (3, .ds [iD x, iD y, iD z, iD u]))] 1 zo ?_
   refine AW.seq ?_
   refine zts ?_
   refine AW.seq ?_
   refine AW.block ?_
   refine y9s [.n2 2 2, .no, .no] ((q9i 2) ∧ ((2 : Nat) < 4) ∧ ((0 : Nat) + 2 * 1 = 2)) [(3, iV 0), (5, iV z), (6, oV 0 0 4 1), (7, iV 4), (8, iV 2)] ⟨rfl, zo, zo⟩ ?_
   by_cases hx3 : (z ≠ 0)
   ·refine y9s [.no, .no, .b true] ((z ≠ 0)) [(3, iV 0), (5, iV z), (6, oV 0 0 4 1), (7, iV 4), (8, iV 2), (14, bV true)] zo ?_
    refine zt ?_
    refine y9s [.no, .no] True [(2, iV z)] trivial ?_
    refine AW.ret ?_
    exact EndP.of (.inr rfl) [] (P := (((orV x (orV y (orV z u))) : Int) = z) ∧ (q9d [iD x, iD y, iD z, iD u])) zk ⟨(by unfold orV; (repeat' split) <;> first | omega | contradiction | rfl), rfl⟩
   ·refine y9s [.no, .no, .b false] (¬ (z ≠ 0)) [(3, iV 0), (5, iV z), (6, oV 0 0 4 1), (7, iV 4), (8, iV 2), (14, bV false)] zo ?_
    refine zfs ?_
    refine y9h [.w, .no] ((-9223372036854775808) ≤ (3 : Int) ∧ (3 : Int) ≤ 9223372036854775807) [(3, iV 0), (6, oV 0 0 4 1), (7, iV 4), (8, iV 3)] ⟨by omega, by omega⟩ ?_
    refine AWr.s ?_
    refine y9r [.b true] (((3 : Int) < 4)) [(3, iV 0), (6, oV 0 0 4 1), (7, iV 4), (8, iV 3), (9, bV true)] [(0, some (3, .ds [iD x, iD y, iD z, iD u]))] 1 zo ?_
    refine AW.seq ?_
    refine zts ?_
    refine AW.seq ?_
    refine AW.block ?_
    refine y9s [.n2 3 3, .no, .no] ((q9i 3) ∧ ((3 : Nat) < 4) ∧ ((0 : Nat) + 3 * 1 = 3)) [(3, iV 0), (5, iV u), (6, oV 0 0 4 1), (7, iV 4), (8, iV 3)] ⟨rfl, zo, zo⟩ ?_
    by_cases hx4 : (u ≠ 0)
    ·refine y9s [.no, .no, .b true] ((u ≠ 0)) [(3, iV 0), (5, iV u), (6, oV 0 0 4 1), (7, iV 4), (8, iV 3), (14, bV true)] zo ?_
     refine zt ?_
     refine y9s [.no, .no] True [(2, iV u)] trivial ?_
     refine AW.ret ?_
     exact EndP.of (.inr rfl) [] (P := (((orV x (orV y (orV z u))) : Int) = u) ∧ (q9d [iD x, iD y, iD z, iD u])) zk ⟨(by unfold orV; (repeat' split) <;> first | omega | contradiction | rfl), rfl⟩
    ·refine y9s [.no, .no, .b false] (¬ (u ≠ 0)) [(3, iV 0), (5, iV u), (6, oV 0 0 4 1), (7, iV 4), (8, iV 3), (14, bV false)] zo ?_
     refine zfs ?_
     refine y9h [.w, .no] ((-9223372036854775808) ≤ (4 : Int) ∧ (4 : Int) ≤ 9223372036854775807) [(3, iV 0), (6, oV 0 0 4 1), (7, iV 4), (8, iV 4)] ⟨by omega, by omega⟩ ?_
     refine AWr.s ?_
     refine y9r [.b false] (¬ ((4 : Int) < 4)) [(3, iV 0), (6, oV 0 0 4 1), (7, iV 4), (8, iV 4), (9, bV false)] [(0, some (3, .ds [iD x, iD y, iD z, iD u]))] 1 zo ?_
     refine AW.seq ?_
     refine zf ?_
     refine AW.exit ?_
     refine y9r [.no, .no] True [(2, iV 0)] [(0, some (3, .ds [iD x, iD y, iD z, iD u]))] 1 trivial ?_
     refine AW.ret ?_
     exact EndP.of (.inr rfl) [] (P := (((orV x (orV y (orV z u))) : Int) = 0) ∧ (q9d [iD x, iD y, iD z, iD u])) zk ⟨(by unfold orV; (repeat' split) <;> first | omega | contradiction | rfl), rfl⟩
theorem Y_near (w a b : Int) (hw : -9223372036854775808 ≤ w ∧ w ≤ 9223372036854775807) (ha : -9223372036854775808 ≤ a ∧ a ≤ 9223372036854775807) (hb : -9223372036854775808 ≤ b ∧ b ≤ 9223372036854775807) : Fun 66 [iE w, iE a, iE b] (toG []) 0 (iV (nrV w a b)) (toG []) 0 := by
 refine Fun.mk (n := 19) Tryz.func66 rfl rfl (Nat.le_of_ble_eq_true rfl) ?_
 intro cx hcx
 refine y9r [.no] True [(0, iV w), (1, iV a), (2, iV b)] [] 0 trivial ?_
 have hx1 : ((0 : Int) ≤ (awV w a)) := awV_p w a
 have hx2 : ((0 : Int) ≤ (awV w b)) := awV_p w b
 refine y9r [.no, .no, .call [] (.e (.c (.d (D.lit (.int .u64 (awV w a)))))) [] 0 [] none, .no, .no, .call [] (.e (.c (.d (D.lit (.int .u64 (awV w b)))))) [] 0 [] none, .call [] (iV (cmV (awV w a) (awV w b))) [] 0 [] none, .no, .no, .call [] (iV (cmV a b)) [] 0 [] none, .no, .call [0] (iV (orV (cmV (awV w a) (awV w b)) (cmV a b))) [(0, some (3, .ds [iD (cmV (awV w a) (awV w b)), iD (cmV a b)]))] 1 [] none, .no] ((_) ∧ (_) ∧ (_) ∧ (_) ∧ (_)) [(6, iV (orV (cmV (awV w a) (awV w b)) (cmV a b)))] [] 1 ⟨(Y_dist w a zo zo), (Y_dist w b zo zo), (Y_cmp_u64 (awV w a) (awV w b)), (Y_cmp_i64 a b), (Y_or2 (cmV (awV w a) (awV w b)) (cmV a b))⟩ ?_
 refine AW.ret ?_
 exact EndP.of (.inr rfl) [] (P := (((nrV w a b) : Int) = (orV (cmV (awV w a) (awV w b)) (cmV a b)))) zk (by first | rfl | exact nr_1 zo | exact nr_2 zo (by first | exact cm_lt zo | exact cm_gt zo | exact cmV_z.2 zo))
theorem Y_rnear (w a b : Int) (hw : -9223372036854775808 ≤ w ∧ w ≤ 9223372036854775807) (ha : -9223372036854775808 ≤ a ∧ a ≤ 9223372036854775807) (hb : -9223372036854775808 ≤ b ∧ b ≤ 9223372036854775807) : Fun 71 [iE w, iE a, iE b] (toG []) 0 (iV (nrV w a b)) (toG []) 0 := by
 have hc1 : awV a w = awV w a := awV_comm a w
 have hc2 : awV b w = awV w b := awV_comm b w
 refine Fun.mk (n := 26) Tryz.func71 rfl rfl (Nat.le_of_ble_eq_true rfl) ?_
 intro cx hcx
 refine y9r [.no] True [(0, iV w), (1, iV a), (2, iV b)] [] 0 trivial ?_
 refine AW.seq ?_
 have hx1 : ((0 : Int) ≤ (awV a w)) := awV_p a w
 have hx2 : ((0 : Int) ≤ (awV b w)) := awV_p b w
 refine y9s [.no, .no, .call [] (.e (.c (.d (D.lit (.int .u64 (awV a w)))))) [] 0 [] none, .no, .no, .call [] (.e (.c (.d (D.lit (.int .u64 (awV b w)))))) [] 0 [] none, .call [] (iV (cmV (awV a w) (awV b w))) [] 0 [] none, .no] ((_) ∧ (_) ∧ (_)) [(1, iV a), (2, iV b), (7, iV (cmV (awV a w) (awV b w)))] ⟨(Y_away a w zo zo), (Y_away b w zo zo), (Y_order (awV a w) (awV b w))⟩ ?_
 by_cases hx3 : ((cmV (awV a w) (awV b w)) ≠ 0)
 ·refine y9s [.no, .b true] (((cmV (awV a w) (awV b w)) ≠ 0)) [(1, iV a), (2, iV b), (7, iV (cmV (awV a w) (awV b w))), (16, bV true)] zo ?_
  refine zt ?_
  refine y9s [.no, .no] True [(6, iV (cmV (awV a w) (awV b w)))] trivial ?_
  refine AW.ret ?_
  exact EndP.of (.inr rfl) [] (P := (((nrV w a b) : Int) = (cmV (awV a w) (awV b w)))) zk (by first | rfl | exact nr_1 zo | exact nr_2 zo (by first | exact cm_lt zo | exact cm_gt zo | exact cmV_z.2 zo))
 ·refine y9s [.no, .b false] (¬ ((cmV (awV a w) (awV b w)) ≠ 0)) [(1, iV a), (2, iV b), (7, iV (cmV (awV a w) (awV b w))), (16, bV false)] zo ?_
  refine zfs ?_
  refine AW.seq ?_
  refine AW.block ?_
  by_cases hx4 : (a < b)
  ·refine y9s [.no, .no, .b true, .no] ((a < b)) [(1, iV a), (2, iV b), (18, bV true)] zo ?_
   refine zt ?_
   refine y9s [.no] True [(6, iV (-1))] trivial ?_
   refine AW.ret ?_
   exact EndP.of (.inr rfl) [] (P := (((nrV w a b) : Int) = (-1))) zk (by first | rfl | exact nr_1 zo | exact nr_2 zo (by first | exact cm_lt zo | exact cm_gt zo | exact cmV_z.2 zo))
  ·refine y9s [.no, .no, .b false, .no] (¬ (a < b)) [(1, iV a), (2, iV b), (18, bV false)] zo ?_
   refine zf ?_
   by_cases hx5 : (b < a)
   ·refine y9s [.no, .no, .b true, .no] ((b < a)) [(22, bV true)] zo ?_
    refine zt ?_
    refine y9s [.no] True [(6, iV 1)] trivial ?_
    refine AW.ret ?_
    exact EndP.of (.inr rfl) [] (P := (((nrV w a b) : Int) = 1)) zk (by first | rfl | exact nr_1 zo | exact nr_2 zo (by first | exact cm_lt zo | exact cm_gt zo | exact cmV_z.2 zo))
   ·refine y9s [.no, .no, .b false, .no] (¬ (b < a)) [(22, bV false)] zo ?_
    refine zfs ?_
    refine y9s [.no] True [(6, iV 0)] trivial ?_
    refine AW.ret ?_
    exact EndP.of (.inr rfl) [] (P := (((nrV w a b) : Int) = 0)) zk (by first | rfl | exact nr_1 zo | exact nr_2 zo (by first | exact cm_lt zo | exact cm_gt zo | exact cmV_z.2 zo))
theorem Y_kinds (w a b : Int)  : Fun 64 [iE w, iE a, iE b] (toG []) 0 (iV (kdV w a b)) (toG []) 0 := by
 refine Fun.mk (n := 19) Tryz.func64 rfl rfl (Nat.le_of_ble_eq_true rfl) ?_
 intro cx hcx
 refine y9r [.no] True [(0, iV w), (1, iV a), (2, iV b)] [] 0 trivial ?_
 by_cases hx1 : (a = w)
 ·by_cases hx2 : (b = w)
  ·have hx3 : ((((-1) : Int) ≤ (fsV true true)) ∧ ((fsV true true) ≤ 1)) := fsV_rng true true
   refine y9r [.no, .no, .b true, .no, .no, .b true, .call [] (iV (fsV true true)) [] 0 [] none, .no, .no, .call [] (iV (cmV b a)) [] 0 [] none, .no, .call [0] (iV (orV (fsV true true) (cmV b a))) [(0, some (3, .ds [iD (fsV true true), iD (cmV b a)]))] 1 [] none, .no] (((a = w)) ∧ ((b = w)) ∧ (_) ∧ (_) ∧ (_)) [(6, iV (orV (fsV true true) (cmV b a)))] [] 1 ⟨zo, zo, (Y_first true true), (Y_cmp_i64 b a), (Y_or2 (fsV true true) (cmV b a))⟩ ?_
   refine AW.ret ?_
   exact EndP.of (.inr rfl) [] (P := (((kdV w a b) : Int) = (orV (fsV true true) (cmV b a)))) zk (by first | rfl | (unfold kdV; first | rfl | (unfold orV fsV cmV; (repeat' split) <;> simp_all <;> omega)))
  ·have hx4 : ((((-1) : Int) ≤ (fsV true false)) ∧ ((fsV true false) ≤ 1)) := fsV_rng true false
   refine y9r [.no, .no, .b true, .no, .no, .b false, .call [] (iV (fsV true false)) [] 0 [] none, .no, .no, .call [] (iV (cmV b a)) [] 0 [] none, .no, .call [0] (iV (orV (fsV true false) (cmV b a))) [(0, some (3, .ds [iD (fsV true false), iD (cmV b a)]))] 1 [] none, .no] (((a = w)) ∧ (¬ (b = w)) ∧ (_) ∧ (_) ∧ (_)) [(6, iV (orV (fsV true false) (cmV b a)))] [] 1 ⟨zo, zo, (Y_first true false), (Y_cmp_i64 b a), (Y_or2 (fsV true false) (cmV b a))⟩ ?_
   refine AW.ret ?_
   exact EndP.of (.inr rfl) [] (P := (((kdV w a b) : Int) = (orV (fsV true false) (cmV b a)))) zk (by first | rfl | (unfold kdV; first | rfl | (unfold orV fsV cmV; (repeat' split) <;> simp_all <;> omega)))
 ·by_cases hx5 : (b = w)
  ·have hx6 : ((((-1) : Int) ≤ (fsV false true)) ∧ ((fsV false true) ≤ 1)) := fsV_rng false true
   refine y9r [.no, .no, .b false, .no, .no, .b true, .call [] (iV (fsV false true)) [] 0 [] none, .no, .no, .call [] (iV (cmV b a)) [] 0 [] none, .no, .call [0] (iV (orV (fsV false true) (cmV b a))) [(0, some (3, .ds [iD (fsV false true), iD (cmV b a)]))] 1 [] none, .no] ((¬ (a = w)) ∧ ((b = w)) ∧ (_) ∧ (_) ∧ (_)) [(6, iV (orV (fsV false true) (cmV b a)))] [] 1 ⟨zo, zo, (Y_first false true), (Y_cmp_i64 b a), (Y_or2 (fsV false true) (cmV b a))⟩ ?_
   refine AW.ret ?_
   exact EndP.of (.inr rfl) [] (P := (((kdV w a b) : Int) = (orV (fsV false true) (cmV b a)))) zk (by first | rfl | (unfold kdV; first | rfl | (unfold orV fsV cmV; (repeat' split) <;> simp_all <;> omega)))
  ·have hx7 : ((((-1) : Int) ≤ (fsV false false)) ∧ ((fsV false false) ≤ 1)) := fsV_rng false false
   refine y9r [.no, .no, .b false, .no, .no, .b false, .call [] (iV (fsV false false)) [] 0 [] none, .no, .no, .call [] (iV (cmV b a)) [] 0 [] none, .no, .call [0] (iV (orV (fsV false false) (cmV b a))) [(0, some (3, .ds [iD (fsV false false), iD (cmV b a)]))] 1 [] none, .no] ((¬ (a = w)) ∧ (¬ (b = w)) ∧ (_) ∧ (_) ∧ (_)) [(6, iV (orV (fsV false false) (cmV b a)))] [] 1 ⟨zo, zo, (Y_first false false), (Y_cmp_i64 b a), (Y_or2 (fsV false false) (cmV b a))⟩ ?_
   refine AW.ret ?_
   exact EndP.of (.inr rfl) [] (P := (((kdV w a b) : Int) = (orV (fsV false false) (cmV b a)))) zk (by first | rfl | (unfold kdV; first | rfl | (unfold orV fsV cmV; (repeat' split) <;> simp_all <;> omega)))
theorem Y_rkinds (w a b : Int)  : Fun 70 [iE w, iE a, iE b] (toG []) 0 (iV (kdV w a b)) (toG []) 0 := by
 refine Fun.mk (n := 23) Tryz.func70 rfl rfl (Nat.le_of_ble_eq_true rfl) ?_
 intro cx hcx
 refine y9r [.no] True [(0, iV w), (1, iV a), (2, iV b)] [] 0 trivial ?_
 refine AW.seq ?_
 by_cases hx1 : (a = b)
 ·refine y9s [.no, .no, .b true] ((a = b)) [(0, iV w), (1, iV a), (2, iV b), (9, bV true)] zo ?_
  refine zt ?_
  refine y9s [.no] True [(6, iV 0)] trivial ?_
  refine AW.ret ?_
  exact EndP.of (.inr rfl) [] (P := (((kdV w a b) : Int) = 0)) zk (by first | rfl | (unfold kdV; first | rfl | (unfold orV fsV cmV; (repeat' split) <;> simp_all <;> omega)))
 ·refine y9s [.no, .no, .b false] (¬ (a = b)) [(0, iV w), (1, iV a), (2, iV b), (9, bV false)] zo ?_
  refine zfs ?_
  refine AW.seq ?_
  by_cases hx2 : (a = w)
  ·refine y9s [.no, .no, .b true, .no, .no] ((a = w)) [(22, bV true)] zo ?_
   refine zt ?_
   refine y9s [.no] True [(6, iV (-1))] trivial ?_
   refine AW.ret ?_
   exact EndP.of (.inr rfl) [] (P := (((kdV w a b) : Int) = (-1))) zk (by first | rfl | (unfold kdV; first | rfl | (unfold orV fsV cmV; (repeat' split) <;> simp_all <;> omega)))
  ·by_cases hx3 : (b ≠ w)
   ·by_cases hx4 : (b < a)
    ·refine y9s [.no, .no, .b false, .no, .no, .no, .b true, .no, .no, .no, .b true, .no, .no] ((¬ (a = w)) ∧ ((b ≠ w)) ∧ ((b < a))) [(22, bV true)] ⟨zo, zo, zo⟩ ?_
     refine zt ?_
     refine y9s [.no] True [(6, iV (-1))] trivial ?_
     refine AW.ret ?_
     exact EndP.of (.inr rfl) [] (P := (((kdV w a b) : Int) = (-1))) zk (by first | rfl | (unfold kdV; first | rfl | (unfold orV fsV cmV; (repeat' split) <;> simp_all <;> omega)))
    ·refine y9s [.no, .no, .b false, .no, .no, .no, .b true, .no, .no, .no, .b false, .no, .no] ((¬ (a = w)) ∧ ((b ≠ w)) ∧ (¬ (b < a))) [(22, bV false)] ⟨zo, zo, zo⟩ ?_
     refine zfs ?_
     refine y9s [.no] True [(6, iV 1)] trivial ?_
     refine AW.ret ?_
     exact EndP.of (.inr rfl) [] (P := (((kdV w a b) : Int) = 1)) zk (by first | rfl | (unfold kdV; first | rfl | (unfold orV fsV cmV; (repeat' split) <;> simp_all <;> omega)))
   ·refine y9s [.no, .no, .b false, .no, .no, .no, .b false, .no, .no, .no] ((¬ (a = w)) ∧ (¬ (b ≠ w))) [(22, bV false)] ⟨zo, zo⟩ ?_
    refine zfs ?_
    refine y9s [.no] True [(6, iV 1)] trivial ?_
    refine AW.ret ?_
    exact EndP.of (.inr rfl) [] (P := (((kdV w a b) : Int) = 1)) zk (by first | rfl | (unfold kdV; first | rfl | (unfold orV fsV cmV; (repeat' split) <;> simp_all <;> omega)))
theorem zl10a3 {p : Prop} (h : p := by first | omega | assumption | simp) : p := h
theorem zl10a0 {p : Prop} (h : p := by first | omega | (simp only [bsD_len, stD_len, stL_len, dI_len, List.length_append, List.length_cons, List.length_nil, List.length_take, List.length_drop, List.length_replicate, List.length_set, List.length_map, List.length_reverse, Nat.mul_one] <;> omega) | rfl) : p := h
theorem Y_scmp (a b : List Int) (n m : Nat) (hn : List.length a = n) (hm : List.length b = m) (h2 : n ≤ 1000000) (h3 : m ≤ 1000000) : Fun 113 [.c (.d (D.sl (dI .i64 a) n)), .c (.d (D.sl (dI .i64 b) m))] (toG []) 0 (iV (lxV a b)) (toG []) 0 := by
 refine Fun.mk (n := 36) Tryz.func113 rfl rfl (Nat.le_of_ble_eq_true rfl) ?_
 intro cx hcx
 refine y9r [.no] True [(0, sV .i64 a n), (1, sV .i64 b m)] [] 0 trivial ?_
 refine AW.seq ?_
 refine y9s [.no, .no, .no] True [(0, sV .i64 a n), (1, sV .i64 b m), (9, sV .i64 a n), (10, uV n), (11, iV 0)] trivial ?_
 refine AW.block ?_
 refine AW.loopE 0 hcx (fun (x : {x : Nat // match x with | k => (k ≤ n ∧ k ≤ m) ∧ (lxV a b = lxV (List.drop k a) (List.drop k b))}) => match x with | ⟨k, _⟩ => (⟨[(0, sV .i64 a n), (1, sV .i64 b m), (9, sV .i64 a n), (10, uV n), (11, uV k)], [], 0⟩ : ES)) (fun x => match x with | ⟨k, _⟩ => n - k) ⟨(0 : Nat), ⟨zl10a3, rfl⟩⟩ [] (P := (q9d (dI .i64 a)) ∧ (q9n n) ∧ (q9d (dI .i64 b)) ∧ (q9n m) ∧ (q9d (dI .i64 a)) ∧ (q9n n) ∧ (q9i (n : Int)) ∧ (q9i 0)) zk ⟨rfl, rfl, rfl, rfl, rfl, rfl, rfl, rfl⟩ ?_
 rintro ⟨k, hinv0⟩
 obtain ⟨hk, hx⟩ : (k ≤ n ∧ k ≤ m) ∧ (lxV a b = lxV (List.drop k a) (List.drop k b)) := hinv0
 refine AW.es (l := [(0, sV .i64 a n), (1, sV .i64 b m), (9, sV .i64 a n), (10, uV n), (11, uV k)]) (g := []) (nx := 0) rfl rfl rfl ?_
 by_cases hx1 : (((k : Nat) : Int) < ((n : Nat) : Int))
 ·refine y9r [.b true] (((k : Int) < (n : Int))) [(0, sV .i64 a n), (1, sV .i64 b m), (9, sV .i64 a n), (10, uV n), (11, uV k), (12, bV true)] [] 0 zo ?_
  refine AW.seq ?_
  refine zts ?_
  refine AW.seq ?_
  refine AW.block ?_
  refine y9s [.no, .n k, .d (D.lit (.int .i64 (List.getD a k 0))), .no, .no] ((q9i (k : Int)) ∧ (k < n) ∧ ((List.drop k (dI .i64 a))[0]? = some (D.lit (.int .i64 (List.getD a k 0))))) [(0, sV .i64 a n), (1, sV .i64 b m), (5, uV k), (6, iV (List.getD a k 0)), (9, sV .i64 a n), (10, uV n), (11, uV k)] ⟨rfl, zo, (dI_at _ _ _ zl10a0)⟩ ?_
  refine AW.seq ?_
  by_cases hx2 : (((m : Nat) : Int) ≤ ((k : Nat) : Int))
  ·refine y9s [.no, .no, .no, .b true] (((m : Int) ≤ (k : Int))) [(0, sV .i64 a n), (1, sV .i64 b m), (5, uV k), (6, iV (List.getD a k 0)), (9, sV .i64 a n), (10, uV n), (11, uV k), (19, bV true)] zo ?_
   refine zt ?_
   refine y9s [.no] True [(4, iV 1)] trivial ?_
   refine AW.ret ?_
   exact EndP.of (.inr rfl) [] (P := (((lxV a b) : Int) = 1)) zk (by first | rfl | exact (lx_ne hx zo zo zo) | exact (lx_gt hx zo zo) | exact (lx_lt hx zo zo) | exact (lx_eq hx zo zo))
  ·refine y9s [.no, .no, .no, .b false] (¬ ((m : Int) ≤ (k : Int))) [(0, sV .i64 a n), (1, sV .i64 b m), (5, uV k), (6, iV (List.getD a k 0)), (9, sV .i64 a n), (10, uV n), (11, uV k), (19, bV false)] zo ?_
   refine zfs ?_
   refine y9s [.no, .no, .n k, .d (D.lit (.int .i64 (List.getD b k 0))), .no] ((q9i (k : Int)) ∧ (k < m) ∧ ((List.drop k (dI .i64 b))[0]? = some (D.lit (.int .i64 (List.getD b k 0))))) [(0, sV .i64 a n), (1, sV .i64 b m), (6, iV (List.getD a k 0)), (7, iV (List.getD b k 0)), (9, sV .i64 a n), (10, uV n), (11, uV k)] ⟨rfl, zo, (dI_at _ _ _ zl10a0)⟩ ?_
   refine y9s [.no, .no, .call [] (iV (cmV (List.getD a k 0) (List.getD b k 0))) [] 0 [] none, .no] _ [(0, sV .i64 a n), (1, sV .i64 b m), (8, iV (cmV (List.getD a k 0) (List.getD b k 0))), (9, sV .i64 a n), (10, uV n), (11, uV k)] (Y_cmp_i64 (List.getD a k 0) (List.getD b k 0)) ?_
   by_cases hx3 : ((cmV (List.getD a k 0) (List.getD b k 0)) ≠ 0)
   ·refine y9s [.no, .b true] (((cmV (List.getD a k 0) (List.getD b k 0)) ≠ 0)) [(0, sV .i64 a n), (1, sV .i64 b m), (8, iV (cmV (List.getD a k 0) (List.getD b k 0))), (9, sV .i64 a n), (10, uV n), (11, uV k), (28, bV true)] zo ?_
    refine zt ?_
    refine y9s [.no, .no] True [(4, iV (cmV (List.getD a k 0) (List.getD b k 0)))] trivial ?_
    refine AW.ret ?_
    exact EndP.of (.inr rfl) [] (P := (((lxV a b) : Int) = (cmV (List.getD a k 0) (List.getD b k 0)))) zk (by first | rfl | exact (lx_ne hx zo zo zo) | exact (lx_gt hx zo zo) | exact (lx_lt hx zo zo) | exact (lx_eq hx zo zo))
   ·refine y9s [.no, .b false] (¬ ((cmV (List.getD a k 0) (List.getD b k 0)) ≠ 0)) [(0, sV .i64 a n), (1, sV .i64 b m), (8, iV (cmV (List.getD a k 0) (List.getD b k 0))), (9, sV .i64 a n), (10, uV n), (11, uV k), (28, bV false)] zo ?_
    refine zfs ?_
    refine y9h [.w, .no] ((-9223372036854775808) ≤ ((k : Int) + 1) ∧ ((k : Int) + 1) ≤ 9223372036854775807) [(0, sV .i64 a n), (1, sV .i64 b m), (9, sV .i64 a n), (10, uV n), (11, iV (↑k + 1))] ⟨by omega, by omega⟩ ?_
    exact Rd.of ⟨((k + 1) : Nat), ⟨zl10a3, (lx_step hx zo zo zo)⟩⟩ [] (P := (q9d (dI .i64 a)) ∧ (q9n n) ∧ (q9d (dI .i64 b)) ∧ (q9n m) ∧ (q9d (dI .i64 a)) ∧ (q9n n) ∧ (q9i (n : Int)) ∧ (((((k + 1) : Nat) : Int) : Int) = ((k : Int) + 1))) zk ⟨rfl, rfl, rfl, rfl, rfl, rfl, rfl, (by first | rfl | omega | assumption | (simp; done) | (simp; omega))⟩ (show n - (k + 1) < n - k from (by first | omega | (show _ < _; simp; omega)))
 ·refine y9r [.b false] (¬ ((k : Int) < (n : Int))) [(0, sV .i64 a n), (1, sV .i64 b m), (9, sV .i64 a n), (10, uV n), (11, uV k), (12, bV false)] [] 0 zo ?_
  refine AW.seq ?_
  refine zf ?_
  refine AW.exit ?_
  refine AW.seq ?_
  by_cases hx4 : (((n : Nat) : Int) < ((m : Nat) : Int))
  ·refine y9r (nz9 4 [.b true]) (((n : Int) < (m : Int))) [(35, bV true)] [] 0 zo ?_
   refine zt ?_
   refine y9s [.no] True [(4, iV (-1))] trivial ?_
   refine AW.ret ?_
   exact EndP.of (.inr rfl) [] (P := (((lxV a b) : Int) = (-1))) zk (by first | rfl | exact (lx_ne hx zo zo zo) | exact (lx_gt hx zo zo) | exact (lx_lt hx zo zo) | exact (lx_eq hx zo zo))
  ·refine y9r (nz9 4 [.b false]) (¬ ((n : Int) < (m : Int))) [(35, bV false)] [] 0 zo ?_
   refine zfs ?_
   refine y9s [.no] True [(4, iV 0)] trivial ?_
   refine AW.ret ?_
   exact EndP.of (.inr rfl) [] (P := (((lxV a b) : Int) = 0)) zk (by first | rfl | exact (lx_ne hx zo zo zo) | exact (lx_gt hx zo zo) | exact (lx_lt hx zo zo) | exact (lx_eq hx zo zo))
theorem Y_shared (w a : List Int) (o n : Nat) (ho : List.length w = o) (hn : List.length a = n) (h1 : o ≤ 1000000) (h2 : n ≤ 1000000) : Fun 110 [.c (.d (D.sl (dI .i64 a) n)), .c (.ptr 0 0)] (toG [(0, some (23, .ds [D.sl (dI .i64 w) o]))]) 1 (iV (cnC w a)) (toG [(0, some (23, .ds [D.sl (dI .i64 w) o]))]) 1 := by
 refine Fun.mk (n := 8) Tryz.func110 rfl rfl (Nat.le_of_ble_eq_true rfl) ?_
 intro cx hcx
 refine y9r [.no] True [(0, sV .i64 a n), (1, rV 0 0)] [(0, some (23, .ds [dl w o]))] 1 trivial ?_
 have hx1 : ((List.length (coL w a n)) ≤ o) := (by have h9 := coL_len w a n; omega)
 refine y9s [.no, .no, .call [] (sV .i64 (coL w a n) (List.length (coL w a n))) [] 0 [] none, .no, .no] _ [(3, uV (List.length (coL w a n)))] (V_Common w a o n zo zo zo zo) ?_
 refine AW.ret ?_
 exact EndP.of (.inr rfl) [] (P := (((cnC w a) : Int) = (List.length (coL w a n) : Int)) ∧ (q9d [dl w o])) zk ⟨(by first | rfl | (unfold cnC; rw [hn])), rfl⟩
theorem Y_maps (w a b : List Int) (o n m : Nat) (ho : List.length w = o) (hn : List.length a = n) (hm : List.length b = m) (h1 : o ≤ 1000000) (h2 : n ≤ 1000000) (h3 : m ≤ 1000000) : Fun 68 [.c (.d (D.sl (dI .i64 w) o)), .c (.d (D.sl (dI .i64 a) n)), .c (.d (D.sl (dI .i64 b) m))] (toG []) 0 (iV (mpV w a b)) (toG []) 0 := by
 refine Fun.mk (n := 33) Tryz.func68 rfl rfl (Nat.le_of_ble_eq_true rfl) ?_
 intro cx hcx
 refine y9r [.no, .no] True [(1, sV .i64 a n), (2, sV .i64 b m), (3, rV 0 0)] [(0, some (23, .ds [dl w o]))] 1 trivial ?_
 refine y9s [.no, .no] True [(1, sV .i64 a n), (2, sV .i64 b m), (3, rV 0 0), (7, .e (.c (.fn 110 [(0, 0)])))] trivial ?_
 have hx1 : ((((-1) : Int) ≤ (fsV (sqB a w) (sqB b w))) ∧ ((fsV (sqB a w) (sqB b w)) ≤ 1)) := fsV_rng (sqB a w) (sqB b w)
 have hx2 : ((0 : Int) ≤ (cnC w b)) := Int.natCast_nonneg _
 have hx3 : ((0 : Int) ≤ (cnC w a)) := Int.natCast_nonneg _
 have hx4 : ((((-1) : Int) ≤ (lxV a b)) ∧ ((lxV a b) ≤ 1)) := lxV_rng a b
 refine y9r [.no, .no, .call [] (.e (.c (.d (D.lit (.bool (sqB a w)))))) [] 0 [] none, .no, .no, .call [] (.e (.c (.d (D.lit (.bool (sqB b w)))))) [] 0 [] none, .call [] (iV (fsV (sqB a w) (sqB b w))) [] 0 [] none, .no, .no, .call [0] (iV (cnC w b)) [(0, some (23, .ds [dl w o]))] 1 [] none, .no, .no, .call [0] (iV (cnC w a)) [(0, some (23, .ds [dl w o]))] 1 [] none, .call [] (iV (cmV (cnC w b) (cnC w a))) [] 0 [] none, .no, .no, .no, .no, .call [] (iV (cmV (n : Int) (m : Int))) [] 0 [] none, .no, .no, .call [] (iV (lxV a b)) [] 0 [] none, .no, .call [1] (iV (orV (fsV (sqB a w) (sqB b w)) (orV (cmV (cnC w b) (cnC w a)) (orV (cmV (n : Int) (m : Int)) (lxV a b))))) [(0, some (3, .ds [iD (fsV (sqB a w) (sqB b w)), iD (cmV (cnC w b) (cnC w a)), iD (cmV (n : Int) (m : Int)), iD (lxV a b)]))] 1 [] none, .no] ((_) ∧ (_) ∧ (_) ∧ (_) ∧ (_) ∧ (_) ∧ (_) ∧ (_) ∧ (_)) [(6, iV (orV (fsV (sqB a w) (sqB b w)) (orV (cmV (cnC w b) (cnC w a)) (orV (cmV ↑n ↑m) (lxV a b)))))] [] 2 ⟨(V_Same a w n o zo zo zo zo), (V_Same b w m o zo zo zo zo), (Y_first (sqB a w) (sqB b w)), (Y_shared w b o m zo zo zo zo), (Y_shared w a o n zo zo zo zo), (Y_cmp_i64 (cnC w b) (cnC w a)), (Y_cmp_i64 (n : Int) (m : Int)), (Y_scmp a b n m zo zo zo zo), (Y_or4 (fsV (sqB a w) (sqB b w)) (cmV (cnC w b) (cnC w a)) (cmV (n : Int) (m : Int)) (lxV a b))⟩ ?_
 refine AW.ret ?_
 exact EndP.of (.inr rfl) [] (P := (((mpV w a b) : Int) = (orV (fsV (sqB a w) (sqB b w)) (orV (cmV (cnC w b) (cnC w a)) (orV (cmV (n : Int) (m : Int)) (lxV a b)))))) zk (by first | rfl | (unfold mpV; rw [hn, hm]))
theorem zl10a2 {p : Prop} (h : p := by first | assumption | (simp only [*]; done)) : p := h
theorem Y_rmaps (w a b : List Int) (o n m : Nat) (ho : List.length w = o) (hn : List.length a = n) (hm : List.length b = m) (h1 : o ≤ 1000000) (h2 : n ≤ 1000000) (h3 : m ≤ 1000000) : Fun 72 [.c (.d (D.sl (dI .i64 w) o)), .c (.d (D.sl (dI .i64 a) n)), .c (.d (D.sl (dI .i64 b) m))] (toG []) 0 (iV (mpV w a b)) (toG []) 0 := by
 have hca : ((List.length (coL w a n) : Nat) : Int) = cnC w a := by unfold cnC; rw [hn]
 have hcb : ((List.length (coL w b m) : Nat) : Int) = cnC w b := by unfold cnC; rw [hm]
 have hzz : ∀ x y : Int, cmV x y = 0 → x = y := fun x y h => cmV_z.1 h
 refine Fun.mk (n := 70) Tryz.func72 rfl rfl (Nat.le_of_ble_eq_true rfl) ?_
 intro cx hcx
 refine y9r [.no] True [(0, sV .i64 w o), (1, sV .i64 a n), (2, sV .i64 b m)] [] 0 trivial ?_
 refine AW.seq ?_
 rcases Bool.eq_false_or_eq_true (sqB a w) with hx1 | hx1
 ·rcases Bool.eq_false_or_eq_true (sqB b w) with hx2 | hx2
  ·refine y9s [.no, .no, .call [] (bV true) [] 0 [] none, .no, .no, .call [] (bV true) [] 0 [] none, .no, .no] ((Fun 94 [.c (.d (dl a n)), .c (.d (dl w o))] (toG []) 0 (bV true) (toG []) 0) ∧ (Fun 94 [.c (.d (dl b m)), .c (.d (dl w o))] (toG []) 0 (bV true) (toG []) 0)) [(0, sV .i64 w o), (1, sV .i64 a n), (2, sV .i64 b m), (7, bV true), (8, bV true)] ⟨(by have h0 := (V_rSame a w n o zo zo zo zo); rw [hx1] at h0; exact h0), (by have h0 := (V_rSame b w m o zo zo zo zo); rw [hx2] at h0; exact h0)⟩ ?_
   refine y9s [.no, .no, .no] True [(0, sV .i64 w o), (1, sV .i64 a n), (2, sV .i64 b m), (7, bV true), (20, bV false)] trivial ?_
   refine zfs ?_
   refine AW.seq ?_
   have hx3 : ((List.length (coL w b m)) ≤ o) := (by have h9 := coL_len w b m; omega)
   have hx4 : ((List.length (coL w a n)) ≤ o) := (by have h9 := coL_len w a n; omega)
   refine y9s [.no, .no, .call [] (sV .i64 (coL w b m) (List.length (coL w b m))) [] 0 [] none, .no, .w, .no, .no, .call [] (sV .i64 (coL w a n) (List.length (coL w a n))) [] 0 [] none, .no, .w, .call [] (iV (cmV (List.length (coL w b m) : Int) (List.length (coL w a n) : Int))) [] 0 [] none, .no] ((_) ∧ (0 ≤ (List.length (coL w b m) : Int) ∧ (List.length (coL w b m) : Int) ≤ 18446744073709551615) ∧ (_) ∧ (0 ≤ (List.length (coL w a n) : Int) ∧ (List.length (coL w a n) : Int) ≤ 18446744073709551615) ∧ (_)) [(1, sV .i64 a n), (2, sV .i64 b m), (9, iV (cmV (List.length (coL w b m) : Int) (List.length (coL w a n) : Int)))] ⟨(V_rCommon w b o m zo zo zo zo), ⟨by omega, by omega⟩, (V_rCommon w a o n zo zo zo zo), ⟨by omega, by omega⟩, (Y_order (List.length (coL w b m) : Int) (List.length (coL w a n) : Int))⟩ ?_
   by_cases hx5 : ((cmV (((List.length (coL w b m)) : Nat) : Int) (((List.length (coL w a n)) : Nat) : Int)) ≠ 0)
   ·refine y9s [.no, .b true] (((cmV (List.length (coL w b m) : Int) (List.length (coL w a n) : Int)) ≠ 0)) [(1, sV .i64 a n), (2, sV .i64 b m), (9, iV (cmV (List.length (coL w b m) : Int) (List.length (coL w a n) : Int))), (34, bV true)] zo ?_
    refine zt ?_
    refine y9s [.no, .no] True [(6, iV (cmV (List.length (coL w b m) : Int) (List.length (coL w a n) : Int)))] trivial ?_
    refine AW.ret ?_
    exact EndP.of (.inr rfl) [] (P := (((mpV w a b) : Int) = (cmV (List.length (coL w b m) : Int) (List.length (coL w a n) : Int)))) zk (by first | exact mp_5 hcb hca zl10a2 zo hn hm zo (by first | exact lx_l hx zo zo zo | exact lx_g hx zo zo zo | exact lx_eq hx zo zo) | exact mp_4 hcb hca zl10a2 zo hn hm zo | exact mp_3 hcb hca zl10a2 zo | exact mp_1 zl10a2 zl10a2 | exact mp_2 zl10a2 zl10a2)
   ·refine y9s [.no, .b false] (¬ ((cmV (List.length (coL w b m) : Int) (List.length (coL w a n) : Int)) ≠ 0)) [(1, sV .i64 a n), (2, sV .i64 b m), (9, iV (cmV (List.length (coL w b m) : Int) (List.length (coL w a n) : Int))), (34, bV false)] zo ?_
    refine zfs ?_
    refine AW.seq ?_
    refine y9s [.no, .no, .w, .no, .no, .w, .call [] (iV (cmV (n : Int) (m : Int))) [] 0 [] none, .no] ((0 ≤ (n : Int) ∧ (n : Int) ≤ 18446744073709551615) ∧ (0 ≤ (m : Int) ∧ (m : Int) ≤ 18446744073709551615) ∧ (_)) [(1, sV .i64 a n), (2, sV .i64 b m), (10, iV (cmV ↑n ↑m))] ⟨⟨by omega, by omega⟩, ⟨by omega, by omega⟩, (Y_order (n : Int) (m : Int))⟩ ?_
    by_cases hx6 : ((cmV ((n : Nat) : Int) ((m : Nat) : Int)) ≠ 0)
    ·refine y9s [.no, .b true] (((cmV (n : Int) (m : Int)) ≠ 0)) [(1, sV .i64 a n), (2, sV .i64 b m), (10, iV (cmV ↑n ↑m)), (44, bV true)] zo ?_
     refine zt ?_
     refine y9s [.no, .no] True [(6, iV (cmV ↑n ↑m))] trivial ?_
     refine AW.ret ?_
     exact EndP.of (.inr rfl) [] (P := (((mpV w a b) : Int) = (cmV (n : Int) (m : Int)))) zk (by first | exact mp_5 hcb hca zl10a2 zo hn hm zo (by first | exact lx_l hx zo zo zo | exact lx_g hx zo zo zo | exact lx_eq hx zo zo) | exact mp_4 hcb hca zl10a2 zo hn hm zo | exact mp_3 hcb hca zl10a2 zo | exact mp_1 zl10a2 zl10a2 | exact mp_2 zl10a2 zl10a2)
    ·refine y9s [.no, .b false] (¬ ((cmV (n : Int) (m : Int)) ≠ 0)) [(1, sV .i64 a n), (2, sV .i64 b m), (10, iV (cmV ↑n ↑m)), (44, bV false)] zo ?_
     refine zfs ?_
     refine AW.seq ?_
     refine y9s [.no, .no, .no] True [(1, sV .i64 a n), (2, sV .i64 b m), (47, uV n), (48, iV 0)] trivial ?_
     refine AW.block ?_
     refine AW.loopE 0 hcx (fun (x : {x : Nat // match x with | k => (n = m) ∧ (k ≤ n ∧ k ≤ m) ∧ (lxV a b = lxV (List.drop k a) (List.drop k b))}) => match x with | ⟨k, _⟩ => (⟨[(1, sV .i64 a n), (2, sV .i64 b m), (47, uV n), (48, uV k)], [], 0⟩ : ES)) (fun x => match x with | ⟨k, _⟩ => n - k) ⟨(0 : Nat), ⟨(by have h9 := cmV_z.1 (show cmV (n : Int) (m : Int) = 0 by omega); omega), zl10a3, rfl⟩⟩ [] (P := (q9d (dI .i64 a)) ∧ (q9n n) ∧ (q9d (dI .i64 b)) ∧ (q9n m) ∧ (q9i (n : Int)) ∧ (q9i 0)) zk ⟨rfl, rfl, rfl, rfl, rfl, rfl⟩ ?_
     rintro ⟨k, hinv0⟩
     obtain ⟨hnm, hk, hx⟩ : (n = m) ∧ (k ≤ n ∧ k ≤ m) ∧ (lxV a b = lxV (List.drop k a) (List.drop k b)) := hinv0
     refine AW.es (l := [(1, sV .i64 a n), (2, sV .i64 b m), (47, uV n), (48, uV k)]) (g := []) (nx := 0) rfl rfl rfl ?_
     by_cases hx7 : (((k : Nat) : Int) < ((n : Nat) : Int))
     ·refine y9r [.b true] (((k : Int) < (n : Int))) [(1, sV .i64 a n), (2, sV .i64 b m), (47, uV n), (48, uV k), (49, bV true)] [] 0 zo ?_
      refine AW.seq ?_
      refine zts ?_
      refine AW.seq ?_
      refine AW.block ?_
      refine y9s [.no, .no] True [(1, sV .i64 a n), (2, sV .i64 b m), (11, uV k), (47, uV n), (48, uV k)] trivial ?_
      by_cases hx8 : ((List.getD a k 0) ≠ (List.getD b k 0))
      ·refine y9s [.no, .no, .n k, .d (D.lit (.int .i64 (List.getD a k 0))), .no, .no, .n k, .d (D.lit (.int .i64 (List.getD b k 0))), .b true] ((q9i (k : Int)) ∧ (k < n) ∧ ((List.drop k (dI .i64 a))[0]? = some (D.lit (.int .i64 (List.getD a k 0)))) ∧ (q9i (k : Int)) ∧ (k < m) ∧ ((List.drop k (dI .i64 b))[0]? = some (D.lit (.int .i64 (List.getD b k 0)))) ∧ (((List.getD a k 0) ≠ (List.getD b k 0)))) [(1, sV .i64 a n), (2, sV .i64 b m), (11, uV k), (47, uV n), (48, uV k), (59, bV true)] ⟨rfl, zo, (dI_at _ _ _ zl10a0), rfl, zo, (dI_at _ _ _ zl10a0), zo⟩ ?_
       refine zt ?_
       refine AW.seq ?_
       by_cases hx9 : ((List.getD a k 0) < (List.getD b k 0))
       ·refine y9s [.no, .no, .n k, .d (D.lit (.int .i64 (List.getD a k 0))), .no, .no, .n k, .d (D.lit (.int .i64 (List.getD b k 0))), .b true] ((q9i (k : Int)) ∧ (k < n) ∧ ((List.drop k (dI .i64 a))[0]? = some (D.lit (.int .i64 (List.getD a k 0)))) ∧ (q9i (k : Int)) ∧ (k < m) ∧ ((List.drop k (dI .i64 b))[0]? = some (D.lit (.int .i64 (List.getD b k 0)))) ∧ (((List.getD a k 0) < (List.getD b k 0)))) [(68, bV true)] ⟨rfl, zo, (dI_at _ _ _ zl10a0), rfl, zo, (dI_at _ _ _ zl10a0), zo⟩ ?_
        refine zt ?_
        refine y9s [.no] True [(6, iV (-1))] trivial ?_
        refine AW.ret ?_
        exact EndP.of (.inr rfl) [] (P := (((mpV w a b) : Int) = (-1))) zk (by first | exact mp_5 hcb hca zl10a2 zo hn hm zo (by first | exact lx_l hx zo zo zo | exact lx_g hx zo zo zo | exact lx_eq hx zo zo) | exact mp_4 hcb hca zl10a2 zo hn hm zo | exact mp_3 hcb hca zl10a2 zo | exact mp_1 zl10a2 zl10a2 | exact mp_2 zl10a2 zl10a2)
       ·refine y9s [.no, .no, .n k, .d (D.lit (.int .i64 (List.getD a k 0))), .no, .no, .n k, .d (D.lit (.int .i64 (List.getD b k 0))), .b false] ((q9i (k : Int)) ∧ (k < n) ∧ ((List.drop k (dI .i64 a))[0]? = some (D.lit (.int .i64 (List.getD a k 0)))) ∧ (q9i (k : Int)) ∧ (k < m) ∧ ((List.drop k (dI .i64 b))[0]? = some (D.lit (.int .i64 (List.getD b k 0)))) ∧ (¬ ((List.getD a k 0) < (List.getD b k 0)))) [(68, bV false)] ⟨rfl, zo, (dI_at _ _ _ zl10a0), rfl, zo, (dI_at _ _ _ zl10a0), zo⟩ ?_
        refine zfs ?_
        refine y9s [.no] True [(6, iV 1)] trivial ?_
        refine AW.ret ?_
        exact EndP.of (.inr rfl) [] (P := (((mpV w a b) : Int) = 1)) zk (by first | exact mp_5 hcb hca zl10a2 zo hn hm zo (by first | exact lx_l hx zo zo zo | exact lx_g hx zo zo zo | exact lx_eq hx zo zo) | exact mp_4 hcb hca zl10a2 zo hn hm zo | exact mp_3 hcb hca zl10a2 zo | exact mp_1 zl10a2 zl10a2 | exact mp_2 zl10a2 zl10a2)
      ·refine y9s [.no, .no, .n k, .d (D.lit (.int .i64 (List.getD a k 0))), .no, .no, .n k, .d (D.lit (.int .i64 (List.getD b k 0))), .b false] ((q9i (k : Int)) ∧ (k < n) ∧ ((List.drop k (dI .i64 a))[0]? = some (D.lit (.int .i64 (List.getD a k 0)))) ∧ (q9i (k : Int)) ∧ (k < m) ∧ ((List.drop k (dI .i64 b))[0]? = some (D.lit (.int .i64 (List.getD b k 0)))) ∧ (¬ ((List.getD a k 0) ≠ (List.getD b k 0)))) [(1, sV .i64 a n), (2, sV .i64 b m), (11, uV k), (47, uV n), (48, uV k), (59, bV false)] ⟨rfl, zo, (dI_at _ _ _ zl10a0), rfl, zo, (dI_at _ _ _ zl10a0), zo⟩ ?_
       refine zfs ?_
       refine y9h [.w, .no] ((-9223372036854775808) ≤ ((k : Int) + 1) ∧ ((k : Int) + 1) ≤ 9223372036854775807) [(1, sV .i64 a n), (2, sV .i64 b m), (47, uV n), (48, iV (↑k + 1))] ⟨by omega, by omega⟩ ?_
       exact Rd.of ⟨((k + 1) : Nat), ⟨hnm, zl10a3, (lx_step hx zo zo (cmV_z.2 zo))⟩⟩ [] (P := (q9d (dI .i64 a)) ∧ (q9n n) ∧ (q9d (dI .i64 b)) ∧ (q9n m) ∧ (q9i (n : Int)) ∧ (((((k + 1) : Nat) : Int) : Int) = ((k : Int) + 1))) zk ⟨rfl, rfl, rfl, rfl, rfl, (by first | rfl | omega | assumption | (simp; done) | (simp; omega))⟩ (show n - (k + 1) < n - k from (by first | omega | (show _ < _; simp; omega)))
     ·refine y9r [.b false] (¬ ((k : Int) < (n : Int))) [(1, sV .i64 a n), (2, sV .i64 b m), (47, uV n), (48, uV k), (49, bV false)] [] 0 zo ?_
      refine AW.seq ?_
      refine zf ?_
      refine AW.exit ?_
      refine y9r [.no] True [(6, iV 0)] [] 0 trivial ?_
      refine AW.ret ?_
      exact EndP.of (.inr rfl) [] (P := (((mpV w a b) : Int) = 0)) zk (by first | exact mp_5 hcb hca zl10a2 zo hn hm zo (by first | exact lx_l hx zo zo zo | exact lx_g hx zo zo zo | exact lx_eq hx zo zo) | exact mp_4 hcb hca zl10a2 zo hn hm zo | exact mp_3 hcb hca zl10a2 zo | exact mp_1 zl10a2 zl10a2 | exact mp_2 zl10a2 zl10a2)
  ·refine y9s [.no, .no, .call [] (bV true) [] 0 [] none, .no, .no, .call [] (bV false) [] 0 [] none, .no, .no] ((Fun 94 [.c (.d (dl a n)), .c (.d (dl w o))] (toG []) 0 (bV true) (toG []) 0) ∧ (Fun 94 [.c (.d (dl b m)), .c (.d (dl w o))] (toG []) 0 (bV false) (toG []) 0)) [(0, sV .i64 w o), (1, sV .i64 a n), (2, sV .i64 b m), (7, bV true), (8, bV false)] ⟨(by have h0 := (V_rSame a w n o zo zo zo zo); rw [hx1] at h0; exact h0), (by have h0 := (V_rSame b w m o zo zo zo zo); rw [hx2] at h0; exact h0)⟩ ?_
   refine y9s [.no, .no, .no] True [(0, sV .i64 w o), (1, sV .i64 a n), (2, sV .i64 b m), (7, bV true), (20, bV true)] trivial ?_
   refine zt ?_
   refine AW.seq ?_
   refine y9s [.no] True [(21, bV true)] trivial ?_
   refine zt ?_
   refine y9s [.no] True [(6, iV (-1))] trivial ?_
   refine AW.ret ?_
   exact EndP.of (.inr rfl) [] (P := (((mpV w a b) : Int) = (-1))) zk (by first | exact mp_5 hcb hca zl10a2 zo hn hm zo (by first | exact lx_l hx zo zo zo | exact lx_g hx zo zo zo | exact lx_eq hx zo zo) | exact mp_4 hcb hca zl10a2 zo hn hm zo | exact mp_3 hcb hca zl10a2 zo | exact mp_1 zl10a2 zl10a2 | exact mp_2 zl10a2 zl10a2)
 ·rcases Bool.eq_false_or_eq_true (sqB b w) with hx10 | hx10
  ·refine y9s [.no, .no, .call [] (bV false) [] 0 [] none, .no, .no, .call [] (bV true) [] 0 [] none, .no, .no] ((Fun 94 [.c (.d (dl a n)), .c (.d (dl w o))] (toG []) 0 (bV false) (toG []) 0) ∧ (Fun 94 [.c (.d (dl b m)), .c (.d (dl w o))] (toG []) 0 (bV true) (toG []) 0)) [(0, sV .i64 w o), (1, sV .i64 a n), (2, sV .i64 b m), (7, bV false), (8, bV true)] ⟨(by have h0 := (V_rSame a w n o zo zo zo zo); rw [hx1] at h0; exact h0), (by have h0 := (V_rSame b w m o zo zo zo zo); rw [hx10] at h0; exact h0)⟩ ?_
   refine y9s [.no, .no, .no] True [(0, sV .i64 w o), (1, sV .i64 a n), (2, sV .i64 b m), (7, bV false), (20, bV true)] trivial ?_
   refine zt ?_
   refine AW.seq ?_
   refine y9s [.no] True [(21, bV false)] trivial ?_
   refine zfs ?_
   refine y9s [.no] True [(6, iV 1)] trivial ?_
   refine AW.ret ?_
   exact EndP.of (.inr rfl) [] (P := (((mpV w a b) : Int) = 1)) zk (by first | exact mp_5 hcb hca zl10a2 zo hn hm zo (by first | exact lx_l hx zo zo zo | exact lx_g hx zo zo zo | exact lx_eq hx zo zo) | exact mp_4 hcb hca zl10a2 zo hn hm zo | exact mp_3 hcb hca zl10a2 zo | exact mp_1 zl10a2 zl10a2 | exact mp_2 zl10a2 zl10a2)
  ·refine y9s [.no, .no, .call [] (bV false) [] 0 [] none, .no, .no, .call [] (bV false) [] 0 [] none, .no, .no] ((Fun 94 [.c (.d (dl a n)), .c (.d (dl w o))] (toG []) 0 (bV false) (toG []) 0) ∧ (Fun 94 [.c (.d (dl b m)), .c (.d (dl w o))] (toG []) 0 (bV false) (toG []) 0)) [(0, sV .i64 w o), (1, sV .i64 a n), (2, sV .i64 b m), (7, bV false), (8, bV false)] ⟨(by have h0 := (V_rSame a w n o zo zo zo zo); rw [hx1] at h0; exact h0), (by have h0 := (V_rSame b w m o zo zo zo zo); rw [hx10] at h0; exact h0)⟩ ?_
   refine y9s [.no, .no, .no] True [(0, sV .i64 w o), (1, sV .i64 a n), (2, sV .i64 b m), (7, bV false), (20, bV false)] trivial ?_
   refine zfs ?_
   refine AW.seq ?_
   have hx11 : ((List.length (coL w b m)) ≤ o) := (by have h9 := coL_len w b m; omega)
   have hx12 : ((List.length (coL w a n)) ≤ o) := (by have h9 := coL_len w a n; omega)
   refine y9s [.no, .no, .call [] (sV .i64 (coL w b m) (List.length (coL w b m))) [] 0 [] none, .no, .w, .no, .no, .call [] (sV .i64 (coL w a n) (List.length (coL w a n))) [] 0 [] none, .no, .w, .call [] (iV (cmV (List.length (coL w b m) : Int) (List.length (coL w a n) : Int))) [] 0 [] none, .no] ((_) ∧ (0 ≤ (List.length (coL w b m) : Int) ∧ (List.length (coL w b m) : Int) ≤ 18446744073709551615) ∧ (_) ∧ (0 ≤ (List.length (coL w a n) : Int) ∧ (List.length (coL w a n) : Int) ≤ 18446744073709551615) ∧ (_)) [(1, sV .i64 a n), (2, sV .i64 b m), (9, iV (cmV (List.length (coL w b m) : Int) (List.length (coL w a n) : Int)))] ⟨(V_rCommon w b o m zo zo zo zo), ⟨by omega, by omega⟩, (V_rCommon w a o n zo zo zo zo), ⟨by omega, by omega⟩, (Y_order (List.length (coL w b m) : Int) (List.length (coL w a n) : Int))⟩ ?_
   by_cases hx13 : ((cmV (((List.length (coL w b m)) : Nat) : Int) (((List.length (coL w a n)) : Nat) : Int)) ≠ 0)
   ·refine y9s [.no, .b true] (((cmV (List.length (coL w b m) : Int) (List.length (coL w a n) : Int)) ≠ 0)) [(1, sV .i64 a n), (2, sV .i64 b m), (9, iV (cmV (List.length (coL w b m) : Int) (List.length (coL w a n) : Int))), (34, bV true)] zo ?_
    refine zt ?_
    refine y9s [.no, .no] True [(6, iV (cmV (List.length (coL w b m) : Int) (List.length (coL w a n) : Int)))] trivial ?_
    refine AW.ret ?_
    exact EndP.of (.inr rfl) [] (P := (((mpV w a b) : Int) = (cmV (List.length (coL w b m) : Int) (List.length (coL w a n) : Int)))) zk (by first | exact mp_5 hcb hca zl10a2 zo hn hm zo (by first | exact lx_l hx zo zo zo | exact lx_g hx zo zo zo | exact lx_eq hx zo zo) | exact mp_4 hcb hca zl10a2 zo hn hm zo | exact mp_3 hcb hca zl10a2 zo | exact mp_1 zl10a2 zl10a2 | exact mp_2 zl10a2 zl10a2)
   ·refine y9s [.no, .b false] (¬ ((cmV (List.length (coL w b m) : Int) (List.length (coL w a n) : Int)) ≠ 0)) [(1, sV .i64 a n), (2, sV .i64 b m), (9, iV (cmV (List.length (coL w b m) : Int) (List.length (coL w a n) : Int))), (34, bV false)] zo ?_
    refine zfs ?_
    refine AW.seq ?_
    refine y9s [.no, .no, .w, .no, .no, .w, .call [] (iV (cmV (n : Int) (m : Int))) [] 0 [] none, .no] ((0 ≤ (n : Int) ∧ (n : Int) ≤ 18446744073709551615) ∧ (0 ≤ (m : Int) ∧ (m : Int) ≤ 18446744073709551615) ∧ (_)) [(1, sV .i64 a n), (2, sV .i64 b m), (10, iV (cmV ↑n ↑m))] ⟨⟨by omega, by omega⟩, ⟨by omega, by omega⟩, (Y_order (n : Int) (m : Int))⟩ ?_
    by_cases hx14 : ((cmV ((n : Nat) : Int) ((m : Nat) : Int)) ≠ 0)
    ·refine y9s [.no, .b true] (((cmV (n : Int) (m : Int)) ≠ 0)) [(1, sV .i64 a n), (2, sV .i64 b m), (10, iV (cmV ↑n ↑m)), (44, bV true)] zo ?_
     refine zt ?_
     refine y9s [.no, .no] True [(6, iV (cmV ↑n ↑m))] trivial ?_
     refine AW.ret ?_
     exact EndP.of (.inr rfl) [] (P := (((mpV w a b) : Int) = (cmV (n : Int) (m : Int)))) zk (by first | exact mp_5 hcb hca zl10a2 zo hn hm zo (by first | exact lx_l hx zo zo zo | exact lx_g hx zo zo zo | exact lx_eq hx zo zo) | exact mp_4 hcb hca zl10a2 zo hn hm zo | exact mp_3 hcb hca zl10a2 zo | exact mp_1 zl10a2 zl10a2 | exact mp_2 zl10a2 zl10a2)
    ·refine y9s [.no, .b false] (¬ ((cmV (n : Int) (m : Int)) ≠ 0)) [(1, sV .i64 a n), (2, sV .i64 b m), (10, iV (cmV ↑n ↑m)), (44, bV false)] zo ?_
     refine zfs ?_
     refine AW.seq ?_
     refine y9s [.no, .no, .no] True [(1, sV .i64 a n), (2, sV .i64 b m), (47, uV n), (48, iV 0)] trivial ?_
     refine AW.block ?_
     refine AW.loopE 0 hcx (fun (x : {x : Nat // match x with | k => (n = m) ∧ (k ≤ n ∧ k ≤ m) ∧ (lxV a b = lxV (List.drop k a) (List.drop k b))}) => match x with | ⟨k, _⟩ => (⟨[(1, sV .i64 a n), (2, sV .i64 b m), (47, uV n), (48, uV k)], [], 0⟩ : ES)) (fun x => match x with | ⟨k, _⟩ => n - k) ⟨(0 : Nat), ⟨(by have h9 := cmV_z.1 (show cmV (n : Int) (m : Int) = 0 by omega); omega), zl10a3, rfl⟩⟩ [] (P := (q9d (dI .i64 a)) ∧ (q9n n) ∧ (q9d (dI .i64 b)) ∧ (q9n m) ∧ (q9i (n : Int)) ∧ (q9i 0)) zk ⟨rfl, rfl, rfl, rfl, rfl, rfl⟩ ?_
     rintro ⟨k, hinv0⟩
     obtain ⟨hnm, hk, hx⟩ : (n = m) ∧ (k ≤ n ∧ k ≤ m) ∧ (lxV a b = lxV (List.drop k a) (List.drop k b)) := hinv0
     refine AW.es (l := [(1, sV .i64 a n), (2, sV .i64 b m), (47, uV n), (48, uV k)]) (g := []) (nx := 0) rfl rfl rfl ?_
     by_cases hx15 : (((k : Nat) : Int) < ((n : Nat) : Int))
     ·refine y9r [.b true] (((k : Int) < (n : Int))) [(1, sV .i64 a n), (2, sV .i64 b m), (47, uV n), (48, uV k), (49, bV true)] [] 0 zo ?_
      refine AW.seq ?_
      refine zts ?_
      refine AW.seq ?_
      refine AW.block ?_
      refine y9s [.no, .no] True [(1, sV .i64 a n), (2, sV .i64 b m), (11, uV k), (47, uV n), (48, uV k)] trivial ?_
      by_cases hx16 : ((List.getD a k 0) ≠ (List.getD b k 0))
      ·refine y9s [.no, .no, .n k, .d (D.lit (.int .i64 (List.getD a k 0))), .no, .no, .n k, .d (D.lit (.int .i64 (List.getD b k 0))), .b true] ((q9i (k : Int)) ∧ (k < n) ∧ ((List.drop k (dI .i64 a))[0]? = some (D.lit (.int .i64 (List.getD a k 0)))) ∧ (q9i (k : Int)) ∧ (k < m) ∧ ((List.drop k (dI .i64 b))[0]? = some (D.lit (.int .i64 (List.getD b k 0)))) ∧ (((List.getD a k 0) ≠ (List.getD b k 0)))) [(1, sV .i64 a n), (2, sV .i64 b m), (11, uV k), (47, uV n), (48, uV k), (59, bV true)] ⟨rfl, zo, (dI_at _ _ _ zl10a0), rfl, zo, (dI_at _ _ _ zl10a0), zo⟩ ?_
       refine zt ?_
       refine AW.seq ?_
       by_cases hx17 : ((List.getD a k 0) < (List.getD b k 0))
       ·refine y9s [.no, .no, .n k, .d (D.lit (.int .i64 (List.getD a k 0))), .no, .no, .n k, .d (D.lit (.int .i64 (List.getD b k 0))), .b true] ((q9i (k : Int)) ∧ (k < n) ∧ ((List.drop k (dI .i64 a))[0]? = some (D.lit (.int .i64 (List.getD a k 0)))) ∧ (q9i (k : Int)) ∧ (k < m) ∧ ((List.drop k (dI .i64 b))[0]? = some (D.lit (.int .i64 (List.getD b k 0)))) ∧ (((List.getD a k 0) < (List.getD b k 0)))) [(68, bV true)] ⟨rfl, zo, (dI_at _ _ _ zl10a0), rfl, zo, (dI_at _ _ _ zl10a0), zo⟩ ?_
        refine zt ?_
        refine y9s [.no] True [(6, iV (-1))] trivial ?_
        refine AW.ret ?_
        exact EndP.of (.inr rfl) [] (P := (((mpV w a b) : Int) = (-1))) zk (by first | exact mp_5 hcb hca zl10a2 zo hn hm zo (by first | exact lx_l hx zo zo zo | exact lx_g hx zo zo zo | exact lx_eq hx zo zo) | exact mp_4 hcb hca zl10a2 zo hn hm zo | exact mp_3 hcb hca zl10a2 zo | exact mp_1 zl10a2 zl10a2 | exact mp_2 zl10a2 zl10a2)
       ·refine y9s [.no, .no, .n k, .d (D.lit (.int .i64 (List.getD a k 0))), .no, .no, .n k, .d (D.lit (.int .i64 (List.getD b k 0))), .b false] ((q9i (k : Int)) ∧ (k < n) ∧ ((List.drop k (dI .i64 a))[0]? = some (D.lit (.int .i64 (List.getD a k 0)))) ∧ (q9i (k : Int)) ∧ (k < m) ∧ ((List.drop k (dI .i64 b))[0]? = some (D.lit (.int .i64 (List.getD b k 0)))) ∧ (¬ ((List.getD a k 0) < (List.getD b k 0)))) [(68, bV false)] ⟨rfl, zo, (dI_at _ _ _ zl10a0), rfl, zo, (dI_at _ _ _ zl10a0), zo⟩ ?_
        refine zfs ?_
        refine y9s [.no] True [(6, iV 1)] trivial ?_
        refine AW.ret ?_
        exact EndP.of (.inr rfl) [] (P := (((mpV w a b) : Int) = 1)) zk (by first | exact mp_5 hcb hca zl10a2 zo hn hm zo (by first | exact lx_l hx zo zo zo | exact lx_g hx zo zo zo | exact lx_eq hx zo zo) | exact mp_4 hcb hca zl10a2 zo hn hm zo | exact mp_3 hcb hca zl10a2 zo | exact mp_1 zl10a2 zl10a2 | exact mp_2 zl10a2 zl10a2)
      ·refine y9s [.no, .no, .n k, .d (D.lit (.int .i64 (List.getD a k 0))), .no, .no, .n k, .d (D.lit (.int .i64 (List.getD b k 0))), .b false] ((q9i (k : Int)) ∧ (k < n) ∧ ((List.drop k (dI .i64 a))[0]? = some (D.lit (.int .i64 (List.getD a k 0)))) ∧ (q9i (k : Int)) ∧ (k < m) ∧ ((List.drop k (dI .i64 b))[0]? = some (D.lit (.int .i64 (List.getD b k 0)))) ∧ (¬ ((List.getD a k 0) ≠ (List.getD b k 0)))) [(1, sV .i64 a n), (2, sV .i64 b m), (11, uV k), (47, uV n), (48, uV k), (59, bV false)] ⟨rfl, zo, (dI_at _ _ _ zl10a0), rfl, zo, (dI_at _ _ _ zl10a0), zo⟩ ?_
       refine zfs ?_
       refine y9h [.w, .no] ((-9223372036854775808) ≤ ((k : Int) + 1) ∧ ((k : Int) + 1) ≤ 9223372036854775807) [(1, sV .i64 a n), (2, sV .i64 b m), (47, uV n), (48, iV (↑k + 1))] ⟨by omega, by omega⟩ ?_
       exact Rd.of ⟨((k + 1) : Nat), ⟨hnm, zl10a3, (lx_step hx zo zo (cmV_z.2 zo))⟩⟩ [] (P := (q9d (dI .i64 a)) ∧ (q9n n) ∧ (q9d (dI .i64 b)) ∧ (q9n m) ∧ (q9i (n : Int)) ∧ (((((k + 1) : Nat) : Int) : Int) = ((k : Int) + 1))) zk ⟨rfl, rfl, rfl, rfl, rfl, (by first | rfl | omega | assumption | (simp; done) | (simp; omega))⟩ (show n - (k + 1) < n - k from (by first | omega | (show _ < _; simp; omega)))
     ·refine y9r [.b false] (¬ ((k : Int) < (n : Int))) [(1, sV .i64 a n), (2, sV .i64 b m), (47, uV n), (48, uV k), (49, bV false)] [] 0 zo ?_
      refine AW.seq ?_
      refine zf ?_
      refine AW.exit ?_
      refine y9r [.no] True [(6, iV 0)] [] 0 trivial ?_
      refine AW.ret ?_
      exact EndP.of (.inr rfl) [] (P := (((mpV w a b) : Int) = 0)) zk (by first | exact mp_5 hcb hca zl10a2 zo hn hm zo (by first | exact lx_l hx zo zo zo | exact lx_g hx zo zo zo | exact lx_eq hx zo zo) | exact mp_4 hcb hca zl10a2 zo hn hm zo | exact mp_3 hcb hca zl10a2 zo | exact mp_1 zl10a2 zl10a2 | exact mp_2 zl10a2 zl10a2)
theorem Y_cmp1 (wk wr wz ak ar az bk br bz : Int) (w a b : List Int) (o n m : Nat) (ho : List.length w = o) (hn : List.length a = n) (hm : List.length b = m) (h1 : o ≤ 1000000) (h2 : n ≤ 1000000) (h3 : m ≤ 1000000) (hwr : -9223372036854775808 ≤ wr ∧ wr ≤ 9223372036854775807) (har : -9223372036854775808 ≤ ar ∧ ar ≤ 9223372036854775807) (hbr : -9223372036854775808 ≤ br ∧ br ≤ 9223372036854775807) (hwz : -9223372036854775808 ≤ wz ∧ wz ≤ 9223372036854775807) (haz : -9223372036854775808 ≤ az ∧ az ≤ 9223372036854775807) (hbz : -9223372036854775808 ≤ bz ∧ bz ≤ 9223372036854775807) : Fun 63 [.c (.ptr 0 0), .c (.ptr 1 0), .c (.ptr 2 0)] (toG [(0, some (27, .ds [iD wk, iD wr, D.sl (dI .i64 w) o, iD wz])), (1, some (27, .ds [iD ak, iD ar, D.sl (dI .i64 a) n, iD az])), (2, some (27, .ds [iD bk, iD br, D.sl (dI .i64 b) m, iD bz]))]) 3 (iV (kdV wk ak bk)) (toG [(0, some (27, .ds [iD wk, iD wr, D.sl (dI .i64 w) o, iD wz])), (1, some (27, .ds [iD ak, iD ar, D.sl (dI .i64 a) n, iD az])), (2, some (27, .ds [iD bk, iD br, D.sl (dI .i64 b) m, iD bz]))]) 3 := by
 refine Fun.mk (n := 14) Tryz.func63 rfl rfl (Nat.le_of_ble_eq_true rfl) ?_
 intro cx hcx
 refine y9r [.no] True [(0, rV 0 0), (1, rV 1 0), (2, rV 2 0)] [(0, some (27, .ds [iD wk, iD wr, dl w o, iD wz])), (1, some (27, .ds [iD ak, iD ar, dl a n, iD az])), (2, some (27, .ds [iD bk, iD br, dl b m, iD bz]))] 3 trivial ?_
 have hx1 : ((((-1) : Int) ≤ (kdV wk ak bk)) ∧ ((kdV wk ak bk) ≤ 1)) := kdV_rng wk ak bk
 refine y9s (nz9 9 [.call [] (iV (kdV wk ak bk)) [] 0 [] none, .no]) _ [(3, iV (kdV wk ak bk))] (Y_kinds wk ak bk) ?_
 refine AW.ret ?_
 exact EndP.of (.inr rfl) [] (P := (q9i (kdV wk ak bk)) ∧ (q9d [iD wk, iD wr, dl w o, iD wz]) ∧ (q9d [iD ak, iD ar, dl a n, iD az]) ∧ (q9d [iD bk, iD br, dl b m, iD bz])) zk ⟨rfl, rfl, rfl, rfl⟩
theorem Y_cmp2 (wk wr wz ak ar az bk br bz : Int) (w a b : List Int) (o n m : Nat) (ho : List.length w = o) (hn : List.length a = n) (hm : List.length b = m) (h1 : o ≤ 1000000) (h2 : n ≤ 1000000) (h3 : m ≤ 1000000) (hwr : -9223372036854775808 ≤ wr ∧ wr ≤ 9223372036854775807) (har : -9223372036854775808 ≤ ar ∧ ar ≤ 9223372036854775807) (hbr : -9223372036854775808 ≤ br ∧ br ≤ 9223372036854775807) (hwz : -9223372036854775808 ≤ wz ∧ wz ≤ 9223372036854775807) (haz : -9223372036854775808 ≤ az ∧ az ≤ 9223372036854775807) (hbz : -9223372036854775808 ≤ bz ∧ bz ≤ 9223372036854775807) : Fun 65 [.c (.ptr 0 0), .c (.ptr 1 0), .c (.ptr 2 0)] (toG [(0, some (27, .ds [iD wk, iD wr, D.sl (dI .i64 w) o, iD wz])), (1, some (27, .ds [iD ak, iD ar, D.sl (dI .i64 a) n, iD az])), (2, some (27, .ds [iD bk, iD br, D.sl (dI .i64 b) m, iD bz]))]) 3 (iV (nrV wr ar br)) (toG [(0, some (27, .ds [iD wk, iD wr, D.sl (dI .i64 w) o, iD wz])), (1, some (27, .ds [iD ak, iD ar, D.sl (dI .i64 a) n, iD az])), (2, some (27, .ds [iD bk, iD br, D.sl (dI .i64 b) m, iD bz]))]) 3 := by
 refine Fun.mk (n := 14) Tryz.func65 rfl rfl (Nat.le_of_ble_eq_true rfl) ?_
 intro cx hcx
 refine y9r [.no] True [(0, rV 0 0), (1, rV 1 0), (2, rV 2 0)] [(0, some (27, .ds [iD wk, iD wr, dl w o, iD wz])), (1, some (27, .ds [iD ak, iD ar, dl a n, iD az])), (2, some (27, .ds [iD bk, iD br, dl b m, iD bz]))] 3 trivial ?_
 have hx1 : ((((-1) : Int) ≤ (nrV wr ar br)) ∧ ((nrV wr ar br) ≤ 1)) := nrV_rng wr ar br
 refine y9s (nz9 9 [.call [] (iV (nrV wr ar br)) [] 0 [] none, .no]) _ [(3, iV (nrV wr ar br))] (Y_near wr ar br zo zo zo) ?_
 refine AW.ret ?_
 exact EndP.of (.inr rfl) [] (P := (q9i (nrV wr ar br)) ∧ (q9d [iD wk, iD wr, dl w o, iD wz]) ∧ (q9d [iD ak, iD ar, dl a n, iD az]) ∧ (q9d [iD bk, iD br, dl b m, iD bz])) zk ⟨rfl, rfl, rfl, rfl⟩
theorem Y_cmp3 (wk wr wz ak ar az bk br bz : Int) (w a b : List Int) (o n m : Nat) (ho : List.length w = o) (hn : List.length a = n) (hm : List.length b = m) (h1 : o ≤ 1000000) (h2 : n ≤ 1000000) (h3 : m ≤ 1000000) (hwr : -9223372036854775808 ≤ wr ∧ wr ≤ 9223372036854775807) (har : -9223372036854775808 ≤ ar ∧ ar ≤ 9223372036854775807) (hbr : -9223372036854775808 ≤ br ∧ br ≤ 9223372036854775807) (hwz : -9223372036854775808 ≤ wz ∧ wz ≤ 9223372036854775807) (haz : -9223372036854775808 ≤ az ∧ az ≤ 9223372036854775807) (hbz : -9223372036854775808 ≤ bz ∧ bz ≤ 9223372036854775807) : Fun 67 [.c (.ptr 0 0), .c (.ptr 1 0), .c (.ptr 2 0)] (toG [(0, some (27, .ds [iD wk, iD wr, D.sl (dI .i64 w) o, iD wz])), (1, some (27, .ds [iD ak, iD ar, D.sl (dI .i64 a) n, iD az])), (2, some (27, .ds [iD bk, iD br, D.sl (dI .i64 b) m, iD bz]))]) 3 (iV (mpV w a b)) (toG [(0, some (27, .ds [iD wk, iD wr, D.sl (dI .i64 w) o, iD wz])), (1, some (27, .ds [iD ak, iD ar, D.sl (dI .i64 a) n, iD az])), (2, some (27, .ds [iD bk, iD br, D.sl (dI .i64 b) m, iD bz]))]) 3 := by
 refine Fun.mk (n := 14) Tryz.func67 rfl rfl (Nat.le_of_ble_eq_true rfl) ?_
 intro cx hcx
 refine y9r [.no] True [(0, rV 0 0), (1, rV 1 0), (2, rV 2 0)] [(0, some (27, .ds [iD wk, iD wr, dl w o, iD wz])), (1, some (27, .ds [iD ak, iD ar, dl a n, iD az])), (2, some (27, .ds [iD bk, iD br, dl b m, iD bz]))] 3 trivial ?_
 have hx1 : ((((-1) : Int) ≤ (mpV w a b)) ∧ ((mpV w a b) ≤ 1)) := mpV_rng w a b
 refine y9s (nz9 9 [.call [] (iV (mpV w a b)) [] 0 [] none, .no]) _ [(3, iV (mpV w a b))] (Y_maps w a b o n m zo zo zo zo zo zo) ?_
 refine AW.ret ?_
 exact EndP.of (.inr rfl) [] (P := (q9i (mpV w a b)) ∧ (q9d [iD wk, iD wr, dl w o, iD wz]) ∧ (q9d [iD ak, iD ar, dl a n, iD az]) ∧ (q9d [iD bk, iD br, dl b m, iD bz])) zk ⟨rfl, rfl, rfl, rfl⟩
theorem Y_cmp4 (wk wr wz ak ar az bk br bz : Int) (w a b : List Int) (o n m : Nat) (ho : List.length w = o) (hn : List.length a = n) (hm : List.length b = m) (h1 : o ≤ 1000000) (h2 : n ≤ 1000000) (h3 : m ≤ 1000000) (hwr : -9223372036854775808 ≤ wr ∧ wr ≤ 9223372036854775807) (har : -9223372036854775808 ≤ ar ∧ ar ≤ 9223372036854775807) (hbr : -9223372036854775808 ≤ br ∧ br ≤ 9223372036854775807) (hwz : -9223372036854775808 ≤ wz ∧ wz ≤ 9223372036854775807) (haz : -9223372036854775808 ≤ az ∧ az ≤ 9223372036854775807) (hbz : -9223372036854775808 ≤ bz ∧ bz ≤ 9223372036854775807) : Fun 69 [.c (.ptr 0 0), .c (.ptr 1 0), .c (.ptr 2 0)] (toG [(0, some (27, .ds [iD wk, iD wr, D.sl (dI .i64 w) o, iD wz])), (1, some (27, .ds [iD ak, iD ar, D.sl (dI .i64 a) n, iD az])), (2, some (27, .ds [iD bk, iD br, D.sl (dI .i64 b) m, iD bz]))]) 3 (iV (nrV wz az bz)) (toG [(0, some (27, .ds [iD wk, iD wr, D.sl (dI .i64 w) o, iD wz])), (1, some (27, .ds [iD ak, iD ar, D.sl (dI .i64 a) n, iD az])), (2, some (27, .ds [iD bk, iD br, D.sl (dI .i64 b) m, iD bz]))]) 3 := by
 refine Fun.mk (n := 11) Tryz.func69 rfl rfl (Nat.le_of_ble_eq_true rfl) ?_
 intro cx hcx
 refine y9r [.no] True [(0, rV 0 0), (1, rV 1 0), (2, rV 2 0)] [(0, some (27, .ds [iD wk, iD wr, dl w o, iD wz])), (1, some (27, .ds [iD ak, iD ar, dl a n, iD az])), (2, some (27, .ds [iD bk, iD br, dl b m, iD bz]))] 3 trivial ?_
 have hx1 : ((((-1) : Int) ≤ (nrV wz az bz)) ∧ ((nrV wz az bz) ≤ 1)) := nrV_rng wz az bz
 refine y9s (nz9 6 [.call [] (iV (nrV wz az bz)) [] 0 [] none, .no]) _ [(3, iV (nrV wz az bz))] (Y_near wz az bz zo zo zo) ?_
 refine AW.ret ?_
 exact EndP.of (.inr rfl) [] (P := (q9i (nrV wz az bz)) ∧ (q9d [iD wk, iD wr, dl w o, iD wz]) ∧ (q9d [iD ak, iD ar, dl a n, iD az]) ∧ (q9d [iD bk, iD br, dl b m, iD bz])) zk ⟨rfl, rfl, rfl, rfl⟩
abbrev t0A28_0 : BC := .cs [.fn 63 [(0, 0), (1, 0), (2, 0)], .fn 65 [(0, 0), (1, 0), (2, 0)], .fn 67 [(0, 0), (1, 0), (2, 0)], .fn 69 [(0, 0), (1, 0), (2, 0)]]
abbrev t0A28_1 (wk : Int) (wr : Int) (w : List Int) (o : Nat) (wz : Int) : BC := .ds [iD wk, iD wr, D.sl (dI .i64 w) o, iD wz]
abbrev t0A28_2 (ak : Int) (ar : Int) (a : List Int) (n : Nat) (az : Int) : BC := .ds [iD ak, iD ar, D.sl (dI .i64 a) n, iD az]
abbrev t0A28_3 (bk : Int) (br : Int) (b : List Int) (m : Nat) (bz : Int) : BC := .ds [iD bk, iD br, D.sl (dI .i64 b) m, iD bz]
theorem Y_Compare (wk wr wz ak ar az bk br bz : Int) (w a b : List Int) (o n m : Nat) (ho : List.length w = o) (hn : List.length a = n) (hm : List.length b = m) (h1 : o ≤ 1000000) (h2 : n ≤ 1000000) (h3 : m ≤ 1000000) (hwr : -9223372036854775808 ≤ wr ∧ wr ≤ 9223372036854775807) (har : -9223372036854775808 ≤ ar ∧ ar ≤ 9223372036854775807) (hbr : -9223372036854775808 ≤ br ∧ br ≤ 9223372036854775807) (hwz : -9223372036854775808 ≤ wz ∧ wz ≤ 9223372036854775807) (haz : -9223372036854775808 ≤ az ∧ az ≤ 9223372036854775807) (hbz : -9223372036854775808 ≤ bz ∧ bz ≤ 9223372036854775807) : Fun 29 [.agg [iC wk, iC wr, .d (D.sl (dI .i64 w) o), iC wz], .agg [iC ak, iC ar, .d (D.sl (dI .i64 a) n), iC az], .agg [iC bk, iC br, .d (D.sl (dI .i64 b) m), iC bz]] (toG []) 0 (iV (coK wk wr wz ak ar az bk br bz w a b)) (toG []) 0 := by
 refine Fun.mk (n := 28) Tryz.func29 rfl rfl (Nat.le_of_ble_eq_true rfl) ?_
 intro cx hcx
 refine y9r (nz9 4 []) True [(3, rV 0 0), (4, rV 1 0), (5, rV 2 0)] [(0, some (27, (t0A28_1 wk wr w o wz))), (1, some (27, (t0A28_2 ak ar a n az))), (2, some (27, (t0A28_3 bk br b m bz)))] 3 trivial ?_
 refine y9r (nz9 6 []) True [(7, oV 3 0 4 1)] [(0, some (27, (t0A28_1 wk wr w o wz))), (1, some (27, (t0A28_2 ak ar a n az))), (2, some (27, (t0A28_3 bk br b m bz))), (3, some (85, t0A28_0))] 4 trivial ?_
 refine AW.seq ?_
 refine y9s [.no, .no, .no] True [(16, oV 3 0 4 1), (17, iV 4), (18, iV 0)] trivial ?_
 refine AW.block ?_
 refine AW.rounds 5 ?_
 refine AWr.s ?_
 refine y9r [.b true] (((0 : Int) < 4)) [(16, oV 3 0 4 1), (17, iV 4), (18, iV 0), (19, bV true)] [(0, some (27, (t0A28_1 wk wr w o wz))), (1, some (27, (t0A28_2 ak ar a n az))), (2, some (27, (t0A28_3 bk br b m bz))), (3, some (85, t0A28_0))] 4 zo ?_
 refine AW.seq ?_
 refine zts ?_
 refine AW.seq ?_
 refine AW.block ?_
 refine y9s [.n2 0 0, .no, .no] ((q9i 0) ∧ ((0 : Nat) < 4) ∧ ((0 : Nat) + 0 * 1 = 0)) [(9, .e (.c (.fn 63 [(0, 0), (1, 0), (2, 0)]))), (16, oV 3 0 4 1), (17, iV 4), (18, iV 0)] ⟨rfl, zo, zo⟩ ?_
 have hx1 : ((((-1) : Int) ≤ (kdV wk ak bk)) ∧ ((kdV wk ak bk) ≤ 1)) := kdV_rng wk ak bk
 refine y9s [.no, .call [0, 1, 2] (iV (kdV wk ak bk)) [(0, some (27, (t0A28_1 wk wr w o wz))), (1, some (27, (t0A28_2 ak ar a n az))), (2, some (27, (t0A28_3 bk br b m bz)))] 3 [] none, .no] _ [(10, iV (kdV wk ak bk)), (16, oV 3 0 4 1), (17, iV 4), (18, iV 0)] (Y_cmp1 wk wr wz ak ar az bk br bz w a b o n m zo zo zo zo zo zo zo zo zo zo zo zo) ?_
 by_cases hx2 : ((kdV wk ak bk) ≠ 0)
 ·refine y9s [.no, .b true] (((kdV wk ak bk) ≠ 0)) [(10, iV (kdV wk ak bk)), (16, oV 3 0 4 1), (17, iV 4), (18, iV 0), (25, bV true)] zo ?_
  refine zt ?_
  refine y9r [.no, .no] True [(6, iV (kdV wk ak bk))] [] 4 trivial ?_
  refine AW.ret ?_
  exact EndP.of (.inr rfl) [] (P := (((coK wk wr wz ak ar az bk br bz w a b) : Int) = (kdV wk ak bk))) zk (by unfold coK orV; (repeat' split) <;> first | omega | contradiction | rfl)
 ·refine y9s [.no, .b false] (¬ ((kdV wk ak bk) ≠ 0)) [(10, iV (kdV wk ak bk)), (16, oV 3 0 4 1), (17, iV 4), (18, iV 0), (25, bV false)] zo ?_
  refine zfs ?_
  refine y9h [.w, .no] ((-9223372036854775808) ≤ (1 : Int) ∧ (1 : Int) ≤ 9223372036854775807) [(16, oV 3 0 4 1), (17, iV 4), (18, iV 1)] ⟨by omega, by omega⟩ ?_
  refine AWr.s ?_
  refine y9r [.b true] (((1 : Int) < 4)) [(16, oV 3 0 4 1), (17, iV 4), (18, iV 1), (19, bV true)] [(0, some (27, (t0A28_1 wk wr w o wz))), (1, some (27, (t0A28_2 ak ar a n az))), (2, some (27, (t0A28_3 bk br b m bz))), (3, some (85, t0A28_0))] 4 zo ?_
  refine AW.seq ?_
  refine zts ?_
  refine AW.seq ?_
  refine AW.block ?_
  refine y9s [.n2 1 1, .no, .no] ((q9i 1) ∧ ((1 : Nat) < 4) ∧ ((0 : Nat) + 1 * 1 = 1)) [(9, .e (.c (.fn 65 [(0, 0), (1, 0), (2, 0)]))), (16, oV 3 0 4 1), (17, iV 4), (18, iV 1)] ⟨rfl, zo, zo⟩ ?_
  have hx3 : ((((-1) : Int) ≤ (nrV wr ar br)) ∧ ((nrV wr ar br) ≤ 1)) := nrV_rng wr ar br
  refine y9s [.no, .call [0, 1, 2] (iV (nrV wr ar br)) [(0, some (27, (t0A28_1 wk wr w o wz))), (1, some (27, (t0A28_2 ak ar a n az))), (2, some (27, (t0A28_3 bk br b m bz)))] 3 [] none, .no] _ [(10, iV (nrV wr ar br)), (16, oV 3 0 4 1), (17, iV 4), (18, iV 1)] (Y_cmp2 wk wr wz ak ar az bk br bz w a b o n m zo zo zo zo zo zo zo zo zo zo zo zo) ?_
  by_cases hx4 : ((nrV wr ar br) ≠ 0)
  ·refine y9s [.no, .b true] (((nrV wr ar br) ≠ 0)) [(10, iV (nrV wr ar br)), (16, oV 3 0 4 1), (17, iV 4), (18, iV 1), (25, bV true)] zo ?_
   refine zt ?_
   refine y9r [.no, .no] True [(6, iV (nrV wr ar br))] [] 4 trivial ?_
   refine AW.ret ?_
   exact EndP.of (.inr rfl) [] (P := (((coK wk wr wz ak ar az bk br bz w a b) : Int) = (nrV wr ar br))) zk (by unfold coK orV; (repeat' split) <;> first | omega | contradiction | rfl)
  ·refine y9s [.no, .b false] (¬ ((nrV wr ar br) ≠ 0)) [(10, iV (nrV wr ar br)), (16, oV 3 0 4 1), (17, iV 4), (18, iV 1), (25, bV false)] zo ?_
   refine zfs ?_
   refine y9h [.w, .no] ((-9223372036854775808) ≤ (2 : Int) ∧ (2 : Int) ≤ 9223372036854775807) [(16, oV 3 0 4 1), (17, iV 4), (18, iV 2)] ⟨by omega, by omega⟩ ?_
   refine AWr.s ?_
   refine y9r [.b true] (((2 : Int) < 4)) [(16, oV 3 0 4 1), (17, iV 4), (18, iV 2), (19, bV true)] [(0, some (27, (t0A28_1 wk wr w o wz))), (1, some (27, (t0A28_2 ak ar a n az))), (2, some (27, (t0A28_3 bk br b m bz))), (3, some (85, t0A28_0))] 4 zo ?_
   refine AW.seq ?_
   refine zts ?_
   refine AW.seq ?_
   refine AW.block ?_
   refine y9s [.n2 2 2, .no, .no] ((q9i 2) ∧ ((2 : Nat) < 4) ∧ ((0 : Nat) + 2 * 1 = 2)) [(9, .e (.c (.fn 67 [(0, 0), (1, 0), (2, 0)]))), (16, oV 3 0 4 1), (17, iV 4), (18, iV 2)] ⟨rfl, zo, zo⟩ ?_
   have hx5 : ((((-1) : Int) ≤ (mpV w a b)) ∧ ((mpV w a b) ≤ 1)) := mpV_rng w a b
   refine y9s [.no, .call [0, 1, 2] (iV (mpV w a b)) [(0, some (27, (t0A28_1 wk wr w o wz))), (1, some (27, (t0A28_2 ak ar a n az))), (2, some (27, (t0A28_3 bk br b m bz)))] 3 [] none, .no] _ [(10, iV (mpV w a b)), (16, oV 3 0 4 1), (17, iV 4), (18, iV 2)] (Y_cmp3 wk wr wz ak ar az bk br bz w a b o n m zo zo zo zo zo zo zo zo zo zo zo zo) ?_
   by_cases hx6 : ((mpV w a b) ≠ 0)
   ·refine y9s [.no, .b true] (((mpV w a b) ≠ 0)) [(10, iV (mpV w a b)), (16, oV 3 0 4 1), (17, iV 4), (18, iV 2), (25, bV true)] zo ?_
    refine zt ?_
    refine y9r [.no, .no] True [(6, iV (mpV w a b))] [] 4 trivial ?_
    refine AW.ret ?_
    exact EndP.of (.inr rfl) [] (P := (((coK wk wr wz ak ar az bk br bz w a b) : Int) = (mpV w a b))) zk (by unfold coK orV; (repeat' split) <;> first | omega | contradiction | rfl)
   ·refine y9s [.no, .b false] (¬ ((mpV w a b) ≠ 0)) [(10, iV (mpV w a b)), (16, oV 3 0 4 1), (17, iV 4), (18, iV 2), (25, bV false)] zo ?_
    refine zfs ?_
    refine y9h [.w, .no] ((-9223372036854775808) ≤ (3 : Int) ∧ (3 : Int) ≤ 9223372036854775807) [(16, oV 3 0 4 1), (17, iV 4), (18, iV 3)] ⟨by omega, by omega⟩ ?_
    refine AWr.s ?_
    refine y9r [.b true] (((3 : Int) < 4)) [(16, oV 3 0 4 1), (17, iV 4), (18, iV 3), (19, bV true)] [(0, some (27, (t0A28_1 wk wr w o wz))), (1, some (27, (t0A28_2 ak ar a n az))), (2, some (27, (t0A28_3 bk br b m bz))), (3, some (85, t0A28_0))] 4 zo ?_
    refine AW.seq ?_
    refine zts ?_
    refine AW.seq ?_
    refine AW.block ?_
    refine y9s [.n2 3 3, .no, .no] ((q9i 3) ∧ ((3 : Nat) < 4) ∧ ((0 : Nat) + 3 * 1 = 3)) [(9, .e (.c (.fn 69 [(0, 0), (1, 0), (2, 0)]))), (16, oV 3 0 4 1), (17, iV 4), (18, iV 3)] ⟨rfl, zo, zo⟩ ?_
    have hx7 : ((((-1) : Int) ≤ (nrV wz az bz)) ∧ ((nrV wz az bz) ≤ 1)) := nrV_rng wz az bz
    refine y9s [.no, .call [0, 1, 2] (iV (nrV wz az bz)) [(0, some (27, (t0A28_1 wk wr w o wz))), (1, some (27, (t0A28_2 ak ar a n az))), (2, some (27, (t0A28_3 bk br b m bz)))] 3 [] none, .no] _ [(10, iV (nrV wz az bz)), (16, oV 3 0 4 1), (17, iV 4), (18, iV 3)] (Y_cmp4 wk wr wz ak ar az bk br bz w a b o n m zo zo zo zo zo zo zo zo zo zo zo zo) ?_
    by_cases hx8 : ((nrV wz az bz) ≠ 0)
    ·refine y9s [.no, .b true] (((nrV wz az bz) ≠ 0)) [(10, iV (nrV wz az bz)), (16, oV 3 0 4 1), (17, iV 4), (18, iV 3), (25, bV true)] zo ?_
     refine zt ?_
     refine y9r [.no, .no] True [(6, iV (nrV wz az bz))] [] 4 trivial ?_
     refine AW.ret ?_
     exact EndP.of (.inr rfl) [] (P := (((coK wk wr wz ak ar az bk br bz w a b) : Int) = (nrV wz az bz))) zk (by unfold coK orV; (repeat' split) <;> first | omega | contradiction | rfl)
    ·refine y9s [.no, .b false] (¬ ((nrV wz az bz) ≠ 0)) [(10, iV (nrV wz az bz)), (16, oV 3 0 4 1), (17, iV 4), (18, iV 3), (25, bV false)] zo ?_
     refine zfs ?_
     refine y9h [.w, .no] ((-9223372036854775808) ≤ (4 : Int) ∧ (4 : Int) ≤ 9223372036854775807) [(16, oV 3 0 4 1), (17, iV 4), (18, iV 4)] ⟨by omega, by omega⟩ ?_
     refine AWr.s ?_
     refine y9r [.b false] (¬ ((4 : Int) < 4)) [(16, oV 3 0 4 1), (17, iV 4), (18, iV 4), (19, bV false)] [(0, some (27, (t0A28_1 wk wr w o wz))), (1, some (27, (t0A28_2 ak ar a n az))), (2, some (27, (t0A28_3 bk br b m bz))), (3, some (85, t0A28_0))] 4 zo ?_
     refine AW.seq ?_
     refine zf ?_
     refine AW.exit ?_
     refine y9r [.no] True [(6, iV 0)] [] 4 trivial ?_
     refine AW.ret ?_
     exact EndP.of (.inr rfl) [] (P := (((coK wk wr wz ak ar az bk br bz w a b) : Int) = 0)) zk (by unfold coK orV; (repeat' split) <;> first | omega | contradiction | rfl)
theorem Y_rCompare (wk wr wz ak ar az bk br bz : Int) (w a b : List Int) (o n m : Nat) (ho : List.length w = o) (hn : List.length a = n) (hm : List.length b = m) (h1 : o ≤ 1000000) (h2 : n ≤ 1000000) (h3 : m ≤ 1000000) (hwr : -9223372036854775808 ≤ wr ∧ wr ≤ 9223372036854775807) (har : -9223372036854775808 ≤ ar ∧ ar ≤ 9223372036854775807) (hbr : -9223372036854775808 ≤ br ∧ br ≤ 9223372036854775807) (hwz : -9223372036854775808 ≤ wz ∧ wz ≤ 9223372036854775807) (haz : -9223372036854775808 ≤ az ∧ az ≤ 9223372036854775807) (hbz : -9223372036854775808 ≤ bz ∧ bz ≤ 9223372036854775807) : Fun 30 [.agg [iC wk, iC wr, .d (D.sl (dI .i64 w) o), iC wz], .agg [iC ak, iC ar, .d (D.sl (dI .i64 a) n), iC az], .agg [iC bk, iC br, .d (D.sl (dI .i64 b) m), iC bz]] (toG []) 0 (iV (coK wk wr wz ak ar az bk br bz w a b)) (toG []) 0 := by
 refine Fun.mk (n := 56) Tryz.func30 rfl rfl (Nat.le_of_ble_eq_true rfl) ?_
 intro cx hcx
 refine y9r (nz9 4 []) True [(3, rV 0 0), (4, rV 1 0), (5, rV 2 0)] [(0, some (27, .ds [iD wk, iD wr, dl w o, iD wz])), (1, some (27, .ds [iD ak, iD ar, dl a n, iD az])), (2, some (27, .ds [iD bk, iD br, dl b m, iD bz]))] 3 trivial ?_
 refine AW.seq ?_
 have hx1 : ((((-1) : Int) ≤ (kdV wk ak bk)) ∧ ((kdV wk ak bk) ≤ 1)) := kdV_rng wk ak bk
 refine y9s (nz9 9 [.call [] (iV (kdV wk ak bk)) [] 0 [] none, .no]) _ [(3, rV 0 0), (4, rV 1 0), (5, rV 2 0), (7, iV (kdV wk ak bk))] (Y_rkinds wk ak bk) ?_
 by_cases hx2 : ((kdV wk ak bk) ≠ 0)
 ·refine y9s [.no, .b true] (((kdV wk ak bk) ≠ 0)) [(3, rV 0 0), (4, rV 1 0), (5, rV 2 0), (7, iV (kdV wk ak bk)), (21, bV true)] zo ?_
  refine zt ?_
  refine y9r [.no, .no] True [(6, iV (kdV wk ak bk))] [] 3 trivial ?_
  refine AW.ret ?_
  exact EndP.of (.inr rfl) [] (P := (((coK wk wr wz ak ar az bk br bz w a b) : Int) = (kdV wk ak bk))) zk (by unfold coK orV; (repeat' split) <;> first | omega | contradiction | rfl)
 ·refine y9s [.no, .b false] (¬ ((kdV wk ak bk) ≠ 0)) [(3, rV 0 0), (4, rV 1 0), (5, rV 2 0), (7, iV (kdV wk ak bk)), (21, bV false)] zo ?_
  refine zfs ?_
  refine AW.seq ?_
  have hx3 : ((((-1) : Int) ≤ (nrV wr ar br)) ∧ ((nrV wr ar br) ≤ 1)) := nrV_rng wr ar br
  refine y9s (nz9 9 [.call [] (iV (nrV wr ar br)) [] 0 [] none, .no]) _ [(3, rV 0 0), (4, rV 1 0), (5, rV 2 0), (8, iV (nrV wr ar br))] (Y_rnear wr ar br zo zo zo) ?_
  by_cases hx4 : ((nrV wr ar br) ≠ 0)
  ·refine y9s [.no, .b true] (((nrV wr ar br) ≠ 0)) [(3, rV 0 0), (4, rV 1 0), (5, rV 2 0), (8, iV (nrV wr ar br)), (34, bV true)] zo ?_
   refine zt ?_
   refine y9r [.no, .no] True [(6, iV (nrV wr ar br))] [] 3 trivial ?_
   refine AW.ret ?_
   exact EndP.of (.inr rfl) [] (P := (((coK wk wr wz ak ar az bk br bz w a b) : Int) = (nrV wr ar br))) zk (by unfold coK orV; (repeat' split) <;> first | omega | contradiction | rfl)
  ·refine y9s [.no, .b false] (¬ ((nrV wr ar br) ≠ 0)) [(3, rV 0 0), (4, rV 1 0), (5, rV 2 0), (8, iV (nrV wr ar br)), (34, bV false)] zo ?_
   refine zfs ?_
   refine AW.seq ?_
   have hx5 : ((((-1) : Int) ≤ (mpV w a b)) ∧ ((mpV w a b) ≤ 1)) := mpV_rng w a b
   refine y9s (nz9 9 [.call [] (iV (mpV w a b)) [] 0 [] none, .no]) _ [(3, rV 0 0), (4, rV 1 0), (5, rV 2 0), (9, iV (mpV w a b))] (Y_rmaps w a b o n m zo zo zo zo zo zo) ?_
   by_cases hx6 : ((mpV w a b) ≠ 0)
   ·refine y9s [.no, .b true] (((mpV w a b) ≠ 0)) [(3, rV 0 0), (4, rV 1 0), (5, rV 2 0), (9, iV (mpV w a b)), (47, bV true)] zo ?_
    refine zt ?_
    refine y9r [.no, .no] True [(6, iV (mpV w a b))] [] 3 trivial ?_
    refine AW.ret ?_
    exact EndP.of (.inr rfl) [] (P := (((coK wk wr wz ak ar az bk br bz w a b) : Int) = (mpV w a b))) zk (by unfold coK orV; (repeat' split) <;> first | omega | contradiction | rfl)
   ·refine y9s [.no, .b false] (¬ ((mpV w a b) ≠ 0)) [(3, rV 0 0), (4, rV 1 0), (5, rV 2 0), (9, iV (mpV w a b)), (47, bV false)] zo ?_
    refine zfs ?_
    have hx7 : ((((-1) : Int) ≤ (nrV wz az bz)) ∧ ((nrV wz az bz) ≤ 1)) := nrV_rng wz az bz
    refine y9r (nz9 6 [.call [] (iV (nrV wz az bz)) [] 0 [] none, .no]) _ [(6, iV (nrV wz az bz))] [] 3 (Y_rnear wz az bz zo zo zo) ?_
    refine AW.ret ?_
    exact EndP.of (.inr rfl) [] (P := (((coK wk wr wz ak ar az bk br bz w a b) : Int) = (nrV wz az bz))) zk (by unfold coK orV; (repeat' split) <;> first | omega | contradiction | rfl)
end Go.Proofs.YtcfmjpnffembpaaGreat
