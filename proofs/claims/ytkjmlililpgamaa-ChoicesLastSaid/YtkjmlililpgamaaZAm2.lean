/- A memory told by names: regions, in whatever order their operations come. No statement is proved here. -/
import Derived.Test.YtkjmlililpgamaaZAm1
namespace Go.Proofs.Ytkjmlililpgamaa
open Go.ChangeShapes Go.WideShapes Go.ChangeAt Go.RowKit
open Bool renaming and_eq_true → kb2, or_eq_true → kk8
open List renaming getD_eq_getElem?_getD → kb0, getElem?_append_left → kf9, getElem?_append_right → kf4, getElem?_cons_zero → ki6, getElem?_eq_none → kg7, lookup_cons → kc1, map_cons → kd2, mem_cons_of_mem → ka9, zipWith → kk4
open Nat renaming le_refl → kc2, testBit_or → kl6
set_option linter.unusedVariables false
set_option linter.unusedSimpArgs false
structure OT where
 u : PV
 wr : List (Nat × Option Bk)
 news : List Nat
 foot : List Nat
def aB (o : Oper) (u : PV) : List (Nat × PV) := match o.dst with
 | some d => [(d, u)]
 | none => []
def f7 (xs : Array Operand) : List Nat := xs.toList.filterMap fun | .tmp t => some t | _ => none
def a3 (ops : List Oper) (o : Oper) : List Nat := f7 o.op.operands ++ match o.guard with
 | some (g, _) => (match ops[g]? with | some og => og.dst.toList | none => [])
 | none => []
def OpOK (cx : Cx) (o : Oper) (τ : Nat → PV) (h : Hp) (t : OT) : Prop :=
 ∀ (Q : Exit → Act → World → Prop) (ρ : Rh) (a : Act) (w : World) (hL : Hp), ((∀ x ∈ f7 o.op.operands, RepPV cx.p ρ w (τ x) (a.tmps.getD x undef)) ∧ GlOK cx.p w) → (∀ b ∈ t.foot, hL b = h b) → (∀ b ∈ t.news, ρ b = none) → HRep cx ρ w hL → Kept cx.W cx.may w → a.defers = [] →
  ∀ K : Act → World → Prop, (∀ v w' ρ', Goes cx.p ρ ρ' w w' → (∀ b, b ∉ t.news → ρ b = none → ρ' b = none) → HRep cx ρ' w' (fun b => (t.wr.lookup b).getD (hL b)) → Kept cx.W cx.may w' → RepPV cx.p ρ' w' t.u v → K (a.put o.dst v) w') → o.wp Try.prog a w K Q
def StepO (cx : Cx) (ops : List Oper) (o : Oper) (l : List (Nat × PV)) (g : List (Nat × Option Bk)) (t : OT) : Prop :=
 match o.guard with
 | none => OpOK cx o (S l) (S g) t
 | some (gi, b) => ∃ (dg : Nat) (og : Oper), ops[gi]? = some og ∧ og.dst = some dg ∧ ((∃ b' : Bool, S l dg = .e (.c (.d (.lit (.bool b')))) ∧ if b' = b then OpOK cx o (S l) (S g) t else t.u = .tup [] ∧ t.wr = [] ∧ t.news = []) ∨ (S l dg = .tup [] ∧ t.u = .tup [] ∧ t.wr = [] ∧ t.news = []))
inductive Steps (cx : Cx) (ops : List Oper) : List Oper → List OT → List (Nat × PV) → List (Nat × Option Bk) → List (Nat × PV) → List (Nat × Option Bk) → Prop where
 | nil (l : List (Nat × PV)) (g : List (Nat × Option Bk)) : Steps cx ops [] [] l g l g
 | cons {o : Oper} {os : List Oper} {t : OT} {ts : List OT} {l lf : List (Nat × PV)} {g gf : List (Nat × Option Bk)} (h : StepO cx ops o l g t) (hs : Steps cx ops os ts (aB o t.u ++ l) (t.wr ++ g) lf gf) : Steps cx ops (o :: os) (t :: ts) l g lf gf
def yA (os : List Oper) (ts : List OT) : List (List (Nat × PV)) := kk4 (fun o t => aB o t.u) os ts
theorem Steps.len {cx : Cx} {ops os : List Oper} {ts : List OT} {l lf : List (Nat × PV)} {g gf : List (Nat × Option Bk)} (h : Steps cx ops os ts l g lf gf) : os.length = ts.length := by
 induction h with
 | nil => rfl
 | cons _ _ ih => simp [ih]
theorem vC {X : Type} {L : Nat → Bool} : ∀ (l : List (List (Nat × X))) (k : Nat) (f : Nat → X), (∀ j, k ≤ j → L j = false) → qI L k l f = f
 | [], _, _, _ => rfl
 | wr :: l, k, f, h => by
  unfold qI
  rw [h k (kc2 k)]
  exact vC l (k + 1) _ (fun j hj => h j (by omega))
theorem Steps.get {cx : Cx} {ops os : List Oper} {ts : List OT} {l lf : List (Nat × PV)} {g gf : List (Nat × Option Bk)} (h : Steps cx ops os ts l g lf gf) : ∀ (k i : Nat) (o : Oper) (t : OT), os[i]? = some o → ts[i]? = some t →
  ∃ l' g', StepO cx ops o l' g' t ∧ S l' = qI (fun j => decide (j < k + i)) k (yA os ts) (S l) ∧ S g' = qI (fun j => decide (j < k + i)) k (ts.map (·.wr)) (S g) := by
 induction h with
 | nil => intro k i o t ho; simp at ho
 | @cons o0 os t0 ts l lf g gf h0 hs ih =>
  intro k i o t ho ht
  cases i with
  | zero =>
   simp at ho ht; subst ho; subst ht
   refine ⟨l, g, h0, ?_, ?_⟩
   ·rw [vC]; intro j hj; simp; omega
   ·rw [vC]; intro j hj; simp; omega
  | succ i =>
   obtain ⟨l', g', h1, h2, h3⟩ := ih (k + 1) i o t (by simpa using ho) (by simpa using ht)
   refine ⟨l', g', h1, ?_, ?_⟩
   ·rw [h2]
    show _ = qI _ k (aB o0 t0.u :: yA os ts) _
    conv => rhs; unfold qI
    rw [show k + 1 + i = k + (i + 1) by omega, if_pos (by simp), nZ]
   ·rw [h3, kd2]
    conv => rhs; unfold qI
    rw [show k + 1 + i = k + (i + 1) by omega, if_pos (by simp), nZ]
theorem Steps.final {cx : Cx} {ops os : List Oper} {ts : List OT} {l lf : List (Nat × PV)} {g gf : List (Nat × Option Bk)} (h : Steps cx ops os ts l g lf gf) : ∀ (k : Nat) (L : Nat → Bool), (∀ j, k ≤ j → j < k + os.length → L j = true) → S lf = qI L k (yA os ts) (S l) ∧ S gf = qI L k (ts.map (·.wr)) (S g) := by
 induction h with
 | nil => intro k L _; exact ⟨rfl, rfl⟩
 | @cons o0 os t0 ts l lf g gf h0 hs ih =>
  intro k L hL
  obtain ⟨h1, h2⟩ := ih (k + 1) L (fun j h1 h2 => hL j (by omega) (by simp; omega))
  have h3 := hL k (kc2 k) (by simp)
  refine ⟨?_, ?_⟩
  ·rw [h1]
   show _ = qI _ k (aB o0 t0.u :: yA os ts) _
   conv => rhs; unfold qI
   rw [if_pos h3, nZ]
  ·rw [h2, kd2]
   conv => rhs; unfold qI
   rw [if_pos h3, nZ]
def bO : List Oper → List Nat → List Nat
 | [], acc => acc
 | o :: os, acc => bO os (acc ++ [o.after.toList.foldl (fun s e => if Region.binds .any e = true then s ||| (1 <<< e.on) ||| acc.getD e.on 0 else s) 0])
theorem j4 {L : Nat → Bool} {acc : List Nat} (hg : ∀ i j, (acc.getD i 0).testBit j = true → L i = true → L j = true) : ∀ (es : List Edge) (s : Nat), (∀ j, s.testBit j = true → L j = true) → (∀ e ∈ es, Region.binds .any e = true → L e.on = true) →
  ∀ j, (es.foldl (fun s e => if Region.binds .any e = true then s ||| (1 <<< e.on) ||| acc.getD e.on 0 else s) s).testBit j = true → L j = true
 | [], s, hs, _, j, hj => hs j hj
 | e :: es, s, hs, he, j, hj => by
  rw [List.foldl_cons] at hj
  refine j4 hg es _ ?_ (fun e' he' => he e' (ka9 _ he')) j hj
  intro j hj
  split at hj
  ·rename_i hb
   have h1 := he e (List.mem_cons_self ..) hb
   rw [kl6, kl6, kk8, kk8] at hj
   rcases hj with (hj | hj) | hj
   ·exact hs j hj
   ·rw [Nat.one_shiftLeft, Nat.testBit_two_pow] at hj
    have : e.on = j := by simpa using hj
    subst this; exact h1
   ·exact hg _ _ hj h1
  ·exact hs j hj
theorem wW {ops : List Oper} {L : Nat → Bool} (hc : yY ops L) : ∀ (os pre : List Oper) (acc : List Nat), pre ++ os = ops → acc.length = pre.length → (∀ i j, (acc.getD i 0).testBit j = true → L i = true → L j = true) → ∀ i j, ((bO os acc).getD i 0).testBit j = true → L i = true → L j = true
 | [], _, _, _, _, hg => hg
 | o :: os, pre, acc, hp, hl, hg => by
  unfold bO
  refine wW hc os (pre ++ [o]) _ (by simp [hp]) (by simp [hl]) ?_
  intro i j hj hLi
  by_cases hi : i < acc.length
  ·rw [kb0, kf9 hi, ← kb0] at hj
   exact hg i j hj hLi
  ·by_cases hi2 : i = acc.length
   ·subst hi2
    rw [kb0, kf4 (kc2 _)] at hj
    simp only [Nat.sub_self, ki6, Option.getD_some] at hj
    refine j4 hg o.after.toList 0 (by simp) ?_ j hj
    intro e he hb
    exact hc acc.length o (by rw [← hp, hl]; simp) hLi e (by simpa using he) hb
   ·rw [kb0, kf4 (by omega), kg7 (by simp; omega)] at hj
    simp at hj
theorem wV {ops : List Oper} {L : Nat → Bool} (hc : yY ops L) {i j : Nat} (h : ((bO ops []).getD i 0).testBit j = true) (hi : L i = true) : L j = true :=
 wW hc ops [] [] rfl rfl (by intro i j h; simp at h) i j h hi
structure Fp where
 d : List Nat
 r : List Nat
 f : List Nat
 k : List Nat
 n : List Nat
def yO (x y : List Nat) : Bool := x.any fun a => y.any fun b => a == b
theorem jI {x y : List Nat} (h : yO x y = false) {b : Nat} (h1 : b ∈ x) : b ∉ y := by
 intro h2
 have : yO x y = true := List.any_eq_true.2 ⟨b, h1, List.any_eq_true.2 ⟨b, h2, by simp⟩⟩
 rw [h] at this; cases this
def yK (x y : Fp) : Bool := yO x.d y.r || (yO y.d x.r || (yO x.d y.d || (yO x.k y.f || (yO y.k x.f || yO x.k y.k))))
def yX (ops : List Oper) (o : Oper) (t : OT) : Fp := ⟨o.dst.toList, a3 ops o, t.foot, t.wr.map (·.1), t.news⟩
def aQ (x y : Fp) (b : Bool) : Bool := (b || !yK x y) && !yO x.n y.n
def jG (anc : Nat) (y : Fp) : Nat → List Fp → Bool
 | _, [] => true
 | i, x :: xs => aQ x y (anc.testBit i) && jG anc y (i + 1) xs
def nB : List Nat → List Fp → List Fp → Bool
 | a :: as', y :: ys, pre => jG a y 0 pre && nB as' ys (pre ++ [y])
 | _, _, _ => true
def lX (nx nx' : Nat) (ts : List OT) : Bool := ts.all fun t => t.news.all fun b => Nat.ble nx b && Nat.blt b nx'
def bY (ops : List Oper) (ts : List OT) (nx nx' : Nat) : Bool := y2 ops && (nB (bO ops []) (kk4 (yX ops) ops ts) [] && (lX nx nx' ts && Nat.ble nx nx'))
theorem e8 {anc : Nat} {y : Fp} : ∀ (xs : List Fp) (k : Nat), jG anc y k xs = true → ∀ i x, xs[i]? = some x → aQ x y (anc.testBit (k + i)) = true
 | [], _, _, i, x, h => by simp at h
 | x0 :: xs, k, h, 0, x, hx => by simp at hx; subst hx; unfold jG at h; rw [kb2] at h; exact h.1
 | x0 :: xs, k, h, i + 1, x, hx => by unfold jG at h; rw [kb2] at h; rw [show k + (i + 1) = k + 1 + i by omega]; exact e8 xs (k + 1) h.2 i x (by simpa using hx)
theorem fA : ∀ (as' : List Nat) (ys pre : List Fp), nB as' ys pre = true → as'.length = ys.length → ∀ i j x y, i < j → (pre ++ ys)[i]? = some x → (pre ++ ys)[j]? = some y → pre.length ≤ j → aQ x y ((as'.getD (j - pre.length) 0).testBit i) = true
 | [], ys, pre, _, hl, i, j, x, y, _, _, hy, hp => by
  have : ys = [] := List.eq_nil_of_length_eq_zero hl.symm
  subst this
  rw [List.append_nil, kg7 hp] at hy; cases hy
 | a :: as', [], _, _, hl, _, _, _, _, _, _, _, _ => by simp at hl
 | a :: as', y0 :: ys, pre, h, hl, i, j, x, y, hij, hx, hy, hp => by
  unfold nB at h
  rw [kb2] at h
  by_cases hj : j = pre.length
  ·subst hj
   rw [kf4 (kc2 _)] at hy
   simp only [Nat.sub_self, ki6, Option.some.injEq] at hy
   subst hy
   rw [kf9 hij] at hx
   have := e8 pre 0 h.1 i x hx
   simpa using this
  ·have := fA as' ys (pre ++ [y0]) h.2 (by simpa using hl) i j x y hij (by simpa using hx) (by simpa using hy) (by simp; omega)
   rw [List.length_append, List.length_singleton] at this
   rw [show j - pre.length = (j - (pre.length + 1)) + 1 by omega, List.getD_cons_succ]
   exact this
theorem nW : ∀ (os : List Oper) (acc : List Nat), (bO os acc).length = acc.length + os.length
 | [], _ => by simp [bO]
 | o :: os, acc => by unfold bO; rw [nW os]; simp; omega
def InvR (cx : Cx) (n nx' : Nat) (ops : List Oper) (ts : List OT) (τ0 : Nat → PV) (h0 : Hp) (L : Nat → Bool) (a : Act) (w : World) : Prop :=
 ∃ ρ : Rh, Kept cx.W cx.may w ∧ HRep cx ρ w (qI L 0 (ts.map (·.wr)) h0) ∧ (∀ t, RepPV cx.p ρ w (qI L 0 (yA ops ts) τ0 t) (a.tmps.getD t undef)) ∧ a.tmps.size = n ∧ a.defers = [] ∧
  (∀ i t, ts[i]? = some t → L i = false → ∀ b ∈ t.news, ρ b = none) ∧ (∀ b, nx' ≤ b → ρ b = none) ∧ (∀ b m, cx.ρ0 b = some m → ρ b = some m)
theorem xT {a : Act} {d : Option Tmp} {v : Value} (hd : ∀ t, d = some t → t < a.tmps.size) (t : Nat) : (a.put d v).tmps.getD t undef = if d = some t then v else a.tmps.getD t undef := by
 unfold Act.put
 cases d with
 | none => simp
 | some d =>
  by_cases h : d = t
  ·subst h; have := hd d rfl; simp [Array.getD_eq_getD_getElem?, this]
  ·simp [Array.getD_eq_getD_getElem?, Array.getElem?_setIfInBounds_ne h, h]
theorem p9 {a : Act} {d : Option Tmp} {v : Value} : (a.put d v).tmps.size = a.tmps.size := by unfold Act.put; cases d <;> simp
theorem lP {a : Act} {d : Option Tmp} {v : Value} : (a.put d v).defers = a.defers := by unfold Act.put; cases d <;> simp
theorem cC (o : Oper) (u : PV) (t : Nat) : (aB o u).lookup t = if o.dst = some t then some u else none := by
 unfold aB
 cases o.dst with
 | none => simp
 | some d =>
  by_cases h : d = t
  ·subst h; simp
  ·simp [kc1, h, show (t == d) = false by simp; exact fun e => h e.symm]
theorem gV {o : Oper} {u : PV} {t : Nat} : yI (aB o u) t = true ↔ o.dst = some t := by
 unfold yI; rw [cC]; by_cases h : o.dst = some t <;> simp [h]
theorem gU {X : Type} {wr : List (Nat × X)} {b : Nat} (h : yI wr b = true) : b ∈ wr.map (·.1) := by
 unfold yI at h
 induction wr with
 | nil => simp at h
 | cons x wr ih =>
  rw [kc1] at h
  by_cases hx : b == x.1
  ·simp at hx; simp [hx]
  ·simp only [hx] at h; exact List.mem_map.2 (by obtain ⟨y, h1, h2⟩ := List.mem_map.1 (ih h); exact ⟨y, ka9 _ h1, h2⟩)
end Go.Proofs.Ytkjmlililpgamaa
