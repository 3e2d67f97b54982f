/- A memory told by names: regions, in whatever order their operations come. No statement is proved here. -/
import Derived.Test.YtkjmlililpgamaaZAm1
namespace Go.Proofs.Ytkjmlililpgamaa
open Go.ChangeShapes Go.WideShapes Go.ChangeAt Go.RowKit
open Bool renaming and_eq_true → kb1, or_eq_true → kk7
open List renaming getD_eq_getElem?_getD → ka9, getElem?_append_left → kf7, getElem?_append_right → kf2, getElem?_cons_zero → ki4, getElem?_eq_none → kg5, lookup_cons → kc2, map_cons → kd5, mem_cons_of_mem → kb9, zipWith → kk3
open Nat renaming le_refl → kc1, testBit_or → kl6
set_option linter.unusedVariables false
set_option linter.unusedSimpArgs false
structure OT where
 u : PV
 wr : List (Nat × Option Bk)
 news : List Nat
 foot : List Nat
def v6 (o : Oper) (u : PV) : List (Nat × PV) := match o.dst with
 | some d => [(d, u)]
 | none => []
def fG (xs : Array Operand) : List Nat := xs.toList.filterMap fun | .tmp t => some t | _ => none
def aT (ops : List Oper) (o : Oper) : List Nat := fG o.op.operands ++ match o.guard with
 | some (g, _) => (match ops[g]? with | some og => og.dst.toList | none => [])
 | none => []
def OpOK (cx : Cx) (o : Oper) (τ : Nat → PV) (h : Hp) (t : OT) : Prop :=
 ∀ (Q : Exit → Act → World → Prop) (ρ : Rh) (a : Act) (w : World) (hL : Hp), ((∀ x ∈ fG o.op.operands, RepPV cx.p ρ w (τ x) (a.tmps.getD x undef)) ∧ GlOK cx.p w) → (∀ b ∈ t.foot, hL b = h b) → (∀ b ∈ t.news, ρ b = none) → HRep cx ρ w hL → Kept cx.W cx.may w → a.defers = [] →
  ∀ K : Act → World → Prop, (∀ v w' ρ', Goes cx.p ρ ρ' w w' → (∀ b, b ∉ t.news → ρ b = none → ρ' b = none) → HRep cx ρ' w' (fun b => (t.wr.lookup b).getD (hL b)) → Kept cx.W cx.may w' → RepPV cx.p ρ' w' t.u v → K (a.put o.dst v) w') → o.wp Try.prog a w K Q
def StepO (cx : Cx) (ops : List Oper) (o : Oper) (l : List (Nat × PV)) (g : List (Nat × Option Bk)) (t : OT) : Prop :=
 match o.guard with
 | none => OpOK cx o (S l) (S g) t
 | some (gi, b) => ∃ (dg : Nat) (og : Oper), ops[gi]? = some og ∧ og.dst = some dg ∧ ((∃ b' : Bool, S l dg = .e (.c (.d (.lit (.bool b')))) ∧ if b' = b then OpOK cx o (S l) (S g) t else t.u = .tup [] ∧ t.wr = [] ∧ t.news = []) ∨ (S l dg = .tup [] ∧ t.u = .tup [] ∧ t.wr = [] ∧ t.news = []))
inductive Steps (cx : Cx) (ops : List Oper) : List Oper → List OT → List (Nat × PV) → List (Nat × Option Bk) → List (Nat × PV) → List (Nat × Option Bk) → Prop where
 | nil (l : List (Nat × PV)) (g : List (Nat × Option Bk)) : Steps cx ops [] [] l g l g
 | cons {o : Oper} {os : List Oper} {t : OT} {ts : List OT} {l lf : List (Nat × PV)} {g gf : List (Nat × Option Bk)} (h : StepO cx ops o l g t) (hs : Steps cx ops os ts (v6 o t.u ++ l) (t.wr ++ g) lf gf) : Steps cx ops (o :: os) (t :: ts) l g lf gf
def u4 (os : List Oper) (ts : List OT) : List (List (Nat × PV)) := kk3 (fun o t => v6 o t.u) os ts
theorem Steps.len {cx : Cx} {ops os : List Oper} {ts : List OT} {l lf : List (Nat × PV)} {g gf : List (Nat × Option Bk)} (h : Steps cx ops os ts l g lf gf) : os.length = ts.length := by
 induction h with
 | nil => rfl
 | cons _ _ ih => simp [ih]
theorem y5 {X : Type} {L : Nat → Bool} : ∀ (l : List (List (Nat × X))) (k : Nat) (f : Nat → X), (∀ j, k ≤ j → L j = false) → qH L k l f = f
 | [], _, _, _ => rfl
 | wr :: l, k, f, h => by
  unfold qH
  rw [h k (kc1 k)]
  exact y5 l (k + 1) _ (fun j hj => h j (by omega))
theorem Steps.get {cx : Cx} {ops os : List Oper} {ts : List OT} {l lf : List (Nat × PV)} {g gf : List (Nat × Option Bk)} (h : Steps cx ops os ts l g lf gf) : ∀ (k i : Nat) (o : Oper) (t : OT), os[i]? = some o → ts[i]? = some t →
  ∃ l' g', StepO cx ops o l' g' t ∧ S l' = qH (fun j => decide (j < k + i)) k (u4 os ts) (S l) ∧ S g' = qH (fun j => decide (j < k + i)) k (ts.map (·.wr)) (S g) := by
 induction h with
 | nil => intro k i o t ho; simp at ho
 | @cons o0 os t0 ts l lf g gf h0 hs ih =>
  intro k i o t ho ht
  cases i with
  | zero =>
   simp at ho ht; subst ho; subst ht
   refine ⟨l, g, h0, ?_, ?_⟩
   ·rw [y5]; intro j hj; simp; omega
   ·rw [y5]; intro j hj; simp; omega
  | succ i =>
   obtain ⟨l', g', h1, h2, h3⟩ := ih (k + 1) i o t (by simpa using ho) (by simpa using ht)
   refine ⟨l', g', h1, ?_, ?_⟩
   ·rw [h2]
    show _ = qH _ k (v6 o0 t0.u :: u4 os ts) _
    conv => rhs; unfold qH
    rw [show k + 1 + i = k + (i + 1) by omega, if_pos (by simp), mV]
   ·rw [h3, kd5]
    conv => rhs; unfold qH
    rw [show k + 1 + i = k + (i + 1) by omega, if_pos (by simp), mV]
theorem Steps.final {cx : Cx} {ops os : List Oper} {ts : List OT} {l lf : List (Nat × PV)} {g gf : List (Nat × Option Bk)} (h : Steps cx ops os ts l g lf gf) : ∀ (k : Nat) (L : Nat → Bool), (∀ j, k ≤ j → j < k + os.length → L j = true) → S lf = qH L k (u4 os ts) (S l) ∧ S gf = qH L k (ts.map (·.wr)) (S g) := by
 induction h with
 | nil => intro k L _; exact ⟨rfl, rfl⟩
 | @cons o0 os t0 ts l lf g gf h0 hs ih =>
  intro k L hL
  obtain ⟨h1, h2⟩ := ih (k + 1) L (fun j h1 h2 => hL j (by omega) (by simp; omega))
  have h3 := hL k (kc1 k) (by simp)
  refine ⟨?_, ?_⟩
  ·rw [h1]
   show _ = qH _ k (v6 o0 t0.u :: u4 os ts) _
   conv => rhs; unfold qH
   rw [if_pos h3, mV]
  ·rw [h2, kd5]
   conv => rhs; unfold qH
   rw [if_pos h3, mV]
def bA : List Oper → List Nat → List Nat
 | [], acc => acc
 | o :: os, acc => bA os (acc ++ [o.after.toList.foldl (fun s e => if Region.binds .any e = true then s ||| (1 <<< e.on) ||| acc.getD e.on 0 else s) 0])
theorem jA {L : Nat → Bool} {acc : List Nat} (hg : ∀ i j, (acc.getD i 0).testBit j = true → L i = true → L j = true) : ∀ (es : List Edge) (s : Nat), (∀ j, s.testBit j = true → L j = true) → (∀ e ∈ es, Region.binds .any e = true → L e.on = true) →
  ∀ j, (es.foldl (fun s e => if Region.binds .any e = true then s ||| (1 <<< e.on) ||| acc.getD e.on 0 else s) s).testBit j = true → L j = true
 | [], s, hs, _, j, hj => hs j hj
 | e :: es, s, hs, he, j, hj => by
  rw [List.foldl_cons] at hj
  refine jA hg es _ ?_ (fun e' he' => he e' (kb9 _ he')) j hj
  intro j hj
  split at hj
  ·rename_i hb
   have h1 := he e (List.mem_cons_self ..) hb
   rw [kl6, kl6, kk7, kk7] at hj
   rcases hj with (hj | hj) | hj
   ·exact hs j hj
   ·rw [Nat.one_shiftLeft, Nat.testBit_two_pow] at hj
    have : e.on = j := by simpa using hj
    subst this; exact h1
   ·exact hg _ _ hj h1
  ·exact hs j hj
theorem tN {ops : List Oper} {L : Nat → Bool} (hc : yS ops L) : ∀ (os pre : List Oper) (acc : List Nat), pre ++ os = ops → acc.length = pre.length → (∀ i j, (acc.getD i 0).testBit j = true → L i = true → L j = true) → ∀ i j, ((bA os acc).getD i 0).testBit j = true → L i = true → L j = true
 | [], _, _, _, _, hg => hg
 | o :: os, pre, acc, hp, hl, hg => by
  unfold bA
  refine tN hc os (pre ++ [o]) _ (by simp [hp]) (by simp [hl]) ?_
  intro i j hj hLi
  by_cases hi : i < acc.length
  ·rw [ka9, kf7 hi, ← ka9] at hj
   exact hg i j hj hLi
  ·by_cases hi2 : i = acc.length
   ·subst hi2
    rw [ka9, kf2 (kc1 _)] at hj
    simp only [Nat.sub_self, ki4, Option.getD_some] at hj
    refine jA hg o.after.toList 0 (by simp) ?_ j hj
    intro e he hb
    exact hc acc.length o (by rw [← hp, hl]; simp) hLi e (by simpa using he) hb
   ·rw [ka9, kf2 (by omega), kg5 (by simp; omega)] at hj
    simp at hj
theorem tM {ops : List Oper} {L : Nat → Bool} (hc : yS ops L) {i j : Nat} (h : ((bA ops []).getD i 0).testBit j = true) (hi : L i = true) : L j = true :=
 tN hc ops [] [] rfl rfl (by intro i j h; simp at h) i j h hi
structure Fp where
 d : List Nat
 r : List Nat
 f : List Nat
 k : List Nat
 n : List Nat
def yI (x y : List Nat) : Bool := x.any fun a => y.any fun b => a == b
theorem iH {x y : List Nat} (h : yI x y = false) {b : Nat} (h1 : b ∈ x) : b ∉ y := by
 intro h2
 have : yI x y = true := List.any_eq_true.2 ⟨b, h1, List.any_eq_true.2 ⟨b, h2, by simp⟩⟩
 rw [h] at this; cases this
def yD (x y : Fp) : Bool := yI x.d y.r || (yI y.d x.r || (yI x.d y.d || (yI x.k y.f || (yI y.k x.f || yI x.k y.k))))
def yR (ops : List Oper) (o : Oper) (t : OT) : Fp := ⟨o.dst.toList, aT ops o, t.foot, t.wr.map (·.1), t.news⟩
def aL (x y : Fp) (b : Bool) : Bool := (b || !yD x y) && !yI x.n y.n
def iF (anc : Nat) (y : Fp) : Nat → List Fp → Bool
 | _, [] => true
 | i, x :: xs => aL x y (anc.testBit i) && iF anc y (i + 1) xs
def mA : List Nat → List Fp → List Fp → Bool
 | a :: as', y :: ys, pre => iF a y 0 pre && mA as' ys (pre ++ [y])
 | _, _, _ => true
def j4 (nx nx' : Nat) (ts : List OT) : Bool := ts.all fun t => t.news.all fun b => Nat.ble nx b && Nat.blt b nx'
def bH (ops : List Oper) (ts : List OT) (nx nx' : Nat) : Bool := yW ops && (mA (bA ops []) (kk3 (yR ops) ops ts) [] && (j4 nx nx' ts && Nat.ble nx nx'))
theorem eG {anc : Nat} {y : Fp} : ∀ (xs : List Fp) (k : Nat), iF anc y k xs = true → ∀ i x, xs[i]? = some x → aL x y (anc.testBit (k + i)) = true
 | [], _, _, i, x, h => by simp at h
 | x0 :: xs, k, h, 0, x, hx => by simp at hx; subst hx; unfold iF at h; rw [kb1] at h; exact h.1
 | x0 :: xs, k, h, i + 1, x, hx => by unfold iF at h; rw [kb1] at h; rw [show k + (i + 1) = k + 1 + i by omega]; exact eG xs (k + 1) h.2 i x (by simpa using hx)
theorem eH : ∀ (as' : List Nat) (ys pre : List Fp), mA as' ys pre = true → as'.length = ys.length → ∀ i j x y, i < j → (pre ++ ys)[i]? = some x → (pre ++ ys)[j]? = some y → pre.length ≤ j → aL x y ((as'.getD (j - pre.length) 0).testBit i) = true
 | [], ys, pre, _, hl, i, j, x, y, _, _, hy, hp => by
  have : ys = [] := List.eq_nil_of_length_eq_zero hl.symm
  subst this
  rw [List.append_nil, kg5 hp] at hy; cases hy
 | a :: as', [], _, _, hl, _, _, _, _, _, _, _, _ => by simp at hl
 | a :: as', y0 :: ys, pre, h, hl, i, j, x, y, hij, hx, hy, hp => by
  unfold mA at h
  rw [kb1] at h
  by_cases hj : j = pre.length
  ·subst hj
   rw [kf2 (kc1 _)] at hy
   simp only [Nat.sub_self, ki4, Option.some.injEq] at hy
   subst hy
   rw [kf7 hij] at hx
   have := eG pre 0 h.1 i x hx
   simpa using this
  ·have := eH as' ys (pre ++ [y0]) h.2 (by simpa using hl) i j x y hij (by simpa using hx) (by simpa using hy) (by simp; omega)
   rw [List.length_append, List.length_singleton] at this
   rw [show j - pre.length = (j - (pre.length + 1)) + 1 by omega, List.getD_cons_succ]
   exact this
theorem mS : ∀ (os : List Oper) (acc : List Nat), (bA os acc).length = acc.length + os.length
 | [], _ => by simp [bA]
 | o :: os, acc => by unfold bA; rw [mS os]; simp; omega
def InvR (cx : Cx) (n nx' : Nat) (ops : List Oper) (ts : List OT) (τ0 : Nat → PV) (h0 : Hp) (L : Nat → Bool) (a : Act) (w : World) : Prop :=
 ∃ ρ : Rh, Kept cx.W cx.may w ∧ HRep cx ρ w (qH L 0 (ts.map (·.wr)) h0) ∧ (∀ t, RepPV cx.p ρ w (qH L 0 (u4 ops ts) τ0 t) (a.tmps.getD t undef)) ∧ a.tmps.size = n ∧ a.defers = [] ∧
  (∀ i t, ts[i]? = some t → L i = false → ∀ b ∈ t.news, ρ b = none) ∧ (∀ b, nx' ≤ b → ρ b = none) ∧ (∀ b m, cx.ρ0 b = some m → ρ b = some m)
theorem wG {a : Act} {d : Option Tmp} {v : Value} (hd : ∀ t, d = some t → t < a.tmps.size) (t : Nat) : (a.put d v).tmps.getD t undef = if d = some t then v else a.tmps.getD t undef := by
 unfold Act.put
 cases d with
 | none => simp
 | some d =>
  by_cases h : d = t
  ·subst h; have := hd d rfl; simp [Array.getD_eq_getD_getElem?, this]
  ·simp [Array.getD_eq_getD_getElem?, Array.getElem?_setIfInBounds_ne h, h]
theorem oZ {a : Act} {d : Option Tmp} {v : Value} : (a.put d v).tmps.size = a.tmps.size := by unfold Act.put; cases d <;> simp
theorem jV {a : Act} {d : Option Tmp} {v : Value} : (a.put d v).defers = a.defers := by unfold Act.put; cases d <;> simp
theorem bU (o : Oper) (u : PV) (t : Nat) : (v6 o u).lookup t = if o.dst = some t then some u else none := by
 unfold v6
 cases o.dst with
 | none => simp
 | some d =>
  by_cases h : d = t
  ·subst h; simp
  ·simp [kc2, h, show (t == d) = false by simp; exact fun e => h e.symm]
theorem f0 {o : Oper} {u : PV} {t : Nat} : yB (v6 o u) t = true ↔ o.dst = some t := by
 unfold yB; rw [bU]; by_cases h : o.dst = some t <;> simp [h]
theorem fZ {X : Type} {wr : List (Nat × X)} {b : Nat} (h : yB wr b = true) : b ∈ wr.map (·.1) := by
 unfold yB at h
 induction wr with
 | nil => simp at h
 | cons x wr ih =>
  rw [kc2] at h
  by_cases hx : b == x.1
  ·simp at hx; simp [hx]
  ·simp only [hx] at h; exact List.mem_map.2 (by obtain ⟨y, h1, h2⟩ := List.mem_map.1 (ih h); exact ⟨y, kb9 _ h1, h2⟩)
end Go.Proofs.Ytkjmlililpgamaa
