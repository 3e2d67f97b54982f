/- A memory told by names: regions, in whatever order their operations come. No statement is proved here. -/
import Derived.Test.YtalbpleglapihaaZAm1
namespace Go.Proofs.Ytalbpleglapihaa
open Go.ChangeShapes Go.WideShapes Go.ChangeAt Go.RowKit
open Bool renaming and_eq_true → kc0, or_eq_true → kl0
open List renaming getD_eq_getElem?_getD → ka8, getElem?_append_left → kh0, getElem?_append_right → kg4, getElem?_cons_zero → kj0, getElem?_eq_none → kh6, lookup_cons → kc5, map_cons → ke0, mem_cons_of_mem → kb8, zipWith → kk8
open Nat renaming le_refl → kc9, testBit_or → km0
set_option linter.unusedVariables false
set_option linter.unusedSimpArgs false
structure OT where
 u : PV
 wr : List (Nat × Option Bk)
 news : List Nat
 foot : List Nat
def c8 (o : Oper) (u : PV) : List (Nat × PV) := match o.dst with
 | some d => [(d, u)]
 | none => []
def mR (xs : Array Operand) : List Nat := xs.toList.filterMap fun | .tmp t => some t | _ => none
def d8 (ops : List Oper) (o : Oper) : List Nat := mR o.op.operands ++ match o.guard with
 | some (g, _) => (match ops[g]? with | some og => og.dst.toList | none => [])
 | none => []
def OpOK (cx : Cx) (o : Oper) (τ : Nat → PV) (h : Hp) (t : OT) : Prop :=
 ∀ (Q : Exit → Act → World → Prop) (ρ : Rh) (a : Act) (w : World) (hL : Hp), ((∀ x ∈ mR o.op.operands, RepPV cx.p ρ w (τ x) (a.tmps.getD x undef)) ∧ GlOK cx.p w) → (∀ b ∈ t.foot, hL b = h b) → (∀ b ∈ t.news, ρ b = none) → HRep cx ρ w hL → Kept cx.W cx.may w → a.defers = [] →
  ∀ K : Act → World → Prop, (∀ v w' ρ', Goes cx.p ρ ρ' w w' → (∀ b, b ∉ t.news → ρ b = none → ρ' b = none) → HRep cx ρ' w' (fun b => (t.wr.lookup b).getD (hL b)) → Kept cx.W cx.may w' → RepPV cx.p ρ' w' t.u v → K (a.put o.dst v) w') → o.wp Try.prog a w K Q
def StepO (cx : Cx) (ops : List Oper) (o : Oper) (l : List (Nat × PV)) (g : List (Nat × Option Bk)) (t : OT) : Prop :=
 match o.guard with
 | none => OpOK cx o (S l) (S g) t
 | some (gi, b) => ∃ (dg : Nat) (og : Oper), ops[gi]? = some og ∧ og.dst = some dg ∧ ((∃ b' : Bool, S l dg = .e (.c (.d (.lit (.bool b')))) ∧ if b' = b then OpOK cx o (S l) (S g) t else t.u = .tup [] ∧ t.wr = [] ∧ t.news = []) ∨ (S l dg = .tup [] ∧ t.u = .tup [] ∧ t.wr = [] ∧ t.news = []))
inductive Steps (cx : Cx) (ops : List Oper) : List Oper → List OT → List (Nat × PV) → List (Nat × Option Bk) → List (Nat × PV) → List (Nat × Option Bk) → Prop where
 | nil (l : List (Nat × PV)) (g : List (Nat × Option Bk)) : Steps cx ops [] [] l g l g
 | cons {o : Oper} {os : List Oper} {t : OT} {ts : List OT} {l lf : List (Nat × PV)} {g gf : List (Nat × Option Bk)} (h : StepO cx ops o l g t) (hs : Steps cx ops os ts (c8 o t.u ++ l) (t.wr ++ g) lf gf) : Steps cx ops (o :: os) (t :: ts) l g lf gf
def v3 (os : List Oper) (ts : List OT) : List (List (Nat × PV)) := kk8 (fun o t => c8 o t.u) os ts
theorem Steps.len {cx : Cx} {ops os : List Oper} {ts : List OT} {l lf : List (Nat × PV)} {g gf : List (Nat × Option Bk)} (h : Steps cx ops os ts l g lf gf) : os.length = ts.length := by
 induction h with
 | nil => rfl
 | cons _ _ ih => simp [ih]
theorem bM {X : Type} {L : Nat → Bool} : ∀ (l : List (List (Nat × X))) (k : Nat) (f : Nat → X), (∀ j, k ≤ j → L j = false) → uQ L k l f = f
 | [], _, _, _ => rfl
 | wr :: l, k, f, h => by
  unfold uQ
  rw [h k (kc9 k)]
  exact bM l (k + 1) _ (fun j hj => h j (by omega))
theorem Steps.get {cx : Cx} {ops os : List Oper} {ts : List OT} {l lf : List (Nat × PV)} {g gf : List (Nat × Option Bk)} (h : Steps cx ops os ts l g lf gf) : ∀ (k i : Nat) (o : Oper) (t : OT), os[i]? = some o → ts[i]? = some t →
  ∃ l' g', StepO cx ops o l' g' t ∧ S l' = uQ (fun j => decide (j < k + i)) k (v3 os ts) (S l) ∧ S g' = uQ (fun j => decide (j < k + i)) k (ts.map (·.wr)) (S g) := by
 induction h with
 | nil => intro k i o t ho; simp at ho
 | @cons o0 os t0 ts l lf g gf h0 hs ih =>
  intro k i o t ho ht
  cases i with
  | zero =>
   simp at ho ht; subst ho; subst ht
   refine ⟨l, g, h0, ?_, ?_⟩
   ·rw [bM]; intro j hj; simp; omega
   ·rw [bM]; intro j hj; simp; omega
  | succ i =>
   obtain ⟨l', g', h1, h2, h3⟩ := ih (k + 1) i o t (by simpa using ho) (by simpa using ht)
   refine ⟨l', g', h1, ?_, ?_⟩
   ·rw [h2]
    show _ = uQ _ k (c8 o0 t0.u :: v3 os ts) _
    conv => rhs; unfold uQ
    rw [show k + 1 + i = k + (i + 1) by omega, if_pos (by simp), x6]
   ·rw [h3, ke0]
    conv => rhs; unfold uQ
    rw [show k + 1 + i = k + (i + 1) by omega, if_pos (by simp), x6]
theorem Steps.final {cx : Cx} {ops os : List Oper} {ts : List OT} {l lf : List (Nat × PV)} {g gf : List (Nat × Option Bk)} (h : Steps cx ops os ts l g lf gf) : ∀ (k : Nat) (L : Nat → Bool), (∀ j, k ≤ j → j < k + os.length → L j = true) → S lf = uQ L k (v3 os ts) (S l) ∧ S gf = uQ L k (ts.map (·.wr)) (S g) := by
 induction h with
 | nil => intro k L _; exact ⟨rfl, rfl⟩
 | @cons o0 os t0 ts l lf g gf h0 hs ih =>
  intro k L hL
  obtain ⟨h1, h2⟩ := ih (k + 1) L (fun j h1 h2 => hL j (by omega) (by simp; omega))
  have h3 := hL k (kc9 k) (by simp)
  refine ⟨?_, ?_⟩
  ·rw [h1]
   show _ = uQ _ k (c8 o0 t0.u :: v3 os ts) _
   conv => rhs; unfold uQ
   rw [if_pos h3, x6]
  ·rw [h2, ke0]
   conv => rhs; unfold uQ
   rw [if_pos h3, x6]
def eS : List Oper → List Nat → List Nat
 | [], acc => acc
 | o :: os, acc => eS os (acc ++ [o.after.toList.foldl (fun s e => if Region.binds .any e = true then s ||| (1 <<< e.on) ||| acc.getD e.on 0 else s) 0])
theorem sK {L : Nat → Bool} {acc : List Nat} (hg : ∀ i j, (acc.getD i 0).testBit j = true → L i = true → L j = true) : ∀ (es : List Edge) (s : Nat), (∀ j, s.testBit j = true → L j = true) → (∀ e ∈ es, Region.binds .any e = true → L e.on = true) →
  ∀ j, (es.foldl (fun s e => if Region.binds .any e = true then s ||| (1 <<< e.on) ||| acc.getD e.on 0 else s) s).testBit j = true → L j = true
 | [], s, hs, _, j, hj => hs j hj
 | e :: es, s, hs, he, j, hj => by
  rw [List.foldl_cons] at hj
  refine sK hg es _ ?_ (fun e' he' => he e' (kb8 _ he')) j hj
  intro j hj
  split at hj
  ·rename_i hb
   have h1 := he e (List.mem_cons_self ..) hb
   rw [km0, km0, kl0, kl0] at hj
   rcases hj with (hj | hj) | hj
   ·exact hs j hj
   ·rw [Nat.one_shiftLeft, Nat.testBit_two_pow] at hj
    have : e.on = j := by simpa using hj
    subst this; exact h1
   ·exact hg _ _ hj h1
  ·exact hs j hj
theorem k4p {ops : List Oper} {L : Nat → Bool} (hc : aQ ops L) : ∀ (os pre : List Oper) (acc : List Nat), pre ++ os = ops → acc.length = pre.length → (∀ i j, (acc.getD i 0).testBit j = true → L i = true → L j = true) → ∀ i j, ((eS os acc).getD i 0).testBit j = true → L i = true → L j = true
 | [], _, _, _, _, hg => hg
 | o :: os, pre, acc, hp, hl, hg => by
  unfold eS
  refine k4p hc os (pre ++ [o]) _ (by simp [hp]) (by simp [hl]) ?_
  intro i j hj hLi
  by_cases hi : i < acc.length
  ·rw [ka8, kh0 hi, ← ka8] at hj
   exact hg i j hj hLi
  ·by_cases hi2 : i = acc.length
   ·subst hi2
    rw [ka8, kg4 (kc9 _)] at hj
    simp only [Nat.sub_self, kj0, Option.getD_some] at hj
    refine sK hg o.after.toList 0 (by simp) ?_ j hj
    intro e he hb
    exact hc acc.length o (by rw [← hp, hl]; simp) hLi e (by simpa using he) hb
   ·rw [ka8, kg4 (by omega), kh6 (by simp; omega)] at hj
    simp at hj
theorem k4o {ops : List Oper} {L : Nat → Bool} (hc : aQ ops L) {i j : Nat} (h : ((eS ops []).getD i 0).testBit j = true) (hi : L i = true) : L j = true :=
 k4p hc ops [] [] rfl rfl (by intro i j h; simp at h) i j h hi
structure Fp where
 d : List Nat
 r : List Nat
 f : List Nat
 k : List Nat
 n : List Nat
def aF (x y : List Nat) : Bool := x.any fun a => y.any fun b => a == b
theorem rC {x y : List Nat} (h : aF x y = false) {b : Nat} (h1 : b ∈ x) : b ∉ y := by
 intro h2
 have : aF x y = true := List.any_eq_true.2 ⟨b, h1, List.any_eq_true.2 ⟨b, h2, by simp⟩⟩
 rw [h] at this; cases this
def v8 (x y : Fp) : Bool := aF x.d y.r || (aF y.d x.r || (aF x.d y.d || (aF x.k y.f || (aF y.k x.f || aF x.k y.k))))
def aO (ops : List Oper) (o : Oper) (t : OT) : Fp := ⟨o.dst.toList, d8 ops o, t.foot, t.wr.map (·.1), t.news⟩
def dQ (x y : Fp) (b : Bool) : Bool := (b || !v8 x y) && !aF x.n y.n
def pY (anc : Nat) (y : Fp) : Nat → List Fp → Bool
 | _, [] => true
 | i, x :: xs => dQ x y (anc.testBit i) && pY anc y (i + 1) xs
def xE : List Nat → List Fp → List Fp → Bool
 | a :: as', y :: ys, pre => pY a y 0 pre && xE as' ys (pre ++ [y])
 | _, _, _ => true
def tM (nx nx' : Nat) (ts : List OT) : Bool := ts.all fun t => t.news.all fun b => Nat.ble nx b && Nat.blt b nx'
def fH (ops : List Oper) (ts : List OT) (nx nx' : Nat) : Bool := aZ ops && (xE (eS ops []) (kk8 (aO ops) ops ts) [] && (tM nx nx' ts && Nat.ble nx nx'))
theorem lJ {anc : Nat} {y : Fp} : ∀ (xs : List Fp) (k : Nat), pY anc y k xs = true → ∀ i x, xs[i]? = some x → dQ x y (anc.testBit (k + i)) = true
 | [], _, _, i, x, h => by simp at h
 | x0 :: xs, k, h, 0, x, hx => by simp at hx; subst hx; unfold pY at h; rw [kc0] at h; exact h.1
 | x0 :: xs, k, h, i + 1, x, hx => by unfold pY at h; rw [kc0] at h; rw [show k + (i + 1) = k + 1 + i by omega]; exact lJ xs (k + 1) h.2 i x (by simpa using hx)
theorem lK : ∀ (as' : List Nat) (ys pre : List Fp), xE as' ys pre = true → as'.length = ys.length → ∀ i j x y, i < j → (pre ++ ys)[i]? = some x → (pre ++ ys)[j]? = some y → pre.length ≤ j → dQ x y ((as'.getD (j - pre.length) 0).testBit i) = true
 | [], ys, pre, _, hl, i, j, x, y, _, _, hy, hp => by
  have : ys = [] := List.eq_nil_of_length_eq_zero hl.symm
  subst this
  rw [List.append_nil, kh6 hp] at hy; cases hy
 | a :: as', [], _, _, hl, _, _, _, _, _, _, _, _ => by simp at hl
 | a :: as', y0 :: ys, pre, h, hl, i, j, x, y, hij, hx, hy, hp => by
  unfold xE at h
  rw [kc0] at h
  by_cases hj : j = pre.length
  ·subst hj
   rw [kg4 (kc9 _)] at hy
   simp only [Nat.sub_self, kj0, Option.some.injEq] at hy
   subst hy
   rw [kh0 hij] at hx
   have := lJ pre 0 h.1 i x hx
   simpa using this
  ·have := lK as' ys (pre ++ [y0]) h.2 (by simpa using hl) i j x y hij (by simpa using hx) (by simpa using hy) (by simp; omega)
   rw [List.length_append, List.length_singleton] at this
   rw [show j - pre.length = (j - (pre.length + 1)) + 1 by omega, List.getD_cons_succ]
   exact this
theorem x2 : ∀ (os : List Oper) (acc : List Nat), (eS os acc).length = acc.length + os.length
 | [], _ => by simp [eS]
 | o :: os, acc => by unfold eS; rw [x2 os]; simp; omega
def InvR (cx : Cx) (n nx' : Nat) (ops : List Oper) (ts : List OT) (τ0 : Nat → PV) (h0 : Hp) (L : Nat → Bool) (a : Act) (w : World) : Prop :=
 ∃ ρ : Rh, Kept cx.W cx.may w ∧ HRep cx ρ w (uQ L 0 (ts.map (·.wr)) h0) ∧ (∀ t, RepPV cx.p ρ w (uQ L 0 (v3 ops ts) τ0 t) (a.tmps.getD t undef)) ∧ a.tmps.size = n ∧ a.defers = [] ∧
  (∀ i t, ts[i]? = some t → L i = false → ∀ b ∈ t.news, ρ b = none) ∧ (∀ b, nx' ≤ b → ρ b = none) ∧ (∀ b m, cx.ρ0 b = some m → ρ b = some m)
theorem k5p {a : Act} {d : Option Tmp} {v : Value} (hd : ∀ t, d = some t → t < a.tmps.size) (t : Nat) : (a.put d v).tmps.getD t undef = if d = some t then v else a.tmps.getD t undef := by
 unfold Act.put
 cases d with
 | none => simp
 | some d =>
  by_cases h : d = t
  ·subst h; have := hd d rfl; simp [Array.getD_eq_getD_getElem?, this]
  ·simp [Array.getD_eq_getD_getElem?, Array.getElem?_setIfInBounds_ne h, h]
theorem k1e {a : Act} {d : Option Tmp} {v : Value} : (a.put d v).tmps.size = a.tmps.size := by unfold Act.put; cases d <;> simp
theorem tC {a : Act} {d : Option Tmp} {v : Value} : (a.put d v).defers = a.defers := by unfold Act.put; cases d <;> simp
theorem fX (o : Oper) (u : PV) (t : Nat) : (c8 o u).lookup t = if o.dst = some t then some u else none := by
 unfold c8
 cases o.dst with
 | none => simp
 | some d =>
  by_cases h : d = t
  ·subst h; simp
  ·simp [kc5, h, show (t == d) = false by simp; exact fun e => h e.symm]
theorem nO {o : Oper} {u : PV} {t : Nat} : v5 (c8 o u) t = true ↔ o.dst = some t := by
 unfold v5; rw [fX]; by_cases h : o.dst = some t <;> simp [h]
theorem nN {X : Type} {wr : List (Nat × X)} {b : Nat} (h : v5 wr b = true) : b ∈ wr.map (·.1) := by
 unfold v5 at h
 induction wr with
 | nil => simp at h
 | cons x wr ih =>
  rw [kc5] at h
  by_cases hx : b == x.1
  ·simp at hx; simp [hx]
  ·simp only [hx] at h; exact List.mem_map.2 (by obtain ⟨y, h1, h2⟩ := List.mem_map.1 (ih h); exact ⟨y, kb8 _ h1, h2⟩)
end Go.Proofs.Ytalbpleglapihaa
