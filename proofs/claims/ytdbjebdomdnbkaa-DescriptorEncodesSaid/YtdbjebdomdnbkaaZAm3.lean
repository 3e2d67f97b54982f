/- Merged texts. -/
import Derived.Test.YtdbjebdomdnbkaaZAm1
namespace Go.Proofs.Ytdbjebdomdnbkaa
open Go.ChangeShapes Go.WideShapes Go.ChangeAt Go.RowKit
set_option linter.unusedVariables false
set_option linter.unusedSimpArgs false
structure OT where
 u : PV
 wr : List (Nat × Option Bk)
 news : List Nat
 foot : List Nat
def fG (o : Oper) (u : PV) : List (Nat × PV) := match o.dst with
 | some d => [(d, u)]
 | none => []
def pH (xs : Array Operand) : List Nat := xs.toList.filterMap fun | .tmp t => some t | _ => none
def gG (ops : List Oper) (o : Oper) : List Nat := pH o.op.operands ++ match o.guard with
 | some (g, _) => (match ops[g]? with | some og => og.dst.toList | none => [])
 | none => []
def OpOK (cx : Cx) (o : Oper) (τ : Nat → PV) (h : Hp) (t : OT) : Prop :=
 ∀ (Q : Exit → Act → World → Prop) (ρ : Rh) (a : Act) (w : World) (hL : Hp), ((∀ x ∈ pH o.op.operands, RepPV cx.p ρ w (τ x) (a.tmps.getD x undef)) ∧ GlOK cx.p w) → (∀ b ∈ t.foot, hL b = h b) → (∀ b ∈ t.news, ρ b = none) → HRep cx ρ w hL → Kept cx.W cx.may w → a.defers = [] →
  ∀ K : Act → World → Prop, (∀ v w' ρ', Goes cx.p ρ ρ' w w' → (∀ b, b ∉ t.news → ρ b = none → ρ' b = none) → HRep cx ρ' w' (fun b => (t.wr.lookup b).getD (hL b)) → Kept cx.W cx.may w' → RepPV cx.p ρ' w' t.u v → K (a.put o.dst v) w') → o.wp Try.prog a w K Q
def StepO (cx : Cx) (ops : List Oper) (o : Oper) (l : List (Nat × PV)) (g : List (Nat × Option Bk)) (t : OT) : Prop :=
 match o.guard with
 | none => OpOK cx o (S l) (S g) t
 | some (gi, b) => ∃ (dg : Nat) (og : Oper), ops[gi]? = some og ∧ og.dst = some dg ∧ ((∃ b' : Bool, S l dg = .e (.c (.d (.lit (.bool b')))) ∧ if b' = b then OpOK cx o (S l) (S g) t else t.u = .tup [] ∧ t.wr = [] ∧ t.news = []) ∨ (S l dg = .tup [] ∧ t.u = .tup [] ∧ t.wr = [] ∧ t.news = []))
inductive Steps (cx : Cx) (ops : List Oper) : List Oper → List OT → List (Nat × PV) → List (Nat × Option Bk) → List (Nat × PV) → List (Nat × Option Bk) → Prop where
 | nil (l : List (Nat × PV)) (g : List (Nat × Option Bk)) : Steps cx ops [] [] l g l g
 | cons {o : Oper} {os : List Oper} {t : OT} {ts : List OT} {l lf : List (Nat × PV)} {g gf : List (Nat × Option Bk)} (h : StepO cx ops o l g t) (hs : Steps cx ops os ts (fG o t.u ++ l) (t.wr ++ g) lf gf) : Steps cx ops (o :: os) (t :: ts) l g lf gf
def bF (os : List Oper) (ts : List OT) : List (List (Nat × PV)) := List.zipWith (fun o t => fG o t.u) os ts
theorem Steps.len {cx : Cx} {ops os : List Oper} {ts : List OT} {l lf : List (Nat × PV)} {g gf : List (Nat × Option Bk)} (h : Steps cx ops os ts l g lf gf) : os.length = ts.length := by
 induction h with
 | nil => rfl
 | cons _ _ ih => simp [ih]
theorem dC {X : Type} {L : Nat → Bool} : ∀ (l : List (List (Nat × X))) (k : Nat) (f : Nat → X), (∀ j, k ≤ j → L j = false) → u6 L k l f = f
 | [], _, _, _ => rfl
 | wr :: l, k, f, h => by
  unfold u6
  rw [h k (Nat.le_refl k)]
  exact dC l (k + 1) _ (fun j hj => h j (by omega))
theorem Steps.get {cx : Cx} {ops os : List Oper} {ts : List OT} {l lf : List (Nat × PV)} {g gf : List (Nat × Option Bk)} (h : Steps cx ops os ts l g lf gf) : ∀ (k i : Nat) (o : Oper) (t : OT), os[i]? = some o → ts[i]? = some t →
  ∃ l' g', StepO cx ops o l' g' t ∧ S l' = u6 (fun j => decide (j < k + i)) k (bF os ts) (S l) ∧ S g' = u6 (fun j => decide (j < k + i)) k (ts.map (·.wr)) (S g) := by
 induction h with
 | nil => intro k i o t ho; simp at ho
 | @cons o0 os t0 ts l lf g gf h0 hs ih =>
  intro k i o t ho ht
  cases i with
  | zero =>
   simp at ho ht; subst ho; subst ht
   refine ⟨l, g, h0, ?_, ?_⟩
   ·rw [dC]; intro j hj; simp; omega
   ·rw [dC]; intro j hj; simp; omega
  | succ i =>
   obtain ⟨l', g', h1, h2, h3⟩ := ih (k + 1) i o t (by simpa using ho) (by simpa using ht)
   refine ⟨l', g', h1, ?_, ?_⟩
   ·rw [h2]
    show _ = u6 _ k (fG o0 t0.u :: bF os ts) _
    conv => rhs; unfold u6
    rw [show k + 1 + i = k + (i + 1) by omega, if_pos (by simp), k11]
   ·rw [h3, List.map_cons]
    conv => rhs; unfold u6
    rw [show k + 1 + i = k + (i + 1) by omega, if_pos (by simp), k11]
theorem Steps.final {cx : Cx} {ops os : List Oper} {ts : List OT} {l lf : List (Nat × PV)} {g gf : List (Nat × Option Bk)} (h : Steps cx ops os ts l g lf gf) : ∀ (k : Nat) (L : Nat → Bool), (∀ j, k ≤ j → j < k + os.length → L j = true) → S lf = u6 L k (bF os ts) (S l) ∧ S gf = u6 L k (ts.map (·.wr)) (S g) := by
 induction h with
 | nil => intro k L _; exact ⟨rfl, rfl⟩
 | @cons o0 os t0 ts l lf g gf h0 hs ih =>
  intro k L hL
  obtain ⟨h1, h2⟩ := ih (k + 1) L (fun j h1 h2 => hL j (by omega) (by simp; omega))
  have h3 := hL k (Nat.le_refl k) (by simp)
  refine ⟨?_, ?_⟩
  ·rw [h1]
   show _ = u6 _ k (fG o0 t0.u :: bF os ts) _
   conv => rhs; unfold u6
   rw [if_pos h3, k11]
  ·rw [h2, List.map_cons]
   conv => rhs; unfold u6
   rw [if_pos h3, k11]
def gY : List Oper → List Nat → List Nat
 | [], acc => acc
 | o :: os, acc => gY os (acc ++ [o.after.toList.foldl (fun s e => if Region.binds .any e = true then s ||| (1 <<< e.on) ||| acc.getD e.on 0 else s) 0])
theorem wI {L : Nat → Bool} {acc : List Nat} (hg : ∀ i j, (acc.getD i 0).testBit j = true → L i = true → L j = true) : ∀ (es : List Edge) (s : Nat), (∀ j, s.testBit j = true → L j = true) → (∀ e ∈ es, Region.binds .any e = true → L e.on = true) →
  ∀ j, (es.foldl (fun s e => if Region.binds .any e = true then s ||| (1 <<< e.on) ||| acc.getD e.on 0 else s) s).testBit j = true → L j = true
 | [], s, hs, _, j, hj => hs j hj
 | e :: es, s, hs, he, j, hj => by
  rw [List.foldl_cons] at hj
  refine wI hg es _ ?_ (fun e' he' => he e' (List.mem_cons_of_mem _ he')) j hj
  intro j hj
  split at hj
  ·rename_i hb
   have h1 := he e (List.mem_cons_self ..) hb
   rw [Nat.testBit_or, Nat.testBit_or, Bool.or_eq_true, Bool.or_eq_true] at hj
   rcases hj with (hj | hj) | hj
   ·exact hs j hj
   ·rw [Nat.one_shiftLeft, Nat.testBit_two_pow] at hj
    have : e.on = j := by simpa using hj
    subst this; exact h1
   ·exact hg _ _ hj h1
  ·exact hs j hj
theorem k6h {ops : List Oper} {L : Nat → Bool} (hc : cI ops L) : ∀ (os pre : List Oper) (acc : List Nat), pre ++ os = ops → acc.length = pre.length → (∀ i j, (acc.getD i 0).testBit j = true → L i = true → L j = true) → ∀ i j, ((gY os acc).getD i 0).testBit j = true → L i = true → L j = true
 | [], _, _, _, _, hg => hg
 | o :: os, pre, acc, hp, hl, hg => by
  unfold gY
  refine k6h hc os (pre ++ [o]) _ (by simp [hp]) (by simp [hl]) ?_
  intro i j hj hLi
  by_cases hi : i < acc.length
  ·rw [List.getD_eq_getElem?_getD, List.getElem?_append_left hi, ← List.getD_eq_getElem?_getD] at hj
   exact hg i j hj hLi
  ·by_cases hi2 : i = acc.length
   ·subst hi2
    rw [List.getD_eq_getElem?_getD, List.getElem?_append_right (Nat.le_refl _)] at hj
    simp only [Nat.sub_self, List.getElem?_cons_zero, Option.getD_some] at hj
    refine wI hg o.after.toList 0 (by simp) ?_ j hj
    intro e he hb
    exact hc acc.length o (by rw [← hp, hl]; simp) hLi e (by simpa using he) hb
   ·rw [List.getD_eq_getElem?_getD, List.getElem?_append_right (by omega), List.getElem?_eq_none (by simp; omega)] at hj
    simp at hj
theorem k6g {ops : List Oper} {L : Nat → Bool} (hc : cI ops L) {i j : Nat} (h : ((gY ops []).getD i 0).testBit j = true) (hi : L i = true) : L j = true :=
 k6h hc ops [] [] rfl rfl (by intro i j h; simp at h) i j h hi
structure Fp where
 d : List Nat
 r : List Nat
 f : List Nat
 k : List Nat
 n : List Nat
def bX (x y : List Nat) : Bool := x.any fun a => y.any fun b => a == b
theorem tR {x y : List Nat} (h : bX x y = false) {b : Nat} (h1 : b ∈ x) : b ∉ y := by
 intro h2
 have : bX x y = true := List.any_eq_true.2 ⟨b, h1, List.any_eq_true.2 ⟨b, h2, by simp⟩⟩
 rw [h] at this; cases this
def bN (x y : Fp) : Bool := bX x.d y.r || (bX y.d x.r || (bX x.d y.d || (bX x.k y.f || (bX y.k x.f || bX x.k y.k))))
def cF (ops : List Oper) (o : Oper) (t : OT) : Fp := ⟨o.dst.toList, gG ops o, t.foot, t.wr.map (·.1), t.news⟩
def fW (x y : Fp) (b : Bool) : Bool := (b || !bN x y) && !bX x.n y.n
def tM (anc : Nat) (y : Fp) : Nat → List Fp → Bool
 | _, [] => true
 | i, x :: xs => fW x y (anc.testBit i) && tM anc y (i + 1) xs
def k0a : List Nat → List Fp → List Fp → Bool
 | a :: as', y :: ys, pre => tM a y 0 pre && k0a as' ys (pre ++ [y])
 | _, _, _ => true
def xL (nx nx' : Nat) (ts : List OT) : Bool := ts.all fun t => t.news.all fun b => Nat.ble nx b && Nat.blt b nx'
def iN (ops : List Oper) (ts : List OT) (nx nx' : Nat) : Bool := cU ops && (k0a (gY ops []) (List.zipWith (cF ops) ops ts) [] && (xL nx nx' ts && Nat.ble nx nx'))
theorem nY {anc : Nat} {y : Fp} : ∀ (xs : List Fp) (k : Nat), tM anc y k xs = true → ∀ i x, xs[i]? = some x → fW x y (anc.testBit (k + i)) = true
 | [], _, _, i, x, h => by simp at h
 | x0 :: xs, k, h, 0, x, hx => by simp at hx; subst hx; unfold tM at h; rw [Bool.and_eq_true] at h; exact h.1
 | x0 :: xs, k, h, i + 1, x, hx => by unfold tM at h; rw [Bool.and_eq_true] at h; rw [show k + (i + 1) = k + 1 + i by omega]; exact nY xs (k + 1) h.2 i x (by simpa using hx)
theorem nZ : ∀ (as' : List Nat) (ys pre : List Fp), k0a as' ys pre = true → as'.length = ys.length → ∀ i j x y, i < j → (pre ++ ys)[i]? = some x → (pre ++ ys)[j]? = some y → pre.length ≤ j → fW x y ((as'.getD (j - pre.length) 0).testBit i) = true
 | [], ys, pre, _, hl, i, j, x, y, _, _, hy, hp => by
  have : ys = [] := List.eq_nil_of_length_eq_zero hl.symm
  subst this
  rw [List.append_nil, List.getElem?_eq_none hp] at hy; cases hy
 | a :: as', [], _, _, hl, _, _, _, _, _, _, _, _ => by simp at hl
 | a :: as', y0 :: ys, pre, h, hl, i, j, x, y, hij, hx, hy, hp => by
  unfold k0a at h
  rw [Bool.and_eq_true] at h
  by_cases hj : j = pre.length
  ·subst hj
   rw [List.getElem?_append_right (Nat.le_refl _)] at hy
   simp only [Nat.sub_self, List.getElem?_cons_zero, Option.some.injEq] at hy
   subst hy
   rw [List.getElem?_append_left hij] at hx
   have := nY pre 0 h.1 i x hx
   simpa using this
  ·have := nZ as' ys (pre ++ [y0]) h.2 (by simpa using hl) i j x y hij (by simpa using hx) (by simpa using hy) (by simp; omega)
   rw [List.length_append, List.length_singleton] at this
   rw [show j - pre.length = (j - (pre.length + 1)) + 1 by omega, List.getD_cons_succ]
   exact this
theorem k0x : ∀ (os : List Oper) (acc : List Nat), (gY os acc).length = acc.length + os.length
 | [], _ => by simp [gY]
 | o :: os, acc => by unfold gY; rw [k0x os]; simp; omega
def InvR (cx : Cx) (n nx' : Nat) (ops : List Oper) (ts : List OT) (τ0 : Nat → PV) (h0 : Hp) (L : Nat → Bool) (a : Act) (w : World) : Prop :=
 ∃ ρ : Rh, Kept cx.W cx.may w ∧ HRep cx ρ w (u6 L 0 (ts.map (·.wr)) h0) ∧ (∀ t, RepPV cx.p ρ w (u6 L 0 (bF ops ts) τ0 t) (a.tmps.getD t undef)) ∧ a.tmps.size = n ∧ a.defers = [] ∧
  (∀ i t, ts[i]? = some t → L i = false → ∀ b ∈ t.news, ρ b = none) ∧ (∀ b, nx' ≤ b → ρ b = none) ∧ (∀ b m, cx.ρ0 b = some m → ρ b = some m)
theorem k7l {a : Act} {d : Option Tmp} {v : Value} (hd : ∀ t, d = some t → t < a.tmps.size) (t : Nat) : (a.put d v).tmps.getD t undef = if d = some t then v else a.tmps.getD t undef := by
 unfold Act.put
 cases d with
 | none => simp
 | some d =>
  by_cases h : d = t
  ·subst h; have := hd d rfl; simp [Array.getD_eq_getD_getElem?, this]
  ·simp [Array.getD_eq_getD_getElem?, Array.getElem?_setIfInBounds_ne h, h]
theorem k38 {a : Act} {d : Option Tmp} {v : Value} : (a.put d v).tmps.size = a.tmps.size := by unfold Act.put; cases d <;> simp
theorem xB {a : Act} {d : Option Tmp} {v : Value} : (a.put d v).defers = a.defers := by unfold Act.put; cases d <;> simp
theorem jA (o : Oper) (u : PV) (t : Nat) : (fG o u).lookup t = if o.dst = some t then some u else none := by
 unfold fG
 cases o.dst with
 | none => simp
 | some d =>
  by_cases h : d = t
  ·subst h; simp
  ·simp [List.lookup_cons, h, show (t == d) = false by simp; exact fun e => h e.symm]
theorem rH {o : Oper} {u : PV} {t : Nat} : bM (fG o u) t = true ↔ o.dst = some t := by
 unfold bM; rw [jA]; by_cases h : o.dst = some t <;> simp [h]
theorem rF {X : Type} {wr : List (Nat × X)} {b : Nat} (h : bM wr b = true) : b ∈ wr.map (·.1) := by
 unfold bM at h
 induction wr with
 | nil => simp at h
 | cons x wr ih =>
  rw [List.lookup_cons] at h
  by_cases hx : b == x.1
  ·simp at hx; simp [hx]
  ·simp only [hx] at h; exact List.mem_map.2 (by obtain ⟨y, h1, h2⟩ := List.mem_map.1 (ih h); exact ⟨y, List.mem_cons_of_mem _ h1, h2⟩)
end Go.Proofs.Ytdbjebdomdnbkaa
namespace Go.Proofs.Ytdbjebdomdnbkaa
open Go.ChangeShapes Go.WideShapes Go.ChangeAt Go.RowKit
set_option linter.unusedVariables false
set_option linter.unusedSimpArgs false
theorem fV {os : List Oper} {ts : List OT} {j : Nat} {wr : List (Nat × PV)} (h : (bF os ts)[j]? = some wr) : ∃ o t, os[j]? = some o ∧ ts[j]? = some t ∧ wr = fG o t.u := by
  unfold bF at h
  rw [List.getElem?_zipWith] at h
  cases ho : os[j]? with
  | none => simp [ho] at h
  | some o =>
    cases ht : ts[j]? with
    | none => simp [ho, ht] at h
    | some t => simp [ho, ht] at h; exact ⟨o, t, rfl, rfl, h.symm⟩
theorem o8 {ts : List OT} {j : Nat} {wr : List (Nat × Option Bk)} (h : (ts.map (·.wr))[j]? = some wr) : ∃ t, ts[j]? = some t ∧ wr = t.wr := by
  rw [List.getElem?_map] at h
  cases ht : ts[j]? with
  | none => simp [ht] at h
  | some t => simp [ht] at h; exact ⟨t, rfl, h.symm⟩
theorem cP {x y : List Nat} {b : Nat} (h1 : b ∈ x) (h2 : b ∈ y) : bX x y = true := List.any_eq_true.2 ⟨b, h1, List.any_eq_true.2 ⟨b, h2, by simp⟩⟩
theorem u1i {ops : List Oper} {ts : List OT} {nx nx' : Nat} (hc : iN ops ts nx nx' = true) (hlen : ops.length = ts.length) {L : Nat → Bool} {i : Nat} {o : Oper} {t : OT} (ho : ops[i]? = some o) (ht : ts[i]? = some t) (hLi : L i = false)
    (hcl : cI ops L) (hcl' : cI ops (fun j => if j = i then true else L j)) {j : Nat} {oj : Oper} {tj : OT} (hoj : ops[j]? = some oj) (htj : ts[j]? = some tj) (hji : j ≠ i) :
    ((bN (cF ops oj tj) (cF ops o t) = true ∧ j < i) ∨ (bN (cF ops o t) (cF ops oj tj) = true ∧ i < j) → L j = decide (j < i)) ∧ bX (cF ops oj tj).n (cF ops o t).n = false ∨ False := by
  unfold iN at hc
  rw [Bool.and_eq_true, Bool.and_eq_true] at hc
  have hall := hc.2.1
  have hfp : ∀ (k : Nat) (ok : Oper) (tk : OT), ops[k]? = some ok → ts[k]? = some tk → (List.zipWith (cF ops) ops ts)[k]? = some (cF ops ok tk) := by
    intro k ok tk h1 h2; rw [List.getElem?_zipWith, h1, h2]
  have hget := fun x y p q (h : p < q) hx hy => nZ (gY ops []) (List.zipWith (cF ops) ops ts) [] hall (by rw [k0x, List.length_zipWith, ← hlen]; simp) p q x y h (by simpa using hx) (by simpa using hy) (by simp)
  left
  refine ⟨?_, ?_⟩
  · rintro (⟨hx, hlt⟩ | ⟨hx, hlt⟩)
    · have h1 := hget _ _ j i hlt (hfp j oj tj hoj htj) (hfp i o t ho ht)
      unfold fW at h1
      simp only [hx, Bool.not_true, Bool.or_false, Bool.and_eq_true, List.length_nil, Nat.sub_zero] at h1
      have h2 := k6g hcl' h1.1 (by simp)
      simp only [hji, if_false] at h2
      simp [h2, hlt]
    · have h1 := hget _ _ i j hlt (hfp i o t ho ht) (hfp j oj tj hoj htj)
      unfold fW at h1
      simp only [hx, Bool.not_true, Bool.or_false, Bool.and_eq_true, List.length_nil, Nat.sub_zero] at h1
      cases hLj : L j with
      | false => simp; omega
      | true => have := k6g hcl h1.1 hLj; rw [hLi] at this; cases this
  · rcases Nat.lt_or_gt_of_ne hji with hlt | hlt
    · have h1 := hget _ _ j i hlt (hfp j oj tj hoj htj) (hfp i o t ho ht)
      unfold fW at h1
      rw [Bool.and_eq_true] at h1
      simpa using h1.2
    · have h1 := hget _ _ i j hlt (hfp i o t ho ht) (hfp j oj tj hoj htj)
      unfold fW at h1
      rw [Bool.and_eq_true] at h1
      have h2 : bX (cF ops o t).n (cF ops oj tj).n = false := by simpa using h1.2
      cases h3 : bX (cF ops oj tj).n (cF ops o t).n with
      | false => rfl
      | true =>
        unfold bX at h3
        obtain ⟨b, h4, h5⟩ := List.any_eq_true.1 h3
        obtain ⟨c, h6, h7⟩ := List.any_eq_true.1 h5
        have h7 : b = c := by simpa using h7
        subst h7
        exact absurd h4 (tR h2 h6)
theorem k2b {x y : Fp} {b : Nat} (h1 : b ∈ x.d) (h2 : b ∈ y.r) : bN x y = true := by unfold bN; rw [cP h1 h2]; rfl
theorem k27 {x y : Fp} {b : Nat} (h1 : b ∈ x.r) (h2 : b ∈ y.d) : bN x y = true := by unfold bN; rw [cP h2 h1]; simp
theorem k2c {x y : Fp} {b : Nat} (h1 : b ∈ x.d) (h2 : b ∈ y.d) : bN x y = true := by unfold bN; rw [cP h1 h2]; simp
theorem k29 {x y : Fp} {b : Nat} (h1 : b ∈ x.k) (h2 : b ∈ y.f) : bN x y = true := by unfold bN; rw [cP h1 h2]; simp
theorem k2a {x y : Fp} {b : Nat} (h1 : b ∈ x.f) (h2 : b ∈ y.k) : bN x y = true := by unfold bN; rw [cP h2 h1]; simp
theorem k28 {x y : Fp} {b : Nat} (h1 : b ∈ x.k) (h2 : b ∈ y.k) : bN x y = true := by unfold bN; rw [cP h1 h2]; simp
theorem k32 {p : Nat → Prop} {ρ : Rh} {w : World} {v : Value} {b : Bool} (h : RepPV p ρ w (.e (.c (.d (.lit (.bool b))))) v) : v = .bool b := by
  cases h with
  | d h => cases h; rfl
theorem t4 {cx : Cx} {n nx nx' : Nat} {ops : List Oper} {ts : List OT} {l lf : List (Nat × PV)} {g gf : List (Nat × Option Bk)} (hs : Steps cx ops ops ts l g lf gf) (hc : iN ops ts nx nx' = true) (hd : ∀ o ∈ ops, ∀ t, o.dst = some t → t < n)
    {L : Nat → Bool} {i : Nat} {o : Oper} (ho : ops[i]? = some o) (hLi : L i = false) (hcl : cI ops L) (hcl' : cI ops (fun j => if j = i then true else L j)) {a : Act} {w : World} (hI : InvR cx n nx' ops ts (S l) (S g) L a w)
    {Q : Exit → Act → World → Prop} {K : Act → World → Prop} (hK : ∀ a' w', InvR cx n nx' ops ts (S l) (S g) (fun j => if j = i then true else L j) a' w' → K a' w') : wpOp Try.prog ops.toArray Q i K a w := by
  have hlen := hs.len
  have hil : i < ops.length := (List.getElem?_eq_some_iff.1 ho).1
  obtain ⟨t, ht⟩ : ∃ t, ts[i]? = some t := ⟨ts[i], List.getElem?_eq_getElem (by omega)⟩
  obtain ⟨l', g', hstep, hl', hg'⟩ := hs.get 0 i o t ho ht
  rw [Nat.zero_add] at hl' hg'
  obtain ⟨ρ, hKept, hH, hS, hsz, hdf, hnews, hfar, hρ0⟩ := hI
  have hom : o ∈ ops := List.mem_of_getElem? ho
  have hdt : ∀ x, o.dst = some x → x < a.tmps.size := fun x hx => by rw [hsz]; exact hd o hom x hx
  have hrel := fun j oj tj h1 h2 h3 => (u1i hc hlen ho ht hLi hcl hcl' (j := j) (oj := oj) (tj := tj) h1 h2 h3).resolve_right id
  have hread : ∀ x, x ∈ gG ops o → u6 L 0 (bF ops ts) (S l) x = S l' x := by
    intro x hx
    rw [hl']
    refine vY _ 0 _ _ rfl ?_
    intro j wr hj hk
    rw [Nat.zero_add]
    obtain ⟨oj, tj, h1, h2, rfl⟩ := fV hj
    rw [rH] at hk
    by_cases hji : j = i
    · subst hji; simp [hLi]
    · have hxd : x ∈ (cF ops oj tj).d := by simp [cF, hk]
      have hxr : x ∈ (cF ops o t).r := hx
      refine (hrel j oj tj h1 h2 hji).1 ?_
      rcases Nat.lt_or_gt_of_ne hji with hlt | hlt
      · exact .inl ⟨k2b hxd hxr, hlt⟩
      · exact .inr ⟨k27 hxr hxd, hlt⟩
  have hfoot : ∀ b, b ∈ t.foot → u6 L 0 (ts.map (·.wr)) (S g) b = S g' b := by
    intro b hb
    rw [hg']
    refine vY _ 0 _ _ rfl ?_
    intro j wr hj hk
    rw [Nat.zero_add]
    obtain ⟨tj, h2, rfl⟩ := o8 hj
    obtain ⟨oj, h1⟩ : ∃ oj, ops[j]? = some oj := ⟨ops[j]'(by have := (List.getElem?_eq_some_iff.1 h2).1; omega), List.getElem?_eq_getElem _⟩
    by_cases hji : j = i
    · subst hji; simp [hLi]
    · have hxd : b ∈ (cF ops oj tj).k := rF hk
      have hxr : b ∈ (cF ops o t).f := hb
      refine (hrel j oj tj h1 h2 hji).1 ?_
      rcases Nat.lt_or_gt_of_ne hji with hlt | hlt
      · exact .inl ⟨k29 hxd hxr, hlt⟩
      · exact .inr ⟨k2a hxr hxd, hlt⟩
  have hnext : ∀ (u : PV) (v : Value) (w' : World) (ρ' : Rh), u = t.u → Goes cx.p ρ ρ' w w' → (∀ b, b ∉ t.news → ρ b = none → ρ' b = none) → HRep cx ρ' w' (fun b => (t.wr.lookup b).getD (u6 L 0 (ts.map (·.wr)) (S g) b)) → Kept cx.W cx.may w' → RepPV cx.p ρ' w' u v → K (a.put o.dst v) w' := by
    intro u v w' ρ' hu hgo hno hh hk hv
    subst hu
    refine hK _ _ ⟨ρ', hk, ?_, ?_, by rw [k38]; exact hsz, by rw [xB]; exact hdf, ?_, ?_, fun b m h => hgo.ext _ _ (hρ0 b m h)⟩
    · have e : u6 (fun j => if j = i then true else L j) 0 (ts.map (·.wr)) (S g) = fun b => (t.wr.lookup b).getD (u6 L 0 (ts.map (·.wr)) (S g) b) := by
        funext b
        cases hlk : t.wr.lookup b with
        | none =>
          refine vY _ 0 _ _ rfl ?_
          intro j wr hj hk
          rw [Nat.zero_add]
          obtain ⟨tj, h2, rfl⟩ := o8 hj
          by_cases hji : j = i
          · subst hji; rw [ht] at h2; cases h2; unfold bM at hk; rw [hlk] at hk; cases hk
          · simp [hji]
        | some x =>
          refine fX _ 0 _ i t.wr (by rw [List.getElem?_map, ht]; rfl) hlk (by simp) ?_
          intro j wr hij hj hk
          rw [Nat.zero_add]
          obtain ⟨tj, h2, rfl⟩ := o8 hj
          obtain ⟨oj, h1⟩ : ∃ oj, ops[j]? = some oj := ⟨ops[j]'(by have := (List.getElem?_eq_some_iff.1 h2).1; omega), List.getElem?_eq_getElem _⟩
          have hji : j ≠ i := by omega
          have := (hrel j oj tj h1 h2 hji).1 (.inr ⟨k28 (rF (show bM t.wr b = true by unfold bM; rw [hlk]; rfl)) (rF hk), hij⟩)
          simp only [hji, if_false, this]
          simp; omega
      rw [e]; exact hh
    · intro x
      rw [k7l hdt]
      by_cases hx : o.dst = some x
      · rw [if_pos hx, fX (bF ops ts) 0 (S l) i (fG o t.u) (x := t.u) (by unfold bF; rw [List.getElem?_zipWith, ho, ht]) (by rw [jA, if_pos hx]) (by simp)]
        · exact hv
        · intro j wr hij hj hk
          rw [Nat.zero_add]
          obtain ⟨oj, tj, h1, h2, rfl⟩ := fV hj
          rw [rH] at hk
          have hji : j ≠ i := by omega
          have := (hrel j oj tj h1 h2 hji).1 (.inr ⟨k2c (b := x) (by simp [cF, hx]) (by simp [cF, hk]), hij⟩)
          simp only [hji, if_false, this]
          simp; omega
      · rw [if_neg hx]
        rw [vY (L' := L) (f' := S l) (bF ops ts) 0 _ rfl]
        · exact (hS x).mono hgo
        · intro j wr hj hk
          obtain ⟨oj, tj, h1, h2, rfl⟩ := fV hj
          rw [rH] at hk
          rw [Nat.zero_add]
          by_cases hji : j = i
          · subst hji; rw [ho] at h1; cases h1; exact absurd hk hx
          · simp [hji]
    · intro j tj h2 hL b hb
      by_cases hji : j = i
      · subst hji; simp at hL
      · simp only [hji, if_false] at hL
        obtain ⟨oj, h1⟩ : ∃ oj, ops[j]? = some oj := ⟨ops[j]'(by have := (List.getElem?_eq_some_iff.1 h2).1; omega), List.getElem?_eq_getElem _⟩
        have hm := (hrel j oj tj h1 h2 hji).2
        exact hno b (tR (x := tj.news) (y := t.news) hm hb) (hnews j tj h2 hL b hb)
    · intro b hb
      refine hno b (fun hbn => ?_) (hfar b hb)
      unfold iN xL at hc
      simp only [Bool.and_eq_true, List.all_eq_true] at hc
      have := (hc.2.2.1 t (List.mem_of_getElem? ht) b hbn).2
      have : b < nx' := Nat.le_of_ble_eq_true this
      omega
  have hdo : OpOK cx o (S l') (S g') t → o.wp Try.prog a w K Q := by
    intro hop
    refine hop Q ρ a w _ ⟨fun x hx => ?_, cx.glo hKept⟩ hfoot (fun b hb => hnews i t ht hLi b hb) hH hKept hdf K (fun v w' ρ' h1 h2 h3 h4 h5 => hnext t.u v w' ρ' rfl h1 h2 h3 h4 h5)
    rw [← hread x (by unfold gG; exact List.mem_append_left _ hx)]
    exact hS x
  unfold wpOp
  rw [List.getElem?_toArray, ho]
  simp only
  unfold StepO at hstep
  cases hgd : o.guard with
  | none =>
    rw [hgd] at hstep
    rw [if_pos (by unfold Region.wanted; rw [hgd])]
    exact .inl (hdo hstep)
  | some gb =>
    obtain ⟨gi, b⟩ := gb
    rw [hgd] at hstep
    obtain ⟨dg, og, hog, hodg, hcase⟩ := hstep
    have hx : dg ∈ gG ops o := by unfold gG; rw [hgd]; simp [hog, hodg]
    have hr := hS dg
    have hskip : t.u = .tup [] ∧ t.wr = [] ∧ t.news = [] → K (a.put o.dst undef) w := by
      intro hif
      refine hnext (.tup []) undef w ρ hif.1.symm (Goes.refl _ _ _) (fun _ _ h => h) ?_ hKept ⟨[], rfl, trivial⟩
      rw [hif.2.1]
      exact hH
    rcases hcase with ⟨b', hval, hif⟩ | ⟨hval, hif⟩
    · rw [hread dg hx, hval] at hr
      have hr' : a.tmps.getD dg undef = .bool b' := k32 hr
      have hy : yielded ops.toArray a.tmps gi = some b' := by
        refine lC hog hodg (by rw [hsz]; exact hd og (List.mem_of_getElem? hog) dg hodg) (fun c hc => ?_) (fun h => by cases h)
        cases hc
        unfold eF; rw [hodg]; exact hr'
      have hw : Region.wanted o (yielded ops.toArray a.tmps) = (b' == b) := by
        unfold Region.wanted; rw [hgd]; simp only [hy]; rfl
      rw [hw]
      by_cases hbb : b' = b
      · rw [if_pos hbb] at hif
        rw [if_pos (by simp [hbb])]
        exact .inl (hdo hif)
      · rw [if_neg hbb] at hif
        rw [if_neg (by simp [hbb])]
        exact hskip hif
    · rw [hread dg hx, hval] at hr
      have hr' : a.tmps.getD dg undef = undef := by
        obtain ⟨us, h1, h2⟩ := hr
        cases us with
        | nil => exact h1
        | cons _ _ => cases h2
      have hy : yielded ops.toArray a.tmps gi = none := by
        refine lC hog hodg (by rw [hsz]; exact hd og (List.mem_of_getElem? hog) dg hodg) (fun c hc => by cases hc) (fun _ c h => ?_)
        unfold eF at h; rw [hodg] at h
        have h : a.tmps.getD dg undef = .bool c := h
        rw [hr'] at h
        cases h
      have hw : Region.wanted o (yielded ops.toArray a.tmps) = false := by
        unfold Region.wanted; rw [hgd]; simp only [hy]; rfl
      rw [hw, if_neg (by simp)]
      exact hskip hif
def Mod (cx : Cx) (n : Nat) (l : List (Nat × PV)) (g : List (Nat × Option Bk)) (nx : Nat) (a : Act) (w : World) : Prop :=
  ∃ ρ : Rh, Kept cx.W cx.may w ∧ HRep cx ρ w (S g) ∧ (∀ t, RepPV cx.p ρ w (S l t) (a.tmps.getD t undef)) ∧ a.tmps.size = n ∧ a.defers = [] ∧ (∀ b, nx ≤ b → ρ b = none) ∧ (∀ b m, cx.ρ0 b = some m → ρ b = some m)
theorem Mod.inv {cx : Cx} {n nx nx' : Nat} {ops : List Oper} {ts : List OT} {l : List (Nat × PV)} {g : List (Nat × Option Bk)} (hc : iN ops ts nx nx' = true) {a : Act} {w : World} (h : Mod cx n l g nx a w) : InvR cx n nx' ops ts (S l) (S g) (fun _ => false) a w := by
  obtain ⟨ρ, h1, h2, h3, h4, h5, h6, h9⟩ := h
  have e1 : ∀ {X : Type} (k : Nat) (l : List (List (Nat × X))) (f : Nat → X), u6 (fun _ => false) k l f = f := fun k l f => dC l k f (fun _ _ => rfl)
  unfold iN xL at hc
  simp only [Bool.and_eq_true, List.all_eq_true] at hc
  have hle : nx ≤ nx' := Nat.le_of_ble_eq_true hc.2.2.2
  refine ⟨ρ, h1, by rw [e1]; exact h2, fun t => by rw [e1]; exact h3 t, h4, h5, fun i t ht _ b hb => h6 b (Nat.le_of_ble_eq_true (hc.2.2.1 t (List.mem_of_getElem? ht) b hb).1), fun b hb => h6 b (by omega), h9⟩
theorem Mod.drew {cx : Cx} {n nx : Nat} {l : List (Nat × PV)} {g : List (Nat × Option Bk)} {a : Act} {w : World} (h : Mod cx n l g nx a w) : Mod cx n l g nx a w.drew := by
  obtain ⟨ρ, h1, h2, h3, h4, h5, h6, h9⟩ := h
  have hgo : Goes cx.p ρ ρ w w.drew := ⟨fun _ _ h => h, fun _ h => h, Nat.le_refl _, fun _ _ _ => rfl⟩
  exact ⟨ρ, ⟨h1.os, h1.tape, h1.output, h1.size, h1.block⟩, h2.step hgo (fun b T cs hb => .inl ⟨hb, fun _ _ _ => rfl⟩), fun t => (h3 t).mono hgo, h4, h5, h6, h9⟩
theorem InvR.mod {cx : Cx} {n nx' : Nat} {ops : List Oper} {ts : List OT} {l lf : List (Nat × PV)} {g gf : List (Nat × Option Bk)} (hs : Steps cx ops ops ts l g lf gf) {L : Nat → Bool} (hL : ∀ j, j < ops.length → L j = true) {a : Act} {w : World} (h : InvR cx n nx' ops ts (S l) (S g) L a w) : Mod cx n lf gf nx' a w := by
  obtain ⟨ρ, h1, h2, h3, h4, h5, h6, h7, h9⟩ := h
  obtain ⟨e1, e2⟩ := hs.final 0 L (fun j _ h => hL j (by omega))
  exact ⟨ρ, h1, by rw [e2]; exact h2, fun t => by rw [e1]; exact h3 t, h4, h5, h7, h9⟩
theorem k87 {cx : Cx} {n nx nx' : Nat} {ops : List Oper} {ts : List OT} {l lf : List (Nat × PV)} {g gf : List (Nat × Option Bk)} (hs : Steps cx ops ops ts l g lf gf) (hc : iN ops ts nx nx' = true) (hd : ∀ o ∈ ops, ∀ t, o.dst = some t → t < n)
    {Q : Exit → Act → World → Prop} (hend : ∀ a w, Mod cx n lf gf nx' a w → Q .normal a w) :
    ∀ (fuel : Nat) (listed : Array Bool) (a : Act) (w : World), listed.size = ops.length → listed.toList.countP (!·) ≤ fuel → cI ops (fun j => listed.getD j false) → InvR cx n nx' ops ts (S l) (S g) (fun j => listed.getD j false) a w → wpAny Try.prog .any ops.toArray Q fuel listed a w := by
  have hp : cU ops = true := by unfold iN at hc; rw [Bool.and_eq_true] at hc; exact hc.1
  intro fuel
  have fin : ∀ (listed : Array Bool) (a : Act) (w : World), listed.size = ops.length → InvR cx n nx' ops ts (S l) (S g) (fun j => listed.getD j false) a w → Region.ready .any ops.toArray listed = [] → Q .normal a w :=
    fun listed a w hs' h hr => hend a w (h.mod hs (wJ hp hs' hr))
  induction fuel with
  | zero =>
    intro listed a w hs' hcn hcl h
    have hall : ∀ b ∈ listed.toList, b = true := by
      intro b hb
      cases b with
      | true => rfl
      | false => have : 0 < listed.toList.countP (!·) := List.countP_pos_iff.2 ⟨false, hb, rfl⟩; omega
    have hr : Region.ready .any ops.toArray listed = [] := by
      cases hrr : Region.ready .any ops.toArray listed with
      | nil => rfl
      | cons x xs =>
        exfalso
        have hx : x ∈ Region.ready .any ops.toArray listed := by rw [hrr]; exact List.mem_cons_self ..
        obtain ⟨h1, o, h2, _⟩ := mem_ready.1 hx
        have hx2 : x < listed.size := by rw [hs']; simpa using (Array.getElem?_eq_some_iff.1 h2).1
        have := hall listed[x] (by simp)
        simp [Array.getD_eq_getD_getElem?, hx2, this] at h1
    exact ⟨hr, fin listed a w hs' h hr⟩
  | succ fuel ih =>
    intro listed a w hs' hcn hcl h
    refine ⟨fin listed a w hs' h, fun i hi => ?_⟩
    obtain ⟨h1, o, h2, h3⟩ := mem_ready.1 hi
    have hil : i < ops.length := by simpa using (Array.getElem?_eq_some_iff.1 h2).1
    have hils : i < listed.size := by omega
    have ho : ops[i]? = some o := by simpa using h2
    have h1f : listed.getD i false = false := by
      simp [Array.getD_eq_getD_getElem?, hils] at h1 ⊢
      exact h1
    have hcl' : cI ops (fun j => if j = i then true else listed.getD j false) := by
      intro j oj hj hl e he hb
      by_cases hei : e.on = i
      · simp only [hei, if_true]
      · simp only [hei, if_false]
        by_cases hji : j = i
        · subst hji
          have : oj = o := by rw [hj] at ho; exact Option.some.inj ho
          subst this
          exact h3 e (by simpa using he) hb
        · simp only [hji, if_false] at hl
          exact hcl j oj hj hl e he hb
    refine t4 hs hc hd ho h1f hcl hcl' h (fun a' w' h' => ?_)
    refine ih _ a' w' (by simpa using hs') ?_ (by rw [gO hils]; exact hcl') (by rw [gO hils]; exact h')
    have hlf : listed[i] = false := by simpa [Array.getD_eq_getD_getElem?, hils] using h1
    have hpos : 0 < listed.toList.countP (!·) := List.countP_pos_iff.2 ⟨false, by rw [← hlf]; simp, rfl⟩
    rw [Array.toList_setIfInBounds, List.countP_set (by simpa using hils)]
    simp only [Array.getElem_toList, hlf]
    have e : ∀ n : Nat, n - (if (!false) = true then 1 else 0) + (if (!true) = true then 1 else 0) ≤ fuel ↔ n - 1 ≤ fuel := fun n => by simp
    rw [e]
    omega
theorem k86 {cx : Cx} {n nx nx' : Nat} {ops : List Oper} {ts : List OT} {l lf : List (Nat × PV)} {g gf : List (Nat × Option Bk)} (hs : Steps cx ops ops ts l g lf gf) (hc : iN ops ts nx nx' = true) (hd : ∀ o ∈ ops, ∀ t, o.dst = some t → t < n)
    {Q : Exit → Act → World → Prop} (hend : ∀ a w, Mod cx n lf gf nx' a w → Q .normal a w) :
    ∀ (k i : Nat) (a : Act) (w : World), i + k = ops.length → InvR cx n nx' ops ts (S l) (S g) (fun j => decide (j < i)) a w → wpOps Try.prog ops.toArray Q (List.range' i k) a w := by
  have hp : cU ops = true := by unfold iN at hc; rw [Bool.and_eq_true] at hc; exact hc.1
  have hord : ∀ j o, ops[j]? = some o → ∀ e ∈ o.after, Region.binds .any e = true → e.on < j := by
    intro j o hj e he hb
    have hjl : j < ops.length := (List.getElem?_eq_some_iff.1 hj).1
    unfold cU at hp
    rw [List.all_eq_true] at hp
    have h1 := hp j (List.mem_range.2 hjl)
    simp only [hj, Bool.and_eq_true] at h1
    have h2 := h1.1.2
    rw [Array.all_eq_true_iff_forall_mem] at h2
    have h3 := h2 e he
    simpa [hb] using h3
  have hcl : ∀ i, cI ops (fun j => decide (j < i)) := by
    intro i j o hj hl e he hb
    have := hord j o hj e he hb
    simp at hl ⊢
    omega
  intro k
  induction k with
  | zero =>
    intro i a w hik h
    exact hend a w (h.mod hs (fun j hj => by simp; omega))
  | succ k ih =>
    intro i a w hik h
    rw [List.range'_succ, wpOps_cons]
    have e : (fun j => if j = i then true else decide (j < i)) = fun j => decide (j < i + 1) := by
      funext j
      by_cases hji : j = i
      · subst hji; simp
      · simp [hji]; omega
    refine t4 hs hc hd (o := ops[i]) (List.getElem?_eq_getElem (by omega)) (by simp) (hcl i) (by rw [e]; exact hcl (i + 1)) h (fun a' w' h' => ?_)
    rw [e] at h'
    exact ih (i + 1) a' w' (by omega) h'
def sA (ops : List Oper) (n : Nat) : Bool := ops.all fun o => match o.dst with
  | some t => Nat.blt t n
  | none => true
theorem nS {cx : Cx} {n nx nx' : Nat} {ops : List Oper} {id : Nat} {draw : Bool} {ts : List OT} {l lf : List (Nat × PV)} {g gf : List (Nat × Option Bk)} (hm : Try.prog.follows .mixedOrders = true) (hd : sA ops n = true) (hs : Steps cx ops ops ts l g lf gf) (hc : iN ops ts nx nx' = true)
    {Q : Exit → Act → World → Prop} (hend : ∀ a w, Mod cx n lf gf nx' a w → Q .normal a w) {a : Act} {w : World} (h : Mod cx n l g nx a w) : (Code.region id ops.toArray draw).wp Try.prog Q a w := by
  have hd' : ∀ o ∈ ops, ∀ t, o.dst = some t → t < n := by
    intro o ho t ht
    unfold sA at hd
    rw [List.all_eq_true] at hd
    have := hd o ho
    rw [ht] at this
    exact Nat.le_of_ble_eq_true this
  cases draw with
  | true =>
    refine wp_region_any hm (k87 hs hc hd' hend _ _ _ _ (by simp) ?_ ?_ ?_)
    · have := List.countP_le_length (p := fun b : Bool => !b) (l := (Array.replicate ops.toArray.size false).toList)
      simpa using this
    · intro j o hj hl
      have hjl : j < ops.length := (List.getElem?_eq_some_iff.1 hj).1
      simp [Array.getD_eq_getD_getElem?, hjl] at hl
    · have e : (fun j => (Array.replicate ops.toArray.size false).getD j false) = fun _ => false := by
        funext j
        by_cases hj : j < ops.length <;> simp [Array.getD_eq_getD_getElem?, hj]
      rw [e]
      exact h.drew.inv hc
  | false =>
    refine wp_region ?_
    have := k86 hs hc hd' hend ops.length 0 a w (by omega) (by have e : (fun j => decide (j < 0)) = fun _ : Nat => false := by (funext j; simp)
                                                               rw [e]; exact h.inv hc)
    rw [List.range_eq_range']
    simpa using this
end Go.Proofs.Ytdbjebdomdnbkaa
