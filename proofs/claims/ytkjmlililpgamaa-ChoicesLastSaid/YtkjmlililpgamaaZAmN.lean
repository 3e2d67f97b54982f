/- A memory told by names: what is the same. No statement is proved here. -/
import Derived.Test.YtkjmlililpgamaaZAmF
namespace Go.Proofs.Ytkjmlililpgamaa
open Go.ChangeShapes Go.WideShapes Go.ChangeAt Go.RowKit
open List renaming map_cons → kd5, mem_cons_of_mem → kb9, mem_cons_self → ka7
open Nat renaming beq → kd4, eq_of_beq_eq_true → kb7
set_option linter.unusedVariables false
set_option linter.unusedSimpArgs false
/-! what is the same -/
def eqV : Value → Value → Option (List Prop)
 | .int k a, .int k' b => if k = k' then some [a = b] else none
 | .bool a, .bool b => some [a = b]
 | v, v' => some [v = v']
theorem k1b {v v' : Value} {ps : List Prop} (h : eqV v v' = some ps) (hp : ∀ p ∈ ps, p) : v = v' := by
 unfold eqV at h
 split at h
 ·split at h
  ·rename_i hk; subst hk; cases h; rw [show _ = _ from hp _ (ka7 ..)]
  ·cases h
 ·cases h; rw [show _ = _ from hp _ (ka7 ..)]
 ·cases h; exact hp _ (ka7 ..)
def eqD : D → D → Option (List Prop)
 | .lit v, .lit v' => eqV v v'
 | .sl ds n, .sl ds' n' => some [ds = ds', n = n']
 | _, _ => none
theorem k1c {v v' : D} {ps : List Prop} (h : eqD v v' = some ps) (hp : ∀ p ∈ ps, p) : v = v' := by
 unfold eqD at h
 split at h
 ·rw [k1b h hp]
 ·cases h; rw [show _ = _ from hp _ (ka7 ..), show _ = _ from hp _ (kb9 _ (ka7 ..))]
 ·cases h
def eqC (σ : Nat → Nat) : C → C → Option (List Prop)
 | .d x, .d y => eqD x y
 | .own b off len s wh, .own b' off' len' s' wh' => match kd4 (σ b) b' && (kd4 s s' && (wh == wh')) with
  | true => some [off = off', len = len']
  | false => none
 | .ptr b off, .ptr b' off' => match kd4 (σ b) b' with
  | true => some [off = off']
  | false => none
 | .rp ds, .rp ds' => some [ds = ds']
 | .fn f qs, .fn f' qs' => match kd4 f f' && decide ((qs.map fun q => (σ q.1, q.2)) = qs') with
  | true => some []
  | false => none
 | _, _ => none
theorem tB {σ : Nat → Nat} {v v' : C} {ps : List Prop} (h : eqC σ v v' = some ps) (hp : ∀ p ∈ ps, p) : uO σ v = v' := by
 unfold eqC at h
 split at h
 ·rw [k1c h hp]; rfl
 ·split at h
  ·rename_i hb
   simp only [Bool.and_eq_true] at hb
   obtain ⟨h1, h2, h3⟩ := hb
   have h1 := kb7 h1
   have h2 := kb7 h2
   have h3 := eq_of_beq h3
   cases h
   have e1 := hp (_ = _) (ka7 ..)
   have e2 := hp (_ = _) (kb9 _ (ka7 ..))
   subst h2; subst h3; subst e1; subst e2; rw [← h1]; rfl
  ·cases h
 ·split at h
  ·rename_i hb
   have h1 := kb7 hb
   cases h
   have e1 := hp (_ = _) (ka7 ..)
   subst e1; rw [← h1]; rfl
  ·cases h
 ·cases h; rw [show _ = _ from hp _ (ka7 ..)]; rfl
 ·split at h
  ·rename_i hb
   rw [Bool.and_eq_true] at hb
   have h1 := kb7 hb.1
   have h2 := of_decide_eq_true hb.2
   subst h1; subst h2; rfl
  ·cases h
 ·cases h
def i7 (a b : Option (List Prop)) : Option (List Prop) := match a with
 | some p => match b with
  | some q => some (p ++ q)
  | none => none
 | none => none
theorem vZ {a b : Option (List Prop)} {ps : List Prop} (h : i7 a b = some ps) (hp : ∀ p ∈ ps, p) : ∃ p q, a = some p ∧ b = some q ∧ (∀ x ∈ p, x) ∧ ∀ x ∈ q, x := by
 unfold i7 at h
 split at h
 ·split at h
  ·cases h; exact ⟨_, _, rfl, rfl, fun x hx => hp x (List.mem_append_left _ hx), fun x hx => hp x (List.mem_append_right _ hx)⟩
  ·cases h
 ·cases h
def eqL (σ : Nat → Nat) : List C → List C → Option (List Prop)
 | [], [] => some []
 | a :: l, b :: l' => i7 (eqC σ a b) (eqL σ l l')
 | _, _ => none
theorem lN {σ : Nat → Nat} : ∀ {v v' : List C} {ps : List Prop}, eqL σ v v' = some ps → (∀ p ∈ ps, p) → v.map (uO σ) = v'
 | [], [], _, _, _ => rfl
 | a :: l, b :: l', _, h, hp => by
  obtain ⟨p, q, h1, h2, h3, h4⟩ := vZ h hp
  rw [kd5, tB h1 h3, lN h2 h4]
 | [], _ :: _, _, h, _ => by cases h
 | _ :: _, [], _, h, _ => by cases h
def eqE (σ : Nat → Nat) : E1 → E1 → Option (List Prop)
 | .c x, .c y => eqC σ x y
 | .agg x, .agg y => eqL σ x y
 | _, _ => none
theorem tA {σ : Nat → Nat} {v v' : E1} {ps : List Prop} (h : eqE σ v v' = some ps) (hp : ∀ p ∈ ps, p) : fX σ v = v' := by
 unfold eqE at h
 split at h
 ·rw [← tB h hp]; rfl
 ·rw [← lN h hp]; rfl
 ·cases h
def s9 (σ : Nat → Nat) : List E1 → List E1 → Option (List Prop)
 | [], [] => some []
 | a :: l, b :: l' => i7 (eqE σ a b) (s9 σ l l')
 | _, _ => none
theorem gI {σ : Nat → Nat} : ∀ {v v' : List E1} {ps : List Prop}, s9 σ v v' = some ps → (∀ p ∈ ps, p) → v.map (fX σ) = v'
 | [], [], _, _, _ => rfl
 | a :: l, b :: l', _, h, hp => by
  obtain ⟨p, q, h1, h2, h3, h4⟩ := vZ h hp
  rw [kd5, tA h1 h3, gI h2 h4]
 | [], _ :: _, _, h, _ => by cases h
 | _ :: _, [], _, h, _ => by cases h
def xT (σ : Nat → Nat) : PV → PV → Option (List Prop)
 | .e x, .e y => eqE σ x y
 | .tup x, .tup y => s9 σ x y
 | _, _ => none
theorem mM {σ : Nat → Nat} {v v' : PV} {ps : List Prop} (h : xT σ v v' = some ps) (hp : ∀ p ∈ ps, p) : aV σ v = v' := by
 unfold xT at h
 split at h
 ·rw [← tA h hp]; rfl
 ·rw [← gI h hp]; rfl
 ·cases h
def idN (b : Nat) : Nat := b
theorem iL : ∀ c : C, uO idN c = c
 | .d _ => rfl
 | .own .. => rfl
 | .ptr .. => rfl
 | .rp _ => rfl
 | .fn f qs => by show C.fn f (qs.map fun q => (q.1, q.2)) = _; rw [List.map_id']
theorem pS : ∀ e : E1, fX idN e = e
 | .c x => congrArg E1.c (iL x)
 | .agg cs => by
  show E1.agg (cs.map (uO idN)) = _
  rw [show uO idN = id from funext iL, List.map_id]
theorem xU {v v' : List E1} {ps : List Prop} (h : s9 idN v v' = some ps) (hp : ∀ p ∈ ps, p) : v = v' := by
 have := gI h hp
 rwa [show fX idN = id from funext pS, List.map_id] at this
end Go.Proofs.Ytkjmlililpgamaa
