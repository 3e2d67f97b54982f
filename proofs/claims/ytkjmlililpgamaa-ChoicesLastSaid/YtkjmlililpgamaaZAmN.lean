/- A memory told by names: what is the same. No statement is proved here. -/
import Derived.Test.YtkjmlililpgamaaZAmF
namespace Go.Proofs.Ytkjmlililpgamaa
open Go.ChangeShapes Go.WideShapes Go.ChangeAt Go.RowKit
open List renaming map_cons → kd2, mem_cons_of_mem → ka9, mem_cons_self → ka4
open Nat renaming beq → kd5, eq_of_beq_eq_true → kb3
set_option linter.unusedVariables false
set_option linter.unusedSimpArgs false
/-! what is the same -/
def eqV : Value → Value → Option (List Prop)
 | .int k a, .int k' b => if k = k' then some [a = b] else none
 | .bool a, .bool b => some [a = b]
 | v, v' => some [v = v']
theorem k2d {v v' : Value} {ps : List Prop} (h : eqV v v' = some ps) (hp : ∀ p ∈ ps, p) : v = v' := by
 unfold eqV at h
 split at h
 ·split at h
  ·rename_i hk; subst hk; cases h; rw [show _ = _ from hp _ (ka4 ..)]
  ·cases h
 ·cases h; rw [show _ = _ from hp _ (ka4 ..)]
 ·cases h; exact hp _ (ka4 ..)
def eqD : D → D → Option (List Prop)
 | .lit v, .lit v' => eqV v v'
 | .sl ds n, .sl ds' n' => some [ds = ds', n = n']
 | _, _ => none
theorem k2f {v v' : D} {ps : List Prop} (h : eqD v v' = some ps) (hp : ∀ p ∈ ps, p) : v = v' := by
 unfold eqD at h
 split at h
 ·rw [k2d h hp]
 ·cases h; rw [show _ = _ from hp _ (ka4 ..), show _ = _ from hp _ (ka9 _ (ka4 ..))]
 ·cases h
def eqC (σ : Nat → Nat) : C → C → Option (List Prop)
 | .d x, .d y => eqD x y
 | .own b off len s wh, .own b' off' len' s' wh' => match kd5 (σ b) b' && (kd5 s s' && (wh == wh')) with
  | true => some [off = off', len = len']
  | false => none
 | .ptr b off, .ptr b' off' => match kd5 (σ b) b' with
  | true => some [off = off']
  | false => none
 | .rp ds, .rp ds' => some [ds = ds']
 | .fn f qs, .fn f' qs' => match kd5 f f' && decide ((qs.map fun q => (σ q.1, q.2)) = qs') with
  | true => some []
  | false => none
 | _, _ => none
theorem wK {σ : Nat → Nat} {v v' : C} {ps : List Prop} (h : eqC σ v v' = some ps) (hp : ∀ p ∈ ps, p) : uS σ v = v' := by
 unfold eqC at h
 split at h
 ·rw [k2f h hp]; rfl
 ·split at h
  ·rename_i hb
   simp only [Bool.and_eq_true] at hb
   obtain ⟨h1, h2, h3⟩ := hb
   have h1 := kb3 h1
   have h2 := kb3 h2
   have h3 := eq_of_beq h3
   cases h
   have e1 := hp (_ = _) (ka4 ..)
   have e2 := hp (_ = _) (ka9 _ (ka4 ..))
   subst h2; subst h3; subst e1; subst e2; rw [← h1]; rfl
  ·cases h
 ·split at h
  ·rename_i hb
   have h1 := kb3 hb
   cases h
   have e1 := hp (_ = _) (ka4 ..)
   subst e1; rw [← h1]; rfl
  ·cases h
 ·cases h; rw [show _ = _ from hp _ (ka4 ..)]; rfl
 ·split at h
  ·rename_i hb
   rw [Bool.and_eq_true] at hb
   have h1 := kb3 hb.1
   have h2 := of_decide_eq_true hb.2
   subst h1; subst h2; rfl
  ·cases h
 ·cases h
def j2 (a b : Option (List Prop)) : Option (List Prop) := match a with
 | some p => match b with
  | some q => some (p ++ q)
  | none => none
 | none => none
theorem v7 {a b : Option (List Prop)} {ps : List Prop} (h : j2 a b = some ps) (hp : ∀ p ∈ ps, p) : ∃ p q, a = some p ∧ b = some q ∧ (∀ x ∈ p, x) ∧ ∀ x ∈ q, x := by
 unfold j2 at h
 split at h
 ·split at h
  ·cases h; exact ⟨_, _, rfl, rfl, fun x hx => hp x (List.mem_append_left _ hx), fun x hx => hp x (List.mem_append_right _ hx)⟩
  ·cases h
 ·cases h
def eqL (σ : Nat → Nat) : List C → List C → Option (List Prop)
 | [], [] => some []
 | a :: l, b :: l' => j2 (eqC σ a b) (eqL σ l l')
 | _, _ => none
theorem mK {σ : Nat → Nat} : ∀ {v v' : List C} {ps : List Prop}, eqL σ v v' = some ps → (∀ p ∈ ps, p) → v.map (uS σ) = v'
 | [], [], _, _, _ => rfl
 | a :: l, b :: l', _, h, hp => by
  obtain ⟨p, q, h1, h2, h3, h4⟩ := v7 h hp
  rw [kd2, wK h1 h3, mK h2 h4]
 | [], _ :: _, _, h, _ => by cases h
 | _ :: _, [], _, h, _ => by cases h
def eqE (σ : Nat → Nat) : E1 → E1 → Option (List Prop)
 | .c x, .c y => eqC σ x y
 | .agg x, .agg y => eqL σ x y
 | _, _ => none
theorem wJ {σ : Nat → Nat} {v v' : E1} {ps : List Prop} (h : eqE σ v v' = some ps) (hp : ∀ p ∈ ps, p) : gS σ v = v' := by
 unfold eqE at h
 split at h
 ·rw [← wK h hp]; rfl
 ·rw [← mK h hp]; rfl
 ·cases h
def wI (σ : Nat → Nat) : List E1 → List E1 → Option (List Prop)
 | [], [] => some []
 | a :: l, b :: l' => j2 (eqE σ a b) (wI σ l l')
 | _, _ => none
theorem hU {σ : Nat → Nat} : ∀ {v v' : List E1} {ps : List Prop}, wI σ v v' = some ps → (∀ p ∈ ps, p) → v.map (gS σ) = v'
 | [], [], _, _, _ => rfl
 | a :: l, b :: l', _, h, hp => by
  obtain ⟨p, q, h1, h2, h3, h4⟩ := v7 h hp
  rw [kd2, wJ h1 h3, hU h2 h4]
 | [], _ :: _, _, h, _ => by cases h
 | _ :: _, [], _, h, _ => by cases h
def z5 (σ : Nat → Nat) : PV → PV → Option (List Prop)
 | .e x, .e y => eqE σ x y
 | .tup x, .tup y => wI σ x y
 | _, _ => none
theorem nP {σ : Nat → Nat} {v v' : PV} {ps : List Prop} (h : z5 σ v v' = some ps) (hp : ∀ p ∈ ps, p) : a7 σ v = v' := by
 unfold z5 at h
 split at h
 ·rw [← wJ h hp]; rfl
 ·rw [← hU h hp]; rfl
 ·cases h
def idN (b : Nat) : Nat := b
theorem jM : ∀ c : C, uS idN c = c
 | .d _ => rfl
 | .own .. => rfl
 | .ptr .. => rfl
 | .rp _ => rfl
 | .fn f qs => by show C.fn f (qs.map fun q => (q.1, q.2)) = _; rw [List.map_id']
theorem r8 : ∀ e : E1, gS idN e = e
 | .c x => congrArg E1.c (jM x)
 | .agg cs => by
  show E1.agg (cs.map (uS idN)) = _
  rw [show uS idN = id from funext jM, List.map_id]
theorem z6 {v v' : List E1} {ps : List Prop} (h : wI idN v v' = some ps) (hp : ∀ p ∈ ps, p) : v = v' := by
 have := hU h hp
 rwa [show gS idN = id from funext r8, List.map_id] at this
end Go.Proofs.Ytkjmlililpgamaa
