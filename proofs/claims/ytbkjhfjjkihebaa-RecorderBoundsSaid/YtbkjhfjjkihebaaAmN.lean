/- A memory told by names: what is the same. No statement is proved here. -/
import Derived.Test.YtbkjhfjjkihebaaAmF
namespace Go.Proofs.Ytbkjhfjjkihebaa
open Go.ChangeShapes Go.WideShapes Go.ChangeAt Go.RowKit
set_option linter.unusedVariables false
set_option linter.unusedSimpArgs false

/-! what is the same -/
def eqV : Value → Value → Option (List Prop)
  | .int k a, .int k' b => if k = k' then some [a = b] else none
  | .bool a, .bool b => some [a = b]
  | v, v' => some [v = v']
theorem eqV_ok {v v' : Value} {ps : List Prop} (h : eqV v v' = some ps) (hp : ∀ p ∈ ps, p) : v = v' := by
  unfold eqV at h
  split at h
  · split at h
    · rename_i hk; subst hk; cases h; rw [show _ = _ from hp _ (List.mem_cons_self ..)]
    · cases h
  · cases h; rw [show _ = _ from hp _ (List.mem_cons_self ..)]
  · cases h; exact hp _ (List.mem_cons_self ..)
def eqD : D → D → Option (List Prop)
  | .lit v, .lit v' => eqV v v'
  | .sl ds n, .sl ds' n' => some [ds = ds', n = n']
  | _, _ => none
theorem eqD_ok {v v' : D} {ps : List Prop} (h : eqD v v' = some ps) (hp : ∀ p ∈ ps, p) : v = v' := by
  unfold eqD at h
  split at h
  · rw [eqV_ok h hp]
  · cases h; rw [show _ = _ from hp _ (List.mem_cons_self ..), show _ = _ from hp _ (List.mem_cons_of_mem _ (List.mem_cons_self ..))]
  · cases h
def eqC (σ : Nat → Nat) : C → C → Option (List Prop)
  | .d x, .d y => eqD x y
  | .own b off len s wh, .own b' off' len' s' wh' => match Nat.beq (σ b) b' && (Nat.beq s s' && (wh == wh')) with
    | true => some [off = off', len = len']
    | false => none
  | .ptr b off, .ptr b' off' => match Nat.beq (σ b) b' with
    | true => some [off = off']
    | false => none
  | .rp ds, .rp ds' => some [ds = ds']
  | .fn f qs, .fn f' qs' => match Nat.beq f f' && decide ((qs.map fun q => (σ q.1, q.2)) = qs') with
    | true => some []
    | false => none
  | _, _ => none
theorem eqC_ok {σ : Nat → Nat} {v v' : C} {ps : List Prop} (h : eqC σ v v' = some ps) (hp : ∀ p ∈ ps, p) : mapC σ v = v' := by
  unfold eqC at h
  split at h
  · rw [eqD_ok h hp]; rfl
  · split at h
    · rename_i hb
      simp only [Bool.and_eq_true] at hb
      obtain ⟨h1, h2, h3⟩ := hb
      have h1 := Nat.eq_of_beq_eq_true h1
      have h2 := Nat.eq_of_beq_eq_true h2
      have h3 := eq_of_beq h3
      cases h
      have e1 := hp (_ = _) (List.mem_cons_self ..)
      have e2 := hp (_ = _) (List.mem_cons_of_mem _ (List.mem_cons_self ..))
      subst h2; subst h3; subst e1; subst e2; rw [← h1]; rfl
    · cases h
  · split at h
    · rename_i hb
      have h1 := Nat.eq_of_beq_eq_true hb
      cases h
      have e1 := hp (_ = _) (List.mem_cons_self ..)
      subst e1; rw [← h1]; rfl
    · cases h
  · cases h; rw [show _ = _ from hp _ (List.mem_cons_self ..)]; rfl
  · split at h
    · rename_i hb
      rw [Bool.and_eq_true] at hb
      have h1 := Nat.eq_of_beq_eq_true hb.1
      have h2 := of_decide_eq_true hb.2
      subst h1; subst h2; rfl
    · cases h
  · cases h
def both (a b : Option (List Prop)) : Option (List Prop) := match a with
  | some p => match b with
    | some q => some (p ++ q)
    | none => none
  | none => none
theorem both_ok {a b : Option (List Prop)} {ps : List Prop} (h : both a b = some ps) (hp : ∀ p ∈ ps, p) : ∃ p q, a = some p ∧ b = some q ∧ (∀ x ∈ p, x) ∧ ∀ x ∈ q, x := by
  unfold both at h
  split at h
  · split at h
    · cases h; exact ⟨_, _, rfl, rfl, fun x hx => hp x (List.mem_append_left _ hx), fun x hx => hp x (List.mem_append_right _ hx)⟩
    · cases h
  · cases h
def eqL (σ : Nat → Nat) : List C → List C → Option (List Prop)
  | [], [] => some []
  | a :: l, b :: l' => both (eqC σ a b) (eqL σ l l')
  | _, _ => none
theorem eqL_ok {σ : Nat → Nat} : ∀ {v v' : List C} {ps : List Prop}, eqL σ v v' = some ps → (∀ p ∈ ps, p) → v.map (mapC σ) = v'
  | [], [], _, _, _ => rfl
  | a :: l, b :: l', _, h, hp => by
    obtain ⟨p, q, h1, h2, h3, h4⟩ := both_ok h hp
    rw [List.map_cons, eqC_ok h1 h3, eqL_ok h2 h4]
  | [], _ :: _, _, h, _ => by cases h
  | _ :: _, [], _, h, _ => by cases h
def eqE (σ : Nat → Nat) : E1 → E1 → Option (List Prop)
  | .c x, .c y => eqC σ x y
  | .agg x, .agg y => eqL σ x y
  | _, _ => none
theorem eqE_ok {σ : Nat → Nat} {v v' : E1} {ps : List Prop} (h : eqE σ v v' = some ps) (hp : ∀ p ∈ ps, p) : mapE σ v = v' := by
  unfold eqE at h
  split at h
  · rw [← eqC_ok h hp]; rfl
  · rw [← eqL_ok h hp]; rfl
  · cases h
def eqEs (σ : Nat → Nat) : List E1 → List E1 → Option (List Prop)
  | [], [] => some []
  | a :: l, b :: l' => both (eqE σ a b) (eqEs σ l l')
  | _, _ => none
theorem eqEs_ok {σ : Nat → Nat} : ∀ {v v' : List E1} {ps : List Prop}, eqEs σ v v' = some ps → (∀ p ∈ ps, p) → v.map (mapE σ) = v'
  | [], [], _, _, _ => rfl
  | a :: l, b :: l', _, h, hp => by
    obtain ⟨p, q, h1, h2, h3, h4⟩ := both_ok h hp
    rw [List.map_cons, eqE_ok h1 h3, eqEs_ok h2 h4]
  | [], _ :: _, _, h, _ => by cases h
  | _ :: _, [], _, h, _ => by cases h
def eqPV (σ : Nat → Nat) : PV → PV → Option (List Prop)
  | .e x, .e y => eqE σ x y
  | .tup x, .tup y => eqEs σ x y
  | _, _ => none
theorem eqPV_ok {σ : Nat → Nat} {v v' : PV} {ps : List Prop} (h : eqPV σ v v' = some ps) (hp : ∀ p ∈ ps, p) : mapPV σ v = v' := by
  unfold eqPV at h
  split at h
  · rw [← eqE_ok h hp]; rfl
  · rw [← eqEs_ok h hp]; rfl
  · cases h
def idN (b : Nat) : Nat := b
theorem mapC_idN : ∀ c : C, mapC idN c = c
  | .d _ => rfl
  | .own .. => rfl
  | .ptr .. => rfl
  | .rp _ => rfl
  | .fn f qs => by show C.fn f (qs.map fun q => (q.1, q.2)) = _; rw [List.map_id']
theorem mapE_idN : ∀ e : E1, mapE idN e = e
  | .c x => congrArg E1.c (mapC_idN x)
  | .agg cs => by
    show E1.agg (cs.map (mapC idN)) = _
    rw [show mapC idN = id from funext mapC_idN, List.map_id]
theorem eqEs_id {v v' : List E1} {ps : List Prop} (h : eqEs idN v v' = some ps) (hp : ∀ p ∈ ps, p) : v = v' := by
  have := eqEs_ok h hp
  rwa [show mapE idN = id from funext mapE_idN, List.map_id] at this
end Go.Proofs.Ytbkjhfjjkihebaa
