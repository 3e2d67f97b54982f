/- Merged texts. -/
import Derived.Test.YtcfmjpnffembpaaGreatZAmF
import Derived.Test.YtcfmjpnffembpaaGreatZAmH
import Derived.Test.YtcfmjpnffembpaaGreatZAmS
namespace Go.Proofs.YtcfmjpnffembpaaGreat
open Go.ChangeShapes Go.WideShapes Go.ChangeAt Go.RowKit
set_option linter.unusedVariables false
set_option linter.unusedSimpArgs false
/-! what is the same -/
def eqV : Value → Value → Option (List Prop)
 | .int k a, .int k' b => if k = k' then some [a = b] else none
 | .bool a, .bool b => some [a = b]
 | v, v' => some [v = v']
theorem u7k {v v' : Value} {ps : List Prop} (h : eqV v v' = some ps) (hp : ∀ p ∈ ps, p) : v = v' := by
 unfold eqV at h
 split at h
 ·split at h
  ·rename_i hk; subst hk; cases h; rw [show _ = _ from hp _ (List.mem_cons_self ..)]
  ·cases h
 ·cases h; rw [show _ = _ from hp _ (List.mem_cons_self ..)]
 ·cases h; exact hp _ (List.mem_cons_self ..)
def eqD : D → D → Option (List Prop)
 | .lit v, .lit v' => eqV v v'
 | .sl ds n, .sl ds' n' => some [ds = ds', n = n']
 | _, _ => none
theorem u7l {v v' : D} {ps : List Prop} (h : eqD v v' = some ps) (hp : ∀ p ∈ ps, p) : v = v' := by
 unfold eqD at h
 split at h
 ·rw [u7k h hp]
 ·cases h; rw [show _ = _ from hp _ (List.mem_cons_self ..), show _ = _ from hp _ (List.mem_cons_of_mem _ (List.mem_cons_self ..))]
 ·cases h
def eqC (σ : Nat → Nat) : C → C → Option (List Prop)
 | .d x, .d y => eqD x y
 | .own b off len s wh, .own b' off' len' s' wh' => match Nat.beq (σ b) b' && (Nat.beq s s' && (wh == wh')) with
  | true => some [off = off', len = len']
  | false => none
 | .ptr b off, .ptr b' off' => match Nat.beq (σ b) b' with
  | true => some [off = off']
  | false => none
 | .rp ds, .rp ds' => some [ds = ds']
 | .fn f qs, .fn f' qs' => match Nat.beq f f' && decide ((qs.map fun q => (σ q.1, q.2)) = qs') with
  | true => some []
  | false => none
 | _, _ => none
theorem u01 {σ : Nat → Nat} {v v' : C} {ps : List Prop} (h : eqC σ v v' = some ps) (hp : ∀ p ∈ ps, p) : bZ σ v = v' := by
 unfold eqC at h
 split at h
 ·rw [u7l h hp]; rfl
 ·split at h
  ·rename_i hb
   simp only [Bool.and_eq_true] at hb
   obtain ⟨h1, h2, h3⟩ := hb
   have h1 := Nat.eq_of_beq_eq_true h1
   have h2 := Nat.eq_of_beq_eq_true h2
   have h3 := eq_of_beq h3
   cases h
   have e1 := hp (_ = _) (List.mem_cons_self ..)
   have e2 := hp (_ = _) (List.mem_cons_of_mem _ (List.mem_cons_self ..))
   subst h2; subst h3; subst e1; subst e2; rw [← h1]; rfl
  ·cases h
 ·split at h
  ·rename_i hb
   have h1 := Nat.eq_of_beq_eq_true hb
   cases h
   have e1 := hp (_ = _) (List.mem_cons_self ..)
   subst e1; rw [← h1]; rfl
  ·cases h
 ·cases h; rw [show _ = _ from hp _ (List.mem_cons_self ..)]; rfl
 ·split at h
  ·rename_i hb
   rw [Bool.and_eq_true] at hb
   have h1 := Nat.eq_of_beq_eq_true hb.1
   have h2 := of_decide_eq_true hb.2
   subst h1; subst h2; rfl
  ·cases h
 ·cases h
def k0s (a b : Option (List Prop)) : Option (List Prop) := match a with
 | some p => match b with
  | some q => some (p ++ q)
  | none => none
 | none => none
theorem hY {a b : Option (List Prop)} {ps : List Prop} (h : k0s a b = some ps) (hp : ∀ p ∈ ps, p) : ∃ p q, a = some p ∧ b = some q ∧ (∀ x ∈ p, x) ∧ ∀ x ∈ q, x := by
 unfold k0s at h
 split at h
 ·split at h
  ·cases h; exact ⟨_, _, rfl, rfl, fun x hx => hp x (List.mem_append_left _ hx), fun x hx => hp x (List.mem_append_right _ hx)⟩
  ·cases h
 ·cases h
def eqL (σ : Nat → Nat) : List C → List C → Option (List Prop)
 | [], [] => some []
 | a :: l, b :: l' => k0s (eqC σ a b) (eqL σ l l')
 | _, _ => none
theorem k2m {σ : Nat → Nat} : ∀ {v v' : List C} {ps : List Prop}, eqL σ v v' = some ps → (∀ p ∈ ps, p) → v.map (bZ σ) = v'
 | [], [], _, _, _ => rfl
 | a :: l, b :: l', _, h, hp => by
  obtain ⟨p, q, h1, h2, h3, h4⟩ := hY h hp
  rw [List.map_cons, u01 h1 h3, k2m h2 h4]
 | [], _ :: _, _, h, _ => by cases h
 | _ :: _, [], _, h, _ => by cases h
def eqE (σ : Nat → Nat) : E1 → E1 → Option (List Prop)
 | .c x, .c y => eqC σ x y
 | .agg x, .agg y => eqL σ x y
 | _, _ => none
theorem u00 {σ : Nat → Nat} {v v' : E1} {ps : List Prop} (h : eqE σ v v' = some ps) (hp : ∀ p ∈ ps, p) : wJ σ v = v' := by
 unfold eqE at h
 split at h
 ·rw [← u01 h hp]; rfl
 ·rw [← k2m h hp]; rfl
 ·cases h
def k9z (σ : Nat → Nat) : List E1 → List E1 → Option (List Prop)
 | [], [] => some []
 | a :: l, b :: l' => k0s (eqE σ a b) (k9z σ l l')
 | _, _ => none
theorem xA {σ : Nat → Nat} : ∀ {v v' : List E1} {ps : List Prop}, k9z σ v v' = some ps → (∀ p ∈ ps, p) → v.map (wJ σ) = v'
 | [], [], _, _, _ => rfl
 | a :: l, b :: l', _, h, hp => by
  obtain ⟨p, q, h1, h2, h3, h4⟩ := hY h hp
  rw [List.map_cons, u00 h1 h3, xA h2 h4]
 | [], _ :: _, _, h, _ => by cases h
 | _ :: _, [], _, h, _ => by cases h
def u37 (σ : Nat → Nat) : PV → PV → Option (List Prop)
 | .e x, .e y => eqE σ x y
 | .tup x, .tup y => k9z σ x y
 | _, _ => none
theorem k46 {σ : Nat → Nat} {v v' : PV} {ps : List Prop} (h : u37 σ v v' = some ps) (hp : ∀ p ∈ ps, p) : lB σ v = v' := by
 unfold u37 at h
 split at h
 ·rw [← u00 h hp]; rfl
 ·rw [← xA h hp]; rfl
 ·cases h
def idN (b : Nat) : Nat := b
theorem k06 : ∀ c : C, bZ idN c = c
 | .d _ => rfl
 | .own .. => rfl
 | .ptr .. => rfl
 | .rp _ => rfl
 | .fn f qs => by show C.fn f (qs.map fun q => (q.1, q.2)) = _; rw [List.map_id']
theorem k7v : ∀ e : E1, wJ idN e = e
 | .c x => congrArg E1.c (k06 x)
 | .agg cs => by
  show E1.agg (cs.map (bZ idN)) = _
  rw [show bZ idN = id from funext k06, List.map_id]
theorem u38 {v v' : List E1} {ps : List Prop} (h : k9z idN v v' = some ps) (hp : ∀ p ∈ ps, p) : v = v' := by
 have := xA h hp
 rwa [show wJ idN = id from funext k7v, List.map_id] at this
end Go.Proofs.YtcfmjpnffembpaaGreat
namespace Go.Proofs.YtcfmjpnffembpaaGreat
open Go.ChangeShapes Go.WideShapes Go.ChangeAt Go.RowKit
set_option linter.unusedVariables false
set_option linter.unusedSimpArgs false
def rM (b : Nat) : List Nat → Nat → Option Nat
 | [], _ => none
 | p :: ps, k => match Nat.beq p b with
  | true => some k
  | false => rM b ps (k + 1)
theorem gY {b : Nat} : ∀ {ps : List Nat} {k i : Nat}, rM b ps k = some i → k ≤ i ∧ i - k < ps.length ∧ ps.getD (i - k) 0 = b
 | [], _, _, h => by cases h
 | p :: ps, k, i, h => by
  unfold rM at h
  split at h
  ·rename_i hb; cases h; refine ⟨Nat.le_refl _, by simp, ?_⟩; rw [Nat.sub_self]; exact Nat.eq_of_beq_eq_true hb
  ·obtain ⟨h1, h2, h3⟩ := gY h
   refine ⟨by omega, by simp; omega, ?_⟩
   rw [show i - k = (i - (k + 1)) + 1 by omega, List.getD_cons_succ]; exact h3
theorem k3z {b : Nat} : ∀ {ps : List Nat} {k : Nat}, rM b ps k = none → ps.contains b = false
 | [], _, _ => rfl
 | p :: ps, k, h => by
  unfold rM at h
  split at h
  ·cases h
  ·rename_i hb
   have : p ≠ b := fun e => by subst e; rw [Nat.beq_refl] at hb; cases hb
   rw [List.contains_cons, k3z h]; simpa using Ne.symm this
def k8a (ps : List Nat) : List (Nat × Nat) → Option (List (Nat × Nat))
 | [] => some []
 | q :: qs => match rM q.1 ps 0, k8a ps qs with
  | some i, some r => some ((i, q.2) :: r)
  | _, _ => none
theorem wT {ps : List Nat} {nx : Nat} : ∀ {qs r : List (Nat × Nat)}, k8a ps qs = some r → (r.all fun q => Nat.blt q.1 ps.length) = true ∧ r.map (fun q => (nm ps nx q.1, q.2)) = qs
 | [], _, h => by cases h; exact ⟨rfl, rfl⟩
 | q :: qs, _, h => by
  unfold k8a at h
  split at h
  ·rename_i i r hi hr
   cases h
   obtain ⟨h1, h2, h3⟩ := gY hi
   rw [Nat.sub_zero] at h2 h3
   obtain ⟨p1, p2⟩ := wT (nx := nx) hr
   refine ⟨?_, ?_⟩
   ·rw [List.all_cons, p1, Bool.and_true]; exact Nat.ble_eq_true_of_le h2
   ·rw [List.map_cons, p2, cF h2, h3]
  ·cases h
abbrev Sn := List (Option (List D))
def t6 (g : EH) (ps : List Nat) : C → Sn → Option (List Prop × C × List Nat × Sn)
 | .d (.lit (.slice none 0 0)), some [.lit (.bool true)] :: sn => some ([], .d (.lit fC), [], sn)
 | .d (.lit (.slice none 0 0)), sn => some ([], .d (.sl [] 0), [], sn)
 | .d x, sn => some ([], .d x, [], sn)
 | .rp ds, sn => some ([], .rp ds, [], sn)
 | .fn f qs, sn => match k8a ps qs with
  | some r => some ([], .fn f r, [], sn)
  | none => none
 | .ptr b off, sn => match rM b ps 0 with
  | some i => some ([], .ptr i off, [], sn)
  | none => none
 | .own b off len s wh, sn => match rM b ps 0 with
  | some i => some ([], .own i off len s wh, [], sn)
  | none => match g.lookup b, sn with
   | some (some (_, .ds l)), none :: sn => match off with
    | 0 => some ([l.length = len * s], .d (.sl l len), [b], sn)
    | _ => none
   | some (some (_, .ds l)), some r :: sn => some ([(l.drop off).take (len * s) = r, r.length = len * s], .d (.sl r len), [b], sn)
   | _, _ => none
theorem sD {g : EH} {ps : List Nat} {nx : Nat} {snap : Bool} {foot : List Nat} {c c' : C} {sn sn' : Sn} {pr : List Prop} {ft : List Nat} (h : t6 g ps c sn = some (pr, c', ft, sn')) (hp : ∀ p ∈ pr, p) (hf : ∀ b ∈ ft, foot.contains b = true ∧ snap = true) : PassC (kH g) ps nx snap foot c c' := by
 unfold t6 at h
 split at h
 ·cases h; exact .same rfl rfl
 ·cases h; exact .nil
 ·cases h; exact .same rfl rfl
 ·cases h; exact .same rfl rfl
 ·split at h
  ·rename_i hi
   cases h
   obtain ⟨h1, h2⟩ := wT (nx := nx) hi
   exact .same h1 (by show C.fn _ _ = _; rw [h2])
  ·cases h
 ·split at h
  ·rename_i hi
   cases h
   obtain ⟨h1, h2, h3⟩ := gY hi
   rw [Nat.sub_zero] at h2 h3
   exact .same (Nat.ble_eq_true_of_le h2) (by show C.ptr _ _ = _; rw [cF h2, h3])
  ·cases h
 ·split at h
  ·rename_i hi
   cases h
   obtain ⟨h1, h2, h3⟩ := gY hi
   rw [Nat.sub_zero] at h2 h3
   exact .same (Nat.ble_eq_true_of_le h2) (by show C.own _ _ _ _ _ = _; rw [cF h2, h3])
  ·rename_i hi
   have hn := k3z hi
   split at h
   ·rename_i hb
    have hb' := uU hb
    split at h
    ·cases h
     have h1 := hp _ (List.mem_cons_self ..)
     obtain ⟨f1, f2⟩ := hf _ (List.mem_cons_self ..)
     refine .own f2 hb' hn f1 ?_ h1
     rw [List.drop_zero]; exact List.take_of_length_le (by show (List.map C.d _).length ≤ _; rw [List.length_map, h1]; exact Nat.le_refl _)
    ·cases h
   ·rename_i hb
    have hb' := uU hb
    cases h
    have h1 := hp _ (List.mem_cons_self ..)
    have h2 := hp _ (List.mem_cons_of_mem _ (List.mem_cons_self ..))
    obtain ⟨f1, f2⟩ := hf _ (List.mem_cons_self ..)
    refine .own f2 hb' hn f1 ?_ h2
    show ((List.map C.d _).drop _).take _ = _
    rw [← List.map_drop, ← List.map_take, h1]
   ·cases h
def k3e (g : EH) (ps : List Nat) : List C → Sn → Option (List Prop × List C × List Nat × Sn)
 | [], sn => some ([], [], [], sn)
 | c :: cs, sn => match t6 g ps c sn with
  | some (p1, c', f1, sn) => match k3e g ps cs sn with
   | some (p2, cs', f2, sn) => some (p1 ++ p2, c' :: cs', f1 ++ f2, sn)
   | none => none
  | none => none
theorem zY {g : EH} {ps : List Nat} {nx : Nat} {snap : Bool} {foot : List Nat} : ∀ {cs cs' : List C} {sn sn' : Sn} {pr : List Prop} {ft : List Nat}, k3e g ps cs sn = some (pr, cs', ft, sn') → (∀ p ∈ pr, p) → (∀ b ∈ ft, foot.contains b = true ∧ snap = true) → All2 (PassC (kH g) ps nx snap foot) cs cs'
 | [], _, _, _, _, _, h, _, _ => by cases h; trivial
 | c :: cs, _, _, _, _, _, h, hp, hf => by
  unfold k3e at h
  split at h
  ·rename_i h1
   split at h
   ·rename_i h2
    cases h
    exact ⟨sD h1 (fun p hm => hp p (List.mem_append_left _ hm)) (fun b hm => hf b (List.mem_append_left _ hm)), zY h2 (fun p hm => hp p (List.mem_append_right _ hm)) (fun b hm => hf b (List.mem_append_right _ hm))⟩
   ·cases h
  ·cases h
def k1x (g : EH) (ps : List Nat) : E1 → Sn → Option (List Prop × E1 × List Nat × Sn)
 | .c x, sn => match t6 g ps x sn with
  | some (p, y, f, sn) => some (p, .c y, f, sn)
  | none => none
 | .agg cs, sn => match k3e g ps cs sn with
  | some (p, y, f, sn) => some (p, .agg y, f, sn)
  | none => none
theorem k50 {g : EH} {ps : List Nat} {nx : Nat} {snap : Bool} {foot : List Nat} {c c' : E1} {sn sn' : Sn} {pr : List Prop} {ft : List Nat} (h : k1x g ps c sn = some (pr, c', ft, sn')) (hp : ∀ p ∈ pr, p) (hf : ∀ b ∈ ft, foot.contains b = true ∧ snap = true) : PassE (kH g) ps nx snap foot c c' := by
 unfold k1x at h
 split at h
 ·split at h
  ·rename_i h1; cases h; exact .c (sD h1 hp hf)
  ·cases h
 ·split at h
  ·rename_i h1; cases h; exact .agg (zY h1 hp hf)
  ·cases h
def o7 (g : EH) (ps : List Nat) : List E1 → Sn → Option (List Prop × List E1 × List Nat)
 | [], _ => some ([], [], [])
 | c :: cs, sn => match k1x g ps c sn with
  | some (p1, c', f1, sn) => match o7 g ps cs sn with
   | some (p2, cs', f2) => some (p1 ++ p2, c' :: cs', f1 ++ f2)
   | none => none
  | none => none
theorem sC {g : EH} {ps : List Nat} {nx : Nat} {snap : Bool} {foot : List Nat} : ∀ {cs cs' : List E1} {sn : Sn} {pr : List Prop} {ft : List Nat}, o7 g ps cs sn = some (pr, cs', ft) → (∀ p ∈ pr, p) → (∀ b ∈ ft, foot.contains b = true ∧ snap = true) → All2 (PassE (kH g) ps nx snap foot) cs cs'
 | [], _, _, _, _, h, _, _ => by cases h; trivial
 | c :: cs, _, _, _, _, h, hp, hf => by
  unfold o7 at h
  split at h
  ·rename_i h1
   split at h
   ·rename_i h2
    cases h
    exact ⟨k50 h1 (fun p hm => hp p (List.mem_append_left _ hm)) (fun b hm => hf b (List.mem_append_left _ hm)), sC h2 (fun p hm => hp p (List.mem_append_right _ hm)) (fun b hm => hf b (List.mem_append_right _ hm))⟩
   ·cases h
  ·cases h
def u6s (ps : List Nat) : C → Option C
 | .d x => some (.d x)
 | .rp ds => some (.rp ds)
 | .fn f qs => match k8a ps qs with
  | some r => some (.fn f r)
  | none => none
 | .ptr b off => match rM b ps 0 with
  | some i => some (.ptr i off)
  | none => none
 | .own b off len s wh => match rM b ps 0 with
  | some i => some (.own i off len s wh)
  | none => none
theorem u2i {ps : List Nat} {nx : Nat} {c c' : C} (h : u6s ps c = some c') : gG ps.length c' = true ∧ bZ (nm ps nx) c' = c := by
 unfold u6s at h
 split at h
 ·cases h; exact ⟨rfl, rfl⟩
 ·cases h; exact ⟨rfl, rfl⟩
 ·split at h
  ·rename_i hi
   cases h
   obtain ⟨h1, h2⟩ := wT (nx := nx) hi
   exact ⟨h1, by show C.fn _ _ = _; rw [h2]⟩
  ·cases h
 ·split at h
  ·rename_i hi
   cases h
   obtain ⟨h1, h2, h3⟩ := gY hi
   rw [Nat.sub_zero] at h2 h3
   exact ⟨Nat.ble_eq_true_of_le h2, by show C.ptr _ _ = _; rw [cF h2, h3]⟩
  ·cases h
 ·split at h
  ·rename_i hi
   cases h
   obtain ⟨h1, h2, h3⟩ := gY hi
   rw [Nat.sub_zero] at h2 h3
   exact ⟨Nat.ble_eq_true_of_le h2, by show C.own _ _ _ _ _ = _; rw [cF h2, h3]⟩
  ·cases h
def u2h (ps : List Nat) : List C → Option (List C)
 | [] => some []
 | c :: cs => match u6s ps c, u2h ps cs with
  | some c', some cs' => some (c' :: cs')
  | _, _ => none
theorem k41 {ps : List Nat} {nx : Nat} : ∀ {cs cs' : List C}, u2h ps cs = some cs' → cs'.all (gG ps.length) = true ∧ cs'.map (bZ (nm ps nx)) = cs
 | [], _, h => by cases h; exact ⟨rfl, rfl⟩
 | c :: cs, _, h => by
  unfold u2h at h
  split at h
  ·rename_i h1 h2
   cases h
   obtain ⟨p1, p2⟩ := u2i (nx := nx) h1
   obtain ⟨p3, p4⟩ := k41 (nx := nx) h2
   exact ⟨by rw [List.all_cons, p1, p3]; rfl, by rw [List.map_cons, p2, p4]⟩
  ·cases h
def u6t (ps : List Nat) : BC → Option BC
 | .ds l => some (.ds l)
 | .cs l => match u2h ps l with
  | some r => some (.cs r)
  | none => none
theorem u2j {ps : List Nat} {nx : Nat} {b b' : BC} (h : u6t ps b = some b') : b'.to.all (gG ps.length) = true ∧ b'.to.map (bZ (nm ps nx)) = b.to := by
 unfold u6t at h
 split at h
 ·cases h
  refine ⟨?_, ?_⟩
  ·show (List.map C.d _).all _ = true
   rw [List.all_map]; exact List.all_eq_true.2 fun _ _ => rfl
  ·show List.map _ (List.map C.d _) = List.map C.d _
   rw [List.map_map]; rfl
 ·split at h
  ·rename_i h1; cases h; exact k41 h1
  ·cases h
def k0i (g : EH) (ps : List Nat) : List Nat → Nat → Option EH
 | [], _ => some []
 | b :: bs, k => match g.lookup b with
  | some (some (T, bc)) => match u6t ps bc, k0i g ps bs (k + 1) with
   | some bc', some r => some ((k, some (T, bc')) :: r)
   | _, _ => none
  | _ => none
theorem k0h {g : EH} {ps : List Nat} {nx : Nat} : ∀ {bs : List Nat} {k : Nat} {r : EH}, k0i g ps bs k = some r → ps.drop k = bs → (∀ x ∈ kH r, ∀ T cs, x.2 = some (T, cs) → cs.all (gG ps.length) = true ∧ x.1 < ps.length ∧ Look (kH g) (nm ps nx x.1) (some (T, cs.map (bZ (nm ps nx))))) ∧ ∀ b ∈ bs, ∃ x : Bk, Look (kH g) b (some x)
 | [], _, _, h, _ => by cases h; exact ⟨fun x hx => (by cases hx), fun b hb => (by cases hb)⟩
 | b :: bs, k, r, h, hd => by
  unfold k0i at h
  split at h
  ·rename_i T bc hb
   split at h
   ·rename_i bc' r' h1 h2
    cases h
    have hk : k < ps.length := by
     rcases Nat.lt_or_ge k ps.length with h | h
     ·exact h
     ·rw [List.drop_eq_nil_of_le h] at hd; cases hd
    have hd' := List.drop_eq_getElem_cons hk
    rw [hd] at hd'
    obtain ⟨e1, e2⟩ := List.cons.inj hd'
    obtain ⟨q1, q2⟩ := k0h (nx := nx) h2 e2.symm
    obtain ⟨p1, p2⟩ := u2j (nx := nx) h1
    refine ⟨?_, ?_⟩
    ·intro x hx T' cs' he
     rcases List.mem_cons.1 (show x ∈ (k, some (T, bc'.to)) :: kH r' from hx) with rfl | hx
     ·simp only [Option.some.injEq, Prod.mk.injEq] at he
      obtain ⟨rfl, rfl⟩ := he
      refine ⟨p1, hk, ?_⟩
      rw [p2, cF hk, List.getD_eq_getElem?_getD, List.getElem?_eq_getElem hk, Option.getD_some, ← e1]
      exact uU hb
     ·exact q1 x hx T' cs' he
    ·intro b' hb'
     rcases List.mem_cons.1 hb' with rfl | hb'
     ·exact ⟨_, uU hb⟩
     ·exact q2 b' hb'
   ·cases h
  ·cases h
def mR (l : List (Nat × PV)) : List Operand → Option (List E1)
 | [] => some []
 | x :: xs => match bH l x, mR l xs with
  | some (.e e), some es => some (e :: es)
  | _, _ => none
theorem g7 {l : List (Nat × PV)} : ∀ {xs : List Operand} {es : List E1}, mR l xs = some es → EvA l xs es
 | [], _, h => by cases h; exact .nil
 | x :: xs, _, h => by
  unfold mR at h
  split at h
  ·rename_i h1 h2; cases h; exact .cons (mQ h1) (g7 h2)
  ·cases h
def u6l (σ : Nat → Nat) : BC → BC
 | .ds l => .ds l
 | .cs l => .cs (l.map (bZ σ))
theorem u25 (σ : Nat → Nat) (b : BC) : (u6l σ b).to = b.to.map (bZ σ) := by
 cases b with
 | ds l => show List.map C.d l = List.map _ (List.map C.d l); rw [List.map_map]; rfl
 | cs l => rfl
def k7x (σ : Nat → Nat) : Option EBk → Option EBk
 | some x => some (x.1, u6l σ x.2)
 | none => none
theorem k7w (σ : Nat → Nat) (b : Option EBk) : zO (k7x σ b) = iU σ (zO b) := by
 cases b with
 | none => rfl
 | some x => show some (x.1, (u6l σ x.2).to) = some (x.1, x.2.to.map (bZ σ)); rw [u25]
def k05 (f : Nat → Nat) : EH → EH
 | [] => []
 | x :: g => (f x.1, k7x f x.2) :: k05 f g
theorem k04 (f : Nat → Nat) : ∀ g : EH, kH (k05 f g) = (kH g).map (fun x => (f x.1, iU f x.2))
 | [] => rfl
 | x :: g => by
  show (f x.1, zO (k7x f x.2)) :: kH (k05 f g) = (f x.1, iU f (zO x.2)) :: (kH g).map _
  rw [k7w, k04 f g]
def u9q : D → Bool
 | .lit _ => true
 | .sl _ _ => false
def nsG : EH → List Prop
 | [] => []
 | (_, some (_, .ds l)) :: g => (l.all u9q = true) :: nsG g
 | (_, some (_, .cs l)) :: g => (l.all j5 = true) :: nsG g
 | (_, none) :: g => nsG g
theorem wD : ∀ {g : EH}, (∀ p ∈ nsG g, p) → sL (kH g) = true
 | [], _ => rfl
 | (b, some (T, .ds l)) :: g, h => by
  have h1 := h _ (List.mem_cons_self ..)
  have h2 := wD (g := g) fun p hp => h p (List.mem_cons_of_mem _ hp)
  show List.all ((b, some (T, List.map C.d l)) :: kH g) _ = true
  rw [List.all_cons]
  unfold sL at h2
  rw [h2, Bool.and_true]
  show (List.map C.d l).all j5 = true
  rw [List.all_map]
  rw [← h1]; congr 1; funext x; cases x <;> rfl
 | (b, some (T, .cs l)) :: g, h => by
  have h1 := h _ (List.mem_cons_self ..)
  have h2 := wD (g := g) fun p hp => h p (List.mem_cons_of_mem _ hp)
  show List.all ((b, some (T, l)) :: kH g) _ = true
  rw [List.all_cons]
  unfold sL at h2
  rw [h2, Bool.and_true]; exact h1
 | (b, none) :: g, h => by
  have h2 := wD (g := g) h
  show List.all ((b, none) :: kH g) _ = true
  rw [List.all_cons]
  unfold sL at h2
  rw [h2]; rfl
def u9p (ft : List Nat) (y : PV) (gout : EH) : List Prop := match ft with
 | [] => []
 | _ :: _ => (k24 y = true) :: nsG gout
def u39 (P : Program) (f : FuncId) : Bool := match P.funcs[f]? with
 | some fn => match fn.name == "runtime.NumGoroutine", fn.body with
  | false, some _ => true
  | _, _ => false
 | none => false
theorem xB {f : FuncId} (h : u39 Tryz.prog f = true) (ar : Array Value) (w : World) : (callFunc f ar).run Tryz.prog w = .ok (.enter f ar) w := by
 unfold u39 at h
 split at h
 ·rename_i fn hf
  split at h
  ·rename_i h1 h2
   unfold callFunc
   have h3 : ¬ fn.name = "runtime.NumGoroutine" := by intro e; rw [e] at h1; simp at h1
   simp [hf, h2, h3]
  ·cases h
 ·cases h
def u1i (xo : Option (List E1)) (xs : List E1) : Option (List Prop × List E1) := match xo with
 | none => some ([], xs)
 | some xs' => match k9z idN xs' xs with
  | some ps => some (ps, xs')
  | none => none
theorem u1h {xo : Option (List E1)} {xs xs' : List E1} {ps : List Prop} (h : u1i xo xs = some (ps, xs')) (hp : ∀ p ∈ ps, p) : xs' = xs := by
 unfold u1i at h
 split at h
 ·cases h; rfl
 ·split at h
  ·rename_i he; cases h; exact u38 he hp
  ·cases h
def k9v (l : List (Nat × PV)) (args : List Operand) (qs : List (Nat × Nat)) : Option (List E1) := match mR l args with
 | some us => some ((qs.map fun q => E1.c (.ptr q.1 q.2)) ++ us)
 | none => none
def k9w (l : List (Nat × PV)) (args : List Operand) (qs : List (Nat × Nat)) : Option (List E1) := match mR l args with
 | some us => some (us ++ qs.map fun q => .c (.ptr q.1 q.2))
 | none => none
def gK (P : Program) (Fn : FuncId → List E1 → List (Nat × Option Bk) → Nat → PV → List (Nat × Option Bk) → Nat → Prop) (h : H) (g : EH) (nx : Nat) (f : FuncId) (ao : Option (List E1)) : R := match h with
 | .call ps y gout nout snaps xo => match ao, u39 P f with
  | some us, true => match o7 g ps us snaps, k0i g ps ps 0 with
   | some (pr, xs, ft), some gin => match k3g ps (kH gout) nout, u1i xo xs with
    | true, some (pe, xs') => some (pr ++ (u9p ft y gout ++ (pe ++ [Fn f xs' (kH gin) ps.length y (kH gout) nout])), ⟨lB (nm ps nx) y, k05 (nm ps nx) gout, (List.range (nout - ps.length)).map (nx + ·), ps ++ ft⟩)
    | _, _ => none
   | _, _ => none
  | _, _ => none
 | _ => none
def u76 : PV → Option (FuncId × List (Nat × Nat))
 | .e (.c (.fn f qs)) => some (f, qs)
 | _ => none
theorem u2n {u : PV} {f : FuncId} {qs : List (Nat × Nat)} (h : u76 u = some (f, qs)) : u = .e (.c (.fn f qs)) := by
 unfold u76 at h
 split at h
 ·cases h; rfl
 ·cases h
def k6p : List E1 → Option (List (Nat × Nat))
 | [] => some []
 | .c (.ptr b off) :: es => match k6p es with
  | some r => some ((b, off) :: r)
  | none => none
 | _ :: _ => none
theorem tZ {p : Nat → Prop} {ρ : Rh} {w : World} : ∀ {es : List E1} {qs : List (Nat × Nat)} {vs : List Value}, k6p es = some qs → All2 (RepE p ρ w) es vs → All2 (u10 ρ) qs vs
 | [], _, [], h, _ => by cases h; trivial
 | .c (.ptr b off) :: es, _, v :: vs, h, hv => by
  unfold k6p at h
  split at h
  ·rename_i hr
   cases h
   obtain ⟨m, h1, h2, h3⟩ := dC (b := b) (off := off) (v := v) hv.1
   exact ⟨⟨m, h1, h2, h3⟩, tZ hr hv.2⟩
  ·cases h
 | .c (.d _) :: _, _, _, h, _ => by cases h
 | .c (.own ..) :: _, _, _, h, _ => by cases h
 | .c (.rp _) :: _, _, _, h, _ => by cases h
 | .c (.fn ..) :: _, _, _, h, _ => by cases h
 | .agg _ :: _, _, _, h, _ => by cases h
def k97 (l : List (Nat × PV)) (f : FuncId) (firsts : List Operand) : R := match mR l firsts with
 | some es => match k6p es with
  | some qs => pv (.e (.c (.fn (f + rO) qs)))
  | none => none
 | none => none
def u7c (l : List (Nat × PV)) (f : FuncId) (caps : List Operand) : R := match mR l caps with
 | some es => match k6p es, Nat.blt f rO with
  | some qs, true => pv (.e (.c (.fn f qs)))
  | _, _ => none
 | none => none
section
variable {cx : Cx} {o : Oper} {l : List (Nat × PV)} {g : EH}
theorem u2y {f : FuncId} {first caps : Array Operand} (ho : o.op = .makeFunc (.func f) first caps) (h0 : first.toList = []) : OKR cx o l g (u7c l f caps.toList) := by
 unfold u7c
 split
 ·rename_i es hes
  split
  ·rename_i qs hqs hlo
   refine OKR.some fun _ => uA fun ρ a w hs => ?_
   have hav := (g7 hes).rep hs (by intro x hx; rw [ho]; simp only [Op.operands]; simp at hx ⊢; exact .inr hx)
   have h0' : first = #[] := by apply Array.ext'; simpa using h0
   subst h0'
   have hfn : RepC cx.p ρ w (.fn f qs) (fnV f (caps.toList.map a.eval)) := .fn f qs _ (tZ hqs hav)
   rw [k2b hlo] at hfn
   refine ⟨.func (.func f) #[] (caps.toList.map a.eval).toArray, ?_, hfn⟩
   unfold execOp
   rw [show (caps.toList.map a.eval).toArray = caps.map a.eval by apply Array.ext'; simp]
   simp [ho, Instr.makeFunc]
  ·exact OKR.none
 ·exact OKR.none
theorem k96 {f : FuncId} {first caps : Array Operand} (ho : o.op = .makeFunc (.func f) first caps) (h0 : caps.toList = []) : OKR cx o l g (k97 l f first.toList) := by
 unfold k97
 split
 ·rename_i es hes
  split
  ·rename_i qs hqs
   refine OKR.some fun _ => uA fun ρ a w hs => ?_
   have hav := (g7 hes).rep hs (by intro x hx; rw [ho]; simp only [Op.operands]; simp at hx ⊢; exact .inl hx)
   have h0' : caps = #[] := by apply Array.ext'; simpa using h0
   subst h0'
   have hfn : RepC cx.p ρ w (.fn (f + rO) qs) (fnV (f + rO) (first.toList.map a.eval)) := .fn _ qs _ (tZ hqs hav)
   rw [u75] at hfn
   refine ⟨.func (.func f) (first.toList.map a.eval).toArray #[], ?_, hfn⟩
   unfold execOp
   rw [show (first.toList.map a.eval).toArray = first.map a.eval by apply Array.ext'; simp]
   simp [ho, Instr.makeFunc]
  ·exact OKR.none
 ·exact OKR.none
theorem v0s {nx nout : Nat} {f : FuncId} {ps : List Nat} {y : PV} {gout gin : EH} {snaps : Sn} {us xs : List E1} {pr : List Prop} {ft : List Nat}
  (hrun : ∀ ρ a w, cH cx.p ρ w l o.op.operands a → ∃ av : List Value, (execOp a.eval o).run Tryz.prog w = .ok (.enter f av.toArray) w ∧ All2 (RepE cx.p ρ w) us av) (hpass : o7 g ps us snaps = some (pr, xs, ft)) (hgin : k0i g ps ps 0 = some gin) (hout : k3g ps (kH gout) nout = true)
  {xo : Option (List E1)} {pe : List Prop} {xs' : List E1} (hxo : u1i xo xs = some (pe, xs')) (hp : ∀ p ∈ pr ++ (u9p ft y gout ++ (pe ++ [Fun f xs' (kH gin) ps.length y (kH gout) nout])), p) : OpOK cx o (S l) (S (kH g)) (OTe.to ⟨lB (nm ps nx) y, k05 (nm ps nx) gout, (List.range (nout - ps.length)).map (nx + ·), ps ++ ft⟩) := by
 have hF : Fun f xs' (kH gin) ps.length y (kH gout) nout := hp _ (List.mem_append_right _ (List.mem_append_right _ (List.mem_append_right _ (List.mem_cons_self ..))))
 have hxx := u1h hxo (fun p h => hp p (List.mem_append_right _ (List.mem_append_right _ (List.mem_append_left _ h))))
 rw [hxx] at hF
 obtain ⟨q1, q2⟩ := k0h (nx := nx) hgin (by rw [List.drop_zero])
 have hall : All2 (PassE (kH g) ps nx (!ft.isEmpty) (ps ++ ft)) us xs := sC hpass (fun p h => hp p (List.mem_append_left _ h)) (fun b hb => ⟨by simp [hb], by cases ft with | nil => cases hb | cons => rfl⟩)
 have := k7a (cx := cx) (nx := nx) hrun hall hF q1 (fun b hb => ⟨by simp [hb], q2 b hb⟩) hout (by
  cases ft with
  | nil => exact .inl rfl
  | cons a b =>
   right
   rw [Bool.and_eq_true]
   exact ⟨hp _ (List.mem_append_right _ (List.mem_append_left _ (List.mem_cons_self ..))), wD fun p h => hp p (List.mem_append_right _ (List.mem_append_left _ (List.mem_cons_of_mem _ h)))⟩)
 rw [← k04] at this
 exact this
theorem jL {h : H} {nx : Nat} {f : FuncId} {ao : Option (List E1)} (hrun : ∀ us, ao = some us → u39 Tryz.prog f = true → ∀ ρ a w, cH cx.p ρ w l o.op.operands a → ∃ av : List Value, (execOp a.eval o).run Tryz.prog w = .ok (.enter f av.toArray) w ∧ All2 (RepE cx.p ρ w) us av) : OKR cx o l g (gK Tryz.prog Fun h g nx f ao) := by
 unfold gK
 split
 ·split
  ·rename_i us hent
   split
   ·rename_i hpass hgin
    split
    ·rename_i hout hxo
     exact OKR.some fun hp => v0s (hrun us rfl hent) hpass hgin hout hxo ((uI _).1 hp)
    ·exact OKR.none
   ·exact OKR.none
  ·exact OKR.none
 ·exact OKR.none
theorem k5f {h : H} {nx : Nat} {f : FuncId} {args : Array Operand} {ts : Array TypeId} (ho : o.op = .call { callee := .value (.func f), args := args, argTypes := ts }) : OKR cx o l g (gK Tryz.prog Fun h g nx f (mR l args.toList)) :=
 jL fun us hus hent ρ a w hs => k4y ho (xB hent) (g7 hus) hs
theorem k2h {h : H} {nx : Nat} {f : FuncId} {qs : List (Nat × Nat)} {x : Operand} {args : Array Operand} {ts : Array TypeId} (ho : o.op = .call { callee := .value x, args := args, argTypes := ts }) (hx : Ev l x (.e (.c (.fn f qs)))) (hlo : Nat.blt f rO = true) : OKR cx o l g (gK Tryz.prog Fun h g nx f (k9w l args.toList qs)) := by
 refine jL fun us hus hent ρ a w hs => ?_
 unfold k9w at hus
 split at hus
 ·rename_i us0 hus0
  cases hus
  exact k4x hlo ho (xB hent) hx (g7 hus0) hs
 ·cases hus
theorem k2i {h : H} {nx : Nat} {f : FuncId} {qs : List (Nat × Nat)} {x : Operand} {args : Array Operand} {ts : Array TypeId} (ho : o.op = .call { callee := .value x, args := args, argTypes := ts }) (hx : Ev l x (.e (.c (.fn f qs)))) (hlo : Nat.blt f rO = false) : OKR cx o l g (gK Tryz.prog Fun h g nx (fnU f) (k9v l args.toList qs)) := by
 refine jL fun us hus hent ρ a w hs => ?_
 unfold k9v at hus
 split at hus
 ·rename_i us0 hus0
  cases hus
  exact k4z hlo ho (xB hent) hx (g7 hus0) hs
 ·cases hus
end
end Go.Proofs.YtcfmjpnffembpaaGreat
