/- Merged texts. -/
import Derived.Test.YtdbjebdomdnbkaaGreatZAmF
import Derived.Test.YtdbjebdomdnbkaaGreatZAmH
import Derived.Test.YtdbjebdomdnbkaaGreatZAmS
namespace Go.Proofs.YtdbjebdomdnbkaaGreat
open Go.ChangeShapes Go.WideShapes Go.ChangeAt Go.RowKit
set_option linter.unusedVariables false
set_option linter.unusedSimpArgs false
/-! what is the same -/
def eqV : Value → Value → Option (List Prop)
 | .int k a, .int k' b => if k = k' then some [a = b] else none
 | .bool a, .bool b => some [a = b]
 | v, v' => some [v = v']
theorem u3g {v v' : Value} {ps : List Prop} (h : eqV v v' = some ps) (hp : ∀ p ∈ ps, p) : v = v' := by
 unfold eqV at h
 split at h
 ·split at h
  ·rename_i hk; subst hk; cases h; rw [show _ = _ from hp _ (List.mem_cons_self ..)]
  ·cases h
 ·cases h; rw [show _ = _ from hp _ (List.mem_cons_self ..)]
 ·cases h; exact hp _ (List.mem_cons_self ..)
def eqD : D → D → Option (List Prop)
 | .lit v, .lit v' => eqV v v'
 | .sl ds n, .sl ds' n' => some [ds = ds', n = n']
 | _, _ => none
theorem u3h {v v' : D} {ps : List Prop} (h : eqD v v' = some ps) (hp : ∀ p ∈ ps, p) : v = v' := by
 unfold eqD at h
 split at h
 ·rw [u3g h hp]
 ·cases h; rw [show _ = _ from hp _ (List.mem_cons_self ..), show _ = _ from hp _ (List.mem_cons_of_mem _ (List.mem_cons_self ..))]
 ·cases h
def eqC (σ : Nat → Nat) : C → C → Option (List Prop)
 | .d x, .d y => eqD x y
 | .own b off len s wh, .own b' off' len' s' wh' => match Nat.beq (σ b) b' && (Nat.beq s s' && (wh == wh')) with
  | true => some [off = off', len = len']
  | false => none
 | .ptr b off, .ptr b' off' => match Nat.beq (σ b) b' with
  | true => some [off = off']
  | false => none
 | .rp ds, .rp ds' => some [ds = ds']
 | .fn f qs, .fn f' qs' => match Nat.beq f f' && decide ((qs.map fun q => (σ q.1, q.2)) = qs') with
  | true => some []
  | false => none
 | _, _ => none
theorem k5x {σ : Nat → Nat} {v v' : C} {ps : List Prop} (h : eqC σ v v' = some ps) (hp : ∀ p ∈ ps, p) : aM σ v = v' := by
 unfold eqC at h
 split at h
 ·rw [u3h h hp]; rfl
 ·split at h
  ·rename_i hb
   simp only [Bool.and_eq_true] at hb
   obtain ⟨h1, h2, h3⟩ := hb
   have h1 := Nat.eq_of_beq_eq_true h1
   have h2 := Nat.eq_of_beq_eq_true h2
   have h3 := eq_of_beq h3
   cases h
   have e1 := hp (_ = _) (List.mem_cons_self ..)
   have e2 := hp (_ = _) (List.mem_cons_of_mem _ (List.mem_cons_self ..))
   subst h2; subst h3; subst e1; subst e2; rw [← h1]; rfl
  ·cases h
 ·split at h
  ·rename_i hb
   have h1 := Nat.eq_of_beq_eq_true hb
   cases h
   have e1 := hp (_ = _) (List.mem_cons_self ..)
   subst e1; rw [← h1]; rfl
  ·cases h
 ·cases h; rw [show _ = _ from hp _ (List.mem_cons_self ..)]; rfl
 ·split at h
  ·rename_i hb
   rw [Bool.and_eq_true] at hb
   have h1 := Nat.eq_of_beq_eq_true hb.1
   have h2 := of_decide_eq_true hb.2
   subst h1; subst h2; rfl
  ·cases h
 ·cases h
def mN (a b : Option (List Prop)) : Option (List Prop) := match a with
 | some p => match b with
  | some q => some (p ++ q)
  | none => none
 | none => none
theorem eI {a b : Option (List Prop)} {ps : List Prop} (h : mN a b = some ps) (hp : ∀ p ∈ ps, p) : ∃ p q, a = some p ∧ b = some q ∧ (∀ x ∈ p, x) ∧ ∀ x ∈ q, x := by
 unfold mN at h
 split at h
 ·split at h
  ·cases h; exact ⟨_, _, rfl, rfl, fun x hx => hp x (List.mem_append_left _ hx), fun x hx => hp x (List.mem_append_right _ hx)⟩
  ·cases h
 ·cases h
def eqL (σ : Nat → Nat) : List C → List C → Option (List Prop)
 | [], [] => some []
 | a :: l, b :: l' => mN (eqC σ a b) (eqL σ l l')
 | _, _ => none
theorem x2 {σ : Nat → Nat} : ∀ {v v' : List C} {ps : List Prop}, eqL σ v v' = some ps → (∀ p ∈ ps, p) → v.map (aM σ) = v'
 | [], [], _, _, _ => rfl
 | a :: l, b :: l', _, h, hp => by
  obtain ⟨p, q, h1, h2, h3, h4⟩ := eI h hp
  rw [List.map_cons, k5x h1 h3, x2 h2 h4]
 | [], _ :: _, _, h, _ => by cases h
 | _ :: _, [], _, h, _ => by cases h
def eqE (σ : Nat → Nat) : E1 → E1 → Option (List Prop)
 | .c x, .c y => eqC σ x y
 | .agg x, .agg y => eqL σ x y
 | _, _ => none
theorem k5w {σ : Nat → Nat} {v v' : E1} {ps : List Prop} (h : eqE σ v v' = some ps) (hp : ∀ p ∈ ps, p) : o7 σ v = v' := by
 unfold eqE at h
 split at h
 ·rw [← k5x h hp]; rfl
 ·rw [← x2 h hp]; rfl
 ·cases h
def k5v (σ : Nat → Nat) : List E1 → List E1 → Option (List Prop)
 | [], [] => some []
 | a :: l, b :: l' => mN (eqE σ a b) (k5v σ l l')
 | _, _ => none
theorem pU {σ : Nat → Nat} : ∀ {v v' : List E1} {ps : List Prop}, k5v σ v v' = some ps → (∀ p ∈ ps, p) → v.map (o7 σ) = v'
 | [], [], _, _, _ => rfl
 | a :: l, b :: l', _, h, hp => by
  obtain ⟨p, q, h1, h2, h3, h4⟩ := eI h hp
  rw [List.map_cons, k5w h1 h3, pU h2 h4]
 | [], _ :: _, _, h, _ => by cases h
 | _ :: _, [], _, h, _ => by cases h
def k92 (σ : Nat → Nat) : PV → PV → Option (List Prop)
 | .e x, .e y => eqE σ x y
 | .tup x, .tup y => k5v σ x y
 | _, _ => none
theorem k0f {σ : Nat → Nat} {v v' : PV} {ps : List Prop} (h : k92 σ v v' = some ps) (hp : ∀ p ∈ ps, p) : fP σ v = v' := by
 unfold k92 at h
 split at h
 ·rw [← k5w h hp]; rfl
 ·rw [← pU h hp]; rfl
 ·cases h
def idN (b : Nat) : Nat := b
theorem s0 : ∀ c : C, aM idN c = c
 | .d _ => rfl
 | .own .. => rfl
 | .ptr .. => rfl
 | .rp _ => rfl
 | .fn f qs => by show C.fn f (qs.map fun q => (q.1, q.2)) = _; rw [List.map_id']
theorem k3s : ∀ e : E1, o7 idN e = e
 | .c x => congrArg E1.c (s0 x)
 | .agg cs => by
  show E1.agg (cs.map (aM idN)) = _
  rw [show aM idN = id from funext s0, List.map_id]
theorem k93 {v v' : List E1} {ps : List Prop} (h : k5v idN v v' = some ps) (hp : ∀ p ∈ ps, p) : v = v' := by
 have := pU h hp
 rwa [show o7 idN = id from funext k3s, List.map_id] at this
end Go.Proofs.YtdbjebdomdnbkaaGreat
namespace Go.Proofs.YtdbjebdomdnbkaaGreat
open Go.ChangeShapes Go.WideShapes Go.ChangeAt Go.RowKit
set_option linter.unusedVariables false
set_option linter.unusedSimpArgs false
def mH (b : Nat) : List Nat → Nat → Option Nat
 | [], _ => none
 | p :: ps, k => match Nat.beq p b with
  | true => some k
  | false => mH b ps (k + 1)
theorem eE {b : Nat} : ∀ {ps : List Nat} {k i : Nat}, mH b ps k = some i → k ≤ i ∧ i - k < ps.length ∧ ps.getD (i - k) 0 = b
 | [], _, _, h => by cases h
 | p :: ps, k, i, h => by
  unfold mH at h
  split at h
  ·rename_i hb; cases h; refine ⟨Nat.le_refl _, by simp, ?_⟩; rw [Nat.sub_self]; exact Nat.eq_of_beq_eq_true hb
  ·obtain ⟨h1, h2, h3⟩ := eE h
   refine ⟨by omega, by simp; omega, ?_⟩
   rw [show i - k = (i - (k + 1)) + 1 by omega, List.getD_cons_succ]; exact h3
theorem k07 {b : Nat} : ∀ {ps : List Nat} {k : Nat}, mH b ps k = none → ps.contains b = false
 | [], _, _ => rfl
 | p :: ps, k, h => by
  unfold mH at h
  split at h
  ·cases h
  ·rename_i hb
   have : p ≠ b := fun e => by subst e; rw [Nat.beq_refl] at hb; cases hb
   rw [List.contains_cons, k07 h]; simpa using Ne.symm this
def k42 (ps : List Nat) : List (Nat × Nat) → Option (List (Nat × Nat))
 | [] => some []
 | q :: qs => match mH q.1 ps 0, k42 ps qs with
  | some i, some r => some ((i, q.2) :: r)
  | _, _ => none
theorem pF {ps : List Nat} {nx : Nat} : ∀ {qs r : List (Nat × Nat)}, k42 ps qs = some r → (r.all fun q => Nat.blt q.1 ps.length) = true ∧ r.map (fun q => (nm ps nx q.1, q.2)) = qs
 | [], _, h => by cases h; exact ⟨rfl, rfl⟩
 | q :: qs, _, h => by
  unfold k42 at h
  split at h
  ·rename_i i r hi hr
   cases h
   obtain ⟨h1, h2, h3⟩ := eE hi
   rw [Nat.sub_zero] at h2 h3
   obtain ⟨p1, p2⟩ := pF (nx := nx) hr
   refine ⟨?_, ?_⟩
   ·rw [List.all_cons, p1, Bool.and_true]; exact Nat.ble_eq_true_of_le h2
   ·rw [List.map_cons, p2, aT h2, h3]
  ·cases h
abbrev Sn := List (Option (List D))
def oT (g : EH) (ps : List Nat) : C → Sn → Option (List Prop × C × List Nat × Sn)
 | .d (.lit (.slice none 0 0)), some [.lit (.bool true)] :: sn => some ([], .d (.lit aV), [], sn)
 | .d (.lit (.slice none 0 0)), sn => some ([], .d (.sl [] 0), [], sn)
 | .d x, sn => some ([], .d x, [], sn)
 | .rp ds, sn => some ([], .rp ds, [], sn)
 | .fn f qs, sn => match k42 ps qs with
  | some r => some ([], .fn f r, [], sn)
  | none => none
 | .ptr b off, sn => match mH b ps 0 with
  | some i => some ([], .ptr i off, [], sn)
  | none => none
 | .own b off len s wh, sn => match mH b ps 0 with
  | some i => some ([], .own i off len s wh, [], sn)
  | none => match g.lookup b, sn with
   | some (some (_, .ds l)), none :: sn => match off with
    | 0 => some ([l.length = len * s], .d (.sl l len), [b], sn)
    | _ => none
   | some (some (_, .ds l)), some r :: sn => some ([(l.drop off).take (len * s) = r, r.length = len * s], .d (.sl r len), [b], sn)
   | _, _ => none
theorem mY {g : EH} {ps : List Nat} {nx : Nat} {snap : Bool} {foot : List Nat} {c c' : C} {sn sn' : Sn} {pr : List Prop} {ft : List Nat} (h : oT g ps c sn = some (pr, c', ft, sn')) (hp : ∀ p ∈ pr, p) (hf : ∀ b ∈ ft, foot.contains b = true ∧ snap = true) : PassC (kD g) ps nx snap foot c c' := by
 unfold oT at h
 split at h
 ·cases h; exact .same rfl rfl
 ·cases h; exact .nil
 ·cases h; exact .same rfl rfl
 ·cases h; exact .same rfl rfl
 ·split at h
  ·rename_i hi
   cases h
   obtain ⟨h1, h2⟩ := pF (nx := nx) hi
   exact .same h1 (by show C.fn _ _ = _; rw [h2])
  ·cases h
 ·split at h
  ·rename_i hi
   cases h
   obtain ⟨h1, h2, h3⟩ := eE hi
   rw [Nat.sub_zero] at h2 h3
   exact .same (Nat.ble_eq_true_of_le h2) (by show C.ptr _ _ = _; rw [aT h2, h3])
  ·cases h
 ·split at h
  ·rename_i hi
   cases h
   obtain ⟨h1, h2, h3⟩ := eE hi
   rw [Nat.sub_zero] at h2 h3
   exact .same (Nat.ble_eq_true_of_le h2) (by show C.own _ _ _ _ _ = _; rw [aT h2, h3])
  ·rename_i hi
   have hn := k07 hi
   split at h
   ·rename_i hb
    have hb' := qZ hb
    split at h
    ·cases h
     have h1 := hp _ (List.mem_cons_self ..)
     obtain ⟨f1, f2⟩ := hf _ (List.mem_cons_self ..)
     refine .own f2 hb' hn f1 ?_ h1
     rw [List.drop_zero]; exact List.take_of_length_le (by show (List.map C.d _).length ≤ _; rw [List.length_map, h1]; exact Nat.le_refl _)
    ·cases h
   ·rename_i hb
    have hb' := qZ hb
    cases h
    have h1 := hp _ (List.mem_cons_self ..)
    have h2 := hp _ (List.mem_cons_of_mem _ (List.mem_cons_self ..))
    obtain ⟨f1, f2⟩ := hf _ (List.mem_cons_self ..)
    refine .own f2 hb' hn f1 ?_ h2
    show ((List.map C.d _).drop _).take _ = _
    rw [← List.map_drop, ← List.map_take, h1]
   ·cases h
def zY (g : EH) (ps : List Nat) : List C → Sn → Option (List Prop × List C × List Nat × Sn)
 | [], sn => some ([], [], [], sn)
 | c :: cs, sn => match oT g ps c sn with
  | some (p1, c', f1, sn) => match zY g ps cs sn with
   | some (p2, cs', f2, sn) => some (p1 ++ p2, c' :: cs', f1 ++ f2, sn)
   | none => none
  | none => none
theorem sH {g : EH} {ps : List Nat} {nx : Nat} {snap : Bool} {foot : List Nat} : ∀ {cs cs' : List C} {sn sn' : Sn} {pr : List Prop} {ft : List Nat}, zY g ps cs sn = some (pr, cs', ft, sn') → (∀ p ∈ pr, p) → (∀ b ∈ ft, foot.contains b = true ∧ snap = true) → All2 (PassC (kD g) ps nx snap foot) cs cs'
 | [], _, _, _, _, _, h, _, _ => by cases h; trivial
 | c :: cs, _, _, _, _, _, h, hp, hf => by
  unfold zY at h
  split at h
  ·rename_i h1
   split at h
   ·rename_i h2
    cases h
    exact ⟨mY h1 (fun p hm => hp p (List.mem_append_left _ hm)) (fun b hm => hf b (List.mem_append_left _ hm)), sH h2 (fun p hm => hp p (List.mem_append_right _ hm)) (fun b hm => hf b (List.mem_append_right _ hm))⟩
   ·cases h
  ·cases h
def wW (g : EH) (ps : List Nat) : E1 → Sn → Option (List Prop × E1 × List Nat × Sn)
 | .c x, sn => match oT g ps x sn with
  | some (p, y, f, sn) => some (p, .c y, f, sn)
  | none => none
 | .agg cs, sn => match zY g ps cs sn with
  | some (p, y, f, sn) => some (p, .agg y, f, sn)
  | none => none
theorem k0z {g : EH} {ps : List Nat} {nx : Nat} {snap : Bool} {foot : List Nat} {c c' : E1} {sn sn' : Sn} {pr : List Prop} {ft : List Nat} (h : wW g ps c sn = some (pr, c', ft, sn')) (hp : ∀ p ∈ pr, p) (hf : ∀ b ∈ ft, foot.contains b = true ∧ snap = true) : PassE (kD g) ps nx snap foot c c' := by
 unfold wW at h
 split at h
 ·split at h
  ·rename_i h1; cases h; exact .c (mY h1 hp hf)
  ·cases h
 ·split at h
  ·rename_i h1; cases h; exact .agg (sH h1 hp hf)
  ·cases h
def j4 (g : EH) (ps : List Nat) : List E1 → Sn → Option (List Prop × List E1 × List Nat)
 | [], _ => some ([], [], [])
 | c :: cs, sn => match wW g ps c sn with
  | some (p1, c', f1, sn) => match j4 g ps cs sn with
   | some (p2, cs', f2) => some (p1 ++ p2, c' :: cs', f1 ++ f2)
   | none => none
  | none => none
theorem mX {g : EH} {ps : List Nat} {nx : Nat} {snap : Bool} {foot : List Nat} : ∀ {cs cs' : List E1} {sn : Sn} {pr : List Prop} {ft : List Nat}, j4 g ps cs sn = some (pr, cs', ft) → (∀ p ∈ pr, p) → (∀ b ∈ ft, foot.contains b = true ∧ snap = true) → All2 (PassE (kD g) ps nx snap foot) cs cs'
 | [], _, _, _, _, h, _, _ => by cases h; trivial
 | c :: cs, _, _, _, _, h, hp, hf => by
  unfold j4 at h
  split at h
  ·rename_i h1
   split at h
   ·rename_i h2
    cases h
    exact ⟨k0z h1 (fun p hm => hp p (List.mem_append_left _ hm)) (fun b hm => hf b (List.mem_append_left _ hm)), mX h2 (fun p hm => hp p (List.mem_append_right _ hm)) (fun b hm => hf b (List.mem_append_right _ hm))⟩
   ·cases h
  ·cases h
def u2s (ps : List Nat) : C → Option C
 | .d x => some (.d x)
 | .rp ds => some (.rp ds)
 | .fn f qs => match k42 ps qs with
  | some r => some (.fn f r)
  | none => none
 | .ptr b off => match mH b ps 0 with
  | some i => some (.ptr i off)
  | none => none
 | .own b off len s wh => match mH b ps 0 with
  | some i => some (.own i off len s wh)
  | none => none
theorem k8d {ps : List Nat} {nx : Nat} {c c' : C} (h : u2s ps c = some c') : dR ps.length c' = true ∧ aM (nm ps nx) c' = c := by
 unfold u2s at h
 split at h
 ·cases h; exact ⟨rfl, rfl⟩
 ·cases h; exact ⟨rfl, rfl⟩
 ·split at h
  ·rename_i hi
   cases h
   obtain ⟨h1, h2⟩ := pF (nx := nx) hi
   exact ⟨h1, by show C.fn _ _ = _; rw [h2]⟩
  ·cases h
 ·split at h
  ·rename_i hi
   cases h
   obtain ⟨h1, h2, h3⟩ := eE hi
   rw [Nat.sub_zero] at h2 h3
   exact ⟨Nat.ble_eq_true_of_le h2, by show C.ptr _ _ = _; rw [aT h2, h3]⟩
  ·cases h
 ·split at h
  ·rename_i hi
   cases h
   obtain ⟨h1, h2, h3⟩ := eE hi
   rw [Nat.sub_zero] at h2 h3
   exact ⟨Nat.ble_eq_true_of_le h2, by show C.own _ _ _ _ _ = _; rw [aT h2, h3]⟩
  ·cases h
def k8c (ps : List Nat) : List C → Option (List C)
 | [] => some []
 | c :: cs => match u2s ps c, k8c ps cs with
  | some c', some cs' => some (c' :: cs')
  | _, _ => none
theorem k0b {ps : List Nat} {nx : Nat} : ∀ {cs cs' : List C}, k8c ps cs = some cs' → cs'.all (dR ps.length) = true ∧ cs'.map (aM (nm ps nx)) = cs
 | [], _, h => by cases h; exact ⟨rfl, rfl⟩
 | c :: cs, _, h => by
  unfold k8c at h
  split at h
  ·rename_i h1 h2
   cases h
   obtain ⟨p1, p2⟩ := k8d (nx := nx) h1
   obtain ⟨p3, p4⟩ := k0b (nx := nx) h2
   exact ⟨by rw [List.all_cons, p1, p3]; rfl, by rw [List.map_cons, p2, p4]⟩
  ·cases h
def u2t (ps : List Nat) : BC → Option BC
 | .ds l => some (.ds l)
 | .cs l => match k8c ps l with
  | some r => some (.cs r)
  | none => none
theorem k8e {ps : List Nat} {nx : Nat} {b b' : BC} (h : u2t ps b = some b') : b'.to.all (dR ps.length) = true ∧ b'.to.map (aM (nm ps nx)) = b.to := by
 unfold u2t at h
 split at h
 ·cases h
  refine ⟨?_, ?_⟩
  ·show (List.map C.d _).all _ = true
   rw [List.all_map]; exact List.all_eq_true.2 fun _ _ => rfl
  ·show List.map _ (List.map C.d _) = List.map C.d _
   rw [List.map_map]; rfl
 ·split at h
  ·rename_i h1; cases h; exact k0b h1
  ·cases h
def tI (g : EH) (ps : List Nat) : List Nat → Nat → Option EH
 | [], _ => some []
 | b :: bs, k => match g.lookup b with
  | some (some (T, bc)) => match u2t ps bc, tI g ps bs (k + 1) with
   | some bc', some r => some ((k, some (T, bc')) :: r)
   | _, _ => none
  | _ => none
theorem tH {g : EH} {ps : List Nat} {nx : Nat} : ∀ {bs : List Nat} {k : Nat} {r : EH}, tI g ps bs k = some r → ps.drop k = bs → (∀ x ∈ kD r, ∀ T cs, x.2 = some (T, cs) → cs.all (dR ps.length) = true ∧ x.1 < ps.length ∧ Look (kD g) (nm ps nx x.1) (some (T, cs.map (aM (nm ps nx))))) ∧ ∀ b ∈ bs, ∃ x : Bk, Look (kD g) b (some x)
 | [], _, _, h, _ => by cases h; exact ⟨fun x hx => (by cases hx), fun b hb => (by cases hb)⟩
 | b :: bs, k, r, h, hd => by
  unfold tI at h
  split at h
  ·rename_i T bc hb
   split at h
   ·rename_i bc' r' h1 h2
    cases h
    have hk : k < ps.length := by
     rcases Nat.lt_or_ge k ps.length with h | h
     ·exact h
     ·rw [List.drop_eq_nil_of_le h] at hd; cases hd
    have hd' := List.drop_eq_getElem_cons hk
    rw [hd] at hd'
    obtain ⟨e1, e2⟩ := List.cons.inj hd'
    obtain ⟨q1, q2⟩ := tH (nx := nx) h2 e2.symm
    obtain ⟨p1, p2⟩ := k8e (nx := nx) h1
    refine ⟨?_, ?_⟩
    ·intro x hx T' cs' he
     rcases List.mem_cons.1 (show x ∈ (k, some (T, bc'.to)) :: kD r' from hx) with rfl | hx
     ·simp only [Option.some.injEq, Prod.mk.injEq] at he
      obtain ⟨rfl, rfl⟩ := he
      refine ⟨p1, hk, ?_⟩
      rw [p2, aT hk, List.getD_eq_getElem?_getD, List.getElem?_eq_getElem hk, Option.getD_some, ← e1]
      exact qZ hb
     ·exact q1 x hx T' cs' he
    ·intro b' hb'
     rcases List.mem_cons.1 hb' with rfl | hb'
     ·exact ⟨_, qZ hb⟩
     ·exact q2 b' hb'
   ·cases h
  ·cases h
def hY (l : List (Nat × PV)) : List Operand → Option (List E1)
 | [] => some []
 | x :: xs => match aB l x, hY l xs with
  | some (.e e), some es => some (e :: es)
  | _, _ => none
theorem eG {l : List (Nat × PV)} : ∀ {xs : List Operand} {es : List E1}, hY l xs = some es → EvA l xs es
 | [], _, h => by cases h; exact .nil
 | x :: xs, _, h => by
  unfold hY at h
  split at h
  ·rename_i h1 h2; cases h; exact .cons (hX h1) (eG h2)
  ·cases h
def u2n (σ : Nat → Nat) : BC → BC
 | .ds l => .ds l
 | .cs l => .cs (l.map (aM σ))
theorem k7y (σ : Nat → Nat) (b : BC) : (u2n σ b).to = b.to.map (aM σ) := by
 cases b with
 | ds l => show List.map C.d l = List.map _ (List.map C.d l); rw [List.map_map]; rfl
 | cs l => rfl
def k3u (σ : Nat → Nat) : Option EBk → Option EBk
 | some x => some (x.1, u2n σ x.2)
 | none => none
theorem k3t (σ : Nat → Nat) (b : Option EBk) : r9 (k3u σ b) = eQ σ (r9 b) := by
 cases b with
 | none => rfl
 | some x => show some (x.1, (u2n σ x.2).to) = some (x.1, x.2.to.map (aM σ)); rw [k7y]
def sZ (f : Nat → Nat) : EH → EH
 | [] => []
 | x :: g => (f x.1, k3u f x.2) :: sZ f g
theorem sY (f : Nat → Nat) : ∀ g : EH, kD (sZ f g) = (kD g).map (fun x => (f x.1, eQ f x.2))
 | [] => rfl
 | x :: g => by
  show (f x.1, r9 (k3u f x.2)) :: kD (sZ f g) = (f x.1, eQ f (r9 x.2)) :: (kD g).map _
  rw [k3t, sY f g]
def z9 : D → Bool
 | .lit _ => true
 | .sl _ _ => false
def nsG : EH → List Prop
 | [] => []
 | (_, some (_, .ds l)) :: g => (l.all z9 = true) :: nsG g
 | (_, some (_, .cs l)) :: g => (l.all fL = true) :: nsG g
 | (_, none) :: g => nsG g
theorem o4 : ∀ {g : EH}, (∀ p ∈ nsG g, p) → m8 (kD g) = true
 | [], _ => rfl
 | (b, some (T, .ds l)) :: g, h => by
  have h1 := h _ (List.mem_cons_self ..)
  have h2 := o4 (g := g) fun p hp => h p (List.mem_cons_of_mem _ hp)
  show List.all ((b, some (T, List.map C.d l)) :: kD g) _ = true
  rw [List.all_cons]
  unfold m8 at h2
  rw [h2, Bool.and_true]
  show (List.map C.d l).all fL = true
  rw [List.all_map]
  rw [← h1]; congr 1; funext x; cases x <;> rfl
 | (b, some (T, .cs l)) :: g, h => by
  have h1 := h _ (List.mem_cons_self ..)
  have h2 := o4 (g := g) fun p hp => h p (List.mem_cons_of_mem _ hp)
  show List.all ((b, some (T, l)) :: kD g) _ = true
  rw [List.all_cons]
  unfold m8 at h2
  rw [h2, Bool.and_true]; exact h1
 | (b, none) :: g, h => by
  have h2 := o4 (g := g) h
  show List.all ((b, none) :: kD g) _ = true
  rw [List.all_cons]
  unfold m8 at h2
  rw [h2]; rfl
def u5x (ft : List Nat) (y : PV) (gout : EH) : List Prop := match ft with
 | [] => []
 | _ :: _ => (lA y = true) :: nsG gout
def k94 (P : Program) (f : FuncId) : Bool := match P.funcs[f]? with
 | some fn => match fn.name == "runtime.NumGoroutine", fn.body with
  | false, some _ => true
  | _, _ => false
 | none => false
theorem pV {f : FuncId} (h : k94 Tryz.prog f = true) (ar : Array Value) (w : World) : (callFunc f ar).run Tryz.prog w = .ok (.enter f ar) w := by
 unfold k94 at h
 split at h
 ·rename_i fn hf
  split at h
  ·rename_i h1 h2
   unfold callFunc
   have h3 : ¬ fn.name = "runtime.NumGoroutine" := by intro e; rw [e] at h1; simp at h1
   simp [hf, h2, h3]
  ·cases h
 ·cases h
def k75 (xo : Option (List E1)) (xs : List E1) : Option (List Prop × List E1) := match xo with
 | none => some ([], xs)
 | some xs' => match k5v idN xs' xs with
  | some ps => some (ps, xs')
  | none => none
theorem k74 {xo : Option (List E1)} {xs xs' : List E1} {ps : List Prop} (h : k75 xo xs = some (ps, xs')) (hp : ∀ p ∈ ps, p) : xs' = xs := by
 unfold k75 at h
 split at h
 ·cases h; rfl
 ·split at h
  ·rename_i he; cases h; exact k93 he hp
  ·cases h
def k5p (l : List (Nat × PV)) (args : List Operand) (qs : List (Nat × Nat)) : Option (List E1) := match hY l args with
 | some us => some ((qs.map fun q => E1.c (.ptr q.1 q.2)) ++ us)
 | none => none
def k5q (l : List (Nat × PV)) (args : List Operand) (qs : List (Nat × Nat)) : Option (List E1) := match hY l args with
 | some us => some (us ++ qs.map fun q => .c (.ptr q.1 q.2))
 | none => none
def dV (P : Program) (Fn : FuncId → List E1 → List (Nat × Option Bk) → Nat → PV → List (Nat × Option Bk) → Nat → Prop) (h : H) (g : EH) (nx : Nat) (f : FuncId) (ao : Option (List E1)) : R := match h with
 | .call ps y gout nout snaps xo => match ao, k94 P f with
  | some us, true => match j4 g ps us snaps, tI g ps ps 0 with
   | some (pr, xs, ft), some gin => match z2 ps (kD gout) nout, k75 xo xs with
    | true, some (pe, xs') => some (pr ++ (u5x ft y gout ++ (pe ++ [Fn f xs' (kD gin) ps.length y (kD gout) nout])), ⟨fP (nm ps nx) y, sZ (nm ps nx) gout, (List.range (nout - ps.length)).map (nx + ·), ps ++ ft⟩)
    | _, _ => none
   | _, _ => none
  | _, _ => none
 | _ => none
def u2y : PV → Option (FuncId × List (Nat × Nat))
 | .e (.c (.fn f qs)) => some (f, qs)
 | _ => none
theorem k8j {u : PV} {f : FuncId} {qs : List (Nat × Nat)} (h : u2y u = some (f, qs)) : u = .e (.c (.fn f qs)) := by
 unfold u2y at h
 split at h
 ·cases h; rfl
 ·cases h
def k2q : List E1 → Option (List (Nat × Nat))
 | [] => some []
 | .c (.ptr b off) :: es => match k2q es with
  | some r => some ((b, off) :: r)
  | none => none
 | _ :: _ => none
theorem oR {p : Nat → Prop} {ρ : Rh} {w : World} : ∀ {es : List E1} {qs : List (Nat × Nat)} {vs : List Value}, k2q es = some qs → All2 (RepE p ρ w) es vs → All2 (k6r ρ) qs vs
 | [], _, [], h, _ => by cases h; trivial
 | .c (.ptr b off) :: es, _, v :: vs, h, hv => by
  unfold k2q at h
  split at h
  ·rename_i hr
   cases h
   obtain ⟨m, h1, h2, h3⟩ := bQ (b := b) (off := off) (v := v) hv.1
   exact ⟨⟨m, h1, h2, h3⟩, oR hr hv.2⟩
  ·cases h
 | .c (.d _) :: _, _, _, h, _ => by cases h
 | .c (.own ..) :: _, _, _, h, _ => by cases h
 | .c (.rp _) :: _, _, _, h, _ => by cases h
 | .c (.fn ..) :: _, _, _, h, _ => by cases h
 | .agg _ :: _, _, _, h, _ => by cases h
def k4z (l : List (Nat × PV)) (f : FuncId) (firsts : List Operand) : R := match hY l firsts with
 | some es => match k2q es with
  | some qs => pv (.e (.c (.fn (f + mL) qs)))
  | none => none
 | none => none
def u37 (l : List (Nat × PV)) (f : FuncId) (caps : List Operand) : R := match hY l caps with
 | some es => match k2q es, Nat.blt f mL with
  | some qs, true => pv (.e (.c (.fn f qs)))
  | _, _ => none
 | none => none
section
variable {cx : Cx} {o : Oper} {l : List (Nat × PV)} {g : EH}
theorem k8u {f : FuncId} {first caps : Array Operand} (ho : o.op = .makeFunc (.func f) first caps) (h0 : first.toList = []) : OKR cx o l g (u37 l f caps.toList) := by
 unfold u37
 split
 ·rename_i es hes
  split
  ·rename_i qs hqs hlo
   refine OKR.some fun _ => qM fun ρ a w hs => ?_
   have hav := (eG hes).rep hs (by intro x hx; rw [ho]; simp only [Op.operands]; simp at hx ⊢; exact .inr hx)
   have h0' : first = #[] := by apply Array.ext'; simpa using h0
   subst h0'
   have hfn : RepC cx.p ρ w (.fn f qs) (fnV f (caps.toList.map a.eval)) := .fn f qs _ (oR hqs hav)
   rw [xN hlo] at hfn
   refine ⟨.func (.func f) #[] (caps.toList.map a.eval).toArray, ?_, hfn⟩
   unfold execOp
   rw [show (caps.toList.map a.eval).toArray = caps.map a.eval by apply Array.ext'; simp]
   simp [ho, Instr.makeFunc]
  ·exact OKR.none
 ·exact OKR.none
theorem k4y {f : FuncId} {first caps : Array Operand} (ho : o.op = .makeFunc (.func f) first caps) (h0 : caps.toList = []) : OKR cx o l g (k4z l f first.toList) := by
 unfold k4z
 split
 ·rename_i es hes
  split
  ·rename_i qs hqs
   refine OKR.some fun _ => qM fun ρ a w hs => ?_
   have hav := (eG hes).rep hs (by intro x hx; rw [ho]; simp only [Op.operands]; simp at hx ⊢; exact .inl hx)
   have h0' : caps = #[] := by apply Array.ext'; simpa using h0
   subst h0'
   have hfn : RepC cx.p ρ w (.fn (f + mL) qs) (fnV (f + mL) (first.toList.map a.eval)) := .fn _ qs _ (oR hqs hav)
   rw [u2x] at hfn
   refine ⟨.func (.func f) (first.toList.map a.eval).toArray #[], ?_, hfn⟩
   unfold execOp
   rw [show (first.toList.map a.eval).toArray = first.map a.eval by apply Array.ext'; simp]
   simp [ho, Instr.makeFunc]
  ·exact OKR.none
 ·exact OKR.none
theorem u6y {nx nout : Nat} {f : FuncId} {ps : List Nat} {y : PV} {gout gin : EH} {snaps : Sn} {us xs : List E1} {pr : List Prop} {ft : List Nat}
  (hrun : ∀ ρ a w, aN cx.p ρ w l o.op.operands a → ∃ av : List Value, (execOp a.eval o).run Tryz.prog w = .ok (.enter f av.toArray) w ∧ All2 (RepE cx.p ρ w) us av) (hpass : j4 g ps us snaps = some (pr, xs, ft)) (hgin : tI g ps ps 0 = some gin) (hout : z2 ps (kD gout) nout = true)
  {xo : Option (List E1)} {pe : List Prop} {xs' : List E1} (hxo : k75 xo xs = some (pe, xs')) (hp : ∀ p ∈ pr ++ (u5x ft y gout ++ (pe ++ [Fun f xs' (kD gin) ps.length y (kD gout) nout])), p) : OpOK cx o (S l) (S (kD g)) (OTe.to ⟨fP (nm ps nx) y, sZ (nm ps nx) gout, (List.range (nout - ps.length)).map (nx + ·), ps ++ ft⟩) := by
 have hF : Fun f xs' (kD gin) ps.length y (kD gout) nout := hp _ (List.mem_append_right _ (List.mem_append_right _ (List.mem_append_right _ (List.mem_cons_self ..))))
 have hxx := k74 hxo (fun p h => hp p (List.mem_append_right _ (List.mem_append_right _ (List.mem_append_left _ h))))
 rw [hxx] at hF
 obtain ⟨q1, q2⟩ := tH (nx := nx) hgin (by rw [List.drop_zero])
 have hall : All2 (PassE (kD g) ps nx (!ft.isEmpty) (ps ++ ft)) us xs := mX hpass (fun p h => hp p (List.mem_append_left _ h)) (fun b hb => ⟨by simp [hb], by cases ft with | nil => cases hb | cons => rfl⟩)
 have := k37 (cx := cx) (nx := nx) hrun hall hF q1 (fun b hb => ⟨by simp [hb], q2 b hb⟩) hout (by
  cases ft with
  | nil => exact .inl rfl
  | cons a b =>
   right
   rw [Bool.and_eq_true]
   exact ⟨hp _ (List.mem_append_right _ (List.mem_append_left _ (List.mem_cons_self ..))), o4 fun p h => hp p (List.mem_append_right _ (List.mem_append_left _ (List.mem_cons_of_mem _ h)))⟩)
 rw [← sY] at this
 exact this
theorem fC {h : H} {nx : Nat} {f : FuncId} {ao : Option (List E1)} (hrun : ∀ us, ao = some us → k94 Tryz.prog f = true → ∀ ρ a w, aN cx.p ρ w l o.op.operands a → ∃ av : List Value, (execOp a.eval o).run Tryz.prog w = .ok (.enter f av.toArray) w ∧ All2 (RepE cx.p ρ w) us av) : OKR cx o l g (dV Tryz.prog Fun h g nx f ao) := by
 unfold dV
 split
 ·split
  ·rename_i us hent
   split
   ·rename_i hpass hgin
    split
    ·rename_i hout hxo
     exact OKR.some fun hp => u6y (hrun us rfl hent) hpass hgin hout hxo ((qL _).1 hp)
    ·exact OKR.none
   ·exact OKR.none
  ·exact OKR.none
 ·exact OKR.none
theorem k1i {h : H} {nx : Nat} {f : FuncId} {args : Array Operand} {ts : Array TypeId} (ho : o.op = .call { callee := .value (.func f), args := args, argTypes := ts }) : OKR cx o l g (dV Tryz.prog Fun h g nx f (hY l args.toList)) :=
 fC fun us hus hent ρ a w hs => k0x ho (pV hent) (eG hus) hs
theorem xW {h : H} {nx : Nat} {f : FuncId} {qs : List (Nat × Nat)} {x : Operand} {args : Array Operand} {ts : Array TypeId} (ho : o.op = .call { callee := .value x, args := args, argTypes := ts }) (hx : Ev l x (.e (.c (.fn f qs)))) (hlo : Nat.blt f mL = true) : OKR cx o l g (dV Tryz.prog Fun h g nx f (k5q l args.toList qs)) := by
 refine fC fun us hus hent ρ a w hs => ?_
 unfold k5q at hus
 split at hus
 ·rename_i us0 hus0
  cases hus
  exact k0w hlo ho (pV hent) hx (eG hus0) hs
 ·cases hus
theorem xX {h : H} {nx : Nat} {f : FuncId} {qs : List (Nat × Nat)} {x : Operand} {args : Array Operand} {ts : Array TypeId} (ho : o.op = .call { callee := .value x, args := args, argTypes := ts }) (hx : Ev l x (.e (.c (.fn f qs)))) (hlo : Nat.blt f mL = false) : OKR cx o l g (dV Tryz.prog Fun h g nx (fnU f) (k5p l args.toList qs)) := by
 refine fC fun us hus hent ρ a w hs => ?_
 unfold k5p at hus
 split at hus
 ·rename_i us0 hus0
  cases hus
  exact k0y hlo ho (pV hent) hx (eG hus0) hs
 ·cases hus
end
end Go.Proofs.YtdbjebdomdnbkaaGreat
