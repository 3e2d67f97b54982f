/- Merged texts. -/
import Derived.Test.YtdbjebdomdnbkaaZAmF
import Derived.Test.YtdbjebdomdnbkaaZAmH
import Derived.Test.YtdbjebdomdnbkaaZAmS
namespace Go.Proofs.Ytdbjebdomdnbkaa
open Go.ChangeShapes Go.WideShapes Go.ChangeAt Go.RowKit
set_option linter.unusedVariables false
set_option linter.unusedSimpArgs false
/-! what is the same -/
def eqV : Value → Value → Option (List Prop)
 | .int k a, .int k' b => if k = k' then some [a = b] else none
 | .bool a, .bool b => some [a = b]
 | v, v' => some [v = v']
theorem u2w {v v' : Value} {ps : List Prop} (h : eqV v v' = some ps) (hp : ∀ p ∈ ps, p) : v = v' := by
 unfold eqV at h
 split at h
 ·split at h
  ·rename_i hk; subst hk; cases h; rw [show _ = _ from hp _ (List.mem_cons_self ..)]
  ·cases h
 ·cases h; rw [show _ = _ from hp _ (List.mem_cons_self ..)]
 ·cases h; exact hp _ (List.mem_cons_self ..)
def eqD : D → D → Option (List Prop)
 | .lit v, .lit v' => eqV v v'
 | .sl ds n, .sl ds' n' => some [ds = ds', n = n']
 | _, _ => none
theorem u2x {v v' : D} {ps : List Prop} (h : eqD v v' = some ps) (hp : ∀ p ∈ ps, p) : v = v' := by
 unfold eqD at h
 split at h
 ·rw [u2w h hp]
 ·cases h; rw [show _ = _ from hp _ (List.mem_cons_self ..), show _ = _ from hp _ (List.mem_cons_of_mem _ (List.mem_cons_self ..))]
 ·cases h
def eqC (σ : Nat → Nat) : C → C → Option (List Prop)
 | .d x, .d y => eqD x y
 | .own b off len s wh, .own b' off' len' s' wh' => match Nat.beq (σ b) b' && (Nat.beq s s' && (wh == wh')) with
  | true => some [off = off', len = len']
  | false => none
 | .ptr b off, .ptr b' off' => match Nat.beq (σ b) b' with
  | true => some [off = off']
  | false => none
 | .rp ds, .rp ds' => some [ds = ds']
 | .fn f qs, .fn f' qs' => match Nat.beq f f' && decide ((qs.map fun q => (σ q.1, q.2)) = qs') with
  | true => some []
  | false => none
 | _, _ => none
theorem k67 {σ : Nat → Nat} {v v' : C} {ps : List Prop} (h : eqC σ v v' = some ps) (hp : ∀ p ∈ ps, p) : aK σ v = v' := by
 unfold eqC at h
 split at h
 ·rw [u2x h hp]; rfl
 ·split at h
  ·rename_i hb
   simp only [Bool.and_eq_true] at hb
   obtain ⟨h1, h2, h3⟩ := hb
   have h1 := Nat.eq_of_beq_eq_true h1
   have h2 := Nat.eq_of_beq_eq_true h2
   have h3 := eq_of_beq h3
   cases h
   have e1 := hp (_ = _) (List.mem_cons_self ..)
   have e2 := hp (_ = _) (List.mem_cons_of_mem _ (List.mem_cons_self ..))
   subst h2; subst h3; subst e1; subst e2; rw [← h1]; rfl
  ·cases h
 ·split at h
  ·rename_i hb
   have h1 := Nat.eq_of_beq_eq_true hb
   cases h
   have e1 := hp (_ = _) (List.mem_cons_self ..)
   subst e1; rw [← h1]; rfl
  ·cases h
 ·cases h; rw [show _ = _ from hp _ (List.mem_cons_self ..)]; rfl
 ·split at h
  ·rename_i hb
   rw [Bool.and_eq_true] at hb
   have h1 := Nat.eq_of_beq_eq_true hb.1
   have h2 := of_decide_eq_true hb.2
   subst h1; subst h2; rfl
  ·cases h
 ·cases h
def sD (a b : Option (List Prop)) : Option (List Prop) := match a with
 | some p => match b with
  | some q => some (p ++ q)
  | none => none
 | none => none
theorem fC {a b : Option (List Prop)} {ps : List Prop} (h : sD a b = some ps) (hp : ∀ p ∈ ps, p) : ∃ p q, a = some p ∧ b = some q ∧ (∀ x ∈ p, x) ∧ ∀ x ∈ q, x := by
 unfold sD at h
 split at h
 ·split at h
  ·cases h; exact ⟨_, _, rfl, rfl, fun x hx => hp x (List.mem_append_left _ hx), fun x hx => hp x (List.mem_append_right _ hx)⟩
  ·cases h
 ·cases h
def eqL (σ : Nat → Nat) : List C → List C → Option (List Prop)
 | [], [] => some []
 | a :: l, b :: l' => sD (eqC σ a b) (eqL σ l l')
 | _, _ => none
theorem zJ {σ : Nat → Nat} : ∀ {v v' : List C} {ps : List Prop}, eqL σ v v' = some ps → (∀ p ∈ ps, p) → v.map (aK σ) = v'
 | [], [], _, _, _ => rfl
 | a :: l, b :: l', _, h, hp => by
  obtain ⟨p, q, h1, h2, h3, h4⟩ := fC h hp
  rw [List.map_cons, k67 h1 h3, zJ h2 h4]
 | [], _ :: _, _, h, _ => by cases h
 | _ :: _, [], _, h, _ => by cases h
def eqE (σ : Nat → Nat) : E1 → E1 → Option (List Prop)
 | .c x, .c y => eqC σ x y
 | .agg x, .agg y => eqL σ x y
 | _, _ => none
theorem k66 {σ : Nat → Nat} {v v' : E1} {ps : List Prop} (h : eqE σ v v' = some ps) (hp : ∀ p ∈ ps, p) : rD σ v = v' := by
 unfold eqE at h
 split at h
 ·rw [← k67 h hp]; rfl
 ·rw [← zJ h hp]; rfl
 ·cases h
def k65 (σ : Nat → Nat) : List E1 → List E1 → Option (List Prop)
 | [], [] => some []
 | a :: l, b :: l' => sD (eqE σ a b) (k65 σ l l')
 | _, _ => none
theorem r8 {σ : Nat → Nat} : ∀ {v v' : List E1} {ps : List Prop}, k65 σ v v' = some ps → (∀ p ∈ ps, p) → v.map (rD σ) = v'
 | [], [], _, _, _ => rfl
 | a :: l, b :: l', _, h, hp => by
  obtain ⟨p, q, h1, h2, h3, h4⟩ := fC h hp
  rw [List.map_cons, k66 h1 h3, r8 h2 h4]
 | [], _ :: _, _, h, _ => by cases h
 | _ :: _, [], _, h, _ => by cases h
def k8x (σ : Nat → Nat) : PV → PV → Option (List Prop)
 | .e x, .e y => eqE σ x y
 | .tup x, .tup y => k65 σ x y
 | _, _ => none
theorem k0q {σ : Nat → Nat} {v v' : PV} {ps : List Prop} (h : k8x σ v v' = some ps) (hp : ∀ p ∈ ps, p) : gM σ v = v' := by
 unfold k8x at h
 split at h
 ·rw [← k66 h hp]; rfl
 ·rw [← r8 h hp]; rfl
 ·cases h
def idN (b : Nat) : Nat := b
theorem tW : ∀ c : C, aK idN c = c
 | .d _ => rfl
 | .own .. => rfl
 | .ptr .. => rfl
 | .rp _ => rfl
 | .fn f qs => by show C.fn f (qs.map fun q => (q.1, q.2)) = _; rw [List.map_id']
theorem k44 : ∀ e : E1, rD idN e = e
 | .c x => congrArg E1.c (tW x)
 | .agg cs => by
  show E1.agg (cs.map (aK idN)) = _
  rw [show aK idN = id from funext tW, List.map_id]
theorem k8y {v v' : List E1} {ps : List Prop} (h : k65 idN v v' = some ps) (hp : ∀ p ∈ ps, p) : v = v' := by
 have := r8 h hp
 rwa [show rD idN = id from funext k44, List.map_id] at this
end Go.Proofs.Ytdbjebdomdnbkaa
namespace Go.Proofs.Ytdbjebdomdnbkaa
open Go.ChangeShapes Go.WideShapes Go.ChangeAt Go.RowKit
set_option linter.unusedVariables false
set_option linter.unusedSimpArgs false
def nC (b : Nat) : List Nat → Nat → Option Nat
 | [], _ => none
 | p :: ps, k => match Nat.beq p b with
  | true => some k
  | false => nC b ps (k + 1)
theorem eY {b : Nat} : ∀ {ps : List Nat} {k i : Nat}, nC b ps k = some i → k ≤ i ∧ i - k < ps.length ∧ ps.getD (i - k) 0 = b
 | [], _, _, h => by cases h
 | p :: ps, k, i, h => by
  unfold nC at h
  split at h
  ·rename_i hb; cases h; refine ⟨Nat.le_refl _, by simp, ?_⟩; rw [Nat.sub_self]; exact Nat.eq_of_beq_eq_true hb
  ·obtain ⟨h1, h2, h3⟩ := eY h
   refine ⟨by omega, by simp; omega, ?_⟩
   rw [show i - k = (i - (k + 1)) + 1 by omega, List.getD_cons_succ]; exact h3
theorem k0i {b : Nat} : ∀ {ps : List Nat} {k : Nat}, nC b ps k = none → ps.contains b = false
 | [], _, _ => rfl
 | p :: ps, k, h => by
  unfold nC at h
  split at h
  ·cases h
  ·rename_i hb
   have : p ≠ b := fun e => by subst e; rw [Nat.beq_refl] at hb; cases hb
   rw [List.contains_cons, k0i h]; simpa using Ne.symm this
def k4e (ps : List Nat) : List (Nat × Nat) → Option (List (Nat × Nat))
 | [] => some []
 | q :: qs => match nC q.1 ps 0, k4e ps qs with
  | some i, some r => some ((i, q.2) :: r)
  | _, _ => none
theorem rL {ps : List Nat} {nx : Nat} : ∀ {qs r : List (Nat × Nat)}, k4e ps qs = some r → (r.all fun q => Nat.blt q.1 ps.length) = true ∧ r.map (fun q => (nm ps nx q.1, q.2)) = qs
 | [], _, h => by cases h; exact ⟨rfl, rfl⟩
 | q :: qs, _, h => by
  unfold k4e at h
  split at h
  ·rename_i i r hi hr
   cases h
   obtain ⟨h1, h2, h3⟩ := eY hi
   rw [Nat.sub_zero] at h2 h3
   obtain ⟨p1, p2⟩ := rL (nx := nx) hr
   refine ⟨?_, ?_⟩
   ·rw [List.all_cons, p1, Bool.and_true]; exact Nat.ble_eq_true_of_le h2
   ·rw [List.map_cons, p2, aQ h2, h3]
  ·cases h
abbrev Sn := List (Option (List D))
def pT (g : EH) (ps : List Nat) : C → Sn → Option (List Prop × C × List Nat × Sn)
 | .d (.lit (.slice none 0 0)), some [.lit (.bool true)] :: sn => some ([], .d (.lit aT), [], sn)
 | .d (.lit (.slice none 0 0)), sn => some ([], .d (.sl [] 0), [], sn)
 | .d x, sn => some ([], .d x, [], sn)
 | .rp ds, sn => some ([], .rp ds, [], sn)
 | .fn f qs, sn => match k4e ps qs with
  | some r => some ([], .fn f r, [], sn)
  | none => none
 | .ptr b off, sn => match nC b ps 0 with
  | some i => some ([], .ptr i off, [], sn)
  | none => none
 | .own b off len s wh, sn => match nC b ps 0 with
  | some i => some ([], .own i off len s wh, [], sn)
  | none => match g.lookup b, sn with
   | some (some (_, .ds l)), none :: sn => match off with
    | 0 => some ([l.length = len * s], .d (.sl l len), [b], sn)
    | _ => none
   | some (some (_, .ds l)), some r :: sn => some ([(l.drop off).take (len * s) = r, r.length = len * s], .d (.sl r len), [b], sn)
   | _, _ => none
theorem nU {g : EH} {ps : List Nat} {nx : Nat} {snap : Bool} {foot : List Nat} {c c' : C} {sn sn' : Sn} {pr : List Prop} {ft : List Nat} (h : pT g ps c sn = some (pr, c', ft, sn')) (hp : ∀ p ∈ pr, p) (hf : ∀ b ∈ ft, foot.contains b = true ∧ snap = true) : PassC (kF g) ps nx snap foot c c' := by
 unfold pT at h
 split at h
 ·cases h; exact .same rfl rfl
 ·cases h; exact .nil
 ·cases h; exact .same rfl rfl
 ·cases h; exact .same rfl rfl
 ·split at h
  ·rename_i hi
   cases h
   obtain ⟨h1, h2⟩ := rL (nx := nx) hi
   exact .same h1 (by show C.fn _ _ = _; rw [h2])
  ·cases h
 ·split at h
  ·rename_i hi
   cases h
   obtain ⟨h1, h2, h3⟩ := eY hi
   rw [Nat.sub_zero] at h2 h3
   exact .same (Nat.ble_eq_true_of_le h2) (by show C.ptr _ _ = _; rw [aQ h2, h3])
  ·cases h
 ·split at h
  ·rename_i hi
   cases h
   obtain ⟨h1, h2, h3⟩ := eY hi
   rw [Nat.sub_zero] at h2 h3
   exact .same (Nat.ble_eq_true_of_le h2) (by show C.own _ _ _ _ _ = _; rw [aQ h2, h3])
  ·rename_i hi
   have hn := k0i hi
   split at h
   ·rename_i hb
    have hb' := qV hb
    split at h
    ·cases h
     have h1 := hp _ (List.mem_cons_self ..)
     obtain ⟨f1, f2⟩ := hf _ (List.mem_cons_self ..)
     refine .own f2 hb' hn f1 ?_ h1
     rw [List.drop_zero]; exact List.take_of_length_le (by show (List.map C.d _).length ≤ _; rw [List.length_map, h1]; exact Nat.le_refl _)
    ·cases h
   ·rename_i hb
    have hb' := qV hb
    cases h
    have h1 := hp _ (List.mem_cons_self ..)
    have h2 := hp _ (List.mem_cons_of_mem _ (List.mem_cons_self ..))
    obtain ⟨f1, f2⟩ := hf _ (List.mem_cons_self ..)
    refine .own f2 hb' hn f1 ?_ h2
    show ((List.map C.d _).drop _).take _ = _
    rw [← List.map_drop, ← List.map_take, h1]
   ·cases h
def k03 (g : EH) (ps : List Nat) : List C → Sn → Option (List Prop × List C × List Nat × Sn)
 | [], sn => some ([], [], [], sn)
 | c :: cs, sn => match pT g ps c sn with
  | some (p1, c', f1, sn) => match k03 g ps cs sn with
   | some (p2, cs', f2, sn) => some (p1 ++ p2, c' :: cs', f1 ++ f2, sn)
   | none => none
  | none => none
theorem tF {g : EH} {ps : List Nat} {nx : Nat} {snap : Bool} {foot : List Nat} : ∀ {cs cs' : List C} {sn sn' : Sn} {pr : List Prop} {ft : List Nat}, k03 g ps cs sn = some (pr, cs', ft, sn') → (∀ p ∈ pr, p) → (∀ b ∈ ft, foot.contains b = true ∧ snap = true) → All2 (PassC (kF g) ps nx snap foot) cs cs'
 | [], _, _, _, _, _, h, _, _ => by cases h; trivial
 | c :: cs, _, _, _, _, _, h, hp, hf => by
  unfold k03 at h
  split at h
  ·rename_i h1
   split at h
   ·rename_i h2
    cases h
    exact ⟨nU h1 (fun p hm => hp p (List.mem_append_left _ hm)) (fun b hm => hf b (List.mem_append_left _ hm)), tF h2 (fun p hm => hp p (List.mem_append_right _ hm)) (fun b hm => hf b (List.mem_append_right _ hm))⟩
   ·cases h
  ·cases h
def xF (g : EH) (ps : List Nat) : E1 → Sn → Option (List Prop × E1 × List Nat × Sn)
 | .c x, sn => match pT g ps x sn with
  | some (p, y, f, sn) => some (p, .c y, f, sn)
  | none => none
 | .agg cs, sn => match k03 g ps cs sn with
  | some (p, y, f, sn) => some (p, .agg y, f, sn)
  | none => none
theorem k1d {g : EH} {ps : List Nat} {nx : Nat} {snap : Bool} {foot : List Nat} {c c' : E1} {sn sn' : Sn} {pr : List Prop} {ft : List Nat} (h : xF g ps c sn = some (pr, c', ft, sn')) (hp : ∀ p ∈ pr, p) (hf : ∀ b ∈ ft, foot.contains b = true ∧ snap = true) : PassE (kF g) ps nx snap foot c c' := by
 unfold xF at h
 split at h
 ·split at h
  ·rename_i h1; cases h; exact .c (nU h1 hp hf)
  ·cases h
 ·split at h
  ·rename_i h1; cases h; exact .agg (tF h1 hp hf)
  ·cases h
def lX (g : EH) (ps : List Nat) : List E1 → Sn → Option (List Prop × List E1 × List Nat)
 | [], _ => some ([], [], [])
 | c :: cs, sn => match xF g ps c sn with
  | some (p1, c', f1, sn) => match lX g ps cs sn with
   | some (p2, cs', f2) => some (p1 ++ p2, c' :: cs', f1 ++ f2)
   | none => none
  | none => none
theorem nT {g : EH} {ps : List Nat} {nx : Nat} {snap : Bool} {foot : List Nat} : ∀ {cs cs' : List E1} {sn : Sn} {pr : List Prop} {ft : List Nat}, lX g ps cs sn = some (pr, cs', ft) → (∀ p ∈ pr, p) → (∀ b ∈ ft, foot.contains b = true ∧ snap = true) → All2 (PassE (kF g) ps nx snap foot) cs cs'
 | [], _, _, _, _, h, _, _ => by cases h; trivial
 | c :: cs, _, _, _, _, h, hp, hf => by
  unfold lX at h
  split at h
  ·rename_i h1
   split at h
   ·rename_i h2
    cases h
    exact ⟨k1d h1 (fun p hm => hp p (List.mem_append_left _ hm)) (fun b hm => hf b (List.mem_append_left _ hm)), nT h2 (fun p hm => hp p (List.mem_append_right _ hm)) (fun b hm => hf b (List.mem_append_right _ hm))⟩
   ·cases h
  ·cases h
def u28 (ps : List Nat) : C → Option C
 | .d x => some (.d x)
 | .rp ds => some (.rp ds)
 | .fn f qs => match k4e ps qs with
  | some r => some (.fn f r)
  | none => none
 | .ptr b off => match nC b ps 0 with
  | some i => some (.ptr i off)
  | none => none
 | .own b off len s wh => match nC b ps 0 with
  | some i => some (.own i off len s wh)
  | none => none
theorem k89 {ps : List Nat} {nx : Nat} {c c' : C} (h : u28 ps c = some c') : eI ps.length c' = true ∧ aK (nm ps nx) c' = c := by
 unfold u28 at h
 split at h
 ·cases h; exact ⟨rfl, rfl⟩
 ·cases h; exact ⟨rfl, rfl⟩
 ·split at h
  ·rename_i hi
   cases h
   obtain ⟨h1, h2⟩ := rL (nx := nx) hi
   exact ⟨h1, by show C.fn _ _ = _; rw [h2]⟩
  ·cases h
 ·split at h
  ·rename_i hi
   cases h
   obtain ⟨h1, h2, h3⟩ := eY hi
   rw [Nat.sub_zero] at h2 h3
   exact ⟨Nat.ble_eq_true_of_le h2, by show C.ptr _ _ = _; rw [aQ h2, h3]⟩
  ·cases h
 ·split at h
  ·rename_i hi
   cases h
   obtain ⟨h1, h2, h3⟩ := eY hi
   rw [Nat.sub_zero] at h2 h3
   exact ⟨Nat.ble_eq_true_of_le h2, by show C.own _ _ _ _ _ = _; rw [aQ h2, h3]⟩
  ·cases h
def k88 (ps : List Nat) : List C → Option (List C)
 | [] => some []
 | c :: cs => match u28 ps c, k88 ps cs with
  | some c', some cs' => some (c' :: cs')
  | _, _ => none
theorem k0m {ps : List Nat} {nx : Nat} : ∀ {cs cs' : List C}, k88 ps cs = some cs' → cs'.all (eI ps.length) = true ∧ cs'.map (aK (nm ps nx)) = cs
 | [], _, h => by cases h; exact ⟨rfl, rfl⟩
 | c :: cs, _, h => by
  unfold k88 at h
  split at h
  ·rename_i h1 h2
   cases h
   obtain ⟨p1, p2⟩ := k89 (nx := nx) h1
   obtain ⟨p3, p4⟩ := k0m (nx := nx) h2
   exact ⟨by rw [List.all_cons, p1, p3]; rfl, by rw [List.map_cons, p2, p4]⟩
  ·cases h
def u29 (ps : List Nat) : BC → Option BC
 | .ds l => some (.ds l)
 | .cs l => match k88 ps l with
  | some r => some (.cs r)
  | none => none
theorem k8a {ps : List Nat} {nx : Nat} {b b' : BC} (h : u29 ps b = some b') : b'.to.all (eI ps.length) = true ∧ b'.to.map (aK (nm ps nx)) = b.to := by
 unfold u29 at h
 split at h
 ·cases h
  refine ⟨?_, ?_⟩
  ·show (List.map C.d _).all _ = true
   rw [List.all_map]; exact List.all_eq_true.2 fun _ _ => rfl
  ·show List.map _ (List.map C.d _) = List.map C.d _
   rw [List.map_map]; rfl
 ·split at h
  ·rename_i h1; cases h; exact k0m h1
  ·cases h
def t7 (g : EH) (ps : List Nat) : List Nat → Nat → Option EH
 | [], _ => some []
 | b :: bs, k => match g.lookup b with
  | some (some (T, bc)) => match u29 ps bc, t7 g ps bs (k + 1) with
   | some bc', some r => some ((k, some (T, bc')) :: r)
   | _, _ => none
  | _ => none
theorem t6 {g : EH} {ps : List Nat} {nx : Nat} : ∀ {bs : List Nat} {k : Nat} {r : EH}, t7 g ps bs k = some r → ps.drop k = bs → (∀ x ∈ kF r, ∀ T cs, x.2 = some (T, cs) → cs.all (eI ps.length) = true ∧ x.1 < ps.length ∧ Look (kF g) (nm ps nx x.1) (some (T, cs.map (aK (nm ps nx))))) ∧ ∀ b ∈ bs, ∃ x : Bk, Look (kF g) b (some x)
 | [], _, _, h, _ => by cases h; exact ⟨fun x hx => (by cases hx), fun b hb => (by cases hb)⟩
 | b :: bs, k, r, h, hd => by
  unfold t7 at h
  split at h
  ·rename_i T bc hb
   split at h
   ·rename_i bc' r' h1 h2
    cases h
    have hk : k < ps.length := by
     rcases Nat.lt_or_ge k ps.length with h | h
     ·exact h
     ·rw [List.drop_eq_nil_of_le h] at hd; cases hd
    have hd' := List.drop_eq_getElem_cons hk
    rw [hd] at hd'
    obtain ⟨e1, e2⟩ := List.cons.inj hd'
    obtain ⟨q1, q2⟩ := t6 (nx := nx) h2 e2.symm
    obtain ⟨p1, p2⟩ := k8a (nx := nx) h1
    refine ⟨?_, ?_⟩
    ·intro x hx T' cs' he
     rcases List.mem_cons.1 (show x ∈ (k, some (T, bc'.to)) :: kF r' from hx) with rfl | hx
     ·simp only [Option.some.injEq, Prod.mk.injEq] at he
      obtain ⟨rfl, rfl⟩ := he
      refine ⟨p1, hk, ?_⟩
      rw [p2, aQ hk, List.getD_eq_getElem?_getD, List.getElem?_eq_getElem hk, Option.getD_some, ← e1]
      exact qV hb
     ·exact q1 x hx T' cs' he
    ·intro b' hb'
     rcases List.mem_cons.1 hb' with rfl | hb'
     ·exact ⟨_, qV hb⟩
     ·exact q2 b' hb'
   ·cases h
  ·cases h
def iW (l : List (Nat × PV)) : List Operand → Option (List E1)
 | [] => some []
 | x :: xs => match aC l x, iW l xs with
  | some (.e e), some es => some (e :: es)
  | _, _ => none
theorem e8 {l : List (Nat × PV)} : ∀ {xs : List Operand} {es : List E1}, iW l xs = some es → EvA l xs es
 | [], _, h => by cases h; exact .nil
 | x :: xs, _, h => by
  unfold iW at h
  split at h
  ·rename_i h1 h2; cases h; exact .cons (iU h1) (e8 h2)
  ·cases h
def u25 (σ : Nat → Nat) : BC → BC
 | .ds l => .ds l
 | .cs l => .cs (l.map (aK σ))
theorem k7v (σ : Nat → Nat) (b : BC) : (u25 σ b).to = b.to.map (aK σ) := by
 cases b with
 | ds l => show List.map C.d l = List.map _ (List.map C.d l); rw [List.map_map]; rfl
 | cs l => rfl
def k46 (σ : Nat → Nat) : Option EBk → Option EBk
 | some x => some (x.1, u25 σ x.2)
 | none => none
theorem k45 (σ : Nat → Nat) (b : Option EBk) : s6 (k46 σ b) = fL σ (s6 b) := by
 cases b with
 | none => rfl
 | some x => show some (x.1, (u25 σ x.2).to) = some (x.1, x.2.to.map (aK σ)); rw [k7v]
def tV (f : Nat → Nat) : EH → EH
 | [] => []
 | x :: g => (f x.1, k46 f x.2) :: tV f g
theorem tU (f : Nat → Nat) : ∀ g : EH, kF (tV f g) = (kF g).map (fun x => (f x.1, fL f x.2))
 | [] => rfl
 | x :: g => by
  show (f x.1, s6 (k46 f x.2)) :: kF (tV f g) = (f x.1, fL f (s6 x.2)) :: (kF g).map _
  rw [k45, tU f g]
def k0c : D → Bool
 | .lit _ => true
 | .sl _ _ => false
def nsG : EH → List Prop
 | [] => []
 | (_, some (_, .ds l)) :: g => (l.all k0c = true) :: nsG g
 | (_, some (_, .cs l)) :: g => (l.all gH = true) :: nsG g
 | (_, none) :: g => nsG g
theorem rB : ∀ {g : EH}, (∀ p ∈ nsG g, p) → n7 (kF g) = true
 | [], _ => rfl
 | (b, some (T, .ds l)) :: g, h => by
  have h1 := h _ (List.mem_cons_self ..)
  have h2 := rB (g := g) fun p hp => h p (List.mem_cons_of_mem _ hp)
  show List.all ((b, some (T, List.map C.d l)) :: kF g) _ = true
  rw [List.all_cons]
  unfold n7 at h2
  rw [h2, Bool.and_true]
  show (List.map C.d l).all gH = true
  rw [List.all_map]
  rw [← h1]; congr 1; funext x; cases x <;> rfl
 | (b, some (T, .cs l)) :: g, h => by
  have h1 := h _ (List.mem_cons_self ..)
  have h2 := rB (g := g) fun p hp => h p (List.mem_cons_of_mem _ hp)
  show List.all ((b, some (T, l)) :: kF g) _ = true
  rw [List.all_cons]
  unfold n7 at h2
  rw [h2, Bool.and_true]; exact h1
 | (b, none) :: g, h => by
  have h2 := rB (g := g) h
  show List.all ((b, none) :: kF g) _ = true
  rw [List.all_cons]
  unfold n7 at h2
  rw [h2]; rfl
def u5h (ft : List Nat) (y : PV) (gout : EH) : List Prop := match ft with
 | [] => []
 | _ :: _ => (l4 y = true) :: nsG gout
def k8z (P : Program) (f : FuncId) : Bool := match P.funcs[f]? with
 | some fn => match fn.name == "runtime.NumGoroutine", fn.body with
  | false, some _ => true
  | _, _ => false
 | none => false
theorem r9 {f : FuncId} (h : k8z Try.prog f = true) (ar : Array Value) (w : World) : (callFunc f ar).run Try.prog w = .ok (.enter f ar) w := by
 unfold k8z at h
 split at h
 ·rename_i fn hf
  split at h
  ·rename_i h1 h2
   unfold callFunc
   have h3 : ¬ fn.name = "runtime.NumGoroutine" := by intro e; rw [e] at h1; simp at h1
   simp [hf, h2, h3]
  ·cases h
 ·cases h
def k72 (xo : Option (List E1)) (xs : List E1) : Option (List Prop × List E1) := match xo with
 | none => some ([], xs)
 | some xs' => match k65 idN xs' xs with
  | some ps => some (ps, xs')
  | none => none
theorem k71 {xo : Option (List E1)} {xs xs' : List E1} {ps : List Prop} (h : k72 xo xs = some (ps, xs')) (hp : ∀ p ∈ ps, p) : xs' = xs := by
 unfold k72 at h
 split at h
 ·cases h; rfl
 ·split at h
  ·rename_i he; cases h; exact k8y he hp
  ·cases h
def k5z (l : List (Nat × PV)) (args : List Operand) (qs : List (Nat × Nat)) : Option (List E1) := match iW l args with
 | some us => some ((qs.map fun q => E1.c (.ptr q.1 q.2)) ++ us)
 | none => none
def k60 (l : List (Nat × PV)) (args : List Operand) (qs : List (Nat × Nat)) : Option (List E1) := match iW l args with
 | some us => some (us ++ qs.map fun q => .c (.ptr q.1 q.2))
 | none => none
def eM (P : Program) (Fn : FuncId → List E1 → List (Nat × Option Bk) → Nat → PV → List (Nat × Option Bk) → Nat → Prop) (h : H) (g : EH) (nx : Nat) (f : FuncId) (ao : Option (List E1)) : R := match h with
 | .call ps y gout nout snaps xo => match ao, k8z P f with
  | some us, true => match lX g ps us snaps, t7 g ps ps 0 with
   | some (pr, xs, ft), some gin => match k05 ps (kF gout) nout, k72 xo xs with
    | true, some (pe, xs') => some (pr ++ (u5h ft y gout ++ (pe ++ [Fn f xs' (kF gin) ps.length y (kF gout) nout])), ⟨gM (nm ps nx) y, tV (nm ps nx) gout, (List.range (nout - ps.length)).map (nx + ·), ps ++ ft⟩)
    | _, _ => none
   | _, _ => none
  | _, _ => none
 | _ => none
def u2f : PV → Option (FuncId × List (Nat × Nat))
 | .e (.c (.fn f qs)) => some (f, qs)
 | _ => none
theorem k8e {u : PV} {f : FuncId} {qs : List (Nat × Nat)} (h : u2f u = some (f, qs)) : u = .e (.c (.fn f qs)) := by
 unfold u2f at h
 split at h
 ·cases h; rfl
 ·cases h
def k37 : List E1 → Option (List (Nat × Nat))
 | [] => some []
 | .c (.ptr b off) :: es => match k37 es with
  | some r => some ((b, off) :: r)
  | none => none
 | _ :: _ => none
theorem pR {p : Nat → Prop} {ρ : Rh} {w : World} : ∀ {es : List E1} {qs : List (Nat × Nat)} {vs : List Value}, k37 es = some qs → All2 (RepE p ρ w) es vs → All2 (k6t ρ) qs vs
 | [], _, [], h, _ => by cases h; trivial
 | .c (.ptr b off) :: es, _, v :: vs, h, hv => by
  unfold k37 at h
  split at h
  ·rename_i hr
   cases h
   obtain ⟨m, h1, h2, h3⟩ := bT (b := b) (off := off) (v := v) hv.1
   exact ⟨⟨m, h1, h2, h3⟩, pR hr hv.2⟩
  ·cases h
 | .c (.d _) :: _, _, _, h, _ => by cases h
 | .c (.own ..) :: _, _, _, h, _ => by cases h
 | .c (.rp _) :: _, _, _, h, _ => by cases h
 | .c (.fn ..) :: _, _, _, h, _ => by cases h
 | .agg _ :: _, _, _, h, _ => by cases h
def k59 (l : List (Nat × PV)) (f : FuncId) (firsts : List Operand) : R := match iW l firsts with
 | some es => match k37 es with
  | some qs => pv (.e (.c (.fn (f + nE) qs)))
  | none => none
 | none => none
def u2n (l : List (Nat × PV)) (f : FuncId) (caps : List Operand) : R := match iW l caps with
 | some es => match k37 es, Nat.blt f nE with
  | some qs, true => pv (.e (.c (.fn f qs)))
  | _, _ => none
 | none => none
section
variable {cx : Cx} {o : Oper} {l : List (Nat × PV)} {g : EH}
theorem k8p {f : FuncId} {first caps : Array Operand} (ho : o.op = .makeFunc (.func f) first caps) (h0 : first.toList = []) : OKR cx o l g (u2n l f caps.toList) := by
 unfold u2n
 split
 ·rename_i es hes
  split
  ·rename_i qs hqs hlo
   refine OKR.some fun _ => qK fun ρ a w hs => ?_
   have hav := (e8 hes).rep hs (by intro x hx; rw [ho]; simp only [Op.operands]; simp at hx ⊢; exact .inr hx)
   have h0' : first = #[] := by apply Array.ext'; simpa using h0
   subst h0'
   have hfn : RepC cx.p ρ w (.fn f qs) (fnV f (caps.toList.map a.eval)) := .fn f qs _ (pR hqs hav)
   rw [xU hlo] at hfn
   refine ⟨.func (.func f) #[] (caps.toList.map a.eval).toArray, ?_, hfn⟩
   unfold execOp
   rw [show (caps.toList.map a.eval).toArray = caps.map a.eval by apply Array.ext'; simp]
   simp [ho, Instr.makeFunc]
  ·exact OKR.none
 ·exact OKR.none
theorem k58 {f : FuncId} {first caps : Array Operand} (ho : o.op = .makeFunc (.func f) first caps) (h0 : caps.toList = []) : OKR cx o l g (k59 l f first.toList) := by
 unfold k59
 split
 ·rename_i es hes
  split
  ·rename_i qs hqs
   refine OKR.some fun _ => qK fun ρ a w hs => ?_
   have hav := (e8 hes).rep hs (by intro x hx; rw [ho]; simp only [Op.operands]; simp at hx ⊢; exact .inl hx)
   have h0' : caps = #[] := by apply Array.ext'; simpa using h0
   subst h0'
   have hfn : RepC cx.p ρ w (.fn (f + nE) qs) (fnV (f + nE) (first.toList.map a.eval)) := .fn _ qs _ (pR hqs hav)
   rw [u2e] at hfn
   refine ⟨.func (.func f) (first.toList.map a.eval).toArray #[], ?_, hfn⟩
   unfold execOp
   rw [show (first.toList.map a.eval).toArray = first.map a.eval by apply Array.ext'; simp]
   simp [ho, Instr.makeFunc]
  ·exact OKR.none
 ·exact OKR.none
theorem u6f {nx nout : Nat} {f : FuncId} {ps : List Nat} {y : PV} {gout gin : EH} {snaps : Sn} {us xs : List E1} {pr : List Prop} {ft : List Nat}
  (hrun : ∀ ρ a w, aL cx.p ρ w l o.op.operands a → ∃ av : List Value, (execOp a.eval o).run Try.prog w = .ok (.enter f av.toArray) w ∧ All2 (RepE cx.p ρ w) us av) (hpass : lX g ps us snaps = some (pr, xs, ft)) (hgin : t7 g ps ps 0 = some gin) (hout : k05 ps (kF gout) nout = true)
  {xo : Option (List E1)} {pe : List Prop} {xs' : List E1} (hxo : k72 xo xs = some (pe, xs')) (hp : ∀ p ∈ pr ++ (u5h ft y gout ++ (pe ++ [Fun f xs' (kF gin) ps.length y (kF gout) nout])), p) : OpOK cx o (S l) (S (kF g)) (OTe.to ⟨gM (nm ps nx) y, tV (nm ps nx) gout, (List.range (nout - ps.length)).map (nx + ·), ps ++ ft⟩) := by
 have hF : Fun f xs' (kF gin) ps.length y (kF gout) nout := hp _ (List.mem_append_right _ (List.mem_append_right _ (List.mem_append_right _ (List.mem_cons_self ..))))
 have hxx := k71 hxo (fun p h => hp p (List.mem_append_right _ (List.mem_append_right _ (List.mem_append_left _ h))))
 rw [hxx] at hF
 obtain ⟨q1, q2⟩ := t6 (nx := nx) hgin (by rw [List.drop_zero])
 have hall : All2 (PassE (kF g) ps nx (!ft.isEmpty) (ps ++ ft)) us xs := nT hpass (fun p h => hp p (List.mem_append_left _ h)) (fun b hb => ⟨by simp [hb], by cases ft with | nil => cases hb | cons => rfl⟩)
 have := k3n (cx := cx) (nx := nx) hrun hall hF q1 (fun b hb => ⟨by simp [hb], q2 b hb⟩) hout (by
  cases ft with
  | nil => exact .inl rfl
  | cons a b =>
   right
   rw [Bool.and_eq_true]
   exact ⟨hp _ (List.mem_append_right _ (List.mem_append_left _ (List.mem_cons_self ..))), rB fun p h => hp p (List.mem_append_right _ (List.mem_append_left _ (List.mem_cons_of_mem _ h)))⟩)
 rw [← tU] at this
 exact this
theorem f0 {h : H} {nx : Nat} {f : FuncId} {ao : Option (List E1)} (hrun : ∀ us, ao = some us → k8z Try.prog f = true → ∀ ρ a w, aL cx.p ρ w l o.op.operands a → ∃ av : List Value, (execOp a.eval o).run Try.prog w = .ok (.enter f av.toArray) w ∧ All2 (RepE cx.p ρ w) us av) : OKR cx o l g (eM Try.prog Fun h g nx f ao) := by
 unfold eM
 split
 ·split
  ·rename_i us hent
   split
   ·rename_i hpass hgin
    split
    ·rename_i hout hxo
     exact OKR.some fun hp => u6f (hrun us rfl hent) hpass hgin hout hxo ((qI _).1 hp)
    ·exact OKR.none
   ·exact OKR.none
  ·exact OKR.none
 ·exact OKR.none
theorem k20 {h : H} {nx : Nat} {f : FuncId} {args : Array Operand} {ts : Array TypeId} (ho : o.op = .call { callee := .value (.func f), args := args, argTypes := ts }) : OKR cx o l g (eM Try.prog Fun h g nx f (iW l args.toList)) :=
 f0 fun us hus hent ρ a w hs => k1b ho (r9 hent) (e8 hus) hs
theorem zE {h : H} {nx : Nat} {f : FuncId} {qs : List (Nat × Nat)} {x : Operand} {args : Array Operand} {ts : Array TypeId} (ho : o.op = .call { callee := .value x, args := args, argTypes := ts }) (hx : Ev l x (.e (.c (.fn f qs)))) (hlo : Nat.blt f nE = true) : OKR cx o l g (eM Try.prog Fun h g nx f (k60 l args.toList qs)) := by
 refine f0 fun us hus hent ρ a w hs => ?_
 unfold k60 at hus
 split at hus
 ·rename_i us0 hus0
  cases hus
  exact k1a hlo ho (r9 hent) hx (e8 hus0) hs
 ·cases hus
theorem zF {h : H} {nx : Nat} {f : FuncId} {qs : List (Nat × Nat)} {x : Operand} {args : Array Operand} {ts : Array TypeId} (ho : o.op = .call { callee := .value x, args := args, argTypes := ts }) (hx : Ev l x (.e (.c (.fn f qs)))) (hlo : Nat.blt f nE = false) : OKR cx o l g (eM Try.prog Fun h g nx (fnU f) (k5z l args.toList qs)) := by
 refine f0 fun us hus hent ρ a w hs => ?_
 unfold k5z at hus
 split at hus
 ·rename_i us0 hus0
  cases hus
  exact k1c hlo ho (r9 hent) hx (e8 hus0) hs
 ·cases hus
end
end Go.Proofs.Ytdbjebdomdnbkaa
