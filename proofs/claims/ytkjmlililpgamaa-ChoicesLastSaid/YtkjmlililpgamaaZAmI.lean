/- A memory told by names: calls and regions that are computed. No statement is proved here. -/
import Derived.Test.YtkjmlililpgamaaZAmH
import Derived.Test.YtkjmlililpgamaaZAmS
import Derived.Test.YtkjmlililpgamaaZAmN
namespace Go.Proofs.Ytkjmlililpgamaa
open Go.ChangeShapes Go.WideShapes Go.ChangeAt Go.RowKit
open List renaming all → kl3, all_cons → ke9, all_map → km0, drop_zero → kf7, map → kc4, map_cons → kd2, map_map → kj1, mem_append_left → kd0, mem_append_right → kb6, mem_cons_of_mem → ka9, mem_cons_self → ka4
open Nat renaming ble_eq_true_of_le → ke2, blt → kg6, sub_zero → kf6
set_option linter.unusedVariables false
set_option linter.unusedSimpArgs false
def eL (b : Nat) : List Nat → Nat → Option Nat
 | [], _ => none
 | p :: ps, k => match Nat.beq p b with
  | true => some k
  | false => eL b ps (k + 1)
theorem v4 {b : Nat} : ∀ {ps : List Nat} {k i : Nat}, eL b ps k = some i → k ≤ i ∧ i - k < ps.length ∧ ps.getD (i - k) 0 = b
 | [], _, _, h => by cases h
 | p :: ps, k, i, h => by
  unfold eL at h
  split at h
  ·rename_i hb; cases h; refine ⟨Nat.le_refl _, by simp, ?_⟩; rw [Nat.sub_self]; exact Nat.eq_of_beq_eq_true hb
  ·obtain ⟨h1, h2, h3⟩ := v4 h
   refine ⟨by omega, by simp; omega, ?_⟩
   rw [show i - k = (i - (k + 1)) + 1 by omega, List.getD_cons_succ]; exact h3
theorem nK {b : Nat} : ∀ {ps : List Nat} {k : Nat}, eL b ps k = none → ps.contains b = false
 | [], _, _ => rfl
 | p :: ps, k, h => by
  unfold eL at h
  split at h
  ·cases h
  ·rename_i hb
   have : p ≠ b := fun e => by subst e; rw [Nat.beq_refl] at hb; cases hb
   rw [List.contains_cons, nK h]; simpa using Ne.symm this
def sK (ps : List Nat) : List (Nat × Nat) → Option (List (Nat × Nat))
 | [] => some []
 | q :: qs => match eL q.1 ps 0, sK ps qs with
  | some i, some r => some ((i, q.2) :: r)
  | _, _ => none
theorem gY {ps : List Nat} {nx : Nat} : ∀ {qs r : List (Nat × Nat)}, sK ps qs = some r → (r.all fun q => kg6 q.1 ps.length) = true ∧ r.map (fun q => (nm ps nx q.1, q.2)) = qs
 | [], _, h => by cases h; exact ⟨rfl, rfl⟩
 | q :: qs, _, h => by
  unfold sK at h
  split at h
  ·rename_i i r hi hr
   cases h
   obtain ⟨h1, h2, h3⟩ := v4 hi
   rw [kf6] at h2 h3
   obtain ⟨p1, p2⟩ := gY (nx := nx) hr
   refine ⟨?_, ?_⟩
   ·rw [ke9, p1, Bool.and_true]; exact ke2 h2
   ·rw [kd2, p2, uZ h2, h3]
  ·cases h
abbrev Sn := List (Option (List D))
def gH (g : EH) (ps : List Nat) : C → Sn → Option (List Prop × C × List Nat × Sn)
 | .d (.lit (.slice none 0 0)), some [.lit (.bool true)] :: sn => some ([], .d (.lit vB), [], sn)
 | .d (.lit (.slice none 0 0)), sn => some ([], .d (.sl [] 0), [], sn)
 | .d x, sn => some ([], .d x, [], sn)
 | .rp ds, sn => some ([], .rp ds, [], sn)
 | .fn f qs, sn => match sK ps qs with
  | some r => some ([], .fn f r, [], sn)
  | none => none
 | .ptr b off, sn => match eL b ps 0 with
  | some i => some ([], .ptr i off, [], sn)
  | none => none
 | .own b off len s wh, sn => match eL b ps 0 with
  | some i => some ([], .own i off len s wh, [], sn)
  | none => match g.lookup b, sn with
   | some (some (_, .ds l)), none :: sn => match off with
    | 0 => some ([l.length = len * s], .d (.sl l len), [b], sn)
    | _ => none
   | some (some (_, .ds l)), some r :: sn => some ([(l.drop off).take (len * s) = r, r.length = len * s], .d (.sl r len), [b], sn)
   | _, _ => none
theorem eZ {g : EH} {ps : List Nat} {nx : Nat} {snap : Bool} {foot : List Nat} {c c' : C} {sn sn' : Sn} {pr : List Prop} {ft : List Nat} (h : gH g ps c sn = some (pr, c', ft, sn')) (hp : ∀ p ∈ pr, p) (hf : ∀ b ∈ ft, foot.contains b = true ∧ snap = true) : PassC (kC g) ps nx snap foot c c' := by
 unfold gH at h
 split at h
 ·cases h; exact .same rfl rfl
 ·cases h; exact .nil
 ·cases h; exact .same rfl rfl
 ·cases h; exact .same rfl rfl
 ·split at h
  ·rename_i hi
   cases h
   obtain ⟨h1, h2⟩ := gY (nx := nx) hi
   exact .same h1 (by show C.fn _ _ = _; rw [h2])
  ·cases h
 ·split at h
  ·rename_i hi
   cases h
   obtain ⟨h1, h2, h3⟩ := v4 hi
   rw [kf6] at h2 h3
   exact .same (ke2 h2) (by show C.ptr _ _ = _; rw [uZ h2, h3])
  ·cases h
 ·split at h
  ·rename_i hi
   cases h
   obtain ⟨h1, h2, h3⟩ := v4 hi
   rw [kf6] at h2 h3
   exact .same (ke2 h2) (by show C.own _ _ _ _ _ = _; rw [uZ h2, h3])
  ·rename_i hi
   have hn := nK hi
   split at h
   ·rename_i hb
    have hb' := kQ hb
    split at h
    ·cases h
     have h1 := hp _ (ka4 ..)
     obtain ⟨f1, f2⟩ := hf _ (ka4 ..)
     refine .own f2 hb' hn f1 ?_ h1
     rw [kf7]; exact List.take_of_length_le (by show (kc4 C.d _).length ≤ _; rw [List.length_map, h1]; exact Nat.le_refl _)
    ·cases h
   ·rename_i hb
    have hb' := kQ hb
    cases h
    have h1 := hp _ (ka4 ..)
    have h2 := hp _ (ka9 _ (ka4 ..))
    obtain ⟨f1, f2⟩ := hf _ (ka4 ..)
    refine .own f2 hb' hn f1 ?_ h2
    show ((kc4 C.d _).drop _).take _ = _
    rw [← List.map_drop, ← List.map_take, h1]
   ·cases h
def m6 (g : EH) (ps : List Nat) : List C → Sn → Option (List Prop × List C × List Nat × Sn)
 | [], sn => some ([], [], [], sn)
 | c :: cs, sn => match gH g ps c sn with
  | some (p1, c', f1, sn) => match m6 g ps cs sn with
   | some (p2, cs', f2, sn) => some (p1 ++ p2, c' :: cs', f1 ++ f2, sn)
   | none => none
  | none => none
theorem i9 {g : EH} {ps : List Nat} {nx : Nat} {snap : Bool} {foot : List Nat} : ∀ {cs cs' : List C} {sn sn' : Sn} {pr : List Prop} {ft : List Nat}, m6 g ps cs sn = some (pr, cs', ft, sn') → (∀ p ∈ pr, p) → (∀ b ∈ ft, foot.contains b = true ∧ snap = true) → All2 (PassC (kC g) ps nx snap foot) cs cs'
 | [], _, _, _, _, _, h, _, _ => by cases h; trivial
 | c :: cs, _, _, _, _, _, h, hp, hf => by
  unfold m6 at h
  split at h
  ·rename_i h1
   split at h
   ·rename_i h2
    cases h
    exact ⟨eZ h1 (fun p hm => hp p (kd0 _ hm)) (fun b hm => hf b (kd0 _ hm)), i9 h2 (fun p hm => hp p (kb6 _ hm)) (fun b hm => hf b (kb6 _ hm))⟩
   ·cases h
  ·cases h
def lR (g : EH) (ps : List Nat) : E1 → Sn → Option (List Prop × E1 × List Nat × Sn)
 | .c x, sn => match gH g ps x sn with
  | some (p, y, f, sn) => some (p, .c y, f, sn)
  | none => none
 | .agg cs, sn => match m6 g ps cs sn with
  | some (p, y, f, sn) => some (p, .agg y, f, sn)
  | none => none
theorem oC {g : EH} {ps : List Nat} {nx : Nat} {snap : Bool} {foot : List Nat} {c c' : E1} {sn sn' : Sn} {pr : List Prop} {ft : List Nat} (h : lR g ps c sn = some (pr, c', ft, sn')) (hp : ∀ p ∈ pr, p) (hf : ∀ b ∈ ft, foot.contains b = true ∧ snap = true) : PassE (kC g) ps nx snap foot c c' := by
 unfold lR at h
 split at h
 ·split at h
  ·rename_i h1; cases h; exact .c (eZ h1 hp hf)
  ·cases h
 ·split at h
  ·rename_i h1; cases h; exact .agg (i9 h1 hp hf)
  ·cases h
def dH (g : EH) (ps : List Nat) : List E1 → Sn → Option (List Prop × List E1 × List Nat)
 | [], _ => some ([], [], [])
 | c :: cs, sn => match lR g ps c sn with
  | some (p1, c', f1, sn) => match dH g ps cs sn with
   | some (p2, cs', f2) => some (p1 ++ p2, c' :: cs', f1 ++ f2)
   | none => none
  | none => none
theorem eY {g : EH} {ps : List Nat} {nx : Nat} {snap : Bool} {foot : List Nat} : ∀ {cs cs' : List E1} {sn : Sn} {pr : List Prop} {ft : List Nat}, dH g ps cs sn = some (pr, cs', ft) → (∀ p ∈ pr, p) → (∀ b ∈ ft, foot.contains b = true ∧ snap = true) → All2 (PassE (kC g) ps nx snap foot) cs cs'
 | [], _, _, _, _, h, _, _ => by cases h; trivial
 | c :: cs, _, _, _, _, h, hp, hf => by
  unfold dH at h
  split at h
  ·rename_i h1
   split at h
   ·rename_i h2
    cases h
    exact ⟨oC h1 (fun p hm => hp p (kd0 _ hm)) (fun b hm => hf b (kd0 _ hm)), eY h2 (fun p hm => hp p (kb6 _ hm)) (fun b hm => hf b (kb6 _ hm))⟩
   ·cases h
  ·cases h
def k1i (ps : List Nat) : C → Option C
 | .d x => some (.d x)
 | .rp ds => some (.rp ds)
 | .fn f qs => match sK ps qs with
  | some r => some (.fn f r)
  | none => none
 | .ptr b off => match eL b ps 0 with
  | some i => some (.ptr i off)
  | none => none
 | .own b off len s wh => match eL b ps 0 with
  | some i => some (.own i off len s wh)
  | none => none
theorem zI {ps : List Nat} {nx : Nat} {c c' : C} (h : k1i ps c = some c') : vR ps.length c' = true ∧ uS (nm ps nx) c' = c := by
 unfold k1i at h
 split at h
 ·cases h; exact ⟨rfl, rfl⟩
 ·cases h; exact ⟨rfl, rfl⟩
 ·split at h
  ·rename_i hi
   cases h
   obtain ⟨h1, h2⟩ := gY (nx := nx) hi
   exact ⟨h1, by show C.fn _ _ = _; rw [h2]⟩
  ·cases h
 ·split at h
  ·rename_i hi
   cases h
   obtain ⟨h1, h2, h3⟩ := v4 hi
   rw [kf6] at h2 h3
   exact ⟨ke2 h2, by show C.ptr _ _ = _; rw [uZ h2, h3]⟩
  ·cases h
 ·split at h
  ·rename_i hi
   cases h
   obtain ⟨h1, h2, h3⟩ := v4 hi
   rw [kf6] at h2 h3
   exact ⟨ke2 h2, by show C.own _ _ _ _ _ = _; rw [uZ h2, h3]⟩
  ·cases h
def zH (ps : List Nat) : List C → Option (List C)
 | [] => some []
 | c :: cs => match k1i ps c, zH ps cs with
  | some c', some cs' => some (c' :: cs')
  | _, _ => none
theorem nL {ps : List Nat} {nx : Nat} : ∀ {cs cs' : List C}, zH ps cs = some cs' → cs'.all (vR ps.length) = true ∧ cs'.map (uS (nm ps nx)) = cs
 | [], _, h => by cases h; exact ⟨rfl, rfl⟩
 | c :: cs, _, h => by
  unfold zH at h
  split at h
  ·rename_i h1 h2
   cases h
   obtain ⟨p1, p2⟩ := zI (nx := nx) h1
   obtain ⟨p3, p4⟩ := nL (nx := nx) h2
   exact ⟨by rw [ke9, p1, p3]; rfl, by rw [kd2, p2, p4]⟩
  ·cases h
def k1j (ps : List Nat) : BC → Option BC
 | .ds l => some (.ds l)
 | .cs l => match zH ps l with
  | some r => some (.cs r)
  | none => none
theorem zJ {ps : List Nat} {nx : Nat} {b b' : BC} (h : k1j ps b = some b') : b'.to.all (vR ps.length) = true ∧ b'.to.map (uS (nm ps nx)) = b.to := by
 unfold k1j at h
 split at h
 ·cases h
  refine ⟨?_, ?_⟩
  ·show (kc4 C.d _).all _ = true
   rw [km0]; exact List.all_eq_true.2 fun _ _ => rfl
  ·show kc4 _ (kc4 C.d _) = kc4 C.d _
   rw [kj1]; rfl
 ·split at h
  ·rename_i h1; cases h; exact nL h1
  ·cases h
def jQ (g : EH) (ps : List Nat) : List Nat → Nat → Option EH
 | [], _ => some []
 | b :: bs, k => match g.lookup b with
  | some (some (T, bc)) => match k1j ps bc, jQ g ps bs (k + 1) with
   | some bc', some r => some ((k, some (T, bc')) :: r)
   | _, _ => none
  | _ => none
theorem jP {g : EH} {ps : List Nat} {nx : Nat} : ∀ {bs : List Nat} {k : Nat} {r : EH}, jQ g ps bs k = some r → ps.drop k = bs → (∀ x ∈ kC r, ∀ T cs, x.2 = some (T, cs) → cs.all (vR ps.length) = true ∧ x.1 < ps.length ∧ Look (kC g) (nm ps nx x.1) (some (T, cs.map (uS (nm ps nx))))) ∧ ∀ b ∈ bs, ∃ x : Bk, Look (kC g) b (some x)
 | [], _, _, h, _ => by cases h; exact ⟨fun x hx => (by cases hx), fun b hb => (by cases hb)⟩
 | b :: bs, k, r, h, hd => by
  unfold jQ at h
  split at h
  ·rename_i T bc hb
   split at h
   ·rename_i bc' r' h1 h2
    cases h
    have hk : k < ps.length := by
     rcases Nat.lt_or_ge k ps.length with h | h
     ·exact h
     ·rw [List.drop_eq_nil_of_le h] at hd; cases hd
    have hd' := List.drop_eq_getElem_cons hk
    rw [hd] at hd'
    obtain ⟨e1, e2⟩ := List.cons.inj hd'
    obtain ⟨q1, q2⟩ := jP (nx := nx) h2 e2.symm
    obtain ⟨p1, p2⟩ := zJ (nx := nx) h1
    refine ⟨?_, ?_⟩
    ·intro x hx T' cs' he
     rcases List.mem_cons.1 (show x ∈ (k, some (T, bc'.to)) :: kC r' from hx) with rfl | hx
     ·simp only [Option.some.injEq, Prod.mk.injEq] at he
      obtain ⟨rfl, rfl⟩ := he
      refine ⟨p1, hk, ?_⟩
      rw [p2, uZ hk, List.getD_eq_getElem?_getD, List.getElem?_eq_getElem hk, Option.getD_some, ← e1]
      exact kQ hb
     ·exact q1 x hx T' cs' he
    ·intro b' hb'
     rcases List.mem_cons.1 hb' with rfl | hb'
     ·exact ⟨_, kQ hb⟩
     ·exact q2 b' hb'
   ·cases h
  ·cases h
def bG (l : List (Nat × PV)) : List Operand → Option (List E1)
 | [] => some []
 | x :: xs => match q9 l x, bG l xs with
  | some (.e e), some es => some (e :: es)
  | _, _ => none
theorem u2 {l : List (Nat × PV)} : ∀ {xs : List Operand} {es : List E1}, bG l xs = some es → EvA l xs es
 | [], _, h => by cases h; exact .nil
 | x :: xs, _, h => by
  unfold bG at h
  split at h
  ·rename_i h1 h2; cases h; exact .cons (aT h1) (u2 h2)
  ·cases h
def k1g (σ : Nat → Nat) : BC → BC
 | .ds l => .ds l
 | .cs l => .cs (l.map (uS σ))
theorem x6 (σ : Nat → Nat) (b : BC) : (k1g σ b).to = b.to.map (uS σ) := by
 cases b with
 | ds l => show kc4 C.d l = kc4 _ (kc4 C.d l); rw [kj1]; rfl
 | cs l => rfl
def sA (σ : Nat → Nat) : Option EBk → Option EBk
 | some x => some (x.1, k1g σ x.2)
 | none => none
theorem r9 (σ : Nat → Nat) (b : Option EBk) : iU (sA σ b) = aG σ (iU b) := by
 cases b with
 | none => rfl
 | some x => show some (x.1, (k1g σ x.2).to) = some (x.1, x.2.to.map (uS σ)); rw [x6]
def jL (f : Nat → Nat) : EH → EH
 | [] => []
 | x :: g => (f x.1, sA f x.2) :: jL f g
theorem jK (f : Nat → Nat) : ∀ g : EH, kC (jL f g) = (kC g).map (fun x => (f x.1, aG f x.2))
 | [] => rfl
 | x :: g => by
  show (f x.1, iU (sA f x.2)) :: kC (jL f g) = (f x.1, aG f (iU x.2)) :: (kC g).map _
  rw [r9, jK f g]
def k3o : D → Bool
 | .lit _ => true
 | .sl _ _ => false
def nsG : EH → List Prop
 | [] => []
 | (_, some (_, .ds l)) :: g => (l.all k3o = true) :: nsG g
 | (_, some (_, .cs l)) :: g => (l.all a6 = true) :: nsG g
 | (_, none) :: g => nsG g
theorem gQ : ∀ {g : EH}, (∀ p ∈ nsG g, p) → fB (kC g) = true
 | [], _ => rfl
 | (b, some (T, .ds l)) :: g, h => by
  have h1 := h _ (ka4 ..)
  have h2 := gQ (g := g) fun p hp => h p (ka9 _ hp)
  show kl3 ((b, some (T, kc4 C.d l)) :: kC g) _ = true
  rw [ke9]
  unfold fB at h2
  rw [h2, Bool.and_true]
  show (kc4 C.d l).all a6 = true
  rw [km0]
  rw [← h1]; congr 1; funext x; cases x <;> rfl
 | (b, some (T, .cs l)) :: g, h => by
  have h1 := h _ (ka4 ..)
  have h2 := gQ (g := g) fun p hp => h p (ka9 _ hp)
  show kl3 ((b, some (T, l)) :: kC g) _ = true
  rw [ke9]
  unfold fB at h2
  rw [h2, Bool.and_true]; exact h1
 | (b, none) :: g, h => by
  have h2 := gQ (g := g) h
  show kl3 ((b, none) :: kC g) _ = true
  rw [ke9]
  unfold fB at h2
  rw [h2]; rfl
def k3m (ft : List Nat) (y : PV) (gout : EH) : List Prop := match ft with
 | [] => []
 | _ :: _ => (dM y = true) :: nsG gout
def z7 (P : Program) (f : FuncId) : Bool := match P.funcs[f]? with
 | some fn => match fn.name == "runtime.NumGoroutine", fn.body with
  | false, some _ => true
  | _, _ => false
 | none => false
theorem hZ {f : FuncId} (h : z7 Try.prog f = true) (ar : Array Value) (w : World) : (callFunc f ar).run Try.prog w = .ok (.enter f ar) w := by
 unfold z7 at h
 split at h
 ·rename_i fn hf
  split at h
  ·rename_i h1 h2
   unfold callFunc
   have h3 : ¬ fn.name = "runtime.NumGoroutine" := by intro e; rw [e] at h1; simp at h1
   simp [hf, h2, h3]
  ·cases h
 ·cases h
def xJ (xo : Option (List E1)) (xs : List E1) : Option (List Prop × List E1) := match xo with
 | none => some ([], xs)
 | some xs' => match wI idN xs' xs with
  | some ps => some (ps, xs')
  | none => none
theorem xI {xo : Option (List E1)} {xs xs' : List E1} {ps : List Prop} (h : xJ xo xs = some (ps, xs')) (hp : ∀ p ∈ ps, p) : xs' = xs := by
 unfold xJ at h
 split at h
 ·cases h; rfl
 ·split at h
  ·rename_i he; cases h; exact z6 he hp
  ·cases h
def wC (l : List (Nat × PV)) (args : List Operand) (qs : List (Nat × Nat)) : Option (List E1) := match bG l args with
 | some us => some ((qs.map fun q => E1.c (.ptr q.1 q.2)) ++ us)
 | none => none
def wD (l : List (Nat × PV)) (args : List Operand) (qs : List (Nat × Nat)) : Option (List E1) := match bG l args with
 | some us => some (us ++ qs.map fun q => .c (.ptr q.1 q.2))
 | none => none
def vT (P : Program) (Fn : FuncId → List E1 → List (Nat × Option Bk) → Nat → PV → List (Nat × Option Bk) → Nat → Prop) (h : H) (g : EH) (nx : Nat) (f : FuncId) (ao : Option (List E1)) : R := match h with
 | .call ps y gout nout snaps xo => match ao, z7 P f with
  | some us, true => match dH g ps us snaps, jQ g ps ps 0 with
   | some (pr, xs, ft), some gin => match m7 ps (kC gout) nout, xJ xo xs with
    | true, some (pe, xs') => some (pr ++ (k3m ft y gout ++ (pe ++ [Fn f xs' (kC gin) ps.length y (kC gout) nout])), ⟨a7 (nm ps nx) y, jL (nm ps nx) gout, (List.range (nout - ps.length)).map (nx + ·), ps ++ ft⟩)
    | _, _ => none
   | _, _ => none
  | _, _ => none
 | _ => none
def k1q : PV → Option (FuncId × List (Nat × Nat))
 | .e (.c (.fn f qs)) => some (f, qs)
 | _ => none
theorem zM {u : PV} {f : FuncId} {qs : List (Nat × Nat)} (h : k1q u = some (f, qs)) : u = .e (.c (.fn f qs)) := by
 unfold k1q at h
 split at h
 ·cases h; rfl
 ·cases h
def p8 : List E1 → Option (List (Nat × Nat))
 | [] => some []
 | .c (.ptr b off) :: es => match p8 es with
  | some r => some ((b, off) :: r)
  | none => none
 | _ :: _ => none
theorem gG {p : Nat → Prop} {ρ : Rh} {w : World} : ∀ {es : List E1} {qs : List (Nat × Nat)} {vs : List Value}, p8 es = some qs → All2 (RepE p ρ w) es vs → All2 (w8 ρ) qs vs
 | [], _, [], h, _ => by cases h; trivial
 | .c (.ptr b off) :: es, _, v :: vs, h, hv => by
  unfold p8 at h
  split at h
  ·rename_i hr
   cases h
   obtain ⟨m, h1, h2, h3⟩ := qK (b := b) (off := off) (v := v) hv.1
   exact ⟨⟨m, h1, h2, h3⟩, gG hr hv.2⟩
  ·cases h
 | .c (.d _) :: _, _, _, h, _ => by cases h
 | .c (.own ..) :: _, _, _, h, _ => by cases h
 | .c (.rp _) :: _, _, _, h, _ => by cases h
 | .c (.fn ..) :: _, _, _, h, _ => by cases h
 | .agg _ :: _, _, _, h, _ => by cases h
def tI (l : List (Nat × PV)) (f : FuncId) (firsts : List Operand) : R := match bG l firsts with
 | some es => match p8 es with
  | some qs => pv (.e (.c (.fn (f + eN) qs)))
  | none => none
 | none => none
def k21 (l : List (Nat × PV)) (f : FuncId) (caps : List Operand) : R := match bG l caps with
 | some es => match p8 es, kg6 f eN with
  | some qs, true => pv (.e (.c (.fn f qs)))
  | _, _ => none
 | none => none
section
variable {cx : Cx} {o : Oper} {l : List (Nat × PV)} {g : EH}
theorem zW {f : FuncId} {first caps : Array Operand} (ho : o.op = .makeFunc (.func f) first caps) (h0 : first.toList = []) : OKR cx o l g (k21 l f caps.toList) := by
 unfold k21
 split
 ·rename_i es hes
  split
  ·rename_i qs hqs hlo
   refine OKR.some fun _ => kG fun ρ a w hs => ?_
   have hav := (u2 hes).rep hs (by intro x hx; rw [ho]; simp only [Op.operands]; simp at hx ⊢; exact .inr hx)
   have h0' : first = #[] := by apply Array.ext'; simpa using h0
   subst h0'
   have hfn : RepC cx.p ρ w (.fn f qs) (sL f (caps.toList.map a.eval)) := .fn f qs _ (gG hqs hav)
   rw [l3 hlo] at hfn
   refine ⟨.func (.func f) #[] (caps.toList.map a.eval).toArray, ?_, hfn⟩
   unfold execOp
   rw [show (caps.toList.map a.eval).toArray = caps.map a.eval by apply Array.ext'; simp]
   simp [ho, Instr.makeFunc]
  ·exact OKR.none
 ·exact OKR.none
theorem tH {f : FuncId} {first caps : Array Operand} (ho : o.op = .makeFunc (.func f) first caps) (h0 : caps.toList = []) : OKR cx o l g (tI l f first.toList) := by
 unfold tI
 split
 ·rename_i es hes
  split
  ·rename_i qs hqs
   refine OKR.some fun _ => kG fun ρ a w hs => ?_
   have hav := (u2 hes).rep hs (by intro x hx; rw [ho]; simp only [Op.operands]; simp at hx ⊢; exact .inl hx)
   have h0' : caps = #[] := by apply Array.ext'; simpa using h0
   subst h0'
   have hfn : RepC cx.p ρ w (.fn (f + eN) qs) (sL (f + eN) (first.toList.map a.eval)) := .fn _ qs _ (gG hqs hav)
   rw [k1p] at hfn
   refine ⟨.func (.func f) (first.toList.map a.eval).toArray #[], ?_, hfn⟩
   unfold execOp
   rw [show (first.toList.map a.eval).toArray = first.map a.eval by apply Array.ext'; simp]
   simp [ho, Instr.makeFunc]
  ·exact OKR.none
 ·exact OKR.none
theorem k46 {nx nout : Nat} {f : FuncId} {ps : List Nat} {y : PV} {gout gin : EH} {snaps : Sn} {us xs : List E1} {pr : List Prop} {ft : List Nat}
  (hrun : ∀ ρ a w, uG cx.p ρ w l o.op.operands a → ∃ av : List Value, (execOp a.eval o).run Try.prog w = .ok (.enter f av.toArray) w ∧ All2 (RepE cx.p ρ w) us av) (hpass : dH g ps us snaps = some (pr, xs, ft)) (hgin : jQ g ps ps 0 = some gin) (hout : m7 ps (kC gout) nout = true)
  {xo : Option (List E1)} {pe : List Prop} {xs' : List E1} (hxo : xJ xo xs = some (pe, xs')) (hp : ∀ p ∈ pr ++ (k3m ft y gout ++ (pe ++ [Fun f xs' (kC gin) ps.length y (kC gout) nout])), p) : OpOK cx o (S l) (S (kC g)) (OTe.to ⟨a7 (nm ps nx) y, jL (nm ps nx) gout, (List.range (nout - ps.length)).map (nx + ·), ps ++ ft⟩) := by
 have hF : Fun f xs' (kC gin) ps.length y (kC gout) nout := hp _ (kb6 _ (kb6 _ (kb6 _ (ka4 ..))))
 have hxx := xI hxo (fun p h => hp p (kb6 _ (kb6 _ (kd0 _ h))))
 rw [hxx] at hF
 obtain ⟨q1, q2⟩ := jP (nx := nx) hgin (by rw [kf7])
 have hall : All2 (PassE (kC g) ps nx (!ft.isEmpty) (ps ++ ft)) us xs := eY hpass (fun p h => hp p (kd0 _ h)) (fun b hb => ⟨by simp [hb], by cases ft with | nil => cases hb | cons => rfl⟩)
 have := rR (cx := cx) (nx := nx) hrun hall hF q1 (fun b hb => ⟨by simp [hb], q2 b hb⟩) hout (by
  cases ft with
  | nil => exact .inl rfl
  | cons a b =>
   right
   rw [Bool.and_eq_true]
   exact ⟨hp _ (kb6 _ (kd0 _ (ka4 ..))), gQ fun p h => hp p (kb6 _ (kd0 _ (ka9 _ h)))⟩)
 rw [← jK] at this
 exact this
theorem aU {h : H} {nx : Nat} {f : FuncId} {ao : Option (List E1)} (hrun : ∀ us, ao = some us → z7 Try.prog f = true → ∀ ρ a w, uG cx.p ρ w l o.op.operands a → ∃ av : List Value, (execOp a.eval o).run Try.prog w = .ok (.enter f av.toArray) w ∧ All2 (RepE cx.p ρ w) us av) : OKR cx o l g (vT Try.prog Fun h g nx f ao) := by
 unfold vT
 split
 ·split
  ·rename_i us hent
   split
   ·rename_i hpass hgin
    split
    ·rename_i hout hxo
     exact OKR.some fun hp => k46 (hrun us rfl hent) hpass hgin hout hxo ((kI _).1 hp)
    ·exact OKR.none
   ·exact OKR.none
  ·exact OKR.none
 ·exact OKR.none
theorem oY {h : H} {nx : Nat} {f : FuncId} {args : Array Operand} {ts : Array TypeId} (ho : o.op = .call { callee := .value (.func f), args := args, argTypes := ts }) : OKR cx o l g (vT Try.prog Fun h g nx f (bG l args.toList)) :=
 aU fun us hus hent ρ a w hs => oA ho (hZ hent) (u2 hus) hs
theorem mF {h : H} {nx : Nat} {f : FuncId} {qs : List (Nat × Nat)} {x : Operand} {args : Array Operand} {ts : Array TypeId} (ho : o.op = .call { callee := .value x, args := args, argTypes := ts }) (hx : Ev l x (.e (.c (.fn f qs)))) (hlo : kg6 f eN = true) : OKR cx o l g (vT Try.prog Fun h g nx f (wD l args.toList qs)) := by
 refine aU fun us hus hent ρ a w hs => ?_
 unfold wD at hus
 split at hus
 ·rename_i us0 hus0
  cases hus
  exact n9 hlo ho (hZ hent) hx (u2 hus0) hs
 ·cases hus
theorem mG {h : H} {nx : Nat} {f : FuncId} {qs : List (Nat × Nat)} {x : Operand} {args : Array Operand} {ts : Array TypeId} (ho : o.op = .call { callee := .value x, args := args, argTypes := ts }) (hx : Ev l x (.e (.c (.fn f qs)))) (hlo : kg6 f eN = false) : OKR cx o l g (vT Try.prog Fun h g nx (fnU f) (wC l args.toList qs)) := by
 refine aU fun us hus hent ρ a w hs => ?_
 unfold wC at hus
 split at hus
 ·rename_i us0 hus0
  cases hus
  exact oB hlo ho (hZ hent) hx (u2 hus0) hs
 ·cases hus
end
end Go.Proofs.Ytkjmlililpgamaa
