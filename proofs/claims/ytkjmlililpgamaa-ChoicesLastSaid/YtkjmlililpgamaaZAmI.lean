/- A memory told by names: calls and regions that are computed. No statement is proved here. -/
import Derived.Test.YtkjmlililpgamaaZAmH
import Derived.Test.YtkjmlililpgamaaZAmS
import Derived.Test.YtkjmlililpgamaaZAmN
namespace Go.Proofs.Ytkjmlililpgamaa
open Go.ChangeShapes Go.WideShapes Go.ChangeAt Go.RowKit
open List renaming all → kl3, all_cons → ke7, all_map → km0, drop_zero → kf5, map → kc3, map_cons → kd5, map_map → ki9, mem_append_left → kc7, mem_append_right → kb4, mem_cons_of_mem → kb9, mem_cons_self → ka7
open Nat renaming ble_eq_true_of_le → kd7, blt → kg3, sub_zero → kf4
set_option linter.unusedVariables false
set_option linter.unusedSimpArgs false
def dZ (b : Nat) : List Nat → Nat → Option Nat
 | [], _ => none
 | p :: ps, k => match Nat.beq p b with
  | true => some k
  | false => dZ b ps (k + 1)
theorem vV {b : Nat} : ∀ {ps : List Nat} {k i : Nat}, dZ b ps k = some i → k ≤ i ∧ i - k < ps.length ∧ ps.getD (i - k) 0 = b
 | [], _, _, h => by cases h
 | p :: ps, k, i, h => by
  unfold dZ at h
  split at h
  ·rename_i hb; cases h; refine ⟨Nat.le_refl _, by simp, ?_⟩; rw [Nat.sub_self]; exact Nat.eq_of_beq_eq_true hb
  ·obtain ⟨h1, h2, h3⟩ := vV h
   refine ⟨by omega, by simp; omega, ?_⟩
   rw [show i - k = (i - (k + 1)) + 1 by omega, List.getD_cons_succ]; exact h3
theorem mI {b : Nat} : ∀ {ps : List Nat} {k : Nat}, dZ b ps k = none → ps.contains b = false
 | [], _, _ => rfl
 | p :: ps, k, h => by
  unfold dZ at h
  split at h
  ·cases h
  ·rename_i hb
   have : p ≠ b := fun e => by subst e; rw [Nat.beq_refl] at hb; cases hb
   rw [List.contains_cons, mI h]; simpa using Ne.symm this
def rA (ps : List Nat) : List (Nat × Nat) → Option (List (Nat × Nat))
 | [] => some []
 | q :: qs => match dZ q.1 ps 0, rA ps qs with
  | some i, some r => some ((i, q.2) :: r)
  | _, _ => none
theorem f6 {ps : List Nat} {nx : Nat} : ∀ {qs r : List (Nat × Nat)}, rA ps qs = some r → (r.all fun q => kg3 q.1 ps.length) = true ∧ r.map (fun q => (nm ps nx q.1, q.2)) = qs
 | [], _, h => by cases h; exact ⟨rfl, rfl⟩
 | q :: qs, _, h => by
  unfold rA at h
  split at h
  ·rename_i i r hi hr
   cases h
   obtain ⟨h1, h2, h3⟩ := vV hi
   rw [kf4] at h2 h3
   obtain ⟨p1, p2⟩ := f6 (nx := nx) hr
   refine ⟨?_, ?_⟩
   ·rw [ke7, p1, Bool.and_true]; exact kd7 h2
   ·rw [kd5, p2, uW h2, h3]
  ·cases h
abbrev Sn := List (Option (List D))
def fP (g : EH) (ps : List Nat) : C → Sn → Option (List Prop × C × List Nat × Sn)
 | .d (.lit (.slice none 0 0)), some [.lit (.bool true)] :: sn => some ([], .d (.lit vI), [], sn)
 | .d (.lit (.slice none 0 0)), sn => some ([], .d (.sl [] 0), [], sn)
 | .d x, sn => some ([], .d x, [], sn)
 | .rp ds, sn => some ([], .rp ds, [], sn)
 | .fn f qs, sn => match rA ps qs with
  | some r => some ([], .fn f r, [], sn)
  | none => none
 | .ptr b off, sn => match dZ b ps 0 with
  | some i => some ([], .ptr i off, [], sn)
  | none => none
 | .own b off len s wh, sn => match dZ b ps 0 with
  | some i => some ([], .own i off len s wh, [], sn)
  | none => match g.lookup b, sn with
   | some (some (_, .ds l)), none :: sn => match off with
    | 0 => some ([l.length = len * s], .d (.sl l len), [b], sn)
    | _ => none
   | some (some (_, .ds l)), some r :: sn => some ([(l.drop off).take (len * s) = r, r.length = len * s], .d (.sl r len), [b], sn)
   | _, _ => none
theorem eD {g : EH} {ps : List Nat} {nx : Nat} {snap : Bool} {foot : List Nat} {c c' : C} {sn sn' : Sn} {pr : List Prop} {ft : List Nat} (h : fP g ps c sn = some (pr, c', ft, sn')) (hp : ∀ p ∈ pr, p) (hf : ∀ b ∈ ft, foot.contains b = true ∧ snap = true) : PassC (kC g) ps nx snap foot c c' := by
 unfold fP at h
 split at h
 ·cases h; exact .same rfl rfl
 ·cases h; exact .nil
 ·cases h; exact .same rfl rfl
 ·cases h; exact .same rfl rfl
 ·split at h
  ·rename_i hi
   cases h
   obtain ⟨h1, h2⟩ := f6 (nx := nx) hi
   exact .same h1 (by show C.fn _ _ = _; rw [h2])
  ·cases h
 ·split at h
  ·rename_i hi
   cases h
   obtain ⟨h1, h2, h3⟩ := vV hi
   rw [kf4] at h2 h3
   exact .same (kd7 h2) (by show C.ptr _ _ = _; rw [uW h2, h3])
  ·cases h
 ·split at h
  ·rename_i hi
   cases h
   obtain ⟨h1, h2, h3⟩ := vV hi
   rw [kf4] at h2 h3
   exact .same (kd7 h2) (by show C.own _ _ _ _ _ = _; rw [uW h2, h3])
  ·rename_i hi
   have hn := mI hi
   split at h
   ·rename_i hb
    have hb' := kX hb
    split at h
    ·cases h
     have h1 := hp _ (ka7 ..)
     obtain ⟨f1, f2⟩ := hf _ (ka7 ..)
     refine .own f2 hb' hn f1 ?_ h1
     rw [kf5]; exact List.take_of_length_le (by show (kc3 C.d _).length ≤ _; rw [List.length_map, h1]; exact Nat.le_refl _)
    ·cases h
   ·rename_i hb
    have hb' := kX hb
    cases h
    have h1 := hp _ (ka7 ..)
    have h2 := hp _ (kb9 _ (ka7 ..))
    obtain ⟨f1, f2⟩ := hf _ (ka7 ..)
    refine .own f2 hb' hn f1 ?_ h2
    show ((kc3 C.d _).drop _).take _ = _
    rw [← List.map_drop, ← List.map_take, h1]
   ·cases h
def l6 (g : EH) (ps : List Nat) : List C → Sn → Option (List Prop × List C × List Nat × Sn)
 | [], sn => some ([], [], [], sn)
 | c :: cs, sn => match fP g ps c sn with
  | some (p1, c', f1, sn) => match l6 g ps cs sn with
   | some (p2, cs', f2, sn) => some (p1 ++ p2, c' :: cs', f1 ++ f2, sn)
   | none => none
  | none => none
theorem hR {g : EH} {ps : List Nat} {nx : Nat} {snap : Bool} {foot : List Nat} : ∀ {cs cs' : List C} {sn sn' : Sn} {pr : List Prop} {ft : List Nat}, l6 g ps cs sn = some (pr, cs', ft, sn') → (∀ p ∈ pr, p) → (∀ b ∈ ft, foot.contains b = true ∧ snap = true) → All2 (PassC (kC g) ps nx snap foot) cs cs'
 | [], _, _, _, _, _, h, _, _ => by cases h; trivial
 | c :: cs, _, _, _, _, _, h, hp, hf => by
  unfold l6 at h
  split at h
  ·rename_i h1
   split at h
   ·rename_i h2
    cases h
    exact ⟨eD h1 (fun p hm => hp p (kc7 _ hm)) (fun b hm => hf b (kc7 _ hm)), hR h2 (fun p hm => hp p (kb4 _ hm)) (fun b hm => hf b (kb4 _ hm))⟩
   ·cases h
  ·cases h
def jX (g : EH) (ps : List Nat) : E1 → Sn → Option (List Prop × E1 × List Nat × Sn)
 | .c x, sn => match fP g ps x sn with
  | some (p, y, f, sn) => some (p, .c y, f, sn)
  | none => none
 | .agg cs, sn => match l6 g ps cs sn with
  | some (p, y, f, sn) => some (p, .agg y, f, sn)
  | none => none
theorem nA {g : EH} {ps : List Nat} {nx : Nat} {snap : Bool} {foot : List Nat} {c c' : E1} {sn sn' : Sn} {pr : List Prop} {ft : List Nat} (h : jX g ps c sn = some (pr, c', ft, sn')) (hp : ∀ p ∈ pr, p) (hf : ∀ b ∈ ft, foot.contains b = true ∧ snap = true) : PassE (kC g) ps nx snap foot c c' := by
 unfold jX at h
 split at h
 ·split at h
  ·rename_i h1; cases h; exact .c (eD h1 hp hf)
  ·cases h
 ·split at h
  ·rename_i h1; cases h; exact .agg (hR h1 hp hf)
  ·cases h
def cY (g : EH) (ps : List Nat) : List E1 → Sn → Option (List Prop × List E1 × List Nat)
 | [], _ => some ([], [], [])
 | c :: cs, sn => match jX g ps c sn with
  | some (p1, c', f1, sn) => match cY g ps cs sn with
   | some (p2, cs', f2) => some (p1 ++ p2, c' :: cs', f1 ++ f2)
   | none => none
  | none => none
theorem eC {g : EH} {ps : List Nat} {nx : Nat} {snap : Bool} {foot : List Nat} : ∀ {cs cs' : List E1} {sn : Sn} {pr : List Prop} {ft : List Nat}, cY g ps cs sn = some (pr, cs', ft) → (∀ p ∈ pr, p) → (∀ b ∈ ft, foot.contains b = true ∧ snap = true) → All2 (PassE (kC g) ps nx snap foot) cs cs'
 | [], _, _, _, _, h, _, _ => by cases h; trivial
 | c :: cs, _, _, _, _, h, hp, hf => by
  unfold cY at h
  split at h
  ·rename_i h1
   split at h
   ·rename_i h2
    cases h
    exact ⟨nA h1 (fun p hm => hp p (kc7 _ hm)) (fun b hm => hf b (kc7 _ hm)), eC h2 (fun p hm => hp p (kb4 _ hm)) (fun b hm => hf b (kb4 _ hm))⟩
   ·cases h
  ·cases h
def k0i (ps : List Nat) : C → Option C
 | .d x => some (.d x)
 | .rp ds => some (.rp ds)
 | .fn f qs => match rA ps qs with
  | some r => some (.fn f r)
  | none => none
 | .ptr b off => match dZ b ps 0 with
  | some i => some (.ptr i off)
  | none => none
 | .own b off len s wh => match dZ b ps 0 with
  | some i => some (.own i off len s wh)
  | none => none
theorem w7 {ps : List Nat} {nx : Nat} {c c' : C} (h : k0i ps c = some c') : vJ ps.length c' = true ∧ uO (nm ps nx) c' = c := by
 unfold k0i at h
 split at h
 ·cases h; exact ⟨rfl, rfl⟩
 ·cases h; exact ⟨rfl, rfl⟩
 ·split at h
  ·rename_i hi
   cases h
   obtain ⟨h1, h2⟩ := f6 (nx := nx) hi
   exact ⟨h1, by show C.fn _ _ = _; rw [h2]⟩
  ·cases h
 ·split at h
  ·rename_i hi
   cases h
   obtain ⟨h1, h2, h3⟩ := vV hi
   rw [kf4] at h2 h3
   exact ⟨kd7 h2, by show C.ptr _ _ = _; rw [uW h2, h3]⟩
  ·cases h
 ·split at h
  ·rename_i hi
   cases h
   obtain ⟨h1, h2, h3⟩ := vV hi
   rw [kf4] at h2 h3
   exact ⟨kd7 h2, by show C.own _ _ _ _ _ = _; rw [uW h2, h3]⟩
  ·cases h
def w6 (ps : List Nat) : List C → Option (List C)
 | [] => some []
 | c :: cs => match k0i ps c, w6 ps cs with
  | some c', some cs' => some (c' :: cs')
  | _, _ => none
theorem mJ {ps : List Nat} {nx : Nat} : ∀ {cs cs' : List C}, w6 ps cs = some cs' → cs'.all (vJ ps.length) = true ∧ cs'.map (uO (nm ps nx)) = cs
 | [], _, h => by cases h; exact ⟨rfl, rfl⟩
 | c :: cs, _, h => by
  unfold w6 at h
  split at h
  ·rename_i h1 h2
   cases h
   obtain ⟨p1, p2⟩ := w7 (nx := nx) h1
   obtain ⟨p3, p4⟩ := mJ (nx := nx) h2
   exact ⟨by rw [ke7, p1, p3]; rfl, by rw [kd5, p2, p4]⟩
  ·cases h
def k0j (ps : List Nat) : BC → Option BC
 | .ds l => some (.ds l)
 | .cs l => match w6 ps l with
  | some r => some (.cs r)
  | none => none
theorem w8 {ps : List Nat} {nx : Nat} {b b' : BC} (h : k0j ps b = some b') : b'.to.all (vJ ps.length) = true ∧ b'.to.map (uO (nm ps nx)) = b.to := by
 unfold k0j at h
 split at h
 ·cases h
  refine ⟨?_, ?_⟩
  ·show (kc3 C.d _).all _ = true
   rw [km0]; exact List.all_eq_true.2 fun _ _ => rfl
  ·show kc3 _ (kc3 C.d _) = kc3 C.d _
   rw [ki9]; rfl
 ·split at h
  ·rename_i h1; cases h; exact mJ h1
  ·cases h
def iP (g : EH) (ps : List Nat) : List Nat → Nat → Option EH
 | [], _ => some []
 | b :: bs, k => match g.lookup b with
  | some (some (T, bc)) => match k0j ps bc, iP g ps bs (k + 1) with
   | some bc', some r => some ((k, some (T, bc')) :: r)
   | _, _ => none
  | _ => none
theorem iO {g : EH} {ps : List Nat} {nx : Nat} : ∀ {bs : List Nat} {k : Nat} {r : EH}, iP g ps bs k = some r → ps.drop k = bs → (∀ x ∈ kC r, ∀ T cs, x.2 = some (T, cs) → cs.all (vJ ps.length) = true ∧ x.1 < ps.length ∧ Look (kC g) (nm ps nx x.1) (some (T, cs.map (uO (nm ps nx))))) ∧ ∀ b ∈ bs, ∃ x : Bk, Look (kC g) b (some x)
 | [], _, _, h, _ => by cases h; exact ⟨fun x hx => (by cases hx), fun b hb => (by cases hb)⟩
 | b :: bs, k, r, h, hd => by
  unfold iP at h
  split at h
  ·rename_i T bc hb
   split at h
   ·rename_i bc' r' h1 h2
    cases h
    have hk : k < ps.length := by
     rcases Nat.lt_or_ge k ps.length with h | h
     ·exact h
     ·rw [List.drop_eq_nil_of_le h] at hd; cases hd
    have hd' := List.drop_eq_getElem_cons hk
    rw [hd] at hd'
    obtain ⟨e1, e2⟩ := List.cons.inj hd'
    obtain ⟨q1, q2⟩ := iO (nx := nx) h2 e2.symm
    obtain ⟨p1, p2⟩ := w8 (nx := nx) h1
    refine ⟨?_, ?_⟩
    ·intro x hx T' cs' he
     rcases List.mem_cons.1 (show x ∈ (k, some (T, bc'.to)) :: kC r' from hx) with rfl | hx
     ·simp only [Option.some.injEq, Prod.mk.injEq] at he
      obtain ⟨rfl, rfl⟩ := he
      refine ⟨p1, hk, ?_⟩
      rw [p2, uW hk, List.getD_eq_getElem?_getD, List.getElem?_eq_getElem hk, Option.getD_some, ← e1]
      exact kX hb
     ·exact q1 x hx T' cs' he
    ·intro b' hb'
     rcases List.mem_cons.1 hb' with rfl | hb'
     ·exact ⟨_, kX hb⟩
     ·exact q2 b' hb'
   ·cases h
  ·cases h
def bL (l : List (Nat × PV)) : List Operand → Option (List E1)
 | [] => some []
 | x :: xs => match uA l x, bL l xs with
  | some (.e e), some es => some (e :: es)
  | _, _ => none
theorem vY {l : List (Nat × PV)} : ∀ {xs : List Operand} {es : List E1}, bL l xs = some es → EvA l xs es
 | [], _, h => by cases h; exact .nil
 | x :: xs, _, h => by
  unfold bL at h
  split at h
  ·rename_i h1 h2; cases h; exact .cons (bK h1) (vY h2)
  ·cases h
def k0g (σ : Nat → Nat) : BC → BC
 | .ds l => .ds l
 | .cs l => .cs (l.map (uO σ))
theorem wS (σ : Nat → Nat) (b : BC) : (k0g σ b).to = b.to.map (uO σ) := by
 cases b with
 | ds l => show kc3 C.d l = kc3 _ (kc3 C.d l); rw [ki9]; rfl
 | cs l => rfl
def pU (σ : Nat → Nat) : Option EBk → Option EBk
 | some x => some (x.1, k0g σ x.2)
 | none => none
theorem pT (σ : Nat → Nat) (b : Option EBk) : g6 (pU σ b) = aB σ (g6 b) := by
 cases b with
 | none => rfl
 | some x => show some (x.1, (k0g σ x.2).to) = some (x.1, x.2.to.map (uO σ)); rw [wS]
def iK (f : Nat → Nat) : EH → EH
 | [] => []
 | x :: g => (f x.1, pU f x.2) :: iK f g
theorem iJ (f : Nat → Nat) : ∀ g : EH, kC (iK f g) = (kC g).map (fun x => (f x.1, aB f x.2))
 | [] => rfl
 | x :: g => by
  show (f x.1, g6 (pU f x.2)) :: kC (iK f g) = (f x.1, aB f (g6 x.2)) :: (kC g).map _
  rw [pT, iJ f g]
def k2j : D → Bool
 | .lit _ => true
 | .sl _ _ => false
def nsG : EH → List Prop
 | [] => []
 | (_, some (_, .ds l)) :: g => (l.all k2j = true) :: nsG g
 | (_, some (_, .cs l)) :: g => (l.all aU = true) :: nsG g
 | (_, none) :: g => nsG g
theorem fW : ∀ {g : EH}, (∀ p ∈ nsG g, p) → eI (kC g) = true
 | [], _ => rfl
 | (b, some (T, .ds l)) :: g, h => by
  have h1 := h _ (ka7 ..)
  have h2 := fW (g := g) fun p hp => h p (kb9 _ hp)
  show kl3 ((b, some (T, kc3 C.d l)) :: kC g) _ = true
  rw [ke7]
  unfold eI at h2
  rw [h2, Bool.and_true]
  show (kc3 C.d l).all aU = true
  rw [km0]
  rw [← h1]; congr 1; funext x; cases x <;> rfl
 | (b, some (T, .cs l)) :: g, h => by
  have h1 := h _ (ka7 ..)
  have h2 := fW (g := g) fun p hp => h p (kb9 _ hp)
  show kl3 ((b, some (T, l)) :: kC g) _ = true
  rw [ke7]
  unfold eI at h2
  rw [h2, Bool.and_true]; exact h1
 | (b, none) :: g, h => by
  have h2 := fW (g := g) h
  show kl3 ((b, none) :: kC g) _ = true
  rw [ke7]
  unfold eI at h2
  rw [h2]; rfl
def k2h (ft : List Nat) (y : PV) (gout : EH) : List Prop := match ft with
 | [] => []
 | _ :: _ => (c6 y = true) :: nsG gout
def xV (P : Program) (f : FuncId) : Bool := match P.funcs[f]? with
 | some fn => match fn.name == "runtime.NumGoroutine", fn.body with
  | false, some _ => true
  | _, _ => false
 | none => false
theorem gJ {f : FuncId} (h : xV Try.prog f = true) (ar : Array Value) (w : World) : (callFunc f ar).run Try.prog w = .ok (.enter f ar) w := by
 unfold xV at h
 split at h
 ·rename_i fn hf
  split at h
  ·rename_i h1 h2
   unfold callFunc
   have h3 : ¬ fn.name = "runtime.NumGoroutine" := by intro e; rw [e] at h1; simp at h1
   simp [hf, h2, h3]
  ·cases h
 ·cases h
def t7 (xo : Option (List E1)) (xs : List E1) : Option (List Prop × List E1) := match xo with
 | none => some ([], xs)
 | some xs' => match s9 idN xs' xs with
  | some ps => some (ps, xs')
  | none => none
theorem t6 {xo : Option (List E1)} {xs xs' : List E1} {ps : List Prop} (h : t7 xo xs = some (ps, xs')) (hp : ∀ p ∈ ps, p) : xs' = xs := by
 unfold t7 at h
 split at h
 ·cases h; rfl
 ·split at h
  ·rename_i he; cases h; exact xU he hp
  ·cases h
def s0 (l : List (Nat × PV)) (args : List Operand) (qs : List (Nat × Nat)) : Option (List E1) := match bL l args with
 | some us => some ((qs.map fun q => E1.c (.ptr q.1 q.2)) ++ us)
 | none => none
def s5 (l : List (Nat × PV)) (args : List Operand) (qs : List (Nat × Nat)) : Option (List E1) := match bL l args with
 | some us => some (us ++ qs.map fun q => .c (.ptr q.1 q.2))
 | none => none
def vN (P : Program) (Fn : FuncId → List E1 → List (Nat × Option Bk) → Nat → PV → List (Nat × Option Bk) → Nat → Prop) (h : H) (g : EH) (nx : Nat) (f : FuncId) (ao : Option (List E1)) : R := match h with
 | .call ps y gout nout snaps xo => match ao, xV P f with
  | some us, true => match cY g ps us snaps, iP g ps ps 0 with
   | some (pr, xs, ft), some gin => match l7 ps (kC gout) nout, t7 xo xs with
    | true, some (pe, xs') => some (pr ++ (k2h ft y gout ++ (pe ++ [Fn f xs' (kC gin) ps.length y (kC gout) nout])), ⟨aV (nm ps nx) y, iK (nm ps nx) gout, (List.range (nout - ps.length)).map (nx + ·), ps ++ ft⟩)
    | _, _ => none
   | _, _ => none
  | _, _ => none
 | _ => none
def k0q : PV → Option (FuncId × List (Nat × Nat))
 | .e (.c (.fn f qs)) => some (f, qs)
 | _ => none
theorem xB {u : PV} {f : FuncId} {qs : List (Nat × Nat)} (h : k0q u = some (f, qs)) : u = .e (.c (.fn f qs)) := by
 unfold k0q at h
 split at h
 ·cases h; rfl
 ·cases h
def oY : List E1 → Option (List (Nat × Nat))
 | [] => some []
 | .c (.ptr b off) :: es => match oY es with
  | some r => some ((b, off) :: r)
  | none => none
 | _ :: _ => none
theorem fO {p : Nat → Prop} {ρ : Rh} {w : World} : ∀ {es : List E1} {qs : List (Nat × Nat)} {vs : List Value}, oY es = some qs → All2 (RepE p ρ w) es vs → All2 (tV ρ) qs vs
 | [], _, [], h, _ => by cases h; trivial
 | .c (.ptr b off) :: es, _, v :: vs, h, hv => by
  unfold oY at h
  split at h
  ·rename_i hr
   cases h
   obtain ⟨m, h1, h2, h3⟩ := yH (b := b) (off := off) (v := v) hv.1
   exact ⟨⟨m, h1, h2, h3⟩, fO hr hv.2⟩
  ·cases h
 | .c (.d _) :: _, _, _, h, _ => by cases h
 | .c (.own ..) :: _, _, _, h, _ => by cases h
 | .c (.rp _) :: _, _, _, h, _ => by cases h
 | .c (.fn ..) :: _, _, _, h, _ => by cases h
 | .agg _ :: _, _, _, h, _ => by cases h
def r6 (l : List (Nat × PV)) (f : FuncId) (firsts : List Operand) : R := match bL l firsts with
 | some es => match oY es with
  | some qs => pv (.e (.c (.fn (f + d3) qs)))
  | none => none
 | none => none
def k0z (l : List (Nat × PV)) (f : FuncId) (caps : List Operand) : R := match bL l caps with
 | some es => match oY es, kg3 f d3 with
  | some qs, true => pv (.e (.c (.fn f qs)))
  | _, _ => none
 | none => none
section
variable {cx : Cx} {o : Oper} {l : List (Nat × PV)} {g : EH}
theorem xL {f : FuncId} {first caps : Array Operand} (ho : o.op = .makeFunc (.func f) first caps) (h0 : first.toList = []) : OKR cx o l g (k0z l f caps.toList) := by
 unfold k0z
 split
 ·rename_i es hes
  split
  ·rename_i qs hqs hlo
   refine OKR.some fun _ => kJ fun ρ a w hs => ?_
   have hav := (vY hes).rep hs (by intro x hx; rw [ho]; simp only [Op.operands]; simp at hx ⊢; exact .inr hx)
   have h0' : first = #[] := by apply Array.ext'; simpa using h0
   subst h0'
   have hfn : RepC cx.p ρ w (.fn f qs) (rB f (caps.toList.map a.eval)) := .fn f qs _ (fO hqs hav)
   rw [j8 hlo] at hfn
   refine ⟨.func (.func f) #[] (caps.toList.map a.eval).toArray, ?_, hfn⟩
   unfold execOp
   rw [show (caps.toList.map a.eval).toArray = caps.map a.eval by apply Array.ext'; simp]
   simp [ho, Instr.makeFunc]
  ·exact OKR.none
 ·exact OKR.none
theorem r5 {f : FuncId} {first caps : Array Operand} (ho : o.op = .makeFunc (.func f) first caps) (h0 : caps.toList = []) : OKR cx o l g (r6 l f first.toList) := by
 unfold r6
 split
 ·rename_i es hes
  split
  ·rename_i qs hqs
   refine OKR.some fun _ => kJ fun ρ a w hs => ?_
   have hav := (vY hes).rep hs (by intro x hx; rw [ho]; simp only [Op.operands]; simp at hx ⊢; exact .inl hx)
   have h0' : caps = #[] := by apply Array.ext'; simpa using h0
   subst h0'
   have hfn : RepC cx.p ρ w (.fn (f + d3) qs) (rB (f + d3) (first.toList.map a.eval)) := .fn _ qs _ (fO hqs hav)
   rw [k0p] at hfn
   refine ⟨.func (.func f) (first.toList.map a.eval).toArray #[], ?_, hfn⟩
   unfold execOp
   rw [show (first.toList.map a.eval).toArray = first.map a.eval by apply Array.ext'; simp]
   simp [ho, Instr.makeFunc]
  ·exact OKR.none
 ·exact OKR.none
theorem k33 {nx nout : Nat} {f : FuncId} {ps : List Nat} {y : PV} {gout gin : EH} {snaps : Sn} {us xs : List E1} {pr : List Prop} {ft : List Nat}
  (hrun : ∀ ρ a w, uP cx.p ρ w l o.op.operands a → ∃ av : List Value, (execOp a.eval o).run Try.prog w = .ok (.enter f av.toArray) w ∧ All2 (RepE cx.p ρ w) us av) (hpass : cY g ps us snaps = some (pr, xs, ft)) (hgin : iP g ps ps 0 = some gin) (hout : l7 ps (kC gout) nout = true)
  {xo : Option (List E1)} {pe : List Prop} {xs' : List E1} (hxo : t7 xo xs = some (pe, xs')) (hp : ∀ p ∈ pr ++ (k2h ft y gout ++ (pe ++ [Fun f xs' (kC gin) ps.length y (kC gout) nout])), p) : OpOK cx o (S l) (S (kC g)) (OTe.to ⟨aV (nm ps nx) y, iK (nm ps nx) gout, (List.range (nout - ps.length)).map (nx + ·), ps ++ ft⟩) := by
 have hF : Fun f xs' (kC gin) ps.length y (kC gout) nout := hp _ (kb4 _ (kb4 _ (kb4 _ (ka7 ..))))
 have hxx := t6 hxo (fun p h => hp p (kb4 _ (kb4 _ (kc7 _ h))))
 rw [hxx] at hF
 obtain ⟨q1, q2⟩ := iO (nx := nx) hgin (by rw [kf5])
 have hall : All2 (PassE (kC g) ps nx (!ft.isEmpty) (ps ++ ft)) us xs := eC hpass (fun p h => hp p (kc7 _ h)) (fun b hb => ⟨by simp [hb], by cases ft with | nil => cases hb | cons => rfl⟩)
 have := pG (cx := cx) (nx := nx) hrun hall hF q1 (fun b hb => ⟨by simp [hb], q2 b hb⟩) hout (by
  cases ft with
  | nil => exact .inl rfl
  | cons a b =>
   right
   rw [Bool.and_eq_true]
   exact ⟨hp _ (kb4 _ (kc7 _ (ka7 ..))), fW fun p h => hp p (kb4 _ (kc7 _ (kb9 _ h)))⟩)
 rw [← iJ] at this
 exact this
theorem aO {h : H} {nx : Nat} {f : FuncId} {ao : Option (List E1)} (hrun : ∀ us, ao = some us → xV Try.prog f = true → ∀ ρ a w, uP cx.p ρ w l o.op.operands a → ∃ av : List Value, (execOp a.eval o).run Try.prog w = .ok (.enter f av.toArray) w ∧ All2 (RepE cx.p ρ w) us av) : OKR cx o l g (vN Try.prog Fun h g nx f ao) := by
 unfold vN
 split
 ·split
  ·rename_i us hent
   split
   ·rename_i hpass hgin
    split
    ·rename_i hout hxo
     exact OKR.some fun hp => k33 (hrun us rfl hent) hpass hgin hout hxo ((kN _).1 hp)
    ·exact OKR.none
   ·exact OKR.none
  ·exact OKR.none
 ·exact OKR.none
theorem nR {h : H} {nx : Nat} {f : FuncId} {args : Array Operand} {ts : Array TypeId} (ho : o.op = .call { callee := .value (.func f), args := args, argTypes := ts }) : OKR cx o l g (vN Try.prog Fun h g nx f (bL l args.toList)) :=
 aO fun us hus hent ρ a w hs => m8 ho (gJ hent) (vY hus) hs
theorem lI {h : H} {nx : Nat} {f : FuncId} {qs : List (Nat × Nat)} {x : Operand} {args : Array Operand} {ts : Array TypeId} (ho : o.op = .call { callee := .value x, args := args, argTypes := ts }) (hx : Ev l x (.e (.c (.fn f qs)))) (hlo : kg3 f d3 = true) : OKR cx o l g (vN Try.prog Fun h g nx f (s5 l args.toList qs)) := by
 refine aO fun us hus hent ρ a w hs => ?_
 unfold s5 at hus
 split at hus
 ·rename_i us0 hus0
  cases hus
  exact m7 hlo ho (gJ hent) hx (vY hus0) hs
 ·cases hus
theorem lJ {h : H} {nx : Nat} {f : FuncId} {qs : List (Nat × Nat)} {x : Operand} {args : Array Operand} {ts : Array TypeId} (ho : o.op = .call { callee := .value x, args := args, argTypes := ts }) (hx : Ev l x (.e (.c (.fn f qs)))) (hlo : kg3 f d3 = false) : OKR cx o l g (vN Try.prog Fun h g nx (zI f) (s0 l args.toList qs)) := by
 refine aO fun us hus hent ρ a w hs => ?_
 unfold s0 at hus
 split at hus
 ·rename_i us0 hus0
  cases hus
  exact m9 hlo ho (gJ hent) hx (vY hus0) hs
 ·cases hus
end
end Go.Proofs.Ytkjmlililpgamaa
