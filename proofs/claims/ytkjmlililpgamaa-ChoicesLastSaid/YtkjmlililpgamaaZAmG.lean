/- A memory told by names: operations on memory that are computed. No statement is proved here. -/
import Derived.Test.YtkjmlililpgamaaZAmF
namespace Go.Proofs.Ytkjmlililpgamaa
open Go.ChangeShapes Go.WideShapes Go.ChangeAt Go.RowKit
open List renaming getElem?_eq_none → kg5, getElem?_map → ke5, length_map → kc8, map → kc3, mapM_cons → kl2, map_map → ki9
open Nat renaming beq → kd4, eq_of_beq_eq_true → kb7, le_of_ble_eq_true → ka3
set_option linter.unusedVariables false
set_option linter.unusedSimpArgs false
def oN : List C → Option (List D)
 | [] => some []
 | .d x :: l => match oN l with
  | some r => some (x :: r)
  | none => none
 | _ :: _ => none
theorem fF : ∀ {l : List C} {r : List D}, oN l = some r → l = r.map .d
 | [], r, h => by cases h; rfl
 | .d x :: l, r, h => by
  unfold oN at h
  split at h
  ·rename_i r' hr; cases h; rw [List.map_cons, ← fF hr]
  ·cases h
 | .own .. :: _, _, h => by cases h
 | .ptr .. :: _, _, h => by cases h
 | .rp .. :: _, _, h => by cases h
 | .fn .. :: _, _, h => by cases h
def dM (l : List C) : BC := match oN l with
 | some r => .ds r
 | none => .cs l
theorem bP (l : List C) : (dM l).to = l := by
 unfold dM
 split
 ·rename_i h; rw [fF h]; rfl
 ·rfl
def jN : List D → Nat → List D → List D
 | cur, _, [] => cur
 | cur, o, c :: r => jN (cur.set o c) (o + 1) r
theorem gY : ∀ (r : List D) (cur : List D) (o : Nat), cJ (cur.map .d) o (r.map .d) = (jN cur o r).map .d
 | [], _, _ => rfl
 | c :: r, cur, o => by
  show cJ ((cur.map C.d).set o (.d c)) (o + 1) (r.map .d) = _
  rw [← List.map_set, gY r]; rfl
def k3a (off : Nat) : Nat → Nat
 | 0 => off
 | k + 1 => off + (k + 1)
theorem x2 (off k : Nat) : k3a off k = off + k := by cases k <;> rfl
def k0d (i : Nat) : Nat → Nat
 | 1 => i
 | s => i * s
theorem wQ (i s : Nat) : k0d i s = i * s := by
 unfold k0d; split <;> simp
def k12 (P : Program) (t : TypeId) (i : Nat) : PV → R
 | .e (.c (.ptr b off)) => match aZ P t i with
  | some (k, _, _ + 1) => pv (.e (.c (.ptr b (k3a off k))))
  | _ => none
 | .e (.c (.rp ds)) => match aZ P t i with
  | some (k, _, _ + 1) => pv (.e (.c (.rp (ds.drop k))))
  | _ => none
 | _ => none
def sF (P : Program) (t : TypeId) (i : Nat) : PV → R
 | .e (.agg cs) => match aZ P t i with
  | some (k, false, 1) => match cs[k]? with
   | some c => pv (.e (.c c))
   | none => none
  | some (k, true, n) => pv (.e (.agg ((cs.drop k).take n)))
  | _ => none
 | _ => none
def lE (P : Program) (h : H) (g : EH) (ty : TypeId) : PV → R
 | .e (.c (.ptr b off)) => match g.lookup b with
  | some (some (T, bc)) => match qM P ty with
   | some (false, 1) => match h, bc with
    | .d d, .ds l => some ([l[off]? = some d], ⟨.e (.c (.d d)), [], [], [b]⟩)
    | .no, bc => match bc.to[off]? with
     | some c => some ([], ⟨.e (.c c), [], [], [b]⟩)
     | none => none
    | _, _ => none
   | some (true, n) => match h, bc with
    | .ds r, .ds l => some ([(l.drop off).take n = r, r.length = n], ⟨.e (.agg (r.map .d)), [], [], [b]⟩)
    | .no, bc => match kd4 ((bc.to.drop off).take n).length n with
     | true => some ([], ⟨.e (.agg ((bc.to.drop off).take n)), [], [], [b]⟩)
     | false => none
    | _, _ => none
   | _ => none
  | _ => none
 | .e (.c (.rp ds)) => match qM P ty with
  | some (false, 1) => match h with
   | .d d => some ([ds[0]? = some d], ⟨.e (.c (.d d)), [], [], []⟩)
   | .no => match ds[0]? with
    | some d => some ([], ⟨.e (.c (.d d)), [], [], []⟩)
    | none => none
   | _ => none
  | some (true, n) => match h with
   | .ds r => some ([ds.take n = r, r.length = n], ⟨.e (.agg (r.map .d)), [], [], []⟩)
   | .no => match kd4 (ds.take n).length n with
    | true => some ([], ⟨.e (.agg ((ds.take n).map .d)), [], [], []⟩)
    | false => none
   | _ => none
  | _ => none
 | _ => none
def gD (P : Program) (h : H) (g : EH) (ty : TypeId) : PV → PV → R
 | .e (.c (.ptr b off)), .e e => match g.lookup b with
  | some (some (T, bc)) => match qM P ty with
   | some (_, n) => match kd4 (qL e).length n with
    | true => match h, bc, oN (qL e) with
     | .no, bc, _ => match Nat.ble (off + n) bc.to.length with
      | true => some ([], ⟨.any, [(b, some (T, dM (cJ bc.to off (qL e))))], [], [b]⟩)
      | false => none
     | .ds r, .ds l, some x => some ([off + n ≤ l.length, jN l off x = r], ⟨.any, [(b, some (T, .ds r))], [], [b]⟩)
     | _, _, _ => none
    | false => none
   | none => none
  | _ => none
 | _, _ => none
def gH (P : Program) (nx : Nat) (T : TypeId) : R := match v7 P T with
 | some zs => match zs.all (·.oneCell') with
  | true => some ([], ⟨.e (.c (.ptr nx 0)), [(nx, some (T, .ds (zs.map .lit)))], [nx], []⟩)
  | false => none
 | none => none
def sU (nx : Nat) (T : TypeId) : PV → R
 | .e e => some ([], ⟨.e (.c (.ptr nx 0)), [(nx, some (T, dM (qL e)))], [nx], []⟩)
 | _ => none
section
variable {cx : Cx} {o : Oper} {l : List (Nat × PV)} {g : EH}
theorem xN {t : TypeId} {i : Nat} {x : Operand} (ho : o.op = .fieldAddr t x i) {u : PV} (hu : Ev l x u) : OKR cx o l g (k12 Try.prog t i u) := by
 unfold k12
 split
 ·split
  ·rename_i hf; exact OKR.some fun _ => fV ho hf hu (x2 _ _).symm
  ·exact OKR.none
 ·split
  ·rename_i hf; exact OKR.some fun _ => bZ ho hf hu rfl
  ·exact OKR.none
 ·exact OKR.none
theorem sE {t : TypeId} {i : Nat} {x : Operand} (ho : o.op = .field t x i) {u : PV} (hu : Ev l x u) : OKR cx o l g (sF Try.prog t i u) := by
 unfold sF
 split
 ·split
  ·rename_i hf
   split
   ·rename_i hc; exact OKR.some fun _ => pE ho hf hu hc
   ·exact OKR.none
  ·rename_i hf; exact OKR.some fun _ => fU ho hf hu rfl
  ·exact OKR.none
 ·exact OKR.none
theorem nN {h : H} {ty : TypeId} {x : Operand} (ho : o.op = .load ty x) {u : PV} (hu : Ev l x u) : OKR cx o l g (lE Try.prog h g ty u) := by
 unfold lE
 split
 ·split
  ·rename_i T bc hb
   have hb' := kX hb
   split
   ·rename_i ht
    split
    ·refine OKR.some fun hp => l8 ho ht hu hb' ?_
     have hp : _ = some _ := hp
     show (kc3 C.d _)[_]? = _
     rw [ke5, hp]; rfl
    ·split
     ·rename_i hc; exact OKR.some fun _ => l8 ho ht hu hb' hc
     ·exact OKR.none
    ·exact OKR.none
   ·rename_i ht
    split
    ·refine OKR.some fun hp => bT ho ht hu hb' ?_ (by rw [kc8]; exact hp.2)
     show ((kc3 C.d _).drop _).take _ = _
     rw [← List.map_drop, ← List.map_take, hp.1]
    ·split
     ·rename_i hl; exact OKR.some fun _ => bT ho ht hu hb' rfl (kb7 hl)
     ·exact OKR.none
    ·exact OKR.none
   ·exact OKR.none
  ·exact OKR.none
 ·split
  ·rename_i ht
   split
   ·exact OKR.some fun hp => cZ ho ht hu hp
   ·split
    ·rename_i hc; exact OKR.some fun _ => cZ ho ht hu hc
    ·exact OKR.none
   ·exact OKR.none
  ·rename_i ht
   split
   ·exact OKR.some fun hp => vH ho ht hu hp.1 hp.2
   ·split
    ·rename_i hl; exact OKR.some fun _ => vH ho ht hu rfl (kb7 hl)
    ·exact OKR.none
   ·exact OKR.none
  ·exact OKR.none
 ·exact OKR.none
theorem lB {h : H} {ty : TypeId} {x y : Operand} (ho : o.op = .store ty x y) {u v : PV} (hu : Ev l x u) (hv : Ev l y v) : OKR cx o l g (gD Try.prog h g ty u v) := by
 unfold gD
 split
 ·split
  ·rename_i T bc hb
   have hb' := kX hb
   split
   ·rename_i ht
    split
    ·rename_i hn
     have hn := kb7 hn
     split
     ·split
      ·rename_i hl
       refine OKR.some fun _ => ?_
       have := hU (cx := cx) ho ht hu hv hb' hn (ka3 hl) (bP _).symm
       exact this
      ·exact OKR.none
     ·rename_i hx
      refine OKR.some fun hp => ?_
      have e := fF hx
      have := hU (cx := cx) (cs' := kc3 C.d _) ho ht hu hv hb' hn (by show _ ≤ (kc3 C.d _).length; rw [kc8]; exact hp.1) (by show cJ (kc3 C.d _) _ _ = _; rw [e, gY, show jN _ _ _ = _ from hp.2])
      exact this
     ·exact OKR.none
    ·exact OKR.none
   ·exact OKR.none
  ·exact OKR.none
 ·exact OKR.none
theorem lM {nx : Nat} {T : TypeId} (ho : o.op = .alloc T) : OKR cx o l g (gH Try.prog nx T) := by
 unfold gH
 split
 ·rename_i hz
  split
  ·rename_i h1
   refine OKR.some fun _ => ?_
   exact nE ho hz h1 (by show _ = kc3 C.d (kc3 D.lit _); rw [ki9]; rfl)
  ·exact OKR.none
 ·exact OKR.none
theorem sS {nx : Nat} {T : TypeId} {x : Operand} (ho : o.op = .box T x) {u : PV} (hu : Ev l x u) : OKR cx o l g (sU nx T u) := by
 unfold sU
 split
 ·refine OKR.some fun _ => ?_
  have := k0c (cx := cx) (g := kC g) (nx := nx) ho hu
  rw [← bP (qL _)] at this
  exact this
 ·exact OKR.none
end
/-! structs and slices that are written out -/
def cX (P : Program) (t : TypeId) : Option (List (Nat × Nat)) := match P.underlying t with
 | some (.struct fs) => fs.toList.mapM fun f => (P.info? f.type).map fun i => (f.offset, i.size)
 | _ => none
theorem hJ {t : TypeId} {pl : List (Nat × Nat)} (h : cX Try.prog t = some pl) : mY t pl := by
 unfold cX at h
 split at h
 ·rename_i fs hfs
  refine ⟨fs, hfs, fun w => ?_⟩
  have e0 : fs = fs.toList.toArray := by simp
  rw [e0, List.mapM_toArray]
  have : ∀ (l : List Field) (pl : List (Nat × Nat)), (l.mapM fun f => (Try.prog.info? f.type).map fun i => (f.offset, i.size)) = some pl → (l.mapM (fun f => do pure (f.offset, ← sizeOf f.type)) : Sem (List (Nat × Nat))).run Try.prog w = .ok pl w := by
   intro l
   induction l with
   | nil => intro pl h; simp at h; subst h; rfl
   | cons f l ih =>
    intro pl h
    rw [kl2] at h
    cases hi : Try.prog.info? f.type with
    | none => simp [hi] at h
    | some i =>
     cases hr : (l.mapM fun f => (Try.prog.info? f.type).map fun i => (f.offset, i.size)) with
     | none => simp [hi, hr] at h
     | some r =>
      simp [hi, hr] at h
      subst h
      have := ih r hr
      simp only [kl2, Sem.run_bind, sizeOf, typeInfo, hi] at this ⊢
      simp [this, sizeOf, typeInfo, hi]
      simpa [sizeOf, typeInfo] using congrArg (fun r => Result.andThen r fun a w => Result.ok ((f.offset, i.size) :: a) w) this
  have e := this _ _ h
  simp at e ⊢
  rw [e]; rfl
 ·cases h
def r7 (l : List (Nat × PV)) : List (Nat × Operand) → Option (List (Nat × E1))
 | [] => some []
 | (i, x) :: xs => match uA l x, r7 l xs with
  | some (.e e), some es => some ((i, e) :: es)
  | _, _ => none
theorem gF {l : List (Nat × PV)} : ∀ {xs : List (Nat × Operand)} {es : List (Nat × E1)}, r7 l xs = some es → EvL l xs es
 | [], es, h => by cases h; exact .nil
 | (i, x) :: xs, es, h => by
  unfold r7 at h
  split at h
  ·rename_i h1 h2; cases h; exact .cons (bK h1) (gF h2)
  ·cases h
def gG (P : Program) (l : List (Nat × PV)) (t : TypeId) (parts : Array (Nat × Operand)) : R := match cX P t, v7 P t, r7 l parts.toList with
 | some pl, some zs, some es => match zs.all (·.oneCell') with
  | true => match vM (fun i => pl[i]?) (zs.map LC) es with
   | some cs => pv (.e (.agg cs))
   | none => none
  | false => none
 | _, _, _ => none
def oI (zs : List Value) (s : Nat) : Nat → List C
 | 0 => []
 | n + 1 => oI zs s n ++ zs.map LC
theorem lU (zs : List Value) (s : Nat) (hs : zs.length = s) (h0 : 0 < s) : ∀ n, oI zs s n = (List.range (n * s)).map fun j => LC (zs.getD (j % s) undef)
 | 0 => by simp [oI]
 | n + 1 => by
  rw [oI, lU zs s hs h0 n, Nat.succ_mul, List.range_add, List.map_append, ki9]
  congr 1
  apply List.ext_getElem?
  intro j
  rw [ke5, ke5]
  by_cases hj : j < s
  ·rw [List.getElem?_range hj]
   have : j < zs.length := by omega
   simp [Function.comp, Nat.add_mod, Nat.mod_eq_of_lt hj, List.getD_eq_getElem?_getD, this]
  ·rw [kg5 (by omega), kg5 (by rw [List.length_range]; omega)]; rfl
def k15 (P : Program) (l : List (Nat × PV)) (nx : Nat) (t : TypeId) (n : Nat) (parts : Array (Nat × Operand)) : R := match P.underlying t with
 | some (.slice e) => match qM P e, v7 P e, r7 l parts.toList with
  | some (_, s), some zs, some es => match zs.all (·.oneCell') && (kd4 zs.length s && (Nat.blt 0 (n * s) && Nat.ble (n * s) 16777216)) with
   | true => match vM (fun i => some (i * s, s)) (oI zs s n) es with
    | some cs => some ([], ⟨.e (.c (.own nx 0 n s true)), [(nx, some (e, dM cs))], [nx], []⟩)
    | none => none
   | false => none
  | _, _, _ => none
 | _ => none
section
variable {cx : Cx} {o : Oper} {l : List (Nat × PV)} {g : EH}
theorem lK {t : TypeId} {parts : Array (Nat × Operand)} (ho : o.op = .build t parts) : OKR cx o l g (gG Try.prog l t parts) := by
 unfold gG
 split
 ·rename_i h1 h2 h3
  split
  ·rename_i h4
   split
   ·rename_i h5; exact OKR.some fun _ => pH ho (hJ h1) h2 h4 (gF h3) h5
   ·exact OKR.none
  ·exact OKR.none
 ·exact OKR.none
theorem xQ {nx : Nat} {t : TypeId} {n : Nat} {parts : Array (Nat × Operand)} (ho : o.op = .buildSlice t n parts) : OKR cx o l g (k15 Try.prog l nx t n parts) := by
 unfold k15
 split
 ·rename_i e hu
  split
  ·rename_i bb s zs es he hz hes
   split
   ·rename_i hc
    simp only [Bool.and_eq_true] at hc
    obtain ⟨h1, h2, h3, h4⟩ := hc
    have h2 := kb7 h2
    have h3 : 0 < n * s := ka3 h3
    have h4 := ka3 h4
    split
    ·rename_i cs hf
     refine OKR.some fun _ => ?_
     have h0 : 0 < s := by rcases Nat.eq_zero_or_pos s with h | h; (subst h; simp at h3); exact h
     rw [lU zs s h2 h0] at hf
     have := dW (cx := cx) (g := kC g) (nx := nx) ho hu he hz h1 h2 (gF hes) h3 h4 hf
     rw [← bP cs] at this
     exact this
    ·exact OKR.none
   ·exact OKR.none
  ·exact OKR.none
 ·exact OKR.none
end
end Go.Proofs.Ytkjmlililpgamaa
