/- A memory told by names: operations on memory that are computed. No statement is proved here. -/
import Derived.Test.YtkjmlililpgamaaZAmF
namespace Go.Proofs.Ytkjmlililpgamaa
open Go.ChangeShapes Go.WideShapes Go.ChangeAt Go.RowKit
open List renaming getElem?_eq_none → kg7, getElem?_map → ke1, length_map → kd1, map → kc4, mapM_cons → kl2, map_map → kj1
open Nat renaming beq → kd5, eq_of_beq_eq_true → kb3, le_of_ble_eq_true → ka3
set_option linter.unusedVariables false
set_option linter.unusedSimpArgs false
def pQ : List C → Option (List D)
 | [] => some []
 | .d x :: l => match pQ l with
  | some r => some (x :: r)
  | none => none
 | _ :: _ => none
theorem f6 : ∀ {l : List C} {r : List D}, pQ l = some r → l = r.map .d
 | [], r, h => by cases h; rfl
 | .d x :: l, r, h => by
  unfold pQ at h
  split at h
  ·rename_i r' hr; cases h; rw [List.map_cons, ← f6 hr]
  ·cases h
 | .own .. :: _, _, h => by cases h
 | .ptr .. :: _, _, h => by cases h
 | .rp .. :: _, _, h => by cases h
 | .fn .. :: _, _, h => by cases h
def d7 (l : List C) : BC := match pQ l with
 | some r => .ds r
 | none => .cs l
theorem b8 (l : List C) : (d7 l).to = l := by
 unfold d7
 split
 ·rename_i h; rw [f6 h]; rfl
 ·rfl
def lH : List D → Nat → List D → List D
 | cur, _, [] => cur
 | cur, o, c :: r => lH (cur.set o c) (o + 1) r
theorem iS : ∀ (r : List D) (cur : List D) (o : Nat), cZ (cur.map .d) o (r.map .d) = (lH cur o r).map .d
 | [], _, _ => rfl
 | c :: r, cur, o => by
  show cZ ((cur.map C.d).set o (.d c)) (o + 1) (r.map .d) = _
  rw [← List.map_set, iS r]; rfl
def k4d (off : Nat) : Nat → Nat
 | 0 => off
 | k + 1 => off + (k + 1)
theorem k03 (off k : Nat) : k4d off k = off + k := by cases k <;> rfl
def x4 (i : Nat) : Nat → Nat
 | 1 => i
 | s => i * s
theorem nE (i s : Nat) : x4 i s = i * s := by
 unfold x4; split <;> simp
def k24 (P : Program) (t : TypeId) (i : Nat) : PV → R
 | .e (.c (.ptr b off)) => match bC P t i with
  | some (k, _, _ + 1) => pv (.e (.c (.ptr b (k4d off k))))
  | _ => none
 | .e (.c (.rp ds)) => match bC P t i with
  | some (k, _, _ + 1) => pv (.e (.c (.rp (ds.drop k))))
  | _ => none
 | _ => none
def tS (P : Program) (t : TypeId) (i : Nat) : PV → R
 | .e (.agg cs) => match bC P t i with
  | some (k, false, 1) => match cs[k]? with
   | some c => pv (.e (.c c))
   | none => none
  | some (k, true, n) => pv (.e (.agg ((cs.drop k).take n)))
  | _ => none
 | _ => none
def mA (P : Program) (h : H) (g : EH) (ty : TypeId) : PV → R
 | .e (.c (.ptr b off)) => match g.lookup b with
  | some (some (T, bc)) => match qE P ty with
   | some (false, 1) => match h, bc with
    | .d d, .ds l => some ([l[off]? = some d], ⟨.e (.c (.d d)), [], [], [b]⟩)
    | .no, bc => match bc.to[off]? with
     | some c => some ([], ⟨.e (.c c), [], [], [b]⟩)
     | none => none
    | _, _ => none
   | some (true, n) => match h, bc with
    | .ds r, .ds l => some ([(l.drop off).take n = r, r.length = n], ⟨.e (.agg (r.map .d)), [], [], [b]⟩)
    | .no, bc => match kd5 ((bc.to.drop off).take n).length n with
     | true => some ([], ⟨.e (.agg ((bc.to.drop off).take n)), [], [], [b]⟩)
     | false => none
    | _, _ => none
   | _ => none
  | _ => none
 | .e (.c (.rp ds)) => match qE P ty with
  | some (false, 1) => match h with
   | .d d => some ([ds[0]? = some d], ⟨.e (.c (.d d)), [], [], []⟩)
   | .no => match ds[0]? with
    | some d => some ([], ⟨.e (.c (.d d)), [], [], []⟩)
    | none => none
   | _ => none
  | some (true, n) => match h with
   | .ds r => some ([ds.take n = r, r.length = n], ⟨.e (.agg (r.map .d)), [], [], []⟩)
   | .no => match kd5 (ds.take n).length n with
    | true => some ([], ⟨.e (.agg ((ds.take n).map .d)), [], [], []⟩)
    | false => none
   | _ => none
  | _ => none
 | _ => none
def hE (P : Program) (h : H) (g : EH) (ty : TypeId) : PV → PV → R
 | .e (.c (.ptr b off)), .e e => match g.lookup b with
  | some (some (T, bc)) => match qE P ty with
   | some (_, n) => match kd5 (qN e).length n with
    | true => match h, bc, pQ (qN e) with
     | .no, bc, _ => match Nat.ble (off + n) bc.to.length with
      | true => some ([], ⟨.any, [(b, some (T, d7 (cZ bc.to off (qN e))))], [], [b]⟩)
      | false => none
     | .ds r, .ds l, some x => some ([off + n ≤ l.length, lH l off x = r], ⟨.any, [(b, some (T, .ds r))], [], [b]⟩)
     | _, _, _ => none
    | false => none
   | none => none
  | _ => none
 | _, _ => none
def hN (P : Program) (nx : Nat) (T : TypeId) : R := match vF P T with
 | some zs => match zs.all (·.oneCell') with
  | true => some ([], ⟨.e (.c (.ptr nx 0)), [(nx, some (T, .ds (zs.map .lit)))], [nx], []⟩)
  | false => none
 | none => none
def t7 (nx : Nat) (T : TypeId) : PV → R
 | .e e => some ([], ⟨.e (.c (.ptr nx 0)), [(nx, some (T, d7 (qN e)))], [nx], []⟩)
 | _ => none
section
variable {cx : Cx} {o : Oper} {l : List (Nat × PV)} {g : EH}
theorem zY {t : TypeId} {i : Nat} {x : Operand} (ho : o.op = .fieldAddr t x i) {u : PV} (hu : Ev l x u) : OKR cx o l g (k24 Try.prog t i u) := by
 unfold k24
 split
 ·split
  ·rename_i hf; exact OKR.some fun _ => gO ho hf hu (k03 _ _).symm
  ·exact OKR.none
 ·split
  ·rename_i hf; exact OKR.some fun _ => cG ho hf hu rfl
  ·exact OKR.none
 ·exact OKR.none
theorem tR {t : TypeId} {i : Nat} {x : Operand} (ho : o.op = .field t x i) {u : PV} (hu : Ev l x u) : OKR cx o l g (tS Try.prog t i u) := by
 unfold tS
 split
 ·split
  ·rename_i hf
   split
   ·rename_i hc; exact OKR.some fun _ => rO ho hf hu hc
   ·exact OKR.none
  ·rename_i hf; exact OKR.some fun _ => gN ho hf hu rfl
  ·exact OKR.none
 ·exact OKR.none
theorem oS {h : H} {ty : TypeId} {x : Operand} (ho : o.op = .load ty x) {u : PV} (hu : Ev l x u) : OKR cx o l g (mA Try.prog h g ty u) := by
 unfold mA
 split
 ·split
  ·rename_i T bc hb
   have hb' := kQ hb
   split
   ·rename_i ht
    split
    ·refine OKR.some fun hp => m9 ho ht hu hb' ?_
     have hp : _ = some _ := hp
     show (kc4 C.d _)[_]? = _
     rw [ke1, hp]; rfl
    ·split
     ·rename_i hc; exact OKR.some fun _ => m9 ho ht hu hb' hc
     ·exact OKR.none
    ·exact OKR.none
   ·rename_i ht
    split
    ·refine OKR.some fun hp => cB ho ht hu hb' ?_ (by rw [kd1]; exact hp.2)
     show ((kc4 C.d _).drop _).take _ = _
     rw [← List.map_drop, ← List.map_take, hp.1]
    ·split
     ·rename_i hl; exact OKR.some fun _ => cB ho ht hu hb' rfl (kb3 hl)
     ·exact OKR.none
    ·exact OKR.none
   ·exact OKR.none
  ·exact OKR.none
 ·split
  ·rename_i ht
   split
   ·exact OKR.some fun hp => dJ ho ht hu hp
   ·split
    ·rename_i hc; exact OKR.some fun _ => dJ ho ht hu hc
    ·exact OKR.none
   ·exact OKR.none
  ·rename_i ht
   split
   ·exact OKR.some fun hp => vQ ho ht hu hp.1 hp.2
   ·split
    ·rename_i hl; exact OKR.some fun _ => vQ ho ht hu rfl (kb3 hl)
    ·exact OKR.none
   ·exact OKR.none
  ·exact OKR.none
 ·exact OKR.none
theorem l6 {h : H} {ty : TypeId} {x y : Operand} (ho : o.op = .store ty x y) {u v : PV} (hu : Ev l x u) (hv : Ev l y v) : OKR cx o l g (hE Try.prog h g ty u v) := by
 unfold hE
 split
 ·split
  ·rename_i T bc hb
   have hb' := kQ hb
   split
   ·rename_i ht
    split
    ·rename_i hn
     have hn := kb3 hn
     split
     ·split
      ·rename_i hl
       refine OKR.some fun _ => ?_
       have := jA (cx := cx) ho ht hu hv hb' hn (ka3 hl) (b8 _).symm
       exact this
      ·exact OKR.none
     ·rename_i hx
      refine OKR.some fun hp => ?_
      have e := f6 hx
      have := jA (cx := cx) (cs' := kc4 C.d _) ho ht hu hv hb' hn (by show _ ≤ (kc4 C.d _).length; rw [kd1]; exact hp.1) (by show cZ (kc4 C.d _) _ _ = _; rw [e, iS, show lH _ _ _ = _ from hp.2])
      exact this
     ·exact OKR.none
    ·exact OKR.none
   ·exact OKR.none
  ·exact OKR.none
 ·exact OKR.none
theorem mJ {nx : Nat} {T : TypeId} (ho : o.op = .alloc T) : OKR cx o l g (hN Try.prog nx T) := by
 unfold hN
 split
 ·rename_i hz
  split
  ·rename_i h1
   refine OKR.some fun _ => ?_
   exact oH ho hz h1 (by show _ = kc4 C.d (kc4 D.lit _); rw [kj1]; rfl)
  ·exact OKR.none
 ·exact OKR.none
theorem t6 {nx : Nat} {T : TypeId} {x : Operand} (ho : o.op = .box T x) {u : PV} (hu : Ev l x u) : OKR cx o l g (t7 nx T u) := by
 unfold t7
 split
 ·refine OKR.some fun _ => ?_
  have := k1d (cx := cx) (g := kC g) (nx := nx) ho hu
  rw [← b8 (qN _)] at this
  exact this
 ·exact OKR.none
end
/-! structs and slices that are written out -/
def dG (P : Program) (t : TypeId) : Option (List (Nat × Nat)) := match P.underlying t with
 | some (.struct fs) => fs.toList.mapM fun f => (P.info? f.type).map fun i => (f.offset, i.size)
 | _ => none
theorem i6 {t : TypeId} {pl : List (Nat × Nat)} (h : dG Try.prog t = some pl) : n5 t pl := by
 unfold dG at h
 split at h
 ·rename_i fs hfs
  refine ⟨fs, hfs, fun w => ?_⟩
  have e0 : fs = fs.toList.toArray := by simp
  rw [e0, List.mapM_toArray]
  have : ∀ (l : List Field) (pl : List (Nat × Nat)), (l.mapM fun f => (Try.prog.info? f.type).map fun i => (f.offset, i.size)) = some pl → (l.mapM (fun f => do pure (f.offset, ← sizeOf f.type)) : Sem (List (Nat × Nat))).run Try.prog w = .ok pl w := by
   intro l
   induction l with
   | nil => intro pl h; simp at h; subst h; rfl
   | cons f l ih =>
    intro pl h
    rw [kl2] at h
    cases hi : Try.prog.info? f.type with
    | none => simp [hi] at h
    | some i =>
     cases hr : (l.mapM fun f => (Try.prog.info? f.type).map fun i => (f.offset, i.size)) with
     | none => simp [hi, hr] at h
     | some r =>
      simp [hi, hr] at h
      subst h
      have := ih r hr
      simp only [kl2, Sem.run_bind, sizeOf, typeInfo, hi] at this ⊢
      simp [this, sizeOf, typeInfo, hi]
      simpa [sizeOf, typeInfo] using congrArg (fun r => Result.andThen r fun a w => Result.ok ((f.offset, i.size) :: a) w) this
  have e := this _ _ h
  simp at e ⊢
  rw [e]; rfl
 ·cases h
def oR (l : List (Nat × PV)) : List (Nat × Operand) → Option (List (Nat × E1))
 | [] => some []
 | (i, x) :: xs => match q9 l x, oR l xs with
  | some (.e e), some es => some ((i, e) :: es)
  | _, _ => none
theorem cN {l : List (Nat × PV)} : ∀ {xs : List (Nat × Operand)} {es : List (Nat × E1)}, oR l xs = some es → EvL l xs es
 | [], es, h => by cases h; exact .nil
 | (i, x) :: xs, es, h => by
  unfold oR at h
  split at h
  ·rename_i h1 h2; cases h; exact .cons (aT h1) (cN h2)
  ·cases h
def hJ (P : Program) (l : List (Nat × PV)) (t : TypeId) (parts : Array (Nat × Operand)) : R := match dG P t, vF P t, oR l parts.toList with
 | some pl, some zs, some es => match zs.all (·.oneCell') with
  | true => match y3 (fun i => pl[i]?) (zs.map LC) es with
   | some cs => pv (.e (.agg cs))
   | none => none
  | false => none
 | _, _, _ => none
def pL (zs : List Value) (s : Nat) : Nat → List C
 | 0 => []
 | n + 1 => pL zs s n ++ zs.map LC
theorem mQ (zs : List Value) (s : Nat) (hs : zs.length = s) (h0 : 0 < s) : ∀ n, pL zs s n = (List.range (n * s)).map fun j => LC (zs.getD (j % s) undef)
 | 0 => by simp [pL]
 | n + 1 => by
  rw [pL, mQ zs s hs h0 n, Nat.succ_mul, List.range_add, List.map_append, kj1]
  congr 1
  apply List.ext_getElem?
  intro j
  rw [ke1, ke1]
  by_cases hj : j < s
  ·rw [List.getElem?_range hj]
   have : j < zs.length := by omega
   simp [Function.comp, Nat.add_mod, Nat.mod_eq_of_lt hj, List.getD_eq_getElem?_getD, this]
  ·rw [kg7 (by omega), kg7 (by rw [List.length_range]; omega)]; rfl
def k27 (P : Program) (l : List (Nat × PV)) (nx : Nat) (t : TypeId) (n : Nat) (parts : Array (Nat × Operand)) : R := match P.underlying t with
 | some (.slice e) => match qE P e, vF P e, oR l parts.toList with
  | some (_, s), some zs, some es => match zs.all (·.oneCell') && (kd5 zs.length s && (Nat.blt 0 (n * s) && Nat.ble (n * s) 16777216)) with
   | true => match y3 (fun i => some (i * s, s)) (pL zs s n) es with
    | some cs => some ([], ⟨.e (.c (.own nx 0 n s true)), [(nx, some (e, d7 cs))], [nx], []⟩)
    | none => none
   | false => none
  | _, _, _ => none
 | _ => none
section
variable {cx : Cx} {o : Oper} {l : List (Nat × PV)} {g : EH}
theorem mH {t : TypeId} {parts : Array (Nat × Operand)} (ho : o.op = .build t parts) : OKR cx o l g (hJ Try.prog l t parts) := by
 unfold hJ
 split
 ·rename_i h1 h2 h3
  split
  ·rename_i h4
   split
   ·rename_i h5; exact OKR.some fun _ => rS ho (i6 h1) h2 h4 (cN h3) h5
   ·exact OKR.none
  ·exact OKR.none
 ·exact OKR.none
theorem z2 {nx : Nat} {t : TypeId} {n : Nat} {parts : Array (Nat × Operand)} (ho : o.op = .buildSlice t n parts) : OKR cx o l g (k27 Try.prog l nx t n parts) := by
 unfold k27
 split
 ·rename_i e hu
  split
  ·rename_i bb s zs es he hz hes
   split
   ·rename_i hc
    simp only [Bool.and_eq_true] at hc
    obtain ⟨h1, h2, h3, h4⟩ := hc
    have h2 := kb3 h2
    have h3 : 0 < n * s := ka3 h3
    have h4 := ka3 h4
    split
    ·rename_i cs hf
     refine OKR.some fun _ => ?_
     have h0 : 0 < s := by rcases Nat.eq_zero_or_pos s with h | h; (subst h; simp at h3); exact h
     rw [mQ zs s h2 h0] at hf
     have := eH (cx := cx) (g := kC g) (nx := nx) ho hu he hz h1 h2 (cN hes) h3 h4 hf
     rw [← b8 cs] at this
     exact this
    ·exact OKR.none
   ·exact OKR.none
  ·exact OKR.none
 ·exact OKR.none
end
end Go.Proofs.Ytkjmlililpgamaa
