/- A memory told by names: operations on memory that are computed. No statement is proved here. -/
import Derived.Test.YtalbpleglapihaaZAmF
namespace Go.Proofs.Ytalbpleglapihaa
open Go.ChangeShapes Go.WideShapes Go.ChangeAt Go.RowKit
open List renaming getElem?_eq_none → kh4, getElem?_map → ke1, length_map → kd0, map → kd1, mapM_cons → kl4, map_map → ki3
open Nat renaming beq → ke0, eq_of_beq_eq_true → kc1, le_of_ble_eq_true → ka5
set_option linter.unusedVariables false
set_option linter.unusedSimpArgs false
def z4 : List C → Option (List D)
 | [] => some []
 | .d x :: l => match z4 l with
  | some r => some (x :: r)
  | none => none
 | _ :: _ => none
theorem lV : ∀ {l : List C} {r : List D}, z4 l = some r → l = r.map .d
 | [], r, h => by cases h; rfl
 | .d x :: l, r, h => by
  unfold z4 at h
  split at h
  ·rename_i r' hr; cases h; rw [List.map_cons, ← lV hr]
  ·cases h
 | .own .. :: _, _, h => by cases h
 | .ptr .. :: _, _, h => by cases h
 | .rp .. :: _, _, h => by cases h
 | .fn .. :: _, _, h => by cases h
def iT (l : List C) : BC := match z4 l with
 | some r => .ds r
 | none => .cs l
theorem fI (l : List C) : (iT l).to = l := by
 unfold iT
 split
 ·rename_i h; rw [lV h]; rfl
 ·rfl
def xC : List D → Nat → List D → List D
 | cur, _, [] => cur
 | cur, o, c :: r => xC (cur.set o c) (o + 1) r
theorem oA : ∀ (r : List D) (cur : List D) (o : Nat), gK (cur.map .d) o (r.map .d) = (xC cur o r).map .d
 | [], _, _ => rfl
 | c :: r, cur, o => by
  show gK ((cur.map C.d).set o (.d c)) (o + 1) (r.map .d) = _
  rw [← List.map_set, oA r]; rfl
def u2i (off : Nat) : Nat → Nat
 | 0 => off
 | k + 1 => off + (k + 1)
theorem k5z (off k : Nat) : u2i off k = off + k := by cases k <;> rfl
def k8f (i : Nat) : Nat → Nat
 | 1 => i
 | s => i * s
theorem k4n (i s : Nat) : k8f i s = i * s := by
 unfold k8f; split <;> simp
def k94 (P : Program) (t : TypeId) (i : Nat) : PV → R
 | .e (.c (.ptr b off)) => match dW P t i with
  | some (k, _, _ + 1) => pv (.e (.c (.ptr b (u2i off k))))
  | _ => none
 | .e (.c (.rp ds)) => match dW P t i with
  | some (k, _, _ + 1) => pv (.e (.c (.rp (ds.drop k))))
  | _ => none
 | _ => none
def k2n (P : Program) (t : TypeId) (i : Nat) : PV → R
 | .e (.agg cs) => match dW P t i with
  | some (k, false, 1) => match cs[k]? with
   | some c => pv (.e (.c c))
   | none => none
  | some (k, true, n) => pv (.e (.agg ((cs.drop k).take n)))
  | _ => none
 | _ => none
def s0 (P : Program) (h : H) (g : EH) (ty : TypeId) : PV → R
 | .e (.c (.ptr b off)) => match g.lookup b with
  | some (some (T, bc)) => match u3 P ty with
   | some (false, 1) => match h, bc with
    | .d d, .ds l => some ([l[off]? = some d], ⟨.e (.c (.d d)), [], [], [b]⟩)
    | .no, bc => match bc.to[off]? with
     | some c => some ([], ⟨.e (.c c), [], [], [b]⟩)
     | none => none
    | _, _ => none
   | some (true, n) => match h, bc with
    | .ds r, .ds l => some ([(l.drop off).take n = r, r.length = n], ⟨.e (.agg (r.map .d)), [], [], [b]⟩)
    | .no, bc => match ke0 ((bc.to.drop off).take n).length n with
     | true => some ([], ⟨.e (.agg ((bc.to.drop off).take n)), [], [], [b]⟩)
     | false => none
    | _, _ => none
   | _ => none
  | _ => none
 | .e (.c (.rp ds)) => match u3 P ty with
  | some (false, 1) => match h with
   | .d d => some ([ds[0]? = some d], ⟨.e (.c (.d d)), [], [], []⟩)
   | .no => match ds[0]? with
    | some d => some ([], ⟨.e (.c (.d d)), [], [], []⟩)
    | none => none
   | _ => none
  | some (true, n) => match h with
   | .ds r => some ([ds.take n = r, r.length = n], ⟨.e (.agg (r.map .d)), [], [], []⟩)
   | .no => match ke0 (ds.take n).length n with
    | true => some ([], ⟨.e (.agg ((ds.take n).map .d)), [], [], []⟩)
    | false => none
   | _ => none
  | _ => none
 | _ => none
def m6 (P : Program) (h : H) (g : EH) (ty : TypeId) : PV → PV → R
 | .e (.c (.ptr b off)), .e e => match g.lookup b with
  | some (some (T, bc)) => match u3 P ty with
   | some (_, n) => match ke0 (u2 e).length n with
    | true => match h, bc, z4 (u2 e) with
     | .no, bc, _ => match Nat.ble (off + n) bc.to.length with
      | true => some ([], ⟨.any, [(b, some (T, iT (gK bc.to off (u2 e))))], [], [b]⟩)
      | false => none
     | .ds r, .ds l, some x => some ([off + n ≤ l.length, xC l off x = r], ⟨.any, [(b, some (T, .ds r))], [], [b]⟩)
     | _, _, _ => none
    | false => none
   | none => none
  | _ => none
 | _, _ => none
def nA (P : Program) (nx : Nat) (T : TypeId) : R := match cN P T with
 | some zs => match zs.all (·.oneCell') with
  | true => some ([], ⟨.e (.c (.ptr nx 0)), [(nx, some (T, .ds (zs.map .lit)))], [nx], []⟩)
  | false => none
 | none => none
def k2z (nx : Nat) (T : TypeId) : PV → R
 | .e e => some ([], ⟨.e (.c (.ptr nx 0)), [(nx, some (T, iT (u2 e)))], [nx], []⟩)
 | _ => none
section
variable {cx : Cx} {o : Oper} {l : List (Nat × PV)} {g : EH}
theorem k5k {t : TypeId} {i : Nat} {x : Operand} (ho : o.op = .fieldAddr t x i) {u : PV} (hu : Ev l x u) : OKR cx o l g (k94 Try.prog t i u) := by
 unfold k94
 split
 ·split
  ·rename_i hf; exact OKR.some fun _ => mG ho hf hu (k5z _ _).symm
  ·exact OKR.none
 ·split
  ·rename_i hf; exact OKR.some fun _ => fS ho hf hu rfl
  ·exact OKR.none
 ·exact OKR.none
theorem k2m {t : TypeId} {i : Nat} {x : Operand} (ho : o.op = .field t x i) {u : PV} (hu : Ev l x u) : OKR cx o l g (k2n Try.prog t i u) := by
 unfold k2n
 split
 ·split
  ·rename_i hf
   split
   ·rename_i hc; exact OKR.some fun _ => k0r ho hf hu hc
   ·exact OKR.none
  ·rename_i hf; exact OKR.some fun _ => mF ho hf hu rfl
  ·exact OKR.none
 ·exact OKR.none
theorem x1 {h : H} {ty : TypeId} {x : Operand} (ho : o.op = .load ty x) {u : PV} (hu : Ev l x u) : OKR cx o l g (s0 Try.prog h g ty u) := by
 unfold s0
 split
 ·split
  ·rename_i T bc hb
   have hb' := qO hb
   split
   ·rename_i ht
    split
    ·refine OKR.some fun hp => wA ho ht hu hb' ?_
     have hp : _ = some _ := hp
     show (kd1 C.d _)[_]? = _
     rw [ke1, hp]; rfl
    ·split
     ·rename_i hc; exact OKR.some fun _ => wA ho ht hu hb' hc
     ·exact OKR.none
    ·exact OKR.none
   ·rename_i ht
    split
    ·refine OKR.some fun hp => fL ho ht hu hb' ?_ (by rw [kd0]; exact hp.2)
     show ((kd1 C.d _).drop _).take _ = _
     rw [← List.map_drop, ← List.map_take, hp.1]
    ·split
     ·rename_i hl; exact OKR.some fun _ => fL ho ht hu hb' rfl (kc1 hl)
     ·exact OKR.none
    ·exact OKR.none
   ·exact OKR.none
  ·exact OKR.none
 ·split
  ·rename_i ht
   split
   ·exact OKR.some fun hp => gY ho ht hu hp
   ·split
    ·rename_i hc; exact OKR.some fun _ => gY ho ht hu hc
    ·exact OKR.none
   ·exact OKR.none
  ·rename_i ht
   split
   ·exact OKR.some fun hp => bU ho ht hu hp.1 hp.2
   ·split
    ·rename_i hl; exact OKR.some fun _ => bU ho ht hu rfl (kc1 hl)
    ·exact OKR.none
   ·exact OKR.none
  ·exact OKR.none
 ·exact OKR.none
theorem sX {h : H} {ty : TypeId} {x y : Operand} (ho : o.op = .store ty x y) {u v : PV} (hu : Ev l x u) (hv : Ev l y v) : OKR cx o l g (m6 Try.prog h g ty u v) := by
 unfold m6
 split
 ·split
  ·rename_i T bc hb
   have hb' := qO hb
   split
   ·rename_i ht
    split
    ·rename_i hn
     have hn := kc1 hn
     split
     ·split
      ·rename_i hl
       refine OKR.some fun _ => ?_
       have := oM (cx := cx) ho ht hu hv hb' hn (ka5 hl) (fI _).symm
       exact this
      ·exact OKR.none
     ·rename_i hx
      refine OKR.some fun hp => ?_
      have e := lV hx
      have := oM (cx := cx) (cs' := kd1 C.d _) ho ht hu hv hb' hn (by show _ ≤ (kd1 C.d _).length; rw [kd0]; exact hp.1) (by show gK (kd1 C.d _) _ _ = _; rw [e, oA, show xC _ _ _ = _ from hp.2])
      exact this
     ·exact OKR.none
    ·exact OKR.none
   ·exact OKR.none
  ·exact OKR.none
 ·exact OKR.none
theorem tC {nx : Nat} {T : TypeId} (ho : o.op = .alloc T) : OKR cx o l g (nA Try.prog nx T) := by
 unfold nA
 split
 ·rename_i hz
  split
  ·rename_i h1
   refine OKR.some fun _ => ?_
   exact xN ho hz h1 (by show _ = kd1 C.d (kd1 D.lit _); rw [ki3]; rfl)
  ·exact OKR.none
 ·exact OKR.none
theorem k2y {nx : Nat} {T : TypeId} {x : Operand} (ho : o.op = .box T x) {u : PV} (hu : Ev l x u) : OKR cx o l g (k2z nx T u) := by
 unfold k2z
 split
 ·refine OKR.some fun _ => ?_
  have := k8c (cx := cx) (g := kG g) (nx := nx) ho hu
  rw [← fI (u2 _)] at this
  exact this
 ·exact OKR.none
end
/-! structs and slices that are written out -/
def gW (P : Program) (t : TypeId) : Option (List (Nat × Nat)) := match P.underlying t with
 | some (.struct fs) => fs.toList.mapM fun f => (P.info? f.type).map fun i => (f.offset, i.size)
 | _ => none
theorem oJ {t : TypeId} {pl : List (Nat × Nat)} (h : gW Try.prog t = some pl) : w9 t pl := by
 unfold gW at h
 split at h
 ·rename_i fs hfs
  refine ⟨fs, hfs, fun w => ?_⟩
  have e0 : fs = fs.toList.toArray := by simp
  rw [e0, List.mapM_toArray]
  have : ∀ (l : List Field) (pl : List (Nat × Nat)), (l.mapM fun f => (Try.prog.info? f.type).map fun i => (f.offset, i.size)) = some pl → (l.mapM (fun f => do pure (f.offset, ← sizeOf f.type)) : Sem (List (Nat × Nat))).run Try.prog w = .ok pl w := by
   intro l
   induction l with
   | nil => intro pl h; simp at h; subst h; rfl
   | cons f l ih =>
    intro pl h
    rw [kl4] at h
    cases hi : Try.prog.info? f.type with
    | none => simp [hi] at h
    | some i =>
     cases hr : (l.mapM fun f => (Try.prog.info? f.type).map fun i => (f.offset, i.size)) with
     | none => simp [hi, hr] at h
     | some r =>
      simp [hi, hr] at h
      subst h
      have := ih r hr
      simp only [kl4, Sem.run_bind, sizeOf, typeInfo, hi] at this ⊢
      simp [this, sizeOf, typeInfo, hi]
      simpa [sizeOf, typeInfo] using congrArg (fun r => Result.andThen r fun a w => Result.ok ((f.offset, i.size) :: a) w) this
  have e := this _ _ h
  simp at e ⊢
  rw [e]; rfl
 ·cases h
def k2f (l : List (Nat × PV)) : List (Nat × Operand) → Option (List (Nat × E1))
 | [] => some []
 | (i, x) :: xs => match y8 l x, k2f l xs with
  | some (.e e), some es => some ((i, e) :: es)
  | _, _ => none
theorem m8 {l : List (Nat × PV)} : ∀ {xs : List (Nat × Operand)} {es : List (Nat × E1)}, k2f l xs = some es → EvL l xs es
 | [], es, h => by cases h; exact .nil
 | (i, x) :: xs, es, h => by
  unfold k2f at h
  split at h
  ·rename_i h1 h2; cases h; exact .cons (fB h1) (m8 h2)
  ·cases h
def m9 (P : Program) (l : List (Nat × PV)) (t : TypeId) (parts : Array (Nat × Operand)) : R := match gW P t, cN P t, k2f l parts.toList with
 | some pl, some zs, some es => match zs.all (·.oneCell') with
  | true => match b7 (fun i => pl[i]?) (zs.map LC) es with
   | some cs => pv (.e (.agg cs))
   | none => none
  | false => none
 | _, _, _ => none
def zQ (zs : List Value) (s : Nat) : Nat → List C
 | 0 => []
 | n + 1 => zQ zs s n ++ zs.map LC
theorem tI (zs : List Value) (s : Nat) (hs : zs.length = s) (h0 : 0 < s) : ∀ n, zQ zs s n = (List.range (n * s)).map fun j => LC (zs.getD (j % s) undef)
 | 0 => by simp [zQ]
 | n + 1 => by
  rw [zQ, tI zs s hs h0 n, Nat.succ_mul, List.range_add, List.map_append, ki3]
  congr 1
  apply List.ext_getElem?
  intro j
  rw [ke1, ke1]
  by_cases hj : j < s
  ·rw [List.getElem?_range hj]
   have : j < zs.length := by omega
   simp [Function.comp, Nat.add_mod, Nat.mod_eq_of_lt hj, List.getD_eq_getElem?_getD, this]
  ·rw [kh4 (by omega), kh4 (by rw [List.length_range]; omega)]; rfl
def k97 (P : Program) (l : List (Nat × PV)) (nx : Nat) (t : TypeId) (n : Nat) (parts : Array (Nat × Operand)) : R := match P.underlying t with
 | some (.slice e) => match u3 P e, cN P e, k2f l parts.toList with
  | some (_, s), some zs, some es => match zs.all (·.oneCell') && (ke0 zs.length s && (Nat.blt 0 (n * s) && Nat.ble (n * s) 16777216)) with
   | true => match b7 (fun i => some (i * s, s)) (zQ zs s n) es with
    | some cs => some ([], ⟨.e (.c (.own nx 0 n s true)), [(nx, some (e, iT cs))], [nx], []⟩)
    | none => none
   | false => none
  | _, _, _ => none
 | _ => none
section
variable {cx : Cx} {o : Oper} {l : List (Nat × PV)} {g : EH}
theorem tA {t : TypeId} {parts : Array (Nat × Operand)} (ho : o.op = .build t parts) : OKR cx o l g (m9 Try.prog l t parts) := by
 unfold m9
 split
 ·rename_i h1 h2 h3
  split
  ·rename_i h4
   split
   ·rename_i h5; exact OKR.some fun _ => k0t ho (oJ h1) h2 h4 (m8 h3) h5
   ·exact OKR.none
  ·exact OKR.none
 ·exact OKR.none
theorem k5n {nx : Nat} {t : TypeId} {n : Nat} {parts : Array (Nat × Operand)} (ho : o.op = .buildSlice t n parts) : OKR cx o l g (k97 Try.prog l nx t n parts) := by
 unfold k97
 split
 ·rename_i e hu
  split
  ·rename_i bb s zs es he hz hes
   split
   ·rename_i hc
    simp only [Bool.and_eq_true] at hc
    obtain ⟨h1, h2, h3, h4⟩ := hc
    have h2 := kc1 h2
    have h3 : 0 < n * s := ka5 h3
    have h4 := ka5 h4
    split
    ·rename_i cs hf
     refine OKR.some fun _ => ?_
     have h0 : 0 < s := by rcases Nat.eq_zero_or_pos s with h | h; (subst h; simp at h3); exact h
     rw [tI zs s h2 h0] at hf
     have := jB (cx := cx) (g := kG g) (nx := nx) ho hu he hz h1 h2 (m8 hes) h3 h4 hf
     rw [← fI cs] at this
     exact this
    ·exact OKR.none
   ·exact OKR.none
  ·exact OKR.none
 ·exact OKR.none
end
end Go.Proofs.Ytalbpleglapihaa
