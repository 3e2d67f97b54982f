/- A memory told by names: operations on memory that are computed. No statement is proved here. -/
import Derived.Test.YtalbpleglapihaaZAmF
namespace Go.Proofs.Ytalbpleglapihaa
open Go.ChangeShapes Go.WideShapes Go.ChangeAt Go.RowKit
set_option linter.unusedVariables false
set_option linter.unusedSimpArgs false
def zR : List C → Option (List D)
 | [] => some []
 | .d x :: l => match zR l with
  | some r => some (x :: r)
  | none => none
 | _ :: _ => none
theorem lM : ∀ {l : List C} {r : List D}, zR l = some r → l = r.map .d
 | [], r, h => by cases h; rfl
 | .d x :: l, r, h => by
  unfold zR at h
  split at h
  ·rename_i r' hr; cases h; rw [List.map_cons, ← lM hr]
  ·cases h
 | .own .. :: _, _, h => by cases h
 | .ptr .. :: _, _, h => by cases h
 | .rp .. :: _, _, h => by cases h
 | .fn .. :: _, _, h => by cases h
def iK (l : List C) : BC := match zR l with
 | some r => .ds r
 | none => .cs l
theorem eZ (l : List C) : (iK l).to = l := by
 unfold iK
 split
 ·rename_i h; rw [lM h]; rfl
 ·rfl
def wY : List D → Nat → List D → List D
 | cur, _, [] => cur
 | cur, o, c :: r => wY (cur.set o c) (o + 1) r
theorem n5 : ∀ (r : List D) (cur : List D) (o : Nat), gD (cur.map .d) o (r.map .d) = (wY cur o r).map .d
 | [], _, _ => rfl
 | c :: r, cur, o => by
  show gD ((cur.map C.d).set o (.d c)) (o + 1) (r.map .d) = _
  rw [← List.map_set, n5 r]; rfl
def u2b (off : Nat) : Nat → Nat
 | 0 => off
 | k + 1 => off + (k + 1)
theorem k5q (off k : Nat) : u2b off k = off + k := by cases k <;> rfl
def k85 (i : Nat) : Nat → Nat
 | 1 => i
 | s => i * s
theorem k4b (i s : Nat) : k85 i s = i * s := by
 unfold k85; split <;> simp
def k8t (P : Program) (t : TypeId) (i : Nat) : PV → R
 | .e (.c (.ptr b off)) => match dO P t i with
  | some (k, _, _ + 1) => pv (.e (.c (.ptr b (u2b off k))))
  | _ => none
 | .e (.c (.rp ds)) => match dO P t i with
  | some (k, _, _ + 1) => pv (.e (.c (.rp (ds.drop k))))
  | _ => none
 | _ => none
def k2a (P : Program) (t : TypeId) (i : Nat) : PV → R
 | .e (.agg cs) => match dO P t i with
  | some (k, false, 1) => match cs[k]? with
   | some c => pv (.e (.c c))
   | none => none
  | some (k, true, n) => pv (.e (.agg ((cs.drop k).take n)))
  | _ => none
 | _ => none
def sL (P : Program) (h : H) (g : EH) (ty : TypeId) : PV → R
 | .e (.c (.ptr b off)) => match g.lookup b with
  | some (some (T, bc)) => match u2 P ty with
   | some (false, 1) => match h, bc with
    | .d d, .ds l => some ([l[off]? = some d], ⟨.e (.c (.d d)), [], [], [b]⟩)
    | .no, bc => match bc.to[off]? with
     | some c => some ([], ⟨.e (.c c), [], [], [b]⟩)
     | none => none
    | _, _ => none
   | some (true, n) => match h, bc with
    | .ds r, .ds l => some ([(l.drop off).take n = r, r.length = n], ⟨.e (.agg (r.map .d)), [], [], [b]⟩)
    | .no, bc => match Nat.beq ((bc.to.drop off).take n).length n with
     | true => some ([], ⟨.e (.agg ((bc.to.drop off).take n)), [], [], [b]⟩)
     | false => none
    | _, _ => none
   | _ => none
  | _ => none
 | .e (.c (.rp ds)) => match u2 P ty with
  | some (false, 1) => match h with
   | .d d => some ([ds[0]? = some d], ⟨.e (.c (.d d)), [], [], []⟩)
   | .no => match ds[0]? with
    | some d => some ([], ⟨.e (.c (.d d)), [], [], []⟩)
    | none => none
   | _ => none
  | some (true, n) => match h with
   | .ds r => some ([ds.take n = r, r.length = n], ⟨.e (.agg (r.map .d)), [], [], []⟩)
   | .no => match Nat.beq (ds.take n).length n with
    | true => some ([], ⟨.e (.agg ((ds.take n).map .d)), [], [], []⟩)
    | false => none
   | _ => none
  | _ => none
 | _ => none
def mR (P : Program) (h : H) (g : EH) (ty : TypeId) : PV → PV → R
 | .e (.c (.ptr b off)), .e e => match g.lookup b with
  | some (some (T, bc)) => match u2 P ty with
   | some (_, n) => match Nat.beq (u1 e).length n with
    | true => match h, bc, zR (u1 e) with
     | .no, bc, _ => match Nat.ble (off + n) bc.to.length with
      | true => some ([], ⟨.any, [(b, some (T, iK (gD bc.to off (u1 e))))], [], [b]⟩)
      | false => none
     | .ds r, .ds l, some x => some ([off + n ≤ l.length, wY l off x = r], ⟨.any, [(b, some (T, .ds r))], [], [b]⟩)
     | _, _, _ => none
    | false => none
   | none => none
  | _ => none
 | _, _ => none
def mV (P : Program) (nx : Nat) (T : TypeId) : R := match cG P T with
 | some zs => match zs.all (·.oneCell') with
  | true => some ([], ⟨.e (.c (.ptr nx 0)), [(nx, some (T, .ds (zs.map .lit)))], [nx], []⟩)
  | false => none
 | none => none
def k2m (nx : Nat) (T : TypeId) : PV → R
 | .e e => some ([], ⟨.e (.c (.ptr nx 0)), [(nx, some (T, iK (u1 e)))], [nx], []⟩)
 | _ => none
section
variable {cx : Cx} {o : Oper} {l : List (Nat × PV)} {g : EH}
theorem k59 {t : TypeId} {i : Nat} {x : Operand} (ho : o.op = .fieldAddr t x i) {u : PV} (hu : Ev l x u) : OKR cx o l g (k8t Try.prog t i u) := by
 unfold k8t
 split
 ·split
  ·rename_i hf; exact OKR.some fun _ => l6 ho hf hu (k5q _ _).symm
  ·exact OKR.none
 ·split
  ·rename_i hf; exact OKR.some fun _ => fI ho hf hu rfl
  ·exact OKR.none
 ·exact OKR.none
theorem k29 {t : TypeId} {i : Nat} {x : Operand} (ho : o.op = .field t x i) {u : PV} (hu : Ev l x u) : OKR cx o l g (k2a Try.prog t i u) := by
 unfold k2a
 split
 ·split
  ·rename_i hf
   split
   ·rename_i hc; exact OKR.some fun _ => k0f ho hf hu hc
   ·exact OKR.none
  ·rename_i hf; exact OKR.some fun _ => l5 ho hf hu rfl
  ·exact OKR.none
 ·exact OKR.none
theorem xR {h : H} {ty : TypeId} {x : Operand} (ho : o.op = .load ty x) {u : PV} (hu : Ev l x u) : OKR cx o l g (sL Try.prog h g ty u) := by
 unfold sL
 split
 ·split
  ·rename_i T bc hb
   have hb' := qS hb
   split
   ·rename_i ht
    split
    ·refine OKR.some fun hp => tZ ho ht hu hb' ?_
     have hp : _ = some _ := hp
     show (List.map C.d _)[_]? = _
     rw [List.getElem?_map, hp]; rfl
    ·split
     ·rename_i hc; exact OKR.some fun _ => tZ ho ht hu hb' hc
     ·exact OKR.none
    ·exact OKR.none
   ·rename_i ht
    split
    ·refine OKR.some fun hp => fB ho ht hu hb' ?_ (by rw [List.length_map]; exact hp.2)
     show ((List.map C.d _).drop _).take _ = _
     rw [← List.map_drop, ← List.map_take, hp.1]
    ·split
     ·rename_i hl; exact OKR.some fun _ => fB ho ht hu hb' rfl (Nat.eq_of_beq_eq_true hl)
     ·exact OKR.none
    ·exact OKR.none
   ·exact OKR.none
  ·exact OKR.none
 ·split
  ·rename_i ht
   split
   ·exact OKR.some fun hp => gQ ho ht hu hp
   ·split
    ·rename_i hc; exact OKR.some fun _ => gQ ho ht hu hc
    ·exact OKR.none
   ·exact OKR.none
  ·rename_i ht
   split
   ·exact OKR.some fun hp => bQ ho ht hu hp.1 hp.2
   ·split
    ·rename_i hl; exact OKR.some fun _ => bQ ho ht hu rfl (Nat.eq_of_beq_eq_true hl)
    ·exact OKR.none
   ·exact OKR.none
  ·exact OKR.none
 ·exact OKR.none
theorem sI {h : H} {ty : TypeId} {x y : Operand} (ho : o.op = .store ty x y) {u v : PV} (hu : Ev l x u) (hv : Ev l y v) : OKR cx o l g (mR Try.prog h g ty u v) := by
 unfold mR
 split
 ·split
  ·rename_i T bc hb
   have hb' := qS hb
   split
   ·rename_i ht
    split
    ·rename_i hn
     have hn := Nat.eq_of_beq_eq_true hn
     split
     ·split
      ·rename_i hl
       refine OKR.some fun _ => ?_
       have := oJ (cx := cx) ho ht hu hv hb' hn (Nat.le_of_ble_eq_true hl) (eZ _).symm
       exact this
      ·exact OKR.none
     ·rename_i hx
      refine OKR.some fun hp => ?_
      have e := lM hx
      have := oJ (cx := cx) (cs' := List.map C.d _) ho ht hu hv hb' hn (by show _ ≤ (List.map C.d _).length; rw [List.length_map]; exact hp.1) (by show gD (List.map C.d _) _ _ = _; rw [e, n5, show wY _ _ _ = _ from hp.2])
      exact this
     ·exact OKR.none
    ·exact OKR.none
   ·exact OKR.none
  ·exact OKR.none
 ·exact OKR.none
theorem sU {nx : Nat} {T : TypeId} (ho : o.op = .alloc T) : OKR cx o l g (mV Try.prog nx T) := by
 unfold mV
 split
 ·rename_i hz
  split
  ·rename_i h1
   refine OKR.some fun _ => ?_
   exact xE ho hz h1 (by show _ = List.map C.d (List.map D.lit _); rw [List.map_map]; rfl)
  ·exact OKR.none
 ·exact OKR.none
theorem k2l {nx : Nat} {T : TypeId} {x : Operand} (ho : o.op = .box T x) {u : PV} (hu : Ev l x u) : OKR cx o l g (k2m nx T u) := by
 unfold k2m
 split
 ·refine OKR.some fun _ => ?_
  have := k82 (cx := cx) (g := kG g) (nx := nx) ho hu
  rw [← eZ (u1 _)] at this
  exact this
 ·exact OKR.none
end
/-! structs and slices that are written out -/
def gO (P : Program) (t : TypeId) : Option (List (Nat × Nat)) := match P.underlying t with
 | some (.struct fs) => fs.toList.mapM fun f => (P.info? f.type).map fun i => (f.offset, i.size)
 | _ => none
theorem oG {t : TypeId} {pl : List (Nat × Nat)} (h : gO Try.prog t = some pl) : wV t pl := by
 unfold gO at h
 split at h
 ·rename_i fs hfs
  refine ⟨fs, hfs, fun w => ?_⟩
  have e0 : fs = fs.toList.toArray := by simp
  rw [e0, List.mapM_toArray]
  have : ∀ (l : List Field) (pl : List (Nat × Nat)), (l.mapM fun f => (Try.prog.info? f.type).map fun i => (f.offset, i.size)) = some pl → (l.mapM (fun f => do pure (f.offset, ← sizeOf f.type)) : Sem (List (Nat × Nat))).run Try.prog w = .ok pl w := by
   intro l
   induction l with
   | nil => intro pl h; simp at h; subst h; rfl
   | cons f l ih =>
    intro pl h
    rw [List.mapM_cons] at h
    cases hi : Try.prog.info? f.type with
    | none => simp [hi] at h
    | some i =>
     cases hr : (l.mapM fun f => (Try.prog.info? f.type).map fun i => (f.offset, i.size)) with
     | none => simp [hi, hr] at h
     | some r =>
      simp [hi, hr] at h
      subst h
      have := ih r hr
      simp only [List.mapM_cons, Sem.run_bind, sizeOf, typeInfo, hi] at this ⊢
      simp [this, sizeOf, typeInfo, hi]
      simpa [sizeOf, typeInfo] using congrArg (fun r => Result.andThen r fun a w => Result.ok ((f.offset, i.size) :: a) w) this
  have e := this _ _ h
  simp at e ⊢
  rw [e]; rfl
 ·cases h
def k22 (l : List (Nat × PV)) : List (Nat × Operand) → Option (List (Nat × E1))
 | [] => some []
 | (i, x) :: xs => match y7 l x, k22 l xs with
  | some (.e e), some es => some ((i, e) :: es)
  | _, _ => none
theorem mT {l : List (Nat × PV)} : ∀ {xs : List (Nat × Operand)} {es : List (Nat × E1)}, k22 l xs = some es → EvL l xs es
 | [], es, h => by cases h; exact .nil
 | (i, x) :: xs, es, h => by
  unfold k22 at h
  split at h
  ·rename_i h1 h2; cases h; exact .cons (eS h1) (mT h2)
  ·cases h
def mU (P : Program) (l : List (Nat × PV)) (t : TypeId) (parts : Array (Nat × Operand)) : R := match gO P t, cG P t, k22 l parts.toList with
 | some pl, some zs, some es => match zs.all (·.oneCell') with
  | true => match bX (fun i => pl[i]?) (zs.map LC) es with
   | some cs => pv (.e (.agg cs))
   | none => none
  | false => none
 | _, _, _ => none
def zF (zs : List Value) (s : Nat) : Nat → List C
 | 0 => []
 | n + 1 => zF zs s n ++ zs.map LC
theorem s7 (zs : List Value) (s : Nat) (hs : zs.length = s) (h0 : 0 < s) : ∀ n, zF zs s n = (List.range (n * s)).map fun j => LC (zs.getD (j % s) undef)
 | 0 => by simp [zF]
 | n + 1 => by
  rw [zF, s7 zs s hs h0 n, Nat.succ_mul, List.range_add, List.map_append, List.map_map]
  congr 1
  apply List.ext_getElem?
  intro j
  rw [List.getElem?_map, List.getElem?_map]
  by_cases hj : j < s
  ·rw [List.getElem?_range hj]
   have : j < zs.length := by omega
   simp [Function.comp, Nat.add_mod, Nat.mod_eq_of_lt hj, List.getD_eq_getElem?_getD, this]
  ·rw [List.getElem?_eq_none (by omega), List.getElem?_eq_none (by rw [List.length_range]; omega)]; rfl
def k8w (P : Program) (l : List (Nat × PV)) (nx : Nat) (t : TypeId) (n : Nat) (parts : Array (Nat × Operand)) : R := match P.underlying t with
 | some (.slice e) => match u2 P e, cG P e, k22 l parts.toList with
  | some (_, s), some zs, some es => match zs.all (·.oneCell') && (Nat.beq zs.length s && (Nat.blt 0 (n * s) && Nat.ble (n * s) 16777216)) with
   | true => match bX (fun i => some (i * s, s)) (zF zs s n) es with
    | some cs => some ([], ⟨.e (.c (.own nx 0 n s true)), [(nx, some (e, iK cs))], [nx], []⟩)
    | none => none
   | false => none
  | _, _, _ => none
 | _ => none
section
variable {cx : Cx} {o : Oper} {l : List (Nat × PV)} {g : EH}
theorem sR {t : TypeId} {parts : Array (Nat × Operand)} (ho : o.op = .build t parts) : OKR cx o l g (mU Try.prog l t parts) := by
 unfold mU
 split
 ·rename_i h1 h2 h3
  split
  ·rename_i h4
   split
   ·rename_i h5; exact OKR.some fun _ => k0h ho (oG h1) h2 h4 (mT h3) h5
   ·exact OKR.none
  ·exact OKR.none
 ·exact OKR.none
theorem k5c {nx : Nat} {t : TypeId} {n : Nat} {parts : Array (Nat × Operand)} (ho : o.op = .buildSlice t n parts) : OKR cx o l g (k8w Try.prog l nx t n parts) := by
 unfold k8w
 split
 ·rename_i e hu
  split
  ·rename_i bb s zs es he hz hes
   split
   ·rename_i hc
    simp only [Bool.and_eq_true] at hc
    obtain ⟨h1, h2, h3, h4⟩ := hc
    have h2 := Nat.eq_of_beq_eq_true h2
    have h3 : 0 < n * s := Nat.le_of_ble_eq_true h3
    have h4 := Nat.le_of_ble_eq_true h4
    split
    ·rename_i cs hf
     refine OKR.some fun _ => ?_
     have h0 : 0 < s := by rcases Nat.eq_zero_or_pos s with h | h; (subst h; simp at h3); exact h
     rw [s7 zs s h2 h0] at hf
     have := iZ (cx := cx) (g := kG g) (nx := nx) ho hu he hz h1 h2 (mT hes) h3 h4 hf
     rw [← eZ cs] at this
     exact this
    ·exact OKR.none
   ·exact OKR.none
  ·exact OKR.none
 ·exact OKR.none
end
end Go.Proofs.Ytalbpleglapihaa
