/- A memory told by names: operations on memory that are computed. No statement is proved here. -/
import Derived.Test.YtcfmjpnffembpaaGreatZAmF
namespace Go.Proofs.YtcfmjpnffembpaaGreat
open Go.ChangeShapes Go.WideShapes Go.ChangeAt Go.RowKit
open List renaming getElem?_eq_none → kj5, getElem?_map → kf0, length_map → kc6, map → kd8, mapM_cons → ko6, map_map → kn4
open Nat renaming beq → kf1, eq_of_beq_eq_true → kc5, le_of_ble_eq_true → ka4
set_option linter.unusedVariables false
set_option linter.unusedSimpArgs false
def k6b : List C → Option (List D)
 | [] => some []
 | .d x :: l => match k6b l with
  | some r => some (x :: r)
  | none => none
 | _ :: _ => none
theorem tQ : ∀ {l : List C} {r : List D}, k6b l = some r → l = r.map .d
 | [], r, h => by cases h; rfl
 | .d x :: l, r, h => by
  unfold k6b at h
  split at h
  ·rename_i r' hr; cases h; rw [List.map_cons, ← tQ hr]
  ·cases h
 | .own .. :: _, _, h => by cases h
 | .ptr .. :: _, _, h => by cases h
 | .rp .. :: _, _, h => by cases h
 | .fn .. :: _, _, h => by cases h
def rA (l : List C) : BC := match k6b l with
 | some r => .ds r
 | none => .cs l
theorem m7 (l : List C) : (rA l).to = l := by
 unfold rA
 split
 ·rename_i h; rw [tQ h]; rfl
 ·rfl
def k4y : List D → Nat → List D → List D
 | cur, _, [] => cur
 | cur, o, c :: r => k4y (cur.set o c) (o + 1) r
theorem zQ : ∀ (r : List D) (cur : List D) (o : Nat), oQ (cur.map .d) o (r.map .d) = (k4y cur o r).map .d
 | [], _, _ => rfl
 | c :: r, cur, o => by
  show oQ ((cur.map C.d).set o (.d c)) (o + 1) (r.map .d) = _
  rw [← List.map_set, zQ r]; rfl
def v1e (off : Nat) : Nat → Nat
 | 0 => off
 | k + 1 => off + (k + 1)
theorem u3n (off k : Nat) : v1e off k = off + k := by cases k <;> rfl
def u6l (i : Nat) : Nat → Nat
 | 1 => i
 | s => i * s
theorem u27 (i s : Nat) : u6l i s = i * s := by
 unfold u6l; split <;> simp
def u7k (P : Program) (t : TypeId) (i : Nat) : PV → R
 | .e (.c (.ptr b off)) => match lG P t i with
  | some (k, _, _ + 1) => pv (.e (.c (.ptr b (v1e off k))))
  | _ => none
 | .e (.c (.rp ds)) => match lG P t i with
  | some (k, _, _ + 1) => pv (.e (.c (.rp (ds.drop k))))
  | _ => none
 | _ => none
def k9l (P : Program) (t : TypeId) (i : Nat) : PV → R
 | .e (.agg cs) => match lG P t i with
  | some (k, false, 1) => match cs[k]? with
   | some c => pv (.e (.c c))
   | none => none
  | some (k, true, n) => pv (.e (.agg ((cs.drop k).take n)))
  | _ => none
 | _ => none
def k2j (P : Program) (h : H) (g : EH) (ty : TypeId) : PV → R
 | .e (.c (.ptr b off)) => match g.lookup b with
  | some (some (T, bc)) => match vD P ty with
   | some (false, 1) => match h, bc with
    | .d d, .ds l => some ([l[off]? = some d], ⟨.e (.c (.d d)), [], [], [b]⟩)
    | .no, bc => match bc.to[off]? with
     | some c => some ([], ⟨.e (.c c), [], [], [b]⟩)
     | none => none
    | _, _ => none
   | some (true, n) => match h, bc with
    | .ds r, .ds l => some ([(l.drop off).take n = r, r.length = n], ⟨.e (.agg (r.map .d)), [], [], [b]⟩)
    | .no, bc => match kf1 ((bc.to.drop off).take n).length n with
     | true => some ([], ⟨.e (.agg ((bc.to.drop off).take n)), [], [], [b]⟩)
     | false => none
    | _, _ => none
   | _ => none
  | _ => none
 | .e (.c (.rp ds)) => match vD P ty with
  | some (false, 1) => match h with
   | .d d => some ([ds[0]? = some d], ⟨.e (.c (.d d)), [], [], []⟩)
   | .no => match ds[0]? with
    | some d => some ([], ⟨.e (.c (.d d)), [], [], []⟩)
    | none => none
   | _ => none
  | some (true, n) => match h with
   | .ds r => some ([ds.take n = r, r.length = n], ⟨.e (.agg (r.map .d)), [], [], []⟩)
   | .no => match kf1 (ds.take n).length n with
    | true => some ([], ⟨.e (.agg ((ds.take n).map .d)), [], [], []⟩)
    | false => none
   | _ => none
  | _ => none
 | _ => none
def w9 (P : Program) (h : H) (g : EH) (ty : TypeId) : PV → PV → R
 | .e (.c (.ptr b off)), .e e => match g.lookup b with
  | some (some (T, bc)) => match vD P ty with
   | some (_, n) => match kf1 (y9 e).length n with
    | true => match h, bc, k6b (y9 e) with
     | .no, bc, _ => match Nat.ble (off + n) bc.to.length with
      | true => some ([], ⟨.any, [(b, some (T, rA (oQ bc.to off (y9 e))))], [], [b]⟩)
      | false => none
     | .ds r, .ds l, some x => some ([off + n ≤ l.length, k4y l off x = r], ⟨.any, [(b, some (T, .ds r))], [], [b]⟩)
     | _, _, _ => none
    | false => none
   | none => none
  | _ => none
 | _, _ => none
def xD (P : Program) (nx : Nat) (T : TypeId) : R := match iQ P T with
 | some zs => match zs.all (·.oneCell') with
  | true => some ([], ⟨.e (.c (.ptr nx 0)), [(nx, some (T, .ds (zs.map .lit)))], [nx], []⟩)
  | false => none
 | none => none
def k9v (nx : Nat) (T : TypeId) : PV → R
 | .e e => some ([], ⟨.e (.c (.ptr nx 0)), [(nx, some (T, rA (y9 e)))], [nx], []⟩)
 | _ => none
section
variable {cx : Cx} {o : Oper} {l : List (Nat × PV)} {g : EH}
theorem u36 {t : TypeId} {i : Nat} {x : Operand} (ho : o.op = .fieldAddr t x i) {u : PV} (hu : Ev l x u) : OKR cx o l g (u7k Tryz.prog t i u) := by
 unfold u7k
 split
 ·split
  ·rename_i hf; exact OKR.some fun _ => wE ho hf hu (u3n _ _).symm
  ·exact kG
 ·split
  ·rename_i hf; exact OKR.some fun _ => nL ho hf hu rfl
  ·exact kG
 ·exact kG
theorem k9k {t : TypeId} {i : Nat} {x : Operand} (ho : o.op = .field t x i) {u : PV} (hu : Ev l x u) : OKR cx o l g (k9l Tryz.prog t i u) := by
 unfold k9l
 split
 ·split
  ·rename_i hf
   split
   ·rename_i hc; exact OKR.some fun _ => k7e ho hf hu hc
   ·exact kG
  ·rename_i hf; exact OKR.some fun _ => wD ho hf hu rfl
  ·exact kG
 ·exact kG
theorem k5g {h : H} {ty : TypeId} {x : Operand} (ho : o.op = .load ty x) {u : PV} (hu : Ev l x u) : OKR cx o l g (k2j Tryz.prog h g ty u) := by
 unfold k2j
 split
 ·split
  ·rename_i T bc hb
   have hb' := uU hb
   split
   ·rename_i ht
    split
    ·refine OKR.some fun hp => k3o ho ht hu hb' ?_
     have hp : _ = some _ := hp
     show (kd8 C.d _)[_]? = _
     rw [kf0, hp]; rfl
    ·split
     ·rename_i hc; exact OKR.some fun _ => k3o ho ht hu hb' hc
     ·exact kG
    ·exact kG
   ·rename_i ht
    split
    ·refine OKR.some fun hp => nB ho ht hu hb' ?_ (by rw [kc6]; exact hp.2)
     show ((kd8 C.d _).drop _).take _ = _
     rw [← List.map_drop, ← List.map_take, hp.1]
    ·split
     ·rename_i hl; exact OKR.some fun _ => nB ho ht hu hb' rfl (kc5 hl)
     ·exact kG
    ·exact kG
   ·exact kG
  ·exact kG
 ·split
  ·rename_i ht
   split
   ·exact OKR.some fun hp => pA ho ht hu hp
   ·split
    ·rename_i hc; exact OKR.some fun _ => pA ho ht hu hc
    ·exact kG
   ·exact kG
  ·rename_i ht
   split
   ·exact OKR.some fun hp => gE ho ht hu hp.1 hp.2
   ·split
    ·rename_i hl; exact OKR.some fun _ => gE ho ht hu rfl (kc5 hl)
    ·exact kG
   ·exact kG
  ·exact kG
 ·exact kG
theorem k2h {h : H} {ty : TypeId} {x y : Operand} (ho : o.op = .store ty x y) {u v : PV} (hu : Ev l x u) (hv : Ev l y v) : OKR cx o l g (w9 Tryz.prog h g ty u v) := by
 unfold w9
 split
 ·split
  ·rename_i T bc hb
   have hb' := uU hb
   split
   ·rename_i ht
    split
    ·rename_i hn
     have hn := kc5 hn
     split
     ·split
      ·rename_i hl
       refine OKR.some fun _ => ?_
       have := z8 (cx := cx) ho ht hu hv hb' hn (ka4 hl) (m7 _).symm
       exact this
      ·exact kG
     ·rename_i hx
      refine OKR.some fun hp => ?_
      have e := tQ hx
      have := z8 (cx := cx) (cs' := kd8 C.d _) ho ht hu hv hb' hn (by show _ ≤ (kd8 C.d _).length; rw [kc6]; exact hp.1) (by show oQ (kd8 C.d _) _ _ = _; rw [e, zQ, show k4y _ _ _ = _ from hp.2])
      exact this
     ·exact kG
    ·exact kG
   ·exact kG
  ·exact kG
 ·exact kG
theorem k2q {nx : Nat} {T : TypeId} (ho : o.op = .alloc T) : OKR cx o l g (xD Tryz.prog nx T) := by
 unfold xD
 split
 ·rename_i hz
  split
  ·rename_i h1
   refine OKR.some fun _ => ?_
   exact k59 ho hz h1 (by show _ = kd8 C.d (kd8 D.lit _); rw [kn4]; rfl)
  ·exact kG
 ·exact kG
theorem k9u {nx : Nat} {T : TypeId} {x : Operand} (ho : o.op = .box T x) {u : PV} (hu : Ev l x u) : OKR cx o l g (k9v nx T u) := by
 unfold k9v
 split
 ·refine OKR.some fun _ => ?_
  have := u6f (cx := cx) (g := kH g) (nx := nx) ho hu
  rw [← m7 (y9 _)] at this
  exact this
 ·exact kG
end
/-! structs and slices that are written out -/
def o8 (P : Program) (t : TypeId) : Option (List (Nat × Nat)) := match P.underlying t with
 | some (.struct fs) => fs.toList.mapM fun f => (P.info? f.type).map fun i => (f.offset, i.size)
 | _ => none
theorem z3 {t : TypeId} {pl : List (Nat × Nat)} (h : o8 Tryz.prog t = some pl) : k4v t pl := by
 unfold o8 at h
 split at h
 ·rename_i fs hfs
  refine ⟨fs, hfs, fun w => ?_⟩
  have e0 : fs = fs.toList.toArray := by simp
  rw [e0, List.mapM_toArray]
  have : ∀ (l : List Field) (pl : List (Nat × Nat)), (l.mapM fun f => (Tryz.prog.info? f.type).map fun i => (f.offset, i.size)) = some pl → (l.mapM (fun f => do pure (f.offset, ← sizeOf f.type)) : Sem (List (Nat × Nat))).run Tryz.prog w = .ok pl w := by
   intro l
   induction l with
   | nil => intro pl h; simp at h; subst h; rfl
   | cons f l ih =>
    intro pl h
    rw [ko6] at h
    cases hi : Tryz.prog.info? f.type with
    | none => simp [hi] at h
    | some i =>
     cases hr : (l.mapM fun f => (Tryz.prog.info? f.type).map fun i => (f.offset, i.size)) with
     | none => simp [hi, hr] at h
     | some r =>
      simp [hi, hr] at h
      subst h
      have := ih r hr
      simp only [ko6, Sem.run_bind, sizeOf, typeInfo, hi] at this ⊢
      simp [this, sizeOf, typeInfo, hi]
      simpa [sizeOf, typeInfo] using congrArg (fun r => Result.andThen r fun a w => Result.ok ((f.offset, i.size) :: a) w) this
  have e := this _ _ h
  simp at e ⊢
  rw [e]; rfl
 ·cases h
def k9d (l : List (Nat × PV)) : List (Nat × Operand) → Option (List (Nat × E1))
 | [] => some []
 | (i, x) :: xs => match bH l x, k9d l xs with
  | some (.e e), some es => some ((i, e) :: es)
  | _, _ => none
theorem xB {l : List (Nat × PV)} : ∀ {xs : List (Nat × Operand)} {es : List (Nat × E1)}, k9d l xs = some es → EvL l xs es
 | [], es, h => by cases h; exact .nil
 | (i, x) :: xs, es, h => by
  unfold k9d at h
  split at h
  ·rename_i h1 h2; cases h; exact .cons (mR h1) (xB h2)
  ·cases h
def xC (P : Program) (l : List (Nat × PV)) (t : TypeId) (parts : Array (Nat × Operand)) : R := match o8 P t, iQ P t, k9d l parts.toList with
 | some pl, some zs, some es => match zs.all (·.oneCell') with
  | true => match gK (fun i => pl[i]?) (zs.map LC) es with
   | some cs => pv (.e (.agg cs))
   | none => none
  | false => none
 | _, _, _ => none
def k65 (zs : List Value) (s : Nat) : Nat → List C
 | 0 => []
 | n + 1 => k65 zs s n ++ zs.map LC
theorem k2y (zs : List Value) (s : Nat) (hs : zs.length = s) (h0 : 0 < s) : ∀ n, k65 zs s n = (List.range (n * s)).map fun j => LC (zs.getD (j % s) undef)
 | 0 => by simp [k65]
 | n + 1 => by
  rw [k65, k2y zs s hs h0 n, Nat.succ_mul, List.range_add, List.map_append, kn4]
  congr 1
  apply List.ext_getElem?
  intro j
  rw [kf0, kf0]
  by_cases hj : j < s
  ·rw [List.getElem?_range hj]
   have : j < zs.length := by omega
   simp [Function.comp, Nat.add_mod, Nat.mod_eq_of_lt hj, List.getD_eq_getElem?_getD, this]
  ·rw [kj5 (by omega), kj5 (by rw [List.length_range]; omega)]; rfl
def u7m (P : Program) (l : List (Nat × PV)) (nx : Nat) (t : TypeId) (n : Nat) (parts : Array (Nat × Operand)) : R := match P.underlying t with
 | some (.slice e) => match vD P e, iQ P e, k9d l parts.toList with
  | some (_, s), some zs, some es => match zs.all (·.oneCell') && (kf1 zs.length s && (Nat.blt 0 (n * s) && Nat.ble (n * s) 16777216)) with
   | true => match gK (fun i => some (i * s, s)) (k65 zs s n) es with
    | some cs => some ([], ⟨.e (.c (.own nx 0 n s true)), [(nx, some (e, rA cs))], [nx], []⟩)
    | none => none
   | false => none
  | _, _, _ => none
 | _ => none
section
variable {cx : Cx} {o : Oper} {l : List (Nat × PV)} {g : EH}
theorem k2o {t : TypeId} {parts : Array (Nat × Operand)} (ho : o.op = .build t parts) : OKR cx o l g (xC Tryz.prog l t parts) := by
 unfold xC
 split
 ·rename_i h1 h2 h3
  split
  ·rename_i h4
   split
   ·rename_i h5; exact OKR.some fun _ => k7g ho (z3 h1) h2 h4 (xB h3) h5
   ·exact kG
  ·exact kG
 ·exact kG
theorem u39 {nx : Nat} {t : TypeId} {n : Nat} {parts : Array (Nat × Operand)} (ho : o.op = .buildSlice t n parts) : OKR cx o l g (u7m Tryz.prog l nx t n parts) := by
 unfold u7m
 split
 ·rename_i e hu
  split
  ·rename_i bb s zs es he hz hes
   split
   ·rename_i hc
    simp only [Bool.and_eq_true] at hc
    obtain ⟨h1, h2, h3, h4⟩ := hc
    have h2 := kc5 h2
    have h3 : 0 < n * s := ka4 h3
    have h4 := ka4 h4
    split
    ·rename_i cs hf
     refine OKR.some fun _ => ?_
     have h0 : 0 < s := by rcases Nat.eq_zero_or_pos s with h | h; (subst h; simp at h3); exact h
     rw [k2y zs s h2 h0] at hf
     have := rM (cx := cx) (g := kH g) (nx := nx) ho hu he hz h1 h2 (xB hes) h3 h4 hf
     rw [← m7 cs] at this
     exact this
    ·exact kG
   ·exact kG
  ·exact kG
 ·exact kG
end
end Go.Proofs.YtcfmjpnffembpaaGreat
