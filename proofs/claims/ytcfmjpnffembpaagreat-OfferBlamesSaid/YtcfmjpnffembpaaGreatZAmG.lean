/- A memory told by names: operations on memory that are computed. No statement is proved here. -/
import Derived.Test.YtcfmjpnffembpaaGreatZAmF
namespace Go.Proofs.YtcfmjpnffembpaaGreat
open Go.ChangeShapes Go.WideShapes Go.ChangeAt Go.RowKit
open List renaming getElem?_eq_none → kh6, getElem?_map → ke6, length_map → kc5, map → kd6, mapM_cons → kl3, map_map → kk6
open Nat renaming beq → ke7, eq_of_beq_eq_true → kc4, le_of_ble_eq_true → ka4
set_option linter.unusedVariables false
set_option linter.unusedSimpArgs false
def k66 : List C → Option (List D)
 | [] => some []
 | .d x :: l => match k66 l with
  | some r => some (x :: r)
  | none => none
 | _ :: _ => none
theorem tM : ∀ {l : List C} {r : List D}, k66 l = some r → l = r.map .d
 | [], r, h => by cases h; rfl
 | .d x :: l, r, h => by
  unfold k66 at h
  split at h
  ·rename_i r' hr; cases h; rw [List.map_cons, ← tM hr]
  ·cases h
 | .own .. :: _, _, h => by cases h
 | .ptr .. :: _, _, h => by cases h
 | .rp .. :: _, _, h => by cases h
 | .fn .. :: _, _, h => by cases h
def p7 (l : List C) : BC := match k66 l with
 | some r => .ds r
 | none => .cs l
theorem m5 (l : List C) : (p7 l).to = l := by
 unfold p7
 split
 ·rename_i h; rw [tM h]; rfl
 ·rfl
def k4t : List D → Nat → List D → List D
 | cur, _, [] => cur
 | cur, o, c :: r => k4t (cur.set o c) (o + 1) r
theorem zI : ∀ (r : List D) (cur : List D) (o : Nat), oP (cur.map .d) o (r.map .d) = (k4t cur o r).map .d
 | [], _, _ => rfl
 | c :: r, cur, o => by
  show oP ((cur.map C.d).set o (.d c)) (o + 1) (r.map .d) = _
  rw [← List.map_set, zI r]; rfl
def v19 (off : Nat) : Nat → Nat
 | 0 => off
 | k + 1 => off + (k + 1)
theorem u3i (off k : Nat) : v19 off k = off + k := by cases k <;> rfl
def u6g (i : Nat) : Nat → Nat
 | 1 => i
 | s => i * s
theorem u22 (i s : Nat) : u6g i s = i * s := by
 unfold u6g; split <;> simp
def u7f (P : Program) (t : TypeId) (i : Nat) : PV → R
 | .e (.c (.ptr b off)) => match lF P t i with
  | some (k, _, _ + 1) => pv (.e (.c (.ptr b (v19 off k))))
  | _ => none
 | .e (.c (.rp ds)) => match lF P t i with
  | some (k, _, _ + 1) => pv (.e (.c (.rp (ds.drop k))))
  | _ => none
 | _ => none
def k9g (P : Program) (t : TypeId) (i : Nat) : PV → R
 | .e (.agg cs) => match lF P t i with
  | some (k, false, 1) => match cs[k]? with
   | some c => pv (.e (.c c))
   | none => none
  | some (k, true, n) => pv (.e (.agg ((cs.drop k).take n)))
  | _ => none
 | _ => none
def k2e (P : Program) (h : H) (g : EH) (ty : TypeId) : PV → R
 | .e (.c (.ptr b off)) => match g.lookup b with
  | some (some (T, bc)) => match vD P ty with
   | some (false, 1) => match h, bc with
    | .d d, .ds l => some ([l[off]? = some d], ⟨.e (.c (.d d)), [], [], [b]⟩)
    | .no, bc => match bc.to[off]? with
     | some c => some ([], ⟨.e (.c c), [], [], [b]⟩)
     | none => none
    | _, _ => none
   | some (true, n) => match h, bc with
    | .ds r, .ds l => some ([(l.drop off).take n = r, r.length = n], ⟨.e (.agg (r.map .d)), [], [], [b]⟩)
    | .no, bc => match ke7 ((bc.to.drop off).take n).length n with
     | true => some ([], ⟨.e (.agg ((bc.to.drop off).take n)), [], [], [b]⟩)
     | false => none
    | _, _ => none
   | _ => none
  | _ => none
 | .e (.c (.rp ds)) => match vD P ty with
  | some (false, 1) => match h with
   | .d d => some ([ds[0]? = some d], ⟨.e (.c (.d d)), [], [], []⟩)
   | .no => match ds[0]? with
    | some d => some ([], ⟨.e (.c (.d d)), [], [], []⟩)
    | none => none
   | _ => none
  | some (true, n) => match h with
   | .ds r => some ([ds.take n = r, r.length = n], ⟨.e (.agg (r.map .d)), [], [], []⟩)
   | .no => match ke7 (ds.take n).length n with
    | true => some ([], ⟨.e (.agg ((ds.take n).map .d)), [], [], []⟩)
    | false => none
   | _ => none
  | _ => none
 | _ => none
def wY (P : Program) (h : H) (g : EH) (ty : TypeId) : PV → PV → R
 | .e (.c (.ptr b off)), .e e => match g.lookup b with
  | some (some (T, bc)) => match vD P ty with
   | some (_, n) => match ke7 (y9 e).length n with
    | true => match h, bc, k66 (y9 e) with
     | .no, bc, _ => match Nat.ble (off + n) bc.to.length with
      | true => some ([], ⟨.any, [(b, some (T, p7 (oP bc.to off (y9 e))))], [], [b]⟩)
      | false => none
     | .ds r, .ds l, some x => some ([off + n ≤ l.length, k4t l off x = r], ⟨.any, [(b, some (T, .ds r))], [], [b]⟩)
     | _, _, _ => none
    | false => none
   | none => none
  | _ => none
 | _, _ => none
def w9 (P : Program) (nx : Nat) (T : TypeId) : R := match iP P T with
 | some zs => match zs.all (·.oneCell') with
  | true => some ([], ⟨.e (.c (.ptr nx 0)), [(nx, some (T, .ds (zs.map .lit)))], [nx], []⟩)
  | false => none
 | none => none
def k9q (nx : Nat) (T : TypeId) : PV → R
 | .e e => some ([], ⟨.e (.c (.ptr nx 0)), [(nx, some (T, p7 (y9 e)))], [nx], []⟩)
 | _ => none
section
variable {cx : Cx} {o : Oper} {l : List (Nat × PV)} {g : EH}
theorem u30 {t : TypeId} {i : Nat} {x : Operand} (ho : o.op = .fieldAddr t x i) {u : PV} (hu : Ev l x u) : OKR cx o l g (u7f Tryz.prog t i u) := by
 unfold u7f
 split
 ·split
  ·rename_i hf; exact OKR.some fun _ => wA ho hf hu (u3i _ _).symm
  ·exact OKR.none
 ·split
  ·rename_i hf; exact OKR.some fun _ => nK ho hf hu rfl
  ·exact OKR.none
 ·exact OKR.none
theorem k9f {t : TypeId} {i : Nat} {x : Operand} (ho : o.op = .field t x i) {u : PV} (hu : Ev l x u) : OKR cx o l g (k9g Tryz.prog t i u) := by
 unfold k9g
 split
 ·split
  ·rename_i hf
   split
   ·rename_i hc; exact OKR.some fun _ => k79 ho hf hu hc
   ·exact OKR.none
  ·rename_i hf; exact OKR.some fun _ => t9 ho hf hu rfl
  ·exact OKR.none
 ·exact OKR.none
theorem k5b {h : H} {ty : TypeId} {x : Operand} (ho : o.op = .load ty x) {u : PV} (hu : Ev l x u) : OKR cx o l g (k2e Tryz.prog h g ty u) := by
 unfold k2e
 split
 ·split
  ·rename_i T bc hb
   have hb' := uU hb
   split
   ·rename_i ht
    split
    ·refine OKR.some fun hp => k3j ho ht hu hb' ?_
     have hp : _ = some _ := hp
     show (kd6 C.d _)[_]? = _
     rw [ke6, hp]; rfl
    ·split
     ·rename_i hc; exact OKR.some fun _ => k3j ho ht hu hb' hc
     ·exact OKR.none
    ·exact OKR.none
   ·rename_i ht
    split
    ·refine OKR.some fun hp => nA ho ht hu hb' ?_ (by rw [kc5]; exact hp.2)
     show ((kd6 C.d _).drop _).take _ = _
     rw [← List.map_drop, ← List.map_take, hp.1]
    ·split
     ·rename_i hl; exact OKR.some fun _ => nA ho ht hu hb' rfl (kc4 hl)
     ·exact OKR.none
    ·exact OKR.none
   ·exact OKR.none
  ·exact OKR.none
 ·split
  ·rename_i ht
   split
   ·exact OKR.some fun hp => o8 ho ht hu hp
   ·split
    ·rename_i hc; exact OKR.some fun _ => o8 ho ht hu hc
    ·exact OKR.none
   ·exact OKR.none
  ·rename_i ht
   split
   ·exact OKR.some fun hp => gD ho ht hu hp.1 hp.2
   ·split
    ·rename_i hl; exact OKR.some fun _ => gD ho ht hu rfl (kc4 hl)
    ·exact OKR.none
   ·exact OKR.none
  ·exact OKR.none
 ·exact OKR.none
theorem k2c {h : H} {ty : TypeId} {x y : Operand} (ho : o.op = .store ty x y) {u v : PV} (hu : Ev l x u) (hv : Ev l y v) : OKR cx o l g (wY Tryz.prog h g ty u v) := by
 unfold wY
 split
 ·split
  ·rename_i T bc hb
   have hb' := uU hb
   split
   ·rename_i ht
    split
    ·rename_i hn
     have hn := kc4 hn
     split
     ·split
      ·rename_i hl
       refine OKR.some fun _ => ?_
       have := z3 (cx := cx) ho ht hu hv hb' hn (ka4 hl) (m5 _).symm
       exact this
      ·exact OKR.none
     ·rename_i hx
      refine OKR.some fun hp => ?_
      have e := tM hx
      have := z3 (cx := cx) (cs' := kd6 C.d _) ho ht hu hv hb' hn (by show _ ≤ (kd6 C.d _).length; rw [kc5]; exact hp.1) (by show oP (kd6 C.d _) _ _ = _; rw [e, zI, show k4t _ _ _ = _ from hp.2])
      exact this
     ·exact OKR.none
    ·exact OKR.none
   ·exact OKR.none
  ·exact OKR.none
 ·exact OKR.none
theorem k2l {nx : Nat} {T : TypeId} (ho : o.op = .alloc T) : OKR cx o l g (w9 Tryz.prog nx T) := by
 unfold w9
 split
 ·rename_i hz
  split
  ·rename_i h1
   refine OKR.some fun _ => ?_
   exact k54 ho hz h1 (by show _ = kd6 C.d (kd6 D.lit _); rw [kk6]; rfl)
  ·exact OKR.none
 ·exact OKR.none
theorem k9p {nx : Nat} {T : TypeId} {x : Operand} (ho : o.op = .box T x) {u : PV} (hu : Ev l x u) : OKR cx o l g (k9q nx T u) := by
 unfold k9q
 split
 ·refine OKR.some fun _ => ?_
  have := u6a (cx := cx) (g := kH g) (nx := nx) ho hu
  rw [← m5 (y9 _)] at this
  exact this
 ·exact OKR.none
end
/-! structs and slices that are written out -/
def o6 (P : Program) (t : TypeId) : Option (List (Nat × Nat)) := match P.underlying t with
 | some (.struct fs) => fs.toList.mapM fun f => (P.info? f.type).map fun i => (f.offset, i.size)
 | _ => none
theorem zV {t : TypeId} {pl : List (Nat × Nat)} (h : o6 Tryz.prog t = some pl) : k4q t pl := by
 unfold o6 at h
 split at h
 ·rename_i fs hfs
  refine ⟨fs, hfs, fun w => ?_⟩
  have e0 : fs = fs.toList.toArray := by simp
  rw [e0, List.mapM_toArray]
  have : ∀ (l : List Field) (pl : List (Nat × Nat)), (l.mapM fun f => (Tryz.prog.info? f.type).map fun i => (f.offset, i.size)) = some pl → (l.mapM (fun f => do pure (f.offset, ← sizeOf f.type)) : Sem (List (Nat × Nat))).run Tryz.prog w = .ok pl w := by
   intro l
   induction l with
   | nil => intro pl h; simp at h; subst h; rfl
   | cons f l ih =>
    intro pl h
    rw [kl3] at h
    cases hi : Tryz.prog.info? f.type with
    | none => simp [hi] at h
    | some i =>
     cases hr : (l.mapM fun f => (Tryz.prog.info? f.type).map fun i => (f.offset, i.size)) with
     | none => simp [hi, hr] at h
     | some r =>
      simp [hi, hr] at h
      subst h
      have := ih r hr
      simp only [kl3, Sem.run_bind, sizeOf, typeInfo, hi] at this ⊢
      simp [this, sizeOf, typeInfo, hi]
      simpa [sizeOf, typeInfo] using congrArg (fun r => Result.andThen r fun a w => Result.ok ((f.offset, i.size) :: a) w) this
  have e := this _ _ h
  simp at e ⊢
  rw [e]; rfl
 ·cases h
def k98 (l : List (Nat × PV)) : List (Nat × Operand) → Option (List (Nat × E1))
 | [] => some []
 | (i, x) :: xs => match bH l x, k98 l xs with
  | some (.e e), some es => some ((i, e) :: es)
  | _, _ => none
theorem w7 {l : List (Nat × PV)} : ∀ {xs : List (Nat × Operand)} {es : List (Nat × E1)}, k98 l xs = some es → EvL l xs es
 | [], es, h => by cases h; exact .nil
 | (i, x) :: xs, es, h => by
  unfold k98 at h
  split at h
  ·rename_i h1 h2; cases h; exact .cons (mQ h1) (w7 h2)
  ·cases h
def w8 (P : Program) (l : List (Nat × PV)) (t : TypeId) (parts : Array (Nat × Operand)) : R := match o6 P t, iP P t, k98 l parts.toList with
 | some pl, some zs, some es => match zs.all (·.oneCell') with
  | true => match gJ (fun i => pl[i]?) (zs.map LC) es with
   | some cs => pv (.e (.agg cs))
   | none => none
  | false => none
 | _, _, _ => none
def k60 (zs : List Value) (s : Nat) : Nat → List C
 | 0 => []
 | n + 1 => k60 zs s n ++ zs.map LC
theorem k2t (zs : List Value) (s : Nat) (hs : zs.length = s) (h0 : 0 < s) : ∀ n, k60 zs s n = (List.range (n * s)).map fun j => LC (zs.getD (j % s) undef)
 | 0 => by simp [k60]
 | n + 1 => by
  rw [k60, k2t zs s hs h0 n, Nat.succ_mul, List.range_add, List.map_append, kk6]
  congr 1
  apply List.ext_getElem?
  intro j
  rw [ke6, ke6]
  by_cases hj : j < s
  ·rw [List.getElem?_range hj]
   have : j < zs.length := by omega
   simp [Function.comp, Nat.add_mod, Nat.mod_eq_of_lt hj, List.getD_eq_getElem?_getD, this]
  ·rw [kh6 (by omega), kh6 (by rw [List.length_range]; omega)]; rfl
def u7h (P : Program) (l : List (Nat × PV)) (nx : Nat) (t : TypeId) (n : Nat) (parts : Array (Nat × Operand)) : R := match P.underlying t with
 | some (.slice e) => match vD P e, iP P e, k98 l parts.toList with
  | some (_, s), some zs, some es => match zs.all (·.oneCell') && (ke7 zs.length s && (Nat.blt 0 (n * s) && Nat.ble (n * s) 16777216)) with
   | true => match gJ (fun i => some (i * s, s)) (k60 zs s n) es with
    | some cs => some ([], ⟨.e (.c (.own nx 0 n s true)), [(nx, some (e, p7 cs))], [nx], []⟩)
    | none => none
   | false => none
  | _, _, _ => none
 | _ => none
section
variable {cx : Cx} {o : Oper} {l : List (Nat × PV)} {g : EH}
theorem k2j {t : TypeId} {parts : Array (Nat × Operand)} (ho : o.op = .build t parts) : OKR cx o l g (w8 Tryz.prog l t parts) := by
 unfold w8
 split
 ·rename_i h1 h2 h3
  split
  ·rename_i h4
   split
   ·rename_i h5; exact OKR.some fun _ => k7b ho (zV h1) h2 h4 (w7 h3) h5
   ·exact OKR.none
  ·exact OKR.none
 ·exact OKR.none
theorem u34 {nx : Nat} {t : TypeId} {n : Nat} {parts : Array (Nat × Operand)} (ho : o.op = .buildSlice t n parts) : OKR cx o l g (u7h Tryz.prog l nx t n parts) := by
 unfold u7h
 split
 ·rename_i e hu
  split
  ·rename_i bb s zs es he hz hes
   split
   ·rename_i hc
    simp only [Bool.and_eq_true] at hc
    obtain ⟨h1, h2, h3, h4⟩ := hc
    have h2 := kc4 h2
    have h3 : 0 < n * s := ka4 h3
    have h4 := ka4 h4
    split
    ·rename_i cs hf
     refine OKR.some fun _ => ?_
     have h0 : 0 < s := by rcases Nat.eq_zero_or_pos s with h | h; (subst h; simp at h3); exact h
     rw [k2t zs s h2 h0] at hf
     have := rI (cx := cx) (g := kH g) (nx := nx) ho hu he hz h1 h2 (w7 hes) h3 h4 hf
     rw [← m5 cs] at this
     exact this
    ·exact OKR.none
   ·exact OKR.none
  ·exact OKR.none
 ·exact OKR.none
end
end Go.Proofs.YtcfmjpnffembpaaGreat
