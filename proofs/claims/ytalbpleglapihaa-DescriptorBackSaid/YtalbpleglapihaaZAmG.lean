/- A memory told by names: operations on memory that are computed. No statement is proved here. -/
import Derived.Test.YtalbpleglapihaaZAmF
namespace Go.Proofs.Ytalbpleglapihaa
open Go.ChangeShapes Go.WideShapes Go.ChangeAt Go.RowKit
open List renaming getElem?_eq_none → kh6, getElem?_map → ke3, length_map → kd0, map → kd3, mapM_cons → kl6, map_map → ki5
open Nat renaming beq → ke2, eq_of_beq_eq_true → kc1, le_of_ble_eq_true → ka5
set_option linter.unusedVariables false
set_option linter.unusedSimpArgs false
def k0r : List C → Option (List D)
 | [] => some []
 | .d x :: l => match k0r l with
  | some r => some (x :: r)
  | none => none
 | _ :: _ => none
theorem mQ : ∀ {l : List C} {r : List D}, k0r l = some r → l = r.map .d
 | [], r, h => by cases h; rfl
 | .d x :: l, r, h => by
  unfold k0r at h
  split at h
  ·rename_i r' hr; cases h; rw [List.map_cons, ← mQ hr]
  ·cases h
 | .own .. :: _, _, h => by cases h
 | .ptr .. :: _, _, h => by cases h
 | .rp .. :: _, _, h => by cases h
 | .fn .. :: _, _, h => by cases h
def jM (l : List C) : BC := match k0r l with
 | some r => .ds r
 | none => .cs l
theorem fR (l : List C) : (jM l).to = l := by
 unfold jM
 split
 ·rename_i h; rw [mQ h]; rfl
 ·rfl
def sZ : List D → Nat → List D → List D
 | cur, _, [] => cur
 | cur, o, c :: r => sZ (cur.set o c) (o + 1) r
theorem pF : ∀ (r : List D) (cur : List D) (o : Nat), g9 (cur.map .d) o (r.map .d) = (sZ cur o r).map .d
 | [], _, _ => rfl
 | c :: r, cur, o => by
  show g9 ((cur.map C.d).set o (.d c)) (o + 1) (r.map .d) = _
  rw [← List.map_set, pF r]; rfl
def u41 (off : Nat) : Nat → Nat
 | 0 => off
 | k + 1 => off + (k + 1)
theorem k77 (off k : Nat) : u41 off k = off + k := by cases k <;> rfl
def k9v (i : Nat) : Nat → Nat
 | 1 => i
 | s => i * s
theorem k5v (i s : Nat) : k9v i s = i * s := by
 unfold k9v; split <;> simp
def u0k (P : Program) (t : TypeId) (i : Nat) : PV → R
 | .e (.c (.ptr b off)) => match eJ P t i with
  | some (k, _, _ + 1) => pv (.e (.c (.ptr b (u41 off k))))
  | _ => none
 | .e (.c (.rp ds)) => match eJ P t i with
  | some (k, _, _ + 1) => pv (.e (.c (.rp (ds.drop k))))
  | _ => none
 | _ => none
def k3p (P : Program) (t : TypeId) (i : Nat) : PV → R
 | .e (.agg cs) => match eJ P t i with
  | some (k, false, 1) => match cs[k]? with
   | some c => pv (.e (.c c))
   | none => none
  | some (k, true, n) => pv (.e (.agg ((cs.drop k).take n)))
  | _ => none
 | _ => none
def tZ (P : Program) (h : H) (g : EH) (ty : TypeId) : PV → R
 | .e (.c (.ptr b off)) => match g.lookup b with
  | some (some (T, bc)) => match u2 P ty with
   | some (false, 1) => match h, bc with
    | .d d, .ds l => some ([l[off]? = some d], ⟨.e (.c (.d d)), [], [], [b]⟩)
    | .no, bc => match bc.to[off]? with
     | some c => some ([], ⟨.e (.c c), [], [], [b]⟩)
     | none => none
    | _, _ => none
   | some (true, n) => match h, bc with
    | .ds r, .ds l => some ([(l.drop off).take n = r, r.length = n], ⟨.e (.agg (r.map .d)), [], [], [b]⟩)
    | .no, bc => match ke2 ((bc.to.drop off).take n).length n with
     | true => some ([], ⟨.e (.agg ((bc.to.drop off).take n)), [], [], [b]⟩)
     | false => none
    | _, _ => none
   | _ => none
  | _ => none
 | .e (.c (.rp ds)) => match u2 P ty with
  | some (false, 1) => match h with
   | .d d => some ([ds[0]? = some d], ⟨.e (.c (.d d)), [], [], []⟩)
   | .no => match ds[0]? with
    | some d => some ([], ⟨.e (.c (.d d)), [], [], []⟩)
    | none => none
   | _ => none
  | some (true, n) => match h with
   | .ds r => some ([ds.take n = r, r.length = n], ⟨.e (.agg (r.map .d)), [], [], []⟩)
   | .no => match ke2 (ds.take n).length n with
    | true => some ([], ⟨.e (.agg ((ds.take n).map .d)), [], [], []⟩)
    | false => none
   | _ => none
  | _ => none
 | _ => none
def n7 (P : Program) (h : H) (g : EH) (ty : TypeId) : PV → PV → R
 | .e (.c (.ptr b off)), .e e => match g.lookup b with
  | some (some (T, bc)) => match u2 P ty with
   | some (_, n) => match ke2 (u1 e).length n with
    | true => match h, bc, k0r (u1 e) with
     | .no, bc, _ => match Nat.ble (off + n) bc.to.length with
      | true => some ([], ⟨.any, [(b, some (T, jM (g9 bc.to off (u1 e))))], [], [b]⟩)
      | false => none
     | .ds r, .ds l, some x => some ([off + n ≤ l.length, sZ l off x = r], ⟨.any, [(b, some (T, .ds r))], [], [b]⟩)
     | _, _, _ => none
    | false => none
   | none => none
  | _ => none
 | _, _ => none
def oD (P : Program) (nx : Nat) (T : TypeId) : R := match c9 P T with
 | some zs => match zs.all (·.oneCell') with
  | true => some ([], ⟨.e (.c (.ptr nx 0)), [(nx, some (T, .ds (zs.map .lit)))], [nx], []⟩)
  | false => none
 | none => none
def k41 (nx : Nat) (T : TypeId) : PV → R
 | .e e => some ([], ⟨.e (.c (.ptr nx 0)), [(nx, some (T, jM (u1 e)))], [nx], []⟩)
 | _ => none
section
variable {cx : Cx} {o : Oper} {l : List (Nat × PV)} {g : EH}
theorem k6t {t : TypeId} {i : Nat} {x : Operand} (ho : o.op = .fieldAddr t x i) {u : PV} (hu : Ev l x u) : OKR cx o l g (u0k Try.prog t i u) := by
 unfold u0k
 split
 ·split
  ·rename_i hf; exact OKR.some fun _ => nH ho hf hu (k77 _ _).symm
  ·exact OKR.none
 ·split
  ·rename_i hf; exact OKR.some fun _ => gA ho hf hu rfl
  ·exact OKR.none
 ·exact OKR.none
theorem k3o {t : TypeId} {i : Nat} {x : Operand} (ho : o.op = .field t x i) {u : PV} (hu : Ev l x u) : OKR cx o l g (k3p Try.prog t i u) := by
 unfold k3p
 split
 ·split
  ·rename_i hf
   split
   ·rename_i hc; exact OKR.some fun _ => k1t ho hf hu hc
   ·exact OKR.none
  ·rename_i hf; exact OKR.some fun _ => nG ho hf hu rfl
  ·exact OKR.none
 ·exact OKR.none
theorem z4 {h : H} {ty : TypeId} {x : Operand} (ho : o.op = .load ty x) {u : PV} (hu : Ev l x u) : OKR cx o l g (tZ Try.prog h g ty u) := by
 unfold tZ
 split
 ·split
  ·rename_i T bc hb
   have hb' := qP hb
   split
   ·rename_i ht
    split
    ·refine OKR.some fun hp => xA ho ht hu hb' ?_
     have hp : _ = some _ := hp
     show (kd3 C.d _)[_]? = _
     rw [ke3, hp]; rfl
    ·split
     ·rename_i hc; exact OKR.some fun _ => xA ho ht hu hb' hc
     ·exact OKR.none
    ·exact OKR.none
   ·rename_i ht
    split
    ·refine OKR.some fun hp => fV ho ht hu hb' ?_ (by rw [kd0]; exact hp.2)
     show ((kd3 C.d _).drop _).take _ = _
     rw [← List.map_drop, ← List.map_take, hp.1]
    ·split
     ·rename_i hl; exact OKR.some fun _ => fV ho ht hu hb' rfl (kc1 hl)
     ·exact OKR.none
    ·exact OKR.none
   ·exact OKR.none
  ·exact OKR.none
 ·split
  ·rename_i ht
   split
   ·exact OKR.some fun hp => iL ho ht hu hp
   ·split
    ·rename_i hc; exact OKR.some fun _ => iL ho ht hu hc
    ·exact OKR.none
   ·exact OKR.none
  ·rename_i ht
   split
   ·exact OKR.some fun hp => cL ho ht hu hp.1 hp.2
   ·split
    ·rename_i hl; exact OKR.some fun _ => cL ho ht hu rfl (kc1 hl)
    ·exact OKR.none
   ·exact OKR.none
  ·exact OKR.none
 ·exact OKR.none
theorem tW {h : H} {ty : TypeId} {x y : Operand} (ho : o.op = .store ty x y) {u v : PV} (hu : Ev l x u) (hv : Ev l y v) : OKR cx o l g (n7 Try.prog h g ty u v) := by
 unfold n7
 split
 ·split
  ·rename_i T bc hb
   have hb' := qP hb
   split
   ·rename_i ht
    split
    ·rename_i hn
     have hn := kc1 hn
     split
     ·split
      ·rename_i hl
       refine OKR.some fun _ => ?_
       have := pS (cx := cx) ho ht hu hv hb' hn (ka5 hl) (fR _).symm
       exact this
      ·exact OKR.none
     ·rename_i hx
      refine OKR.some fun hp => ?_
      have e := mQ hx
      have := pS (cx := cx) (cs' := kd3 C.d _) ho ht hu hv hb' hn (by show _ ≤ (kd3 C.d _).length; rw [kd0]; exact hp.1) (by show g9 (kd3 C.d _) _ _ = _; rw [e, pF, show sZ _ _ _ = _ from hp.2])
      exact this
     ·exact OKR.none
    ·exact OKR.none
   ·exact OKR.none
  ·exact OKR.none
 ·exact OKR.none
theorem t8 {nx : Nat} {T : TypeId} (ho : o.op = .alloc T) : OKR cx o l g (oD Try.prog nx T) := by
 unfold oD
 split
 ·rename_i hz
  split
  ·rename_i h1
   refine OKR.some fun _ => ?_
   exact zR ho hz h1 (by show _ = kd3 C.d (kd3 D.lit _); rw [ki5]; rfl)
  ·exact OKR.none
 ·exact OKR.none
theorem k40 {nx : Nat} {T : TypeId} {x : Operand} (ho : o.op = .box T x) {u : PV} (hu : Ev l x u) : OKR cx o l g (k41 nx T u) := by
 unfold k41
 split
 ·refine OKR.some fun _ => ?_
  have := k9r (cx := cx) (g := kG g) (nx := nx) ho hu
  rw [← fR (u1 _)] at this
  exact this
 ·exact OKR.none
end
/-! structs and slices that are written out -/
def iJ (P : Program) (t : TypeId) : Option (List (Nat × Nat)) := match P.underlying t with
 | some (.struct fs) => fs.toList.mapM fun f => (P.info? f.type).map fun i => (f.offset, i.size)
 | _ => none
theorem pP {t : TypeId} {pl : List (Nat × Nat)} (h : iJ Try.prog t = some pl) : x8 t pl := by
 unfold iJ at h
 split at h
 ·rename_i fs hfs
  refine ⟨fs, hfs, fun w => ?_⟩
  have e0 : fs = fs.toList.toArray := by simp
  rw [e0, List.mapM_toArray]
  have : ∀ (l : List Field) (pl : List (Nat × Nat)), (l.mapM fun f => (Try.prog.info? f.type).map fun i => (f.offset, i.size)) = some pl → (l.mapM (fun f => do pure (f.offset, ← sizeOf f.type)) : Sem (List (Nat × Nat))).run Try.prog w = .ok pl w := by
   intro l
   induction l with
   | nil => intro pl h; simp at h; subst h; rfl
   | cons f l ih =>
    intro pl h
    rw [kl6] at h
    cases hi : Try.prog.info? f.type with
    | none => simp [hi] at h
    | some i =>
     cases hr : (l.mapM fun f => (Try.prog.info? f.type).map fun i => (f.offset, i.size)) with
     | none => simp [hi, hr] at h
     | some r =>
      simp [hi, hr] at h
      subst h
      have := ih r hr
      simp only [kl6, Sem.run_bind, sizeOf, typeInfo, hi] at this ⊢
      simp [this, sizeOf, typeInfo, hi]
      simpa [sizeOf, typeInfo] using congrArg (fun r => Result.andThen r fun a w => Result.ok ((f.offset, i.size) :: a) w) this
  have e := this _ _ h
  simp at e ⊢
  rw [e]; rfl
 ·cases h
def k3h (l : List (Nat × PV)) : List (Nat × Operand) → Option (List (Nat × E1))
 | [] => some []
 | (i, x) :: xs => match vA l x, k3h l xs with
  | some (.e e), some es => some ((i, e) :: es)
  | _, _ => none
theorem oB {l : List (Nat × PV)} : ∀ {xs : List (Nat × Operand)} {es : List (Nat × E1)}, k3h l xs = some es → EvL l xs es
 | [], es, h => by cases h; exact .nil
 | (i, x) :: xs, es, h => by
  unfold k3h at h
  split at h
  ·rename_i h1 h2; cases h; exact .cons (fL h1) (oB h2)
  ·cases h
def oC (P : Program) (l : List (Nat × PV)) (t : TypeId) (parts : Array (Nat × Operand)) : R := match iJ P t, c9 P t, k3h l parts.toList with
 | some pl, some zs, some es => match zs.all (·.oneCell') with
  | true => match cS (fun i => pl[i]?) (zs.map LC) es with
   | some cs => pv (.e (.agg cs))
   | none => none
  | false => none
 | _, _, _ => none
def k0d (zs : List Value) (s : Nat) : Nat → List C
 | 0 => []
 | n + 1 => k0d zs s n ++ zs.map LC
theorem wE (zs : List Value) (s : Nat) (hs : zs.length = s) (h0 : 0 < s) : ∀ n, k0d zs s n = (List.range (n * s)).map fun j => LC (zs.getD (j % s) undef)
 | 0 => by simp [k0d]
 | n + 1 => by
  rw [k0d, wE zs s hs h0 n, Nat.succ_mul, List.range_add, List.map_append, ki5]
  congr 1
  apply List.ext_getElem?
  intro j
  rw [ke3, ke3]
  by_cases hj : j < s
  ·rw [List.getElem?_range hj]
   have : j < zs.length := by omega
   simp [Function.comp, Nat.add_mod, Nat.mod_eq_of_lt hj, List.getD_eq_getElem?_getD, this]
  ·rw [kh6 (by omega), kh6 (by rw [List.length_range]; omega)]; rfl
def u0n (P : Program) (l : List (Nat × PV)) (nx : Nat) (t : TypeId) (n : Nat) (parts : Array (Nat × Operand)) : R := match P.underlying t with
 | some (.slice e) => match u2 P e, c9 P e, k3h l parts.toList with
  | some (_, s), some zs, some es => match zs.all (·.oneCell') && (ke2 zs.length s && (Nat.blt 0 (n * s) && Nat.ble (n * s) 16777216)) with
   | true => match cS (fun i => some (i * s, s)) (k0d zs s n) es with
    | some cs => some ([], ⟨.e (.c (.own nx 0 n s true)), [(nx, some (e, jM cs))], [nx], []⟩)
    | none => none
   | false => none
  | _, _, _ => none
 | _ => none
section
variable {cx : Cx} {o : Oper} {l : List (Nat × PV)} {g : EH}
theorem t6 {t : TypeId} {parts : Array (Nat × Operand)} (ho : o.op = .build t parts) : OKR cx o l g (oC Try.prog l t parts) := by
 unfold oC
 split
 ·rename_i h1 h2 h3
  split
  ·rename_i h4
   split
   ·rename_i h5; exact OKR.some fun _ => k1v ho (pP h1) h2 h4 (oB h3) h5
   ·exact OKR.none
  ·exact OKR.none
 ·exact OKR.none
theorem k6w {nx : Nat} {t : TypeId} {n : Nat} {parts : Array (Nat × Operand)} (ho : o.op = .buildSlice t n parts) : OKR cx o l g (u0n Try.prog l nx t n parts) := by
 unfold u0n
 split
 ·rename_i e hu
  split
  ·rename_i bb s zs es he hz hes
   split
   ·rename_i hc
    simp only [Bool.and_eq_true] at hc
    obtain ⟨h1, h2, h3, h4⟩ := hc
    have h2 := kc1 h2
    have h3 : 0 < n * s := ka5 h3
    have h4 := ka5 h4
    split
    ·rename_i cs hf
     refine OKR.some fun _ => ?_
     have h0 : 0 < s := by rcases Nat.eq_zero_or_pos s with h | h; (subst h; simp at h3); exact h
     rw [wE zs s h2 h0] at hf
     have := j0 (cx := cx) (g := kG g) (nx := nx) ho hu he hz h1 h2 (oB hes) h3 h4 hf
     rw [← fR cs] at this
     exact this
    ·exact OKR.none
   ·exact OKR.none
  ·exact OKR.none
 ·exact OKR.none
end
end Go.Proofs.Ytalbpleglapihaa
