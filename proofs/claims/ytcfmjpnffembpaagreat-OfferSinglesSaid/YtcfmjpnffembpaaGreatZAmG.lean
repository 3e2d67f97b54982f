/- A memory told by names: operations on memory that are computed. No statement is proved here. -/
import Derived.Test.YtcfmjpnffembpaaGreatZAmF
namespace Go.Proofs.YtcfmjpnffembpaaGreat
open Go.ChangeShapes Go.WideShapes Go.ChangeAt Go.RowKit
set_option linter.unusedVariables false
set_option linter.unusedSimpArgs false
def toDs : List C → Option (List D)
 | [] => some []
 | .d x :: l => match toDs l with
  | some r => some (x :: r)
  | none => none
 | _ :: _ => none
theorem toDs_ok : ∀ {l : List C} {r : List D}, toDs l = some r → l = r.map .d
 | [], r, h => by cases h; rfl
 | .d x :: l, r, h => by
  unfold toDs at h
  split at h
  ·rename_i r' hr; cases h; rw [List.map_cons, ← toDs_ok hr]
  ·cases h
 | .own .. :: _, _, h => by cases h
 | .ptr .. :: _, _, h => by cases h
 | .rp .. :: _, _, h => by cases h
 | .fn .. :: _, _, h => by cases h
def BC.nrm (l : List C) : BC := match toDs l with
 | some r => .ds r
 | none => .cs l
theorem BC.nrm_to (l : List C) : (BC.nrm l).to = l := by
 unfold BC.nrm
 split
 ·rename_i h; rw [toDs_ok h]; rfl
 ·rfl
def updD : List D → Nat → List D → List D
 | cur, _, [] => cur
 | cur, o, c :: r => updD (cur.set o c) (o + 1) r
theorem updD_map : ∀ (r : List D) (cur : List D) (o : Nat), updC (cur.map .d) o (r.map .d) = (updD cur o r).map .d
 | [], _, _ => rfl
 | c :: r, cur, o => by
  show updC ((cur.map C.d).set o (.d c)) (o + 1) (r.map .d) = _
  rw [← List.map_set, updD_map r]; rfl
def addO (off : Nat) : Nat → Nat
 | 0 => off
 | k + 1 => off + (k + 1)
theorem addO_eq (off k : Nat) : addO off k = off + k := by cases k <;> rfl
def mulS (i : Nat) : Nat → Nat
 | 1 => i
 | s => i * s
theorem mulS_eq (i s : Nat) : mulS i s = i * s := by
 unfold mulS; split <;> simp
def evFA (P : Program) (t : TypeId) (i : Nat) : PV → R
 | .e (.c (.ptr b off)) => match fldOf P t i with
  | some (k, _, _ + 1) => pv (.e (.c (.ptr b (addO off k))))
  | _ => none
 | .e (.c (.rp ds)) => match fldOf P t i with
  | some (k, _, _ + 1) => pv (.e (.c (.rp (ds.drop k))))
  | _ => none
 | _ => none
def evFld (P : Program) (t : TypeId) (i : Nat) : PV → R
 | .e (.agg cs) => match fldOf P t i with
  | some (k, false, 1) => match cs[k]? with
   | some c => pv (.e (.c c))
   | none => none
  | some (k, true, n) => pv (.e (.agg ((cs.drop k).take n)))
  | _ => none
 | _ => none
def evLoad (P : Program) (h : H) (g : EH) (ty : TypeId) : PV → R
 | .e (.c (.ptr b off)) => match g.lookup b with
  | some (some (T, bc)) => match tyOf P ty with
   | some (false, 1) => match h, bc with
    | .d d, .ds l => some ([l[off]? = some d], ⟨.e (.c (.d d)), [], [], [b]⟩)
    | .no, bc => match bc.to[off]? with
     | some c => some ([], ⟨.e (.c c), [], [], [b]⟩)
     | none => none
    | _, _ => none
   | some (true, n) => match h, bc with
    | .ds r, .ds l => some ([(l.drop off).take n = r, r.length = n], ⟨.e (.agg (r.map .d)), [], [], [b]⟩)
    | .no, bc => match Nat.beq ((bc.to.drop off).take n).length n with
     | true => some ([], ⟨.e (.agg ((bc.to.drop off).take n)), [], [], [b]⟩)
     | false => none
    | _, _ => none
   | _ => none
  | _ => none
 | .e (.c (.rp ds)) => match tyOf P ty with
  | some (false, 1) => match h with
   | .d d => some ([ds[0]? = some d], ⟨.e (.c (.d d)), [], [], []⟩)
   | .no => match ds[0]? with
    | some d => some ([], ⟨.e (.c (.d d)), [], [], []⟩)
    | none => none
   | _ => none
  | some (true, n) => match h with
   | .ds r => some ([ds.take n = r, r.length = n], ⟨.e (.agg (r.map .d)), [], [], []⟩)
   | .no => match Nat.beq (ds.take n).length n with
    | true => some ([], ⟨.e (.agg ((ds.take n).map .d)), [], [], []⟩)
    | false => none
   | _ => none
  | _ => none
 | _ => none
def evStore (P : Program) (h : H) (g : EH) (ty : TypeId) : PV → PV → R
 | .e (.c (.ptr b off)), .e e => match g.lookup b with
  | some (some (T, bc)) => match tyOf P ty with
   | some (_, n) => match Nat.beq (cellsOf1 e).length n with
    | true => match h, bc, toDs (cellsOf1 e) with
     | .no, bc, _ => match Nat.ble (off + n) bc.to.length with
      | true => some ([], ⟨.any, [(b, some (T, BC.nrm (updC bc.to off (cellsOf1 e))))], [], [b]⟩)
      | false => none
     | .ds r, .ds l, some x => some ([off + n ≤ l.length, updD l off x = r], ⟨.any, [(b, some (T, .ds r))], [], [b]⟩)
     | _, _, _ => none
    | false => none
   | none => none
  | _ => none
 | _, _ => none
def evAlloc (P : Program) (nx : Nat) (T : TypeId) : R := match zeroC P T with
 | some zs => match zs.all (·.oneCell') with
  | true => some ([], ⟨.e (.c (.ptr nx 0)), [(nx, some (T, .ds (zs.map .lit)))], [nx], []⟩)
  | false => none
 | none => none
def evBox (nx : Nat) (T : TypeId) : PV → R
 | .e e => some ([], ⟨.e (.c (.ptr nx 0)), [(nx, some (T, BC.nrm (cellsOf1 e)))], [nx], []⟩)
 | _ => none
section
variable {cx : Cx} {o : Oper} {l : List (Nat × PV)} {g : EH}
theorem evFA_ok {t : TypeId} {i : Nat} {x : Operand} (ho : o.op = .fieldAddr t x i) {u : PV} (hu : Ev l x u) : OKR cx o l g (evFA Tryz.prog t i u) := by
 unfold evFA
 split
 ·split
  ·rename_i hf; exact OKR.some fun _ => ok_fieldAddr ho hf hu (addO_eq _ _).symm
  ·exact OKR.none
 ·split
  ·rename_i hf; exact OKR.some fun _ => ok_fieldAddr_rp ho hf hu rfl
  ·exact OKR.none
 ·exact OKR.none
theorem evFld_ok {t : TypeId} {i : Nat} {x : Operand} (ho : o.op = .field t x i) {u : PV} (hu : Ev l x u) : OKR cx o l g (evFld Tryz.prog t i u) := by
 unfold evFld
 split
 ·split
  ·rename_i hf
   split
   ·rename_i hc; exact OKR.some fun _ => ok_field ho hf hu hc
   ·exact OKR.none
  ·rename_i hf; exact OKR.some fun _ => ok_field_agg ho hf hu rfl
  ·exact OKR.none
 ·exact OKR.none
theorem evLoad_ok {h : H} {ty : TypeId} {x : Operand} (ho : o.op = .load ty x) {u : PV} (hu : Ev l x u) : OKR cx o l g (evLoad Tryz.prog h g ty u) := by
 unfold evLoad
 split
 ·split
  ·rename_i T bc hb
   have hb' := toG_look hb
   split
   ·rename_i ht
    split
    ·refine OKR.some fun hp => ok_load ho ht hu hb' ?_
     have hp : _ = some _ := hp
     show (List.map C.d _)[_]? = _
     rw [List.getElem?_map, hp]; rfl
    ·split
     ·rename_i hc; exact OKR.some fun _ => ok_load ho ht hu hb' hc
     ·exact OKR.none
    ·exact OKR.none
   ·rename_i ht
    split
    ·refine OKR.some fun hp => ok_load_agg ho ht hu hb' ?_ (by rw [List.length_map]; exact hp.2)
     show ((List.map C.d _).drop _).take _ = _
     rw [← List.map_drop, ← List.map_take, hp.1]
    ·split
     ·rename_i hl; exact OKR.some fun _ => ok_load_agg ho ht hu hb' rfl (Nat.eq_of_beq_eq_true hl)
     ·exact OKR.none
    ·exact OKR.none
   ·exact OKR.none
  ·exact OKR.none
 ·split
  ·rename_i ht
   split
   ·exact OKR.some fun hp => ok_load_rp ho ht hu hp
   ·split
    ·rename_i hc; exact OKR.some fun _ => ok_load_rp ho ht hu hc
    ·exact OKR.none
   ·exact OKR.none
  ·rename_i ht
   split
   ·exact OKR.some fun hp => ok_load_rp_agg ho ht hu hp.1 hp.2
   ·split
    ·rename_i hl; exact OKR.some fun _ => ok_load_rp_agg ho ht hu rfl (Nat.eq_of_beq_eq_true hl)
    ·exact OKR.none
   ·exact OKR.none
  ·exact OKR.none
 ·exact OKR.none
theorem evStore_ok {h : H} {ty : TypeId} {x y : Operand} (ho : o.op = .store ty x y) {u v : PV} (hu : Ev l x u) (hv : Ev l y v) : OKR cx o l g (evStore Tryz.prog h g ty u v) := by
 unfold evStore
 split
 ·split
  ·rename_i T bc hb
   have hb' := toG_look hb
   split
   ·rename_i ht
    split
    ·rename_i hn
     have hn := Nat.eq_of_beq_eq_true hn
     split
     ·split
      ·rename_i hl
       refine OKR.some fun _ => ?_
       have := ok_store (cx := cx) ho ht hu hv hb' hn (Nat.le_of_ble_eq_true hl) (BC.nrm_to _).symm
       exact this
      ·exact OKR.none
     ·rename_i hx
      refine OKR.some fun hp => ?_
      have e := toDs_ok hx
      have := ok_store (cx := cx) (cs' := List.map C.d _) ho ht hu hv hb' hn (by show _ ≤ (List.map C.d _).length; rw [List.length_map]; exact hp.1) (by show updC (List.map C.d _) _ _ = _; rw [e, updD_map, show updD _ _ _ = _ from hp.2])
      exact this
     ·exact OKR.none
    ·exact OKR.none
   ·exact OKR.none
  ·exact OKR.none
 ·exact OKR.none
theorem evAlloc_ok {nx : Nat} {T : TypeId} (ho : o.op = .alloc T) : OKR cx o l g (evAlloc Tryz.prog nx T) := by
 unfold evAlloc
 split
 ·rename_i hz
  split
  ·rename_i h1
   refine OKR.some fun _ => ?_
   exact ok_alloc' ho hz h1 (by show _ = List.map C.d (List.map D.lit _); rw [List.map_map]; rfl)
  ·exact OKR.none
 ·exact OKR.none
theorem evBox_ok {nx : Nat} {T : TypeId} {x : Operand} (ho : o.op = .box T x) {u : PV} (hu : Ev l x u) : OKR cx o l g (evBox nx T u) := by
 unfold evBox
 split
 ·refine OKR.some fun _ => ?_
  have := ok_box (cx := cx) (g := toG g) (nx := nx) ho hu
  rw [← BC.nrm_to (cellsOf1 _)] at this
  exact this
 ·exact OKR.none
end
/-! structs and slices that are written out -/
def placesOf (P : Program) (t : TypeId) : Option (List (Nat × Nat)) := match P.underlying t with
 | some (.struct fs) => fs.toList.mapM fun f => (P.info? f.type).map fun i => (f.offset, i.size)
 | _ => none
theorem placesOf_ok {t : TypeId} {pl : List (Nat × Nat)} (h : placesOf Tryz.prog t = some pl) : BuildAt t pl := by
 unfold placesOf at h
 split at h
 ·rename_i fs hfs
  refine ⟨fs, hfs, fun w => ?_⟩
  have e0 : fs = fs.toList.toArray := by simp
  rw [e0, List.mapM_toArray]
  have : ∀ (l : List Field) (pl : List (Nat × Nat)), (l.mapM fun f => (Tryz.prog.info? f.type).map fun i => (f.offset, i.size)) = some pl → (l.mapM (fun f => do pure (f.offset, ← sizeOf f.type)) : Sem (List (Nat × Nat))).run Tryz.prog w = .ok pl w := by
   intro l
   induction l with
   | nil => intro pl h; simp at h; subst h; rfl
   | cons f l ih =>
    intro pl h
    rw [List.mapM_cons] at h
    cases hi : Tryz.prog.info? f.type with
    | none => simp [hi] at h
    | some i =>
     cases hr : (l.mapM fun f => (Tryz.prog.info? f.type).map fun i => (f.offset, i.size)) with
     | none => simp [hi, hr] at h
     | some r =>
      simp [hi, hr] at h
      subst h
      have := ih r hr
      simp only [List.mapM_cons, Sem.run_bind, sizeOf, typeInfo, hi] at this ⊢
      simp [this, sizeOf, typeInfo, hi]
      simpa [sizeOf, typeInfo] using congrArg (fun r => Result.andThen r fun a w => Result.ok ((f.offset, i.size) :: a) w) this
  have e := this _ _ h
  simp at e ⊢
  rw [e]; rfl
 ·cases h
def evLs (l : List (Nat × PV)) : List (Nat × Operand) → Option (List (Nat × E1))
 | [] => some []
 | (i, x) :: xs => match evO l x, evLs l xs with
  | some (.e e), some es => some ((i, e) :: es)
  | _, _ => none
theorem evLs_ok {l : List (Nat × PV)} : ∀ {xs : List (Nat × Operand)} {es : List (Nat × E1)}, evLs l xs = some es → EvL l xs es
 | [], es, h => by cases h; exact .nil
 | (i, x) :: xs, es, h => by
  unfold evLs at h
  split at h
  ·rename_i h1 h2; cases h; exact .cons (evO_ok h1) (evLs_ok h2)
  ·cases h
def evBuild (P : Program) (l : List (Nat × PV)) (t : TypeId) (parts : Array (Nat × Operand)) : R := match placesOf P t, zeroC P t, evLs l parts.toList with
 | some pl, some zs, some es => match zs.all (·.oneCell') with
  | true => match fillC (fun i => pl[i]?) (zs.map LC) es with
   | some cs => pv (.e (.agg cs))
   | none => none
  | false => none
 | _, _, _ => none
def zsAt (zs : List Value) (s : Nat) : Nat → List C
 | 0 => []
 | n + 1 => zsAt zs s n ++ zs.map LC
theorem zsAt_eq (zs : List Value) (s : Nat) (hs : zs.length = s) (h0 : 0 < s) : ∀ n, zsAt zs s n = (List.range (n * s)).map fun j => LC (zs.getD (j % s) undef)
 | 0 => by simp [zsAt]
 | n + 1 => by
  rw [zsAt, zsAt_eq zs s hs h0 n, Nat.succ_mul, List.range_add, List.map_append, List.map_map]
  congr 1
  apply List.ext_getElem?
  intro j
  rw [List.getElem?_map, List.getElem?_map]
  by_cases hj : j < s
  ·rw [List.getElem?_range hj]
   have : j < zs.length := by omega
   simp [Function.comp, Nat.add_mod, Nat.mod_eq_of_lt hj, List.getD_eq_getElem?_getD, this]
  ·rw [List.getElem?_eq_none (by omega), List.getElem?_eq_none (by rw [List.length_range]; omega)]; rfl
def evBS (P : Program) (l : List (Nat × PV)) (nx : Nat) (t : TypeId) (n : Nat) (parts : Array (Nat × Operand)) : R := match P.underlying t with
 | some (.slice e) => match tyOf P e, zeroC P e, evLs l parts.toList with
  | some (_, s), some zs, some es => match zs.all (·.oneCell') && (Nat.beq zs.length s && (Nat.blt 0 (n * s) && Nat.ble (n * s) 16777216)) with
   | true => match fillC (fun i => some (i * s, s)) (zsAt zs s n) es with
    | some cs => some ([], ⟨.e (.c (.own nx 0 n s true)), [(nx, some (e, BC.nrm cs))], [nx], []⟩)
    | none => none
   | false => none
  | _, _, _ => none
 | _ => none
section
variable {cx : Cx} {o : Oper} {l : List (Nat × PV)} {g : EH}
theorem evBuild_ok {t : TypeId} {parts : Array (Nat × Operand)} (ho : o.op = .build t parts) : OKR cx o l g (evBuild Tryz.prog l t parts) := by
 unfold evBuild
 split
 ·rename_i h1 h2 h3
  split
  ·rename_i h4
   split
   ·rename_i h5; exact OKR.some fun _ => ok_build ho (placesOf_ok h1) h2 h4 (evLs_ok h3) h5
   ·exact OKR.none
  ·exact OKR.none
 ·exact OKR.none
theorem evBS_ok {nx : Nat} {t : TypeId} {n : Nat} {parts : Array (Nat × Operand)} (ho : o.op = .buildSlice t n parts) : OKR cx o l g (evBS Tryz.prog l nx t n parts) := by
 unfold evBS
 split
 ·rename_i e hu
  split
  ·rename_i bb s zs es he hz hes
   split
   ·rename_i hc
    simp only [Bool.and_eq_true] at hc
    obtain ⟨h1, h2, h3, h4⟩ := hc
    have h2 := Nat.eq_of_beq_eq_true h2
    have h3 : 0 < n * s := Nat.le_of_ble_eq_true h3
    have h4 := Nat.le_of_ble_eq_true h4
    split
    ·rename_i cs hf
     refine OKR.some fun _ => ?_
     have h0 : 0 < s := by rcases Nat.eq_zero_or_pos s with h | h; (subst h; simp at h3); exact h
     rw [zsAt_eq zs s h2 h0] at hf
     have := ok_buildSlice (cx := cx) (g := toG g) (nx := nx) ho hu he hz h1 h2 (evLs_ok hes) h3 h4 hf
     rw [← BC.nrm_to cs] at this
     exact this
    ·exact OKR.none
   ·exact OKR.none
  ·exact OKR.none
 ·exact OKR.none
end
end Go.Proofs.YtcfmjpnffembpaaGreat
