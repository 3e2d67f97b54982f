/- Merged texts. -/
import Derived.Test.YtcfmjpnffembpaaGreatZAmF
namespace Go.Proofs.YtcfmjpnffembpaaGreat
open Go.ChangeShapes Go.WideShapes Go.ChangeAt Go.RowKit
set_option linter.unusedVariables false
set_option linter.unusedSimpArgs false
def k34 : List C → Option (List D)
 | [] => some []
 | .d x :: l => match k34 l with
  | some r => some (x :: r)
  | none => none
 | _ :: _ => none
theorem pP : ∀ {l : List C} {r : List D}, k34 l = some r → l = r.map .d
 | [], r, h => by cases h; rfl
 | .d x :: l, r, h => by
  unfold k34 at h
  split at h
  ·rename_i r' hr; cases h; rw [List.map_cons, ← pP hr]
  ·cases h
 | .own .. :: _, _, h => by cases h
 | .ptr .. :: _, _, h => by cases h
 | .rp .. :: _, _, h => by cases h
 | .fn .. :: _, _, h => by cases h
def nN (l : List C) : BC := match k34 l with
 | some r => .ds r
 | none => .cs l
theorem j4 (l : List C) : (nN l).to = l := by
 unfold nN
 split
 ·rename_i h; rw [pP h]; rfl
 ·rfl
def k1r : List D → Nat → List D → List D
 | cur, _, [] => cur
 | cur, o, c :: r => k1r (cur.set o c) (o + 1) r
theorem tE : ∀ (r : List D) (cur : List D) (o : Nat), mA (cur.map .d) o (r.map .d) = (k1r cur o r).map .d
 | [], _, _ => rfl
 | c :: r, cur, o => by
  show mA ((cur.map C.d).set o (.d c)) (o + 1) (r.map .d) = _
  rw [← List.map_set, tE r]; rfl
def u6p (off : Nat) : Nat → Nat
 | 0 => off
 | k + 1 => off + (k + 1)
theorem k9e (off k : Nat) : u6p off k = off + k := by cases k <;> rfl
def u20 (i : Nat) : Nat → Nat
 | 1 => i
 | s => i * s
theorem k7u (i s : Nat) : u20 i s = i * s := by
 unfold u20; split <;> simp
def u2s (P : Program) (t : TypeId) (i : Nat) : PV → R
 | .e (.c (.ptr b off)) => match iO P t i with
  | some (k, _, _ + 1) => pv (.e (.c (.ptr b (u6p off k))))
  | _ => none
 | .e (.c (.rp ds)) => match iO P t i with
  | some (k, _, _ + 1) => pv (.e (.c (.rp (ds.drop k))))
  | _ => none
 | _ => none
def k5t (P : Program) (t : TypeId) (i : Nat) : PV → R
 | .e (.agg cs) => match iO P t i with
  | some (k, false, 1) => match cs[k]? with
   | some c => pv (.e (.c c))
   | none => none
  | some (k, true, n) => pv (.e (.agg ((cs.drop k).take n)))
  | _ => none
 | _ => none
def zQ (P : Program) (h : H) (g : EH) (ty : TypeId) : PV → R
 | .e (.c (.ptr b off)) => match g.lookup b with
  | some (some (T, bc)) => match vD P ty with
   | some (false, 1) => match h, bc with
    | .d d, .ds l => some ([l[off]? = some d], ⟨.e (.c (.d d)), [], [], [b]⟩)
    | .no, bc => match bc.to[off]? with
     | some c => some ([], ⟨.e (.c c), [], [], [b]⟩)
     | none => none
    | _, _ => none
   | some (true, n) => match h, bc with
    | .ds r, .ds l => some ([(l.drop off).take n = r, r.length = n], ⟨.e (.agg (r.map .d)), [], [], [b]⟩)
    | .no, bc => match Nat.beq ((bc.to.drop off).take n).length n with
     | true => some ([], ⟨.e (.agg ((bc.to.drop off).take n)), [], [], [b]⟩)
     | false => none
    | _, _ => none
   | _ => none
  | _ => none
 | .e (.c (.rp ds)) => match vD P ty with
  | some (false, 1) => match h with
   | .d d => some ([ds[0]? = some d], ⟨.e (.c (.d d)), [], [], []⟩)
   | .no => match ds[0]? with
    | some d => some ([], ⟨.e (.c (.d d)), [], [], []⟩)
    | none => none
   | _ => none
  | some (true, n) => match h with
   | .ds r => some ([ds.take n = r, r.length = n], ⟨.e (.agg (r.map .d)), [], [], []⟩)
   | .no => match Nat.beq (ds.take n).length n with
    | true => some ([], ⟨.e (.agg ((ds.take n).map .d)), [], [], []⟩)
    | false => none
   | _ => none
  | _ => none
 | _ => none
def rZ (P : Program) (h : H) (g : EH) (ty : TypeId) : PV → PV → R
 | .e (.c (.ptr b off)), .e e => match g.lookup b with
  | some (some (T, bc)) => match vD P ty with
   | some (_, n) => match Nat.beq (vC e).length n with
    | true => match h, bc, k34 (vC e) with
     | .no, bc, _ => match Nat.ble (off + n) bc.to.length with
      | true => some ([], ⟨.any, [(b, some (T, nN (mA bc.to off (vC e))))], [], [b]⟩)
      | false => none
     | .ds r, .ds l, some x => some ([off + n ≤ l.length, k1r l off x = r], ⟨.any, [(b, some (T, .ds r))], [], [b]⟩)
     | _, _, _ => none
    | false => none
   | none => none
  | _ => none
 | _, _ => none
def r9 (P : Program) (nx : Nat) (T : TypeId) : R := match gE P T with
 | some zs => match zs.all (·.oneCell') with
  | true => some ([], ⟨.e (.c (.ptr nx 0)), [(nx, some (T, .ds (zs.map .lit)))], [nx], []⟩)
  | false => none
 | none => none
def k63 (nx : Nat) (T : TypeId) : PV → R
 | .e e => some ([], ⟨.e (.c (.ptr nx 0)), [(nx, some (T, nN (vC e)))], [nx], []⟩)
 | _ => none
section
variable {cx : Cx} {o : Oper} {l : List (Nat × PV)} {g : EH}
theorem k8v {t : TypeId} {i : Nat} {x : Operand} (ho : o.op = .fieldAddr t x i) {u : PV} (hu : Ev l x u) : OKR cx o l g (u2s Tryz.prog t i u) := by
 unfold u2s
 split
 ·split
  ·rename_i hf; exact OKR.some fun _ => rE ho hf hu (k9e _ _).symm
  ·exact OKR.none
 ·split
  ·rename_i hf; exact OKR.some fun _ => lH ho hf hu rfl
  ·exact OKR.none
 ·exact OKR.none
theorem k5s {t : TypeId} {i : Nat} {x : Operand} (ho : o.op = .field t x i) {u : PV} (hu : Ev l x u) : OKR cx o l g (k5t Tryz.prog t i u) := by
 unfold k5t
 split
 ·split
  ·rename_i hf
   split
   ·rename_i hc; exact OKR.some fun _ => k40 ho hf hu hc
   ·exact OKR.none
  ·rename_i hf; exact OKR.some fun _ => rD ho hf hu rfl
  ·exact OKR.none
 ·exact OKR.none
theorem k2a {h : H} {ty : TypeId} {x : Operand} (ho : o.op = .load ty x) {u : PV} (hu : Ev l x u) : OKR cx o l g (zQ Tryz.prog h g ty u) := by
 unfold zQ
 split
 ·split
  ·rename_i T bc hb
   have hb' := uS hb
   split
   ·rename_i ht
    split
    ·refine OKR.some fun hp => k0k ho ht hu hb' ?_
     have hp : _ = some _ := hp
     show (List.map C.d _)[_]? = _
     rw [List.getElem?_map, hp]; rfl
    ·split
     ·rename_i hc; exact OKR.some fun _ => k0k ho ht hu hb' hc
     ·exact OKR.none
    ·exact OKR.none
   ·rename_i ht
    split
    ·refine OKR.some fun hp => j8 ho ht hu hb' ?_ (by rw [List.length_map]; exact hp.2)
     show ((List.map C.d _).drop _).take _ = _
     rw [← List.map_drop, ← List.map_take, hp.1]
    ·split
     ·rename_i hl; exact OKR.some fun _ => j8 ho ht hu hb' rfl (Nat.eq_of_beq_eq_true hl)
     ·exact OKR.none
    ·exact OKR.none
   ·exact OKR.none
  ·exact OKR.none
 ·split
  ·rename_i ht
   split
   ·exact OKR.some fun hp => mR ho ht hu hp
   ·split
    ·rename_i hc; exact OKR.some fun _ => mR ho ht hu hc
    ·exact OKR.none
   ·exact OKR.none
  ·rename_i ht
   split
   ·exact OKR.some fun hp => fA ho ht hu hp.1 hp.2
   ·split
    ·rename_i hl; exact OKR.some fun _ => fA ho ht hu rfl (Nat.eq_of_beq_eq_true hl)
    ·exact OKR.none
   ·exact OKR.none
  ·exact OKR.none
 ·exact OKR.none
theorem zO {h : H} {ty : TypeId} {x y : Operand} (ho : o.op = .store ty x y) {u v : PV} (hu : Ev l x u) (hv : Ev l y v) : OKR cx o l g (rZ Tryz.prog h g ty u v) := by
 unfold rZ
 split
 ·split
  ·rename_i T bc hb
   have hb' := uS hb
   split
   ·rename_i ht
    split
    ·rename_i hn
     have hn := Nat.eq_of_beq_eq_true hn
     split
     ·split
      ·rename_i hl
       refine OKR.some fun _ => ?_
       have := tQ (cx := cx) ho ht hu hv hb' hn (Nat.le_of_ble_eq_true hl) (j4 _).symm
       exact this
      ·exact OKR.none
     ·rename_i hx
      refine OKR.some fun hp => ?_
      have e := pP hx
      have := tQ (cx := cx) (cs' := List.map C.d _) ho ht hu hv hb' hn (by show _ ≤ (List.map C.d _).length; rw [List.length_map]; exact hp.1) (by show mA (List.map C.d _) _ _ = _; rw [e, tE, show k1r _ _ _ = _ from hp.2])
      exact this
     ·exact OKR.none
    ·exact OKR.none
   ·exact OKR.none
  ·exact OKR.none
 ·exact OKR.none
theorem zX {nx : Nat} {T : TypeId} (ho : o.op = .alloc T) : OKR cx o l g (r9 Tryz.prog nx T) := by
 unfold r9
 split
 ·rename_i hz
  split
  ·rename_i h1
   refine OKR.some fun _ => ?_
   exact k22 ho hz h1 (by show _ = List.map C.d (List.map D.lit _); rw [List.map_map]; rfl)
  ·exact OKR.none
 ·exact OKR.none
theorem k62 {nx : Nat} {T : TypeId} {x : Operand} (ho : o.op = .box T x) {u : PV} (hu : Ev l x u) : OKR cx o l g (k63 nx T u) := by
 unfold k63
 split
 ·refine OKR.some fun _ => ?_
  have := u1y (cx := cx) (g := kE g) (nx := nx) ho hu
  rw [← j4 (vC _)] at this
  exact this
 ·exact OKR.none
end
/-! structs and slices that are written out -/
def mP (P : Program) (t : TypeId) : Option (List (Nat × Nat)) := match P.underlying t with
 | some (.struct fs) => fs.toList.mapM fun f => (P.info? f.type).map fun i => (f.offset, i.size)
 | _ => none
theorem tN {t : TypeId} {pl : List (Nat × Nat)} (h : mP Tryz.prog t = some pl) : k1o t pl := by
 unfold mP at h
 split at h
 ·rename_i fs hfs
  refine ⟨fs, hfs, fun w => ?_⟩
  have e0 : fs = fs.toList.toArray := by simp
  rw [e0, List.mapM_toArray]
  have : ∀ (l : List Field) (pl : List (Nat × Nat)), (l.mapM fun f => (Tryz.prog.info? f.type).map fun i => (f.offset, i.size)) = some pl → (l.mapM (fun f => do pure (f.offset, ← sizeOf f.type)) : Sem (List (Nat × Nat))).run Tryz.prog w = .ok pl w := by
   intro l
   induction l with
   | nil => intro pl h; simp at h; subst h; rfl
   | cons f l ih =>
    intro pl h
    rw [List.mapM_cons] at h
    cases hi : Tryz.prog.info? f.type with
    | none => simp [hi] at h
    | some i =>
     cases hr : (l.mapM fun f => (Tryz.prog.info? f.type).map fun i => (f.offset, i.size)) with
     | none => simp [hi, hr] at h
     | some r =>
      simp [hi, hr] at h
      subst h
      have := ih r hr
      simp only [List.mapM_cons, Sem.run_bind, sizeOf, typeInfo, hi] at this ⊢
      simp [this, sizeOf, typeInfo, hi]
      simpa [sizeOf, typeInfo] using congrArg (fun r => Result.andThen r fun a w => Result.ok ((f.offset, i.size) :: a) w) this
  have e := this _ _ h
  simp at e ⊢
  rw [e]; rfl
 ·cases h
def k5l (l : List (Nat × PV)) : List (Nat × Operand) → Option (List (Nat × E1))
 | [] => some []
 | (i, x) :: xs => match bC l x, k5l l xs with
  | some (.e e), some es => some ((i, e) :: es)
  | _, _ => none
theorem r6 {l : List (Nat × PV)} : ∀ {xs : List (Nat × Operand)} {es : List (Nat × E1)}, k5l l xs = some es → EvL l xs es
 | [], es, h => by cases h; exact .nil
 | (i, x) :: xs, es, h => by
  unfold k5l at h
  split at h
  ·rename_i h1 h2; cases h; exact .cons (jU h1) (r6 h2)
  ·cases h
def r8 (P : Program) (l : List (Nat × PV)) (t : TypeId) (parts : Array (Nat × Operand)) : R := match mP P t, gE P t, k5l l parts.toList with
 | some pl, some zs, some es => match zs.all (·.oneCell') with
  | true => match fE (fun i => pl[i]?) (zs.map LC) es with
   | some cs => pv (.e (.agg cs))
   | none => none
  | false => none
 | _, _, _ => none
def k30 (zs : List Value) (s : Nat) : Nat → List C
 | 0 => []
 | n + 1 => k30 zs s n ++ zs.map LC
theorem z9 (zs : List Value) (s : Nat) (hs : zs.length = s) (h0 : 0 < s) : ∀ n, k30 zs s n = (List.range (n * s)).map fun j => LC (zs.getD (j % s) undef)
 | 0 => by simp [k30]
 | n + 1 => by
  rw [k30, z9 zs s hs h0 n, Nat.succ_mul, List.range_add, List.map_append, List.map_map]
  congr 1
  apply List.ext_getElem?
  intro j
  rw [List.getElem?_map, List.getElem?_map]
  by_cases hj : j < s
  ·rw [List.getElem?_range hj]
   have : j < zs.length := by omega
   simp [Function.comp, Nat.add_mod, Nat.mod_eq_of_lt hj, List.getD_eq_getElem?_getD, this]
  ·rw [List.getElem?_eq_none (by omega), List.getElem?_eq_none (by rw [List.length_range]; omega)]; rfl
def u2u (P : Program) (l : List (Nat × PV)) (nx : Nat) (t : TypeId) (n : Nat) (parts : Array (Nat × Operand)) : R := match P.underlying t with
 | some (.slice e) => match vD P e, gE P e, k5l l parts.toList with
  | some (_, s), some zs, some es => match zs.all (·.oneCell') && (Nat.beq zs.length s && (Nat.blt 0 (n * s) && Nat.ble (n * s) 16777216)) with
   | true => match fE (fun i => some (i * s, s)) (k30 zs s n) es with
    | some cs => some ([], ⟨.e (.c (.own nx 0 n s true)), [(nx, some (e, nN cs))], [nx], []⟩)
    | none => none
   | false => none
  | _, _, _ => none
 | _ => none
section
variable {cx : Cx} {o : Oper} {l : List (Nat × PV)} {g : EH}
theorem zV {t : TypeId} {parts : Array (Nat × Operand)} (ho : o.op = .build t parts) : OKR cx o l g (r8 Tryz.prog l t parts) := by
 unfold r8
 split
 ·rename_i h1 h2 h3
  split
  ·rename_i h4
   split
   ·rename_i h5; exact OKR.some fun _ => k42 ho (tN h1) h2 h4 (r6 h3) h5
   ·exact OKR.none
  ·exact OKR.none
 ·exact OKR.none
theorem k8y {nx : Nat} {t : TypeId} {n : Nat} {parts : Array (Nat × Operand)} (ho : o.op = .buildSlice t n parts) : OKR cx o l g (u2u Tryz.prog l nx t n parts) := by
 unfold u2u
 split
 ·rename_i e hu
  split
  ·rename_i bb s zs es he hz hes
   split
   ·rename_i hc
    simp only [Bool.and_eq_true] at hc
    obtain ⟨h1, h2, h3, h4⟩ := hc
    have h2 := Nat.eq_of_beq_eq_true h2
    have h3 : 0 < n * s := Nat.le_of_ble_eq_true h3
    have h4 := Nat.le_of_ble_eq_true h4
    split
    ·rename_i cs hf
     refine OKR.some fun _ => ?_
     have h0 : 0 < s := by rcases Nat.eq_zero_or_pos s with h | h; (subst h; simp at h3); exact h
     rw [z9 zs s h2 h0] at hf
     have := nU (cx := cx) (g := kE g) (nx := nx) ho hu he hz h1 h2 (r6 hes) h3 h4 hf
     rw [← j4 cs] at this
     exact this
    ·exact OKR.none
   ·exact OKR.none
  ·exact OKR.none
 ·exact OKR.none
end
end Go.Proofs.YtcfmjpnffembpaaGreat
namespace Go.Proofs.YtcfmjpnffembpaaGreat
open Go.ChangeShapes Go.WideShapes Go.ChangeAt Go.RowKit
set_option linter.unusedVariables false
set_option linter.unusedSimpArgs false
def u30 (P : Program) (e : TypeId) : Option (Value × Nat × Nat) := match P.info? e with
 | some i => match i.zero with
  | some z => some (z, i.size, i.bytes)
  | none => none
 | none => none
theorem k16 {e : TypeId} {z : Value} {s bs : Nat} (h : u30 Tryz.prog e = some (z, s, bs)) : (Tryz.prog.info? e).map (fun i => (i.zero, i.size, i.bytes)) = some (some z, s, bs) := by
 unfold u30 at h
 split at h
 ·rename_i i hi
  split at h
  ·rename_i z' hz; cases h; rw [hi]; simp [hz]
  ·cases h
 ·cases h
def u60 (P : Program) (h : H) (nx : Nat) (t : TypeId) : PV → PV → R := fun _ _ => none
def u2q (P : Program) (h : H) (t : TypeId) : PV → PV → R
 | .e (.c (.own b off n s _)), .e (.c (.d (.lit (.int _ i)))) => match P.underlying t, h with
  | some (.slice e), .n2 k r => match vD P e with
   | some (_, s') => match Nat.beq s' s with
    | true => some ([i = (k : Int), k < n, off + k * s = r], ⟨.e (.c (.ptr b r)), [], [], []⟩)
    | false => none
   | none => none
  | _, _ => none
 | .e (.c (.d (.sl ds n))), .e (.c (.d (.lit (.int _ i)))) => match P.underlying t, h with
  | some (.slice e), .n k => match vD P e with
   | some (_, s) => some ([i = (k : Int), k < n], ⟨.e (.c (.rp (ds.drop (u20 k s)))), [], [], []⟩)
   | none => none
  | _, _ => none
 | _, _ => none
def wL (l : List (Nat × PV)) (d n : Nat) : Option Operand → Option (List Prop)
 | none => some [d = n]
 | some x => match bC l x with
  | some (.e (.c (.d (.lit (.int _ i))))) => some [i = (n : Int)]
  | _ => none
theorem fU {l : List (Nat × PV)} {d n : Nat} {x : Option Operand} {ps : List Prop} (h : wL l d n x = some ps) (hp : ∀ p ∈ ps, p) : Bd l d x n := by
 unfold wL at h
 split at h
 ·cases h; have := hp (d = n) (List.mem_cons_self ..); subst this; exact .no
 ·split at h
  ·rename_i hx; cases h; exact .yes (jU hx) (hp _ (List.mem_cons_self ..))
  ·cases h
def k5c (l : List (Nat × PV)) (lo hi : Option Operand) (n : Nat) : Option Operand → Option (List Prop)
 | none => some []
 | some x => match hi, bC l x with
  | some _, some (.e (.c (.d (.lit (.int _ i))))) => some [i = (n : Int)]
  | _, _ => none
theorem r5 {l : List (Nat × PV)} {lo hi : Option Operand} {n : Nat} {x : Option Operand} {ps : List Prop} (h : k5c l lo hi n x = some ps) (hp : ∀ p ∈ ps, p) : Mx l lo hi n x := by
 unfold k5c at h
 split at h
 ·exact .no
 ·split at h
  ·rename_i hx; cases h; exact .yes rfl (jU hx) (hp _ (List.mem_cons_self ..))
  ·cases h
def u2m (P : Program) (h : H) (l : List (Nat × PV)) (t : TypeId) (lo hi mx : Option Operand) : PV → R
 | .e (.c (.own b off n s _)) => match P.underlying t, h with
  | some (.slice e), .sl L H r k => match vD P e, wL l 0 L lo, wL l n H hi, k5c l lo hi H mx with
   | some (_, s'), some p1, some p2, some p3 => match Nat.beq s' s with
    | true => some (p1 ++ (p2 ++ (p3 ++ [L ≤ H, H ≤ n, off + L * s = r, H - L = k])), ⟨.e (.c (.own b r k s false)), [], [], []⟩)
    | false => none
   | _, _, _, _ => none
  | _, _ => none
 | .e (.c (.d (.sl ds n))) => match P.underlying t, h with
  | some (.slice e), .sls L H k r => match vD P e, wL l 0 L lo, wL l n H hi, k5c l lo hi H mx with
   | some (_, s), some p1, some p2, some p3 => some (p1 ++ (p2 ++ (p3 ++ [L ≤ H, H ≤ n, H - L = k, (ds.drop (L * s)).take (k * s) = r])), ⟨.e (.c (.d (.sl r k))), [], [], []⟩)
   | _, _, _, _ => none
  | _, _ => none
 | .e (.c (.d (.lit (.slice none 0 0)))) => match P.underlying t with
  | some (.slice e) => match vD P e, wL l 0 0 lo, wL l 0 0 hi, k5c l lo hi 0 mx with
   | some (_, _), some p1, some p2, some p3 => some (p1 ++ (p2 ++ p3), ⟨LV d5, [], [], []⟩)
   | _, _, _, _ => none
  | _ => none
 | _ => none
def k4l (P : Program) (t : TypeId) : Bool := match P.underlying t with
 | some (.slice e) => Nat.beq e (P.elem t)
 | _ => false
theorem k4k {t : TypeId} (h : k4l Tryz.prog t = true) : Tryz.prog.underlying t = some (.slice (Tryz.prog.elem t)) := by
 unfold k4l at h
 split at h
 ·rename_i e he; rw [he, ← Nat.eq_of_beq_eq_true h]
 ·cases h
def k5o (P : Program) (st : TypeId) (u : PV) : R := match k4l P st with
 | true => match u with
  | .e (.c (.own _ _ n _ _)) => pv (LV (.int .i64 n))
  | .e (.c (.d (.sl _ n))) => pv (LV (.int .i64 n))
  | .e (.c (.d (.lit (.slice none 0 0)))) => pv (LV (.int .i64 0))
  | _ => none
 | false => none
def k5e (h : H) : PV → PV → R
 | .e (.c (.d (.lit (.int k a)))), .e (.c (.d (.lit (.int k' b)))) => if k = k' then match h with
   | .no => pv (LV (.int k (min a b)))
   | .i r => oF [min a b = r] (LV (.int k r))
   | _ => none
  else none
 | _, _ => none
def k5h (h : H) : PV → PV → R
 | .e (.c (.d (.lit (.int k a)))), .e (.c (.d (.lit (.int k' b)))) => if k = k' then match h with
   | .no => pv (LV (.int k (max a b)))
   | .i r => oF [max a b = r] (LV (.int k r))
   | _ => none
  else none
 | _, _ => none
def k5g (h : H) : PV → PV → PV → R := fun _ _ _ => none
theorem k4b (a b : Int) : (if b < a then b else a) = min a b := by rw [Int.min_def]; by_cases h : b < a <;> simp [h] <;> omega
theorem k4e (a b : Int) : (if a < b then b else a) = max a b := by rw [Int.max_def]; by_cases h : a < b <;> simp [h] <;> omega
def k51 (g : EH) (s : Nat) (snap : Option (List D)) : PV → Option (List Prop × Nat × List D × List Nat)
 | .e (.c (.d (.lit (.slice none 0 0)))) => some ([], 0, [], [])
 | .e (.c (.d (.sl ds m))) => some ([ds.length = m * s], m, ds, [])
 | .e (.c (.own b off m s' _)) => match Nat.beq s' s, g.lookup b with
  | true, some (some (_, .ds l)) => match snap with
   | none => match off with
    | 0 => some ([l.length = m * s], m, l, [b])
    | _ => none
   | some r => some ([(l.drop off).take (m * s) = r, r.length = m * s], m, r, [b])
  | _, _ => none
 | _ => none
theorem wH {l : List (Nat × PV)} {g : EH} {s : Nat} {snap : Option (List D)} {y : Operand} {u : PV} (hu : Ev l y u) {ps : List Prop} {m : Nat} {ds : List D} {foot : List Nat} (h : k51 g s snap u = some (ps, m, ds, foot)) (hp : ∀ p ∈ ps, p) : Src l (kE g) s y m (ds.map .d) foot := by
 unfold k51 at h
 split at h
 ·cases h; exact .nil hu
 ·cases h; exact .sl hu (hp _ (List.mem_cons_self ..))
 ·split at h
  ·rename_i hs hb
   have hs := Nat.eq_of_beq_eq_true hs
   subst hs
   have hb' := uS hb
   split at h
   ·split at h
    ·cases h
     have h1 := hp _ (List.mem_cons_self ..)
     refine .own hu hb' ?_ (by rw [List.length_map]; exact h1)
     rw [List.drop_zero]; exact List.take_of_length_le (by show (List.map C.d _).length ≤ _; rw [List.length_map, h1]; exact Nat.le_refl _)
    ·cases h
   ·cases h
    have h1 := hp _ (List.mem_cons_self ..)
    have h2 := hp _ (List.mem_cons_of_mem _ (List.mem_cons_self ..))
    refine .own hu hb' ?_ (by rw [List.length_map]; exact h2)
    show ((List.map C.d _).drop _).take _ = _
    rw [← List.map_drop, ← List.map_take, h1]
  ·cases h
 ·cases h
def u2w (P : Program) (h : H) (g : EH) (nx : Nat) (t : TypeId) (u v : PV) : R := match P.underlying t, h with
 | some (.slice e), .ap snap n' r => match u30 P e with
  | some (z, s, bs) => match Nat.beq z.cells.size s && (Nat.blt 0 s && Nat.ble 1 bs), k51 g s snap v with
   | true, some (ps, m, ds, foot) => match u with
    | .e (.c (.d (.lit (.slice none 0 0)))) => some (ps ++ [m * bs ≤ 140737488355328, m = n', ds = r], ⟨.e (.c (.own nx 0 n' s true)), [(nx, some (e, .ds r))], [nx], foot⟩)
    | .e (.c (.own b 0 n s' true)) => match Nat.beq s' s, g.lookup b with
     | true, some (some (T, .ds l)) => match Nat.beq T e with
      | true => some (ps ++ [l.length = n * s, (n + m) * bs ≤ 140737488355328, n + m = n', l ++ ds = r], ⟨.e (.c (.own nx 0 n' s true)), [(b, none), (nx, some (e, .ds r))], [nx], b :: foot⟩)
      | false => none
     | _, _ => none
    | _ => none
   | _, _ => none
  | none => none
 | _, _ => none
def u5x (P : Program) (h : H) (g : EH) (nx : Nat) (t tn : TypeId) : PV → PV → R := fun _ _ => none
def u61 (P : Program) (h : H) (g : EH) (t : TypeId) (u v : PV) : R := none
section
variable {cx : Cx} {o : Oper} {l : List (Nat × PV)} {g : EH}
theorem t5 {n bs : Nat} (h : n * bs ≤ 140737488355328) (hb : 1 ≤ bs) : n ≤ maxLen := by
 have : n * 1 ≤ n * bs := Nat.mul_le_mul_left _ hb
 unfold maxLen; omega
theorem k8s {h : H} {nx : Nat} {t : TypeId} {x y : Operand} (ho : o.op = .makeSlice t x y) {u v : PV} (hu : Ev l x u) (hv : Ev l y v) : OKR cx o l g (u60 Tryz.prog h nx t u v) := OKR.none
theorem k8u {h : H} {t : TypeId} {x y : Operand} (ho : o.op = .indexAddr t x y) {u v : PV} (hu : Ev l x u) (hv : Ev l y v) : OKR cx o l g (u2q Tryz.prog h t u v) := by
 unfold u2q
 split
 ·split
  ·rename_i ht
   split
   ·rename_i he
    split
    ·rename_i hs
     have hs := Nat.eq_of_beq_eq_true hs
     subst hs
     refine OKR.some fun hp => ?_
     obtain ⟨h1, h2, h3⟩ := hp
     have h3 : _ = _ := h3
     subst h1
     exact k3z ho ht he hu hv (by omega) (by omega) (by rw [Int.toNat_natCast]; exact h3)
    ·exact OKR.none
   ·exact OKR.none
  ·exact OKR.none
 ·split
  ·rename_i ht
   split
   ·rename_i he
    refine OKR.some fun hp => ?_
    obtain ⟨h1, h2⟩ := hp
    have h2 : _ < _ := h2
    subst h1
    exact tT ho ht he hu hv (by omega) (by omega) (by rw [Int.toNat_natCast, k7u])
   ·exact OKR.none
  ·exact OKR.none
 ·exact OKR.none
theorem k8n {h : H} {t : TypeId} {x : Operand} {lo hi mx : Option Operand} (ho : o.op = .slice t x lo hi mx) {u : PV} (hu : Ev l x u) : OKR cx o l g (u2m Tryz.prog h l t lo hi mx u) := by
 unfold u2m
 split
 ·split
  ·rename_i ht
   split
   ·rename_i he h1 h2 h3
    split
    ·rename_i hs
     have hs := Nat.eq_of_beq_eq_true hs
     subst hs
     refine OKR.some fun hp => ?_
     have hp := (uH _).1 hp
     have q1 := fU h1 (fun p h => hp p (by simp [h]))
     have q2 := fU h2 (fun p h => hp p (by simp [h]))
     have q3 := r5 h3 (fun p h => hp p (by simp [h]))
     exact k3v ho ht he hu q1 q2 q3 (hp _ (by simp)) (hp _ (by simp)) (hp (_ + _ = _) (by simp)) (hp (_ - _ = _) (by simp))
    ·exact OKR.none
   ·exact OKR.none
  ·exact OKR.none
 ·split
  ·rename_i ht
   split
   ·rename_i he h1 h2 h3
    refine OKR.some fun hp => ?_
    have hp := (uH _).1 hp
    have q1 := fU h1 (fun p h => hp p (by simp [h]))
    have q2 := fU h2 (fun p h => hp p (by simp [h]))
    have q3 := r5 h3 (fun p h => hp p (by simp [h]))
    exact tR ho ht he hu q1 q2 q3 (hp _ (by simp)) (hp _ (by simp)) (hp (_ - _ = _) (by simp)) (hp (List.take _ _ = _) (by simp))
   ·exact OKR.none
  ·exact OKR.none
 ·split
  ·rename_i ht
   split
   ·rename_i he h1 h2 h3
    refine OKR.some fun hp => ?_
    have hp := (uH _).1 hp
    have q1 := fU h1 (fun p h => hp p (by simp [h]))
    have q2 := fU h2 (fun p h => hp p (by simp [h]))
    have q3 := r5 h3 (fun p h => hp p (by simp [h]))
    exact rC ho ht he hu q1 q2 q3
   ·exact OKR.none
  ·exact OKR.none
 ·exact OKR.none
theorem k5m {x : Operand} {st : TypeId} (ho : o.op = .call { callee := .builtin .len, args := #[x], argTypes := #[st] }) {u : PV} (hu : Ev l x u) : OKR cx o l g (k5o Tryz.prog st u) := by
 unfold k5o
 split
 ·rename_i hl
  have hl := k4k hl
  split
  ·exact OKR.some fun _ => x9 (ty := 0) (ts := #[]) ho hl hu k83
  ·exact OKR.some fun _ => x9 (ty := 0) (ts := #[]) ho hl hu u25
  ·exact OKR.some fun _ => x9 (ty := 0) (ts := #[]) ho hl hu k84
  ·exact OKR.none
 ·exact OKR.none
theorem k5d {h : H} {x y : Operand} {ts : Array TypeId} (ho : o.op = .call { callee := .builtin .min, args := #[x, y], argTypes := ts }) {u v : PV} (hu : Ev l x u) (hv : Ev l y v) : OKR cx o l g (k5e h u v) := by
 unfold k5e
 split
 ·split
  ·rename_i hk
   subst hk
   split
   ·exact OKR.some fun _ => k3x ho hu hv (k4b _ _)
   ·exact OKR.some fun hp => k3x ho hu hv ((k4b _ _).trans hp)
   ·exact OKR.none
  ·exact OKR.none
 ·exact OKR.none
theorem k5f {h : H} {x y : Operand} {ts : Array TypeId} (ho : o.op = .call { callee := .builtin .max, args := #[x, y], argTypes := ts }) {u v : PV} (hu : Ev l x u) (hv : Ev l y v) : OKR cx o l g (k5h h u v) := by
 unfold k5h
 split
 ·split
  ·rename_i hk
   subst hk
   split
   ·exact OKR.some fun _ => k3y ho hu hv (k4e _ _)
   ·exact OKR.some fun hp => k3y ho hu hv ((k4e _ _).trans hp)
   ·exact OKR.none
  ·exact OKR.none
 ·exact OKR.none
theorem k28 {h : H} {x y z : Operand} {ts : Array TypeId} (ho : o.op = .call { callee := .builtin .max, args := #[x, y, z], argTypes := ts }) {u v q : PV} (hu : Ev l x u) (hv : Ev l y v) (hq : Ev l z q) : OKR cx o l g (k5g h u v q) := OKR.none
theorem k90 {h : H} {nx : Nat} {x y : Operand} {t : TypeId} (ho : o.op = .call { callee := .builtin .append, args := #[x, y], argTypes := #[t, t] }) {u v : PV} (hu : Ev l x u) (hv : Ev l y v) : OKR cx o l g (u2w Tryz.prog h g nx t u v) := by
 unfold u2w
 split
 ·rename_i ht
  split
  ·rename_i he
   split
   ·rename_i hc hsrc
    simp only [Bool.and_eq_true] at hc
    obtain ⟨c1, c2, c3⟩ := hc
    have c1 := Nat.eq_of_beq_eq_true c1
    have c2 : 0 < _ := Nat.le_of_ble_eq_true c2
    have c3 := Nat.le_of_ble_eq_true c3
    split
    ·refine OKR.some fun hp => ?_
     have hp := (uH _).1 hp
     have hS := wH hv hsrc (fun p h => hp p (by simp [h]))
     have h1 := hp (_ * _ ≤ _) (List.mem_append_right _ (List.mem_cons_self ..))
     have h2 := hp (_ = _) (List.mem_append_right _ (List.mem_cons_of_mem _ (List.mem_cons_self ..)))
     have h3 := hp (_ = _) (List.mem_append_right _ (List.mem_cons_of_mem _ (List.mem_cons_of_mem _ (List.mem_cons_self ..))))
     subst h2
     exact mS ho ht (k16 he) c1 c2 hu hS (t5 h1 c3) h1 (by rw [h3]; rfl)
    ·split
     ·rename_i hs hb
      have hs := Nat.eq_of_beq_eq_true hs
      subst hs
      split
      ·rename_i hT
       have hT := Nat.eq_of_beq_eq_true hT
       subst hT
       refine OKR.some fun hp => ?_
       have hp := (uH _).1 hp
       have hS := wH hv hsrc (fun p h => hp p (by simp [h]))
       have h1 := hp (_ = _) (List.mem_append_right _ (List.mem_cons_self ..))
       have h2 := hp (_ ≤ _) (List.mem_append_right _ (List.mem_cons_of_mem _ (List.mem_cons_self ..)))
       have h3 := hp (_ = _) (List.mem_append_right _ (List.mem_cons_of_mem _ (List.mem_cons_of_mem _ (List.mem_cons_self ..))))
       have h4 := hp (_ = _) (List.mem_append_right _ (List.mem_cons_of_mem _ (List.mem_cons_of_mem _ (List.mem_cons_of_mem _ (List.mem_cons_self ..)))))
       exact zC ho ht (k16 he) c1 c2 hu (uS hb) (by show (List.map C.d _).length = _; rw [List.length_map]; exact h1) hS (t5 h2 c3) h2 (by show List.map C.d _ ++ _ = List.map C.d _; rw [← List.map_append, h4]) h3
      ·exact OKR.none
     ·exact OKR.none
    ·exact OKR.none
   ·exact OKR.none
  ·exact OKR.none
 ·exact OKR.none
theorem k8l {h : H} {nx : Nat} {x y : Operand} {t tn : TypeId} (ho : o.op = .call { callee := .builtin .append, args := #[x, y], argTypes := #[t, tn] }) {u v : PV} (hu : Ev l x u) (hv : Ev l y v) : OKR cx o l g (u5x Tryz.prog h g nx t tn u v) := OKR.none
theorem k8w {h : H} {x y : Operand} {t st : TypeId} (ho : o.op = .call { callee := .builtin .copy, args := #[x, y], argTypes := #[t, st] }) {u v : PV} (hu : Ev l x u) (hv : Ev l y v) : OKR cx o l g (u61 Tryz.prog h g t u v) := OKR.none
end
end Go.Proofs.YtcfmjpnffembpaaGreat
