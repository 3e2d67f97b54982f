/- Merged texts. -/
import Derived.Test.YtbicifcgghmhaaaGreatZAmF
namespace Go.Proofs.YtbicifcgghmhaaaGreat
open Go.ChangeShapes Go.WideShapes Go.ChangeAt Go.RowKit
set_option linter.unusedVariables false
set_option linter.unusedSimpArgs false
def k4k : List C → Option (List D)
 | [] => some []
 | .d x :: l => match k4k l with
  | some r => some (x :: r)
  | none => none
 | _ :: _ => none
theorem pM : ∀ {l : List C} {r : List D}, k4k l = some r → l = r.map .d
 | [], r, h => by cases h; rfl
 | .d x :: l, r, h => by
  unfold k4k at h
  split at h
  ·rename_i r' hr; cases h; rw [List.map_cons, ← pM hr]
  ·cases h
 | .own .. :: _, _, h => by cases h
 | .ptr .. :: _, _, h => by cases h
 | .rp .. :: _, _, h => by cases h
 | .fn .. :: _, _, h => by cases h
def nA (l : List C) : BC := match k4k l with
 | some r => .ds r
 | none => .cs l
theorem jO (l : List C) : (nA l).to = l := by
 unfold nA
 split
 ·rename_i h; rw [pM h]; rfl
 ·rfl
def nH : List D → Nat → List D → List D
 | cur, _, [] => cur
 | cur, o, c :: r => nH (cur.set o c) (o + 1) r
theorem tP : ∀ (r : List D) (cur : List D) (o : Nat), l6 (cur.map .d) o (r.map .d) = (nH cur o r).map .d
 | [], _, _ => rfl
 | c :: r, cur, o => by
  show l6 ((cur.map C.d).set o (.d c)) (o + 1) (r.map .d) = _
  rw [← List.map_set, tP r]; rfl
def v2f (off : Nat) : Nat → Nat
 | 0 => off
 | k + 1 => off + (k + 1)
theorem u2r (off k : Nat) : v2f off k = off + k := by cases k <;> rfl
def u6i (i : Nat) : Nat → Nat
 | 1 => i
 | s => i * s
theorem u0w (i s : Nat) : u6i i s = i * s := by
 unfold u6i; split <;> simp
def u7h (P : Program) (t : TypeId) (i : Nat) : PV → R
 | .e (.c (.ptr b off)) => match hY P t i with
  | some (k, _, _ + 1) => pv (.e (.c (.ptr b (v2f off k))))
  | _ => none
 | .e (.c (.rp ds)) => match hY P t i with
  | some (k, _, _ + 1) => pv (.e (.c (.rp (ds.drop k))))
  | _ => none
 | _ => none
def k88 (P : Program) (t : TypeId) (i : Nat) : PV → R
 | .e (.agg cs) => match hY P t i with
  | some (k, false, 1) => match cs[k]? with
   | some c => pv (.e (.c c))
   | none => none
  | some (k, true, n) => pv (.e (.agg ((cs.drop k).take n)))
  | _ => none
 | _ => none
def k0b (P : Program) (h : H) (g : EH) (ty : TypeId) : PV → R
 | .e (.c (.ptr b off)) => match g.lookup b with
  | some (some (T, bc)) => match yY P ty with
   | some (false, 1) => match h, bc with
    | .d d, .ds l => some ([l[off]? = some d], ⟨.e (.c (.d d)), [], [], [b]⟩)
    | .no, bc => match bc.to[off]? with
     | some c => some ([], ⟨.e (.c c), [], [], [b]⟩)
     | none => none
    | _, _ => none
   | some (true, n) => match h, bc with
    | .ds r, .ds l => some ([(l.drop off).take n = r, r.length = n], ⟨.e (.agg (r.map .d)), [], [], [b]⟩)
    | .no, bc => match Nat.beq ((bc.to.drop off).take n).length n with
     | true => some ([], ⟨.e (.agg ((bc.to.drop off).take n)), [], [], [b]⟩)
     | false => none
    | _, _ => none
   | _ => none
  | _ => none
 | .e (.c (.rp ds)) => match yY P ty with
  | some (false, 1) => match h with
   | .d d => some ([ds[0]? = some d], ⟨.e (.c (.d d)), [], [], []⟩)
   | .no => match ds[0]? with
    | some d => some ([], ⟨.e (.c (.d d)), [], [], []⟩)
    | none => none
   | _ => none
  | some (true, n) => match h with
   | .ds r => some ([ds.take n = r, r.length = n], ⟨.e (.agg (r.map .d)), [], [], []⟩)
   | .no => match Nat.beq (ds.take n).length n with
    | true => some ([], ⟨.e (.agg ((ds.take n).map .d)), [], [], []⟩)
    | false => none
   | _ => none
  | _ => none
 | _ => none
def sA (P : Program) (h : H) (g : EH) (ty : TypeId) : PV → PV → R
 | .e (.c (.ptr b off)), .e e => match g.lookup b with
  | some (some (T, bc)) => match yY P ty with
   | some (_, n) => match Nat.beq (yX e).length n with
    | true => match h, bc, k4k (yX e) with
     | .no, bc, _ => match Nat.ble (off + n) bc.to.length with
      | true => some ([], ⟨.any, [(b, some (T, nA (l6 bc.to off (yX e))))], [], [b]⟩)
      | false => none
     | .ds r, .ds l, some x => some ([off + n ≤ l.length, nH l off x = r], ⟨.any, [(b, some (T, .ds r))], [], [b]⟩)
     | _, _, _ => none
    | false => none
   | none => none
  | _ => none
 | _, _ => none
def sE (P : Program) (nx : Nat) (T : TypeId) : R := match fS P T with
 | some zs => match zs.all (·.oneCell') with
  | true => some ([], ⟨.e (.c (.ptr nx 0)), [(nx, some (T, .ds (zs.map .lit)))], [nx], []⟩)
  | false => none
 | none => none
def k8i (nx : Nat) (T : TypeId) : PV → R
 | .e e => some ([], ⟨.e (.c (.ptr nx 0)), [(nx, some (T, nA (yX e)))], [nx], []⟩)
 | _ => none
section
variable {cx : Cx} {o : Oper} {l : List (Nat × PV)} {g : EH}
theorem u1z {t : TypeId} {i : Nat} {x : Operand} (ho : o.op = .fieldAddr t x i) {u : PV} (hu : Ev l x u) : OKR cx o l g (u7h Tryz.prog t i u) := by
 unfold u7h
 split
 ·split
  ·rename_i hf; exact OKR.some fun _ => rE ho hf hu (u2r _ _).symm
  ·exact OKR.none
 ·split
  ·rename_i hf; exact OKR.some fun _ => j5 ho hf hu rfl
  ·exact OKR.none
 ·exact OKR.none
theorem k87 {t : TypeId} {i : Nat} {x : Operand} (ho : o.op = .field t x i) {u : PV} (hu : Ev l x u) : OKR cx o l g (k88 Tryz.prog t i u) := by
 unfold k88
 split
 ·split
  ·rename_i hf
   split
   ·rename_i hc; exact OKR.some fun _ => k5w ho hf hu hc
   ·exact OKR.none
  ·rename_i hf; exact OKR.some fun _ => rD ho hf hu rfl
  ·exact OKR.none
 ·exact OKR.none
theorem k3f {h : H} {ty : TypeId} {x : Operand} (ho : o.op = .load ty x) {u : PV} (hu : Ev l x u) : OKR cx o l g (k0b Tryz.prog h g ty u) := by
 unfold k0b
 split
 ·split
  ·rename_i T bc hb
   have hb' := uM hb
   split
   ·rename_i ht
    split
    ·refine OKR.some fun hp => k1g ho ht hu hb' ?_
     have hp : _ = some _ := hp
     show (List.map C.d _)[_]? = _
     rw [List.getElem?_map, hp]; rfl
    ·split
     ·rename_i hc; exact OKR.some fun _ => k1g ho ht hu hb' hc
     ·exact OKR.none
    ·exact OKR.none
   ·rename_i ht
    split
    ·refine OKR.some fun hp => jS ho ht hu hb' ?_ (by rw [List.length_map]; exact hp.2)
     show ((List.map C.d _).drop _).take _ = _
     rw [← List.map_drop, ← List.map_take, hp.1]
    ·split
     ·rename_i hl; exact OKR.some fun _ => jS ho ht hu hb' rfl (Nat.eq_of_beq_eq_true hl)
     ·exact OKR.none
    ·exact OKR.none
   ·exact OKR.none
  ·exact OKR.none
 ·split
  ·rename_i ht
   split
   ·exact OKR.some fun hp => mM ho ht hu hp
   ·split
    ·rename_i hc; exact OKR.some fun _ => mM ho ht hu hc
    ·exact OKR.none
   ·exact OKR.none
  ·rename_i ht
   split
   ·exact OKR.some fun hp => eT ho ht hu hp.1 hp.2
   ·split
    ·rename_i hl; exact OKR.some fun _ => eT ho ht hu rfl (Nat.eq_of_beq_eq_true hl)
    ·exact OKR.none
   ·exact OKR.none
  ·exact OKR.none
 ·exact OKR.none
theorem k09 {h : H} {ty : TypeId} {x y : Operand} (ho : o.op = .store ty x y) {u v : PV} (hu : Ev l x u) (hv : Ev l y v) : OKR cx o l g (sA Tryz.prog h g ty u v) := by
 unfold sA
 split
 ·split
  ·rename_i T bc hb
   have hb' := uM hb
   split
   ·rename_i ht
    split
    ·rename_i hn
     have hn := Nat.eq_of_beq_eq_true hn
     split
     ·split
      ·rename_i hl
       refine OKR.some fun _ => ?_
       have := t6 (cx := cx) ho ht hu hv hb' hn (Nat.le_of_ble_eq_true hl) (jO _).symm
       exact this
      ·exact OKR.none
     ·rename_i hx
      refine OKR.some fun hp => ?_
      have e := pM hx
      have := t6 (cx := cx) (cs' := List.map C.d _) ho ht hu hv hb' hn (by show _ ≤ (List.map C.d _).length; rw [List.length_map]; exact hp.1) (by show l6 (List.map C.d _) _ _ = _; rw [e, tP, show nH _ _ _ = _ from hp.2])
      exact this
     ·exact OKR.none
    ·exact OKR.none
   ·exact OKR.none
  ·exact OKR.none
 ·exact OKR.none
theorem k0i {nx : Nat} {T : TypeId} (ho : o.op = .alloc T) : OKR cx o l g (sE Tryz.prog nx T) := by
 unfold sE
 split
 ·rename_i hz
  split
  ·rename_i h1
   refine OKR.some fun _ => ?_
   exact k38 ho hz h1 (by show _ = List.map C.d (List.map D.lit _); rw [List.map_map]; rfl)
  ·exact OKR.none
 ·exact OKR.none
theorem k8h {nx : Nat} {T : TypeId} {x : Operand} (ho : o.op = .box T x) {u : PV} (hu : Ev l x u) : OKR cx o l g (k8i nx T u) := by
 unfold k8i
 split
 ·refine OKR.some fun _ => ?_
  have := u6g (cx := cx) (g := kF g) (nx := nx) ho hu
  rw [← jO (yX _)] at this
  exact this
 ·exact OKR.none
end
/-! structs and slices that are written out -/
def mJ (P : Program) (t : TypeId) : Option (List (Nat × Nat)) := match P.underlying t with
 | some (.struct fs) => fs.toList.mapM fun f => (P.info? f.type).map fun i => (f.offset, i.size)
 | _ => none
theorem tZ {t : TypeId} {pl : List (Nat × Nat)} (h : mJ Tryz.prog t = some pl) : k2w t pl := by
 unfold mJ at h
 split at h
 ·rename_i fs hfs
  refine ⟨fs, hfs, fun w => ?_⟩
  have e0 : fs = fs.toList.toArray := by simp
  rw [e0, List.mapM_toArray]
  have : ∀ (l : List Field) (pl : List (Nat × Nat)), (l.mapM fun f => (Tryz.prog.info? f.type).map fun i => (f.offset, i.size)) = some pl → (l.mapM (fun f => do pure (f.offset, ← sizeOf f.type)) : Sem (List (Nat × Nat))).run Tryz.prog w = .ok pl w := by
   intro l
   induction l with
   | nil => intro pl h; simp at h; subst h; rfl
   | cons f l ih =>
    intro pl h
    rw [List.mapM_cons] at h
    cases hi : Tryz.prog.info? f.type with
    | none => simp [hi] at h
    | some i =>
     cases hr : (l.mapM fun f => (Tryz.prog.info? f.type).map fun i => (f.offset, i.size)) with
     | none => simp [hi, hr] at h
     | some r =>
      simp [hi, hr] at h
      subst h
      have := ih r hr
      simp only [List.mapM_cons, Sem.run_bind, sizeOf, typeInfo, hi] at this ⊢
      simp [this, sizeOf, typeInfo, hi]
      simpa [sizeOf, typeInfo] using congrArg (fun r => Result.andThen r fun a w => Result.ok ((f.offset, i.size) :: a) w) this
  have e := this _ _ h
  simp at e ⊢
  rw [e]; rfl
 ·cases h
def k80 (l : List (Nat × PV)) : List (Nat × Operand) → Option (List (Nat × E1))
 | [] => some []
 | (i, x) :: xs => match aX l x, k80 l xs with
  | some (.e e), some es => some ((i, e) :: es)
  | _, _ => none
theorem sC {l : List (Nat × PV)} : ∀ {xs : List (Nat × Operand)} {es : List (Nat × E1)}, k80 l xs = some es → EvL l xs es
 | [], es, h => by cases h; exact .nil
 | (i, x) :: xs, es, h => by
  unfold k80 at h
  split at h
  ·rename_i h1 h2; cases h; exact .cons (jG h1) (sC h2)
  ·cases h
def sD (P : Program) (l : List (Nat × PV)) (t : TypeId) (parts : Array (Nat × Operand)) : R := match mJ P t, fS P t, k80 l parts.toList with
 | some pl, some zs, some es => match zs.all (·.oneCell') with
  | true => match eW (fun i => pl[i]?) (zs.map LC) es with
   | some cs => pv (.e (.agg cs))
   | none => none
  | false => none
 | _, _, _ => none
def k49 (zs : List Value) (s : Nat) : Nat → List C
 | 0 => []
 | n + 1 => k49 zs s n ++ zs.map LC
theorem k0q (zs : List Value) (s : Nat) (hs : zs.length = s) (h0 : 0 < s) : ∀ n, k49 zs s n = (List.range (n * s)).map fun j => LC (zs.getD (j % s) undef)
 | 0 => by simp [k49]
 | n + 1 => by
  rw [k49, k0q zs s hs h0 n, Nat.succ_mul, List.range_add, List.map_append, List.map_map]
  congr 1
  apply List.ext_getElem?
  intro j
  rw [List.getElem?_map, List.getElem?_map]
  by_cases hj : j < s
  ·rw [List.getElem?_range hj]
   have : j < zs.length := by omega
   simp [Function.comp, Nat.add_mod, Nat.mod_eq_of_lt hj, List.getD_eq_getElem?_getD, this]
  ·rw [List.getElem?_eq_none (by omega), List.getElem?_eq_none (by rw [List.length_range]; omega)]; rfl
def u7j (P : Program) (l : List (Nat × PV)) (nx : Nat) (t : TypeId) (n : Nat) (parts : Array (Nat × Operand)) : R := match P.underlying t with
 | some (.slice e) => match yY P e, fS P e, k80 l parts.toList with
  | some (_, s), some zs, some es => match zs.all (·.oneCell') && (Nat.beq zs.length s && (Nat.blt 0 (n * s) && Nat.ble (n * s) 16777216)) with
   | true => match eW (fun i => some (i * s, s)) (k49 zs s n) es with
    | some cs => some ([], ⟨.e (.c (.own nx 0 n s true)), [(nx, some (e, nA cs))], [nx], []⟩)
    | none => none
   | false => none
  | _, _, _ => none
 | _ => none
section
variable {cx : Cx} {o : Oper} {l : List (Nat × PV)} {g : EH}
theorem k0g {t : TypeId} {parts : Array (Nat × Operand)} (ho : o.op = .build t parts) : OKR cx o l g (sD Tryz.prog l t parts) := by
 unfold sD
 split
 ·rename_i h1 h2 h3
  split
  ·rename_i h4
   split
   ·rename_i h5; exact OKR.some fun _ => k5y ho (tZ h1) h2 h4 (sC h3) h5
   ·exact OKR.none
  ·exact OKR.none
 ·exact OKR.none
theorem u22 {nx : Nat} {t : TypeId} {n : Nat} {parts : Array (Nat × Operand)} (ho : o.op = .buildSlice t n parts) : OKR cx o l g (u7j Tryz.prog l nx t n parts) := by
 unfold u7j
 split
 ·rename_i e hu
  split
  ·rename_i bb s zs es he hz hes
   split
   ·rename_i hc
    simp only [Bool.and_eq_true] at hc
    obtain ⟨h1, h2, h3, h4⟩ := hc
    have h2 := Nat.eq_of_beq_eq_true h2
    have h3 : 0 < n * s := Nat.le_of_ble_eq_true h3
    have h4 := Nat.le_of_ble_eq_true h4
    split
    ·rename_i cs hf
     refine OKR.some fun _ => ?_
     have h0 : 0 < s := by rcases Nat.eq_zero_or_pos s with h | h; (subst h; simp at h3); exact h
     rw [k0q zs s h2 h0] at hf
     have := nN (cx := cx) (g := kF g) (nx := nx) ho hu he hz h1 h2 (sC hes) h3 h4 hf
     rw [← jO cs] at this
     exact this
    ·exact OKR.none
   ·exact OKR.none
  ·exact OKR.none
 ·exact OKR.none
end
end Go.Proofs.YtbicifcgghmhaaaGreat
namespace Go.Proofs.YtbicifcgghmhaaaGreat
open Go.ChangeShapes Go.WideShapes Go.ChangeAt Go.RowKit
set_option linter.unusedVariables false
set_option linter.unusedSimpArgs false
def u28 (P : Program) (e : TypeId) : Option (Value × Nat × Nat) := match P.info? e with
 | some i => match i.zero with
  | some z => some (z, i.size, i.bytes)
  | none => none
 | none => none
theorem lK {e : TypeId} {z : Value} {s bs : Nat} (h : u28 Tryz.prog e = some (z, s, bs)) : (Tryz.prog.info? e).map (fun i => (i.zero, i.size, i.bytes)) = some (some z, s, bs) := by
 unfold u28 at h
 split at h
 ·rename_i i hi
  split at h
  ·rename_i z' hz; cases h; rw [hi]; simp [hz]
  ·cases h
 ·cases h
def u7d (P : Program) (h : H) (nx : Nat) (t : TypeId) : PV → PV → R
 | .e (.c (.d (.lit (.int _ ix)))), .e (.c (.d (.lit (.int _ iy)))) => match P.underlying t, h with
  | some (.slice e), .mk n c r => match u28 P e with
   | some (z, 1, bs) => match z.oneCell' && Nat.ble 1 bs with
    | true => some ([ix = (n : Int), iy = (c : Int), n ≤ c, bs * c ≤ 281474976710656, List.replicate n (.lit z) = r], ⟨.e (.c (.own nx 0 n 1 true)), [(nx, some (e, .ds r))], [nx], []⟩)
    | false => none
   | some (z, s, bs) => match Nat.beq z.cells.size s && (z.cells.toList.all Value.oneCell' && Nat.ble 1 bs) with
    | true => some ([ix = (n : Int), iy = (c : Int), n = c, bs * c ≤ 281474976710656, (List.replicate n (z.cells.toList.map D.lit)).flatten = r], ⟨.e (.c (.own nx 0 n s true)), [(nx, some (e, .ds r))], [nx], []⟩)
    | false => none
   | none => none
  | _, _ => none
 | _, _ => none
def u7f (P : Program) (h : H) (t : TypeId) : PV → PV → R
 | .e (.c (.own b off n s _)), .e (.c (.d (.lit (.int _ i)))) => match P.underlying t, h with
  | some (.slice e), .n2 k r => match yY P e with
   | some (_, s') => match Nat.beq s' s with
    | true => some ([i = (k : Int), k < n, off + k * s = r], ⟨.e (.c (.ptr b r)), [], [], []⟩)
    | false => none
   | none => none
  | _, _ => none
 | .e (.c (.d (.sl ds n))), .e (.c (.d (.lit (.int _ i)))) => match P.underlying t, h with
  | some (.slice e), .n k => match yY P e with
   | some (_, s) => some ([i = (k : Int), k < n], ⟨.e (.c (.rp (ds.drop (u6i k s)))), [], [], []⟩)
   | none => none
  | _, _ => none
 | _, _ => none
def xA (l : List (Nat × PV)) (d n : Nat) : Option Operand → Option (List Prop)
 | none => some [d = n]
 | some x => match aX l x with
  | some (.e (.c (.d (.lit (.int _ i))))) => some [i = (n : Int)]
  | _ => none
theorem fJ {l : List (Nat × PV)} {d n : Nat} {x : Option Operand} {ps : List Prop} (h : xA l d n x = some ps) (hp : ∀ p ∈ ps, p) : Bd l d x n := by
 unfold xA at h
 split at h
 ·cases h; have := hp (d = n) (List.mem_cons_self ..); subst this; exact .no
 ·split at h
  ·rename_i hx; cases h; exact .yes (jG hx) (hp _ (List.mem_cons_self ..))
  ·cases h
def k7r (l : List (Nat × PV)) (lo hi : Option Operand) (n : Nat) : Option Operand → Option (List Prop)
 | none => some []
 | some x => match hi, aX l x with
  | some _, some (.e (.c (.d (.lit (.int _ i))))) => some [i = (n : Int)]
  | _, _ => none
theorem sB {l : List (Nat × PV)} {lo hi : Option Operand} {n : Nat} {x : Option Operand} {ps : List Prop} (h : k7r l lo hi n x = some ps) (hp : ∀ p ∈ ps, p) : Mx l lo hi n x := by
 unfold k7r at h
 split at h
 ·exact .no
 ·split at h
  ·rename_i hx; cases h; exact .yes rfl (jG hx) (hp _ (List.mem_cons_self ..))
  ·cases h
def u7a (P : Program) (h : H) (l : List (Nat × PV)) (t : TypeId) (lo hi mx : Option Operand) : PV → R
 | .e (.c (.own b off n s _)) => match P.underlying t, h with
  | some (.slice e), .sl L H r k => match yY P e, xA l 0 L lo, xA l n H hi, k7r l lo hi H mx with
   | some (_, s'), some p1, some p2, some p3 => match Nat.beq s' s with
    | true => some (p1 ++ (p2 ++ (p3 ++ [L ≤ H, H ≤ n, off + L * s = r, H - L = k])), ⟨.e (.c (.own b r k s false)), [], [], []⟩)
    | false => none
   | _, _, _, _ => none
  | _, _ => none
 | .e (.c (.d (.sl ds n))) => match P.underlying t, h with
  | some (.slice e), .sls L H k r => match yY P e, xA l 0 L lo, xA l n H hi, k7r l lo hi H mx with
   | some (_, s), some p1, some p2, some p3 => some (p1 ++ (p2 ++ (p3 ++ [L ≤ H, H ≤ n, H - L = k, (ds.drop (L * s)).take (k * s) = r])), ⟨.e (.c (.d (.sl r k))), [], [], []⟩)
   | _, _, _, _ => none
  | _, _ => none
 | .e (.c (.d (.lit (.slice none 0 0)))) => match P.underlying t with
  | some (.slice e) => match yY P e, xA l 0 0 lo, xA l 0 0 hi, k7r l lo hi 0 mx with
   | some (_, _), some p1, some p2, some p3 => some (p1 ++ (p2 ++ p3), ⟨LV dR, [], [], []⟩)
   | _, _, _, _ => none
  | _ => none
 | _ => none
def k6p (P : Program) (t : TypeId) : Bool := match P.underlying t with
 | some (.slice e) => Nat.beq e (P.elem t)
 | _ => false
theorem k6o {t : TypeId} (h : k6p Tryz.prog t = true) : Tryz.prog.underlying t = some (.slice (Tryz.prog.elem t)) := by
 unfold k6p at h
 split at h
 ·rename_i e he; rw [he, ← Nat.eq_of_beq_eq_true h]
 ·cases h
def k83 (P : Program) (st : TypeId) (u : PV) : R := match k6p P st with
 | true => match u with
  | .e (.c (.own _ _ n _ _)) => pv (LV (.int .i64 n))
  | .e (.c (.d (.sl _ n))) => pv (LV (.int .i64 n))
  | .e (.c (.d (.lit (.slice none 0 0)))) => pv (LV (.int .i64 0))
  | _ => none
 | false => none
def k7t (h : H) : PV → PV → R
 | .e (.c (.d (.lit (.int k a)))), .e (.c (.d (.lit (.int k' b)))) => if k = k' then match h with
   | .no => pv (LV (.int k (min a b)))
   | .i r => oC [min a b = r] (LV (.int k r))
   | _ => none
  else none
 | _, _ => none
def k7w (h : H) : PV → PV → R
 | .e (.c (.d (.lit (.int k a)))), .e (.c (.d (.lit (.int k' b)))) => if k = k' then match h with
   | .no => pv (LV (.int k (max a b)))
   | .i r => oC [max a b = r] (LV (.int k r))
   | _ => none
  else none
 | _, _ => none
def k7v (h : H) : PV → PV → PV → R := fun _ _ _ => none
theorem k6e (a b : Int) : (if b < a then b else a) = min a b := by rw [Int.min_def]; by_cases h : b < a <;> simp [h] <;> omega
theorem k6i (a b : Int) : (if a < b then b else a) = max a b := by rw [Int.max_def]; by_cases h : a < b <;> simp [h] <;> omega
def k7g (g : EH) (s : Nat) (snap : Option (List D)) : PV → Option (List Prop × Nat × List D × List Nat)
 | .e (.c (.d (.lit (.slice none 0 0)))) => some ([], 0, [], [])
 | .e (.c (.d (.sl ds m))) => some ([ds.length = m * s], m, ds, [])
 | .e (.c (.own b off m s' _)) => match Nat.beq s' s, g.lookup b with
  | true, some (some (_, .ds l)) => match snap with
   | none => match off with
    | 0 => some ([l.length = m * s], m, l, [b])
    | _ => none
   | some r => some ([(l.drop off).take (m * s) = r, r.length = m * s], m, r, [b])
  | _, _ => none
 | _ => none
theorem wZ {l : List (Nat × PV)} {g : EH} {s : Nat} {snap : Option (List D)} {y : Operand} {u : PV} (hu : Ev l y u) {ps : List Prop} {m : Nat} {ds : List D} {foot : List Nat} (h : k7g g s snap u = some (ps, m, ds, foot)) (hp : ∀ p ∈ ps, p) : Src l (kF g) s y m (ds.map .d) foot := by
 unfold k7g at h
 split at h
 ·cases h; exact .nil hu
 ·cases h; exact .sl hu (hp _ (List.mem_cons_self ..))
 ·split at h
  ·rename_i hs hb
   have hs := Nat.eq_of_beq_eq_true hs
   subst hs
   have hb' := uM hb
   split at h
   ·split at h
    ·cases h
     have h1 := hp _ (List.mem_cons_self ..)
     refine .own hu hb' ?_ (by rw [List.length_map]; exact h1)
     rw [List.drop_zero]; exact List.take_of_length_le (by show (List.map C.d _).length ≤ _; rw [List.length_map, h1]; exact Nat.le_refl _)
    ·cases h
   ·cases h
    have h1 := hp _ (List.mem_cons_self ..)
    have h2 := hp _ (List.mem_cons_of_mem _ (List.mem_cons_self ..))
    refine .own hu hb' ?_ (by rw [List.length_map]; exact h2)
    show ((List.map C.d _).drop _).take _ = _
    rw [← List.map_drop, ← List.map_take, h1]
  ·cases h
 ·cases h
def u7l (P : Program) (h : H) (g : EH) (nx : Nat) (t : TypeId) (u v : PV) : R := match P.underlying t, h with
 | some (.slice e), .ap snap n' r => match u28 P e with
  | some (z, s, bs) => match Nat.beq z.cells.size s && (Nat.blt 0 s && Nat.ble 1 bs), k7g g s snap v with
   | true, some (ps, m, ds, foot) => match u with
    | .e (.c (.d (.lit (.slice none 0 0)))) => some (ps ++ [m * bs ≤ 140737488355328, m = n', ds = r], ⟨.e (.c (.own nx 0 n' s true)), [(nx, some (e, .ds r))], [nx], foot⟩)
    | .e (.c (.own b 0 n s' true)) => match Nat.beq s' s, g.lookup b with
     | true, some (some (T, .ds l)) => match Nat.beq T e with
      | true => some (ps ++ [l.length = n * s, (n + m) * bs ≤ 140737488355328, n + m = n', l ++ ds = r], ⟨.e (.c (.own nx 0 n' s true)), [(b, none), (nx, some (e, .ds r))], [nx], b :: foot⟩)
      | false => none
     | _, _ => none
    | _ => none
   | _, _ => none
  | none => none
 | _, _ => none
def v1d (P : Program) (h : H) (g : EH) (nx : Nat) (t tn : TypeId) : PV → PV → R := fun _ _ => none
def v1g (P : Program) (h : H) (g : EH) (t : TypeId) (u v : PV) : R := none
section
variable {cx : Cx} {o : Oper} {l : List (Nat × PV)} {g : EH}
theorem mS {n bs : Nat} (h : n * bs ≤ 140737488355328) (hb : 1 ≤ bs) : n ≤ maxLen := by
 have : n * 1 ≤ n * bs := Nat.mul_le_mul_left _ hb
 unfold maxLen; omega
theorem fW (z : Array Value) : ∀ n : Nat, (madeCells z (n * z.size)).toList = (List.replicate n z.toList).flatten
 | 0 => by simp [madeCells]
 | n + 1 => by
  have ih := fW z n
  unfold madeCells at ih ⊢
  rw [Array.toList_map, Array.toList_range] at ih ⊢
  rw [List.replicate_succ', List.flatten_append, ← ih, Nat.succ_mul, List.range_add, List.map_append, List.map_map]
  congr 1
  simp only [List.flatten_cons, List.flatten_nil, List.append_nil]
  apply List.ext_getElem (by simp)
  intro j h1 h2
  have hj : j < z.size := by simpa using h2
  have e : (n * z.size + j) % z.size = j := by rw [Nat.mul_comm, Nat.mul_add_mod]; exact Nat.mod_eq_of_lt hj
  simp [e, hj]
theorem tW {p : Nat → Prop} {ρ : Rh} {w : World} : ∀ {q : List Value}, q.all Value.oneCell' = true → All2 (RepC p ρ w) ((q.map D.lit).map C.d) q
 | [], _ => trivial
 | v :: q, h => by
  rw [List.all_cons, Bool.and_eq_true] at h
  exact ⟨.d (.lit _ h.1), tW h.2⟩
theorem k16 {p : Nat → Prop} {ρ : Rh} {w : World} {q : List Value} (h : q.all Value.oneCell' = true) : ∀ n, All2 (RepC p ρ w) (((List.replicate n (q.map D.lit)).flatten).map C.d) (List.replicate n q).flatten
 | 0 => trivial
 | n + 1 => by
  rw [List.replicate_succ, List.replicate_succ, List.flatten_cons, List.flatten_cons, List.map_append]
  exact All2.app (tW h) (k16 h n)
theorem k5s {nx n c s bs : Nat} {t e : TypeId} {z : Value} {x y : Operand} {kx ky : IntKind} {ix iy : Int} {ds : List D} (ho : o.op = .makeSlice t x y) (hu : Tryz.prog.underlying t = some (.slice e)) (hi : (Tryz.prog.info? e).map (fun i => (i.zero, i.size, i.bytes)) = some (some z, s, bs)) (hz : z.cells.size = s) (hz1 : z.cells.toList.all Value.oneCell' = true) (hx : Ev l x (LV (.int kx ix))) (hy : Ev l y (LV (.int ky iy))) (ex : ix = (n : Int)) (ey : iy = (c : Int)) (hn : n = c) (hm : c ≤ maxLen) (hb : bs * c ≤ 281474976710656) (hds : (List.replicate n (z.cells.toList.map D.lit)).flatten = ds) :
  OpOK cx o (S l) (S (kF g)) ⟨.e (.c (.own nx 0 n s true)), [(nx, some (e, ds.map C.d))], [nx], []⟩ :=
 fC (xs := []) fun ρ a w hs => by
  have e1 := qZ (hx.rep hs (by rw [ho]; simp [Op.operands]))
  have e2 := qZ (hy.rep hs (by rw [ho]; simp [Op.operands]))
  subst ex; subst ey; subst hn; subst hz; subst hds
  obtain ⟨i, h2, h3, h4, h5⟩ := info_parts hi
  have hb' : (i.bytes : Int) * (n : Int) ≤ 281474976710656 := by
   have h : ((bs * n : Nat) : Int) ≤ 281474976710656 := by omega
   rw [h5]; rwa [Int.natCast_mul] at h
  have hr := run_make (P := Tryz.prog) w t e i z hu h2 h3 kx ky n n (by omega) (by omega) hb' (by unfold maxLen at hm; omega)
  simp only [Int.toNat_natCast, h4] at hr
  have e3 : madeCells z.cells (n * z.cells.size) = ((List.replicate n z.cells.toList).flatten ++ []).toArray := by
   apply Array.ext'
   rw [fW]; simp
  rw [e3] at hr
  refine ⟨(List.replicate n z.cells.toList).flatten, [], n, by unfold execOp; simp [ho, e1, e2, hr], ?_, Nat.le_refl _, hm, by simp⟩
  exact k16 hz1 n
theorem u1w {h : H} {nx : Nat} {t : TypeId} {x y : Operand} (ho : o.op = .makeSlice t x y) {u v : PV} (hu : Ev l x u) (hv : Ev l y v) : OKR cx o l g (u7d Tryz.prog h nx t u v) := by
 unfold u7d
 split
 ·split
  ·rename_i ht
   split
   ·rename_i he
    split
    ·rename_i hz
     rw [Bool.and_eq_true] at hz
     refine OKR.some fun hp => ?_
     obtain ⟨h1, h2, h3, h4, h5⟩ := hp
     have h5 : _ = _ := h5
     have hb := Nat.le_of_ble_eq_true hz.2
     have h6 := mS (n := _) (bs := 1) (h := by rw [Nat.mul_one]; exact Nat.le_refl _) (by omega)
     exact k5t ho ht (lK he) hz.1 hu hv h1 h2 h3 (by
      refine Nat.le_trans (Nat.le_trans (Nat.le_mul_of_pos_left _ hb) h4) ?_
      unfold maxLen; omega) h4 (by show _ = List.map C.d _; rw [← h5]; simp)
    ·exact OKR.none
   ·rename_i he
    split
    ·rename_i hz
     rw [Bool.and_eq_true, Bool.and_eq_true] at hz
     refine OKR.some fun hp => ?_
     obtain ⟨h1, h2, h3, h4, h5⟩ := hp
     have h5 : _ = _ := h5
     have hb := Nat.le_of_ble_eq_true hz.2.2
     exact k5s ho ht (lK he) (Nat.eq_of_beq_eq_true hz.1) hz.2.1 hu hv h1 h2 h3 (by
      refine Nat.le_trans (Nat.le_trans (Nat.le_mul_of_pos_left _ hb) h4) ?_
      unfold maxLen; omega) h4 h5
    ·exact OKR.none
   ·exact OKR.none
  ·exact OKR.none
 ·exact OKR.none
theorem u1y {h : H} {t : TypeId} {x y : Operand} (ho : o.op = .indexAddr t x y) {u v : PV} (hu : Ev l x u) (hv : Ev l y v) : OKR cx o l g (u7f Tryz.prog h t u v) := by
 unfold u7f
 split
 ·split
  ·rename_i ht
   split
   ·rename_i he
    split
    ·rename_i hs
     have hs := Nat.eq_of_beq_eq_true hs
     subst hs
     refine OKR.some fun hp => ?_
     obtain ⟨h1, h2, h3⟩ := hp
     have h3 : _ = _ := h3
     subst h1
     exact k5u ho ht he hu hv (by omega) (by omega) (by rw [Int.toNat_natCast]; exact h3)
    ·exact OKR.none
   ·exact OKR.none
  ·exact OKR.none
 ·split
  ·rename_i ht
   split
   ·rename_i he
    refine OKR.some fun hp => ?_
    obtain ⟨h1, h2⟩ := hp
    have h2 : _ < _ := h2
    subst h1
    exact t9 ho ht he hu hv (by omega) (by omega) (by rw [Int.toNat_natCast, u0w])
   ·exact OKR.none
  ·exact OKR.none
 ·exact OKR.none
theorem u1r {h : H} {t : TypeId} {x : Operand} {lo hi mx : Option Operand} (ho : o.op = .slice t x lo hi mx) {u : PV} (hu : Ev l x u) : OKR cx o l g (u7a Tryz.prog h l t lo hi mx u) := by
 unfold u7a
 split
 ·split
  ·rename_i ht
   split
   ·rename_i he h1 h2 h3
    split
    ·rename_i hs
     have hs := Nat.eq_of_beq_eq_true hs
     subst hs
     refine OKR.some fun hp => ?_
     have hp := (q9 _).1 hp
     have q1 := fJ h1 (fun p h => hp p (by simp [h]))
     have q2 := fJ h2 (fun p h => hp p (by simp [h]))
     have q3 := sB h3 (fun p h => hp p (by simp [h]))
     exact k5o ho ht he hu q1 q2 q3 (hp _ (by simp)) (hp _ (by simp)) (hp (_ + _ = _) (by simp)) (hp (_ - _ = _) (by simp))
    ·exact OKR.none
   ·exact OKR.none
  ·exact OKR.none
 ·split
  ·rename_i ht
   split
   ·rename_i he h1 h2 h3
    refine OKR.some fun hp => ?_
    have hp := (q9 _).1 hp
    have q1 := fJ h1 (fun p h => hp p (by simp [h]))
    have q2 := fJ h2 (fun p h => hp p (by simp [h]))
    have q3 := sB h3 (fun p h => hp p (by simp [h]))
    exact t7 ho ht he hu q1 q2 q3 (hp _ (by simp)) (hp _ (by simp)) (hp (_ - _ = _) (by simp)) (hp (List.take _ _ = _) (by simp))
   ·exact OKR.none
  ·exact OKR.none
 ·split
  ·rename_i ht
   split
   ·rename_i he h1 h2 h3
    refine OKR.some fun hp => ?_
    have hp := (q9 _).1 hp
    have q1 := fJ h1 (fun p h => hp p (by simp [h]))
    have q2 := fJ h2 (fun p h => hp p (by simp [h]))
    have q3 := sB h3 (fun p h => hp p (by simp [h]))
    exact rB ho ht he hu q1 q2 q3
   ·exact OKR.none
  ·exact OKR.none
 ·exact OKR.none
theorem k81 {x : Operand} {st : TypeId} (ho : o.op = .call { callee := .builtin .len, args := #[x], argTypes := #[st] }) {u : PV} (hu : Ev l x u) : OKR cx o l g (k83 Tryz.prog st u) := by
 unfold k83
 split
 ·rename_i hl
  have hl := k6o hl
  split
  ·exact OKR.some fun _ => zZ (ty := 0) (ts := #[]) ho hl hu u15
  ·exact OKR.some fun _ => zZ (ty := 0) (ts := #[]) ho hl hu u6p
  ·exact OKR.some fun _ => zZ (ty := 0) (ts := #[]) ho hl hu u17
  ·exact OKR.none
 ·exact OKR.none
theorem k7s {h : H} {x y : Operand} {ts : Array TypeId} (ho : o.op = .call { callee := .builtin .min, args := #[x, y], argTypes := ts }) {u v : PV} (hu : Ev l x u) (hv : Ev l y v) : OKR cx o l g (k7t h u v) := by
 unfold k7t
 split
 ·split
  ·rename_i hk
   subst hk
   split
   ·exact OKR.some fun _ => k5q ho hu hv (k6e _ _)
   ·exact OKR.some fun hp => k5q ho hu hv ((k6e _ _).trans hp)
   ·exact OKR.none
  ·exact OKR.none
 ·exact OKR.none
theorem k7u {h : H} {x y : Operand} {ts : Array TypeId} (ho : o.op = .call { callee := .builtin .max, args := #[x, y], argTypes := ts }) {u v : PV} (hu : Ev l x u) (hv : Ev l y v) : OKR cx o l g (k7w h u v) := by
 unfold k7w
 split
 ·split
  ·rename_i hk
   subst hk
   split
   ·exact OKR.some fun _ => k5r ho hu hv (k6i _ _)
   ·exact OKR.some fun hp => k5r ho hu hv ((k6i _ _).trans hp)
   ·exact OKR.none
  ·exact OKR.none
 ·exact OKR.none
theorem k3d {h : H} {x y z : Operand} {ts : Array TypeId} (ho : o.op = .call { callee := .builtin .max, args := #[x, y, z], argTypes := ts }) {u v q : PV} (hu : Ev l x u) (hv : Ev l y v) (hq : Ev l z q) : OKR cx o l g (k7v h u v q) := OKR.none
theorem u24 {h : H} {nx : Nat} {x y : Operand} {t : TypeId} (ho : o.op = .call { callee := .builtin .append, args := #[x, y], argTypes := #[t, t] }) {u v : PV} (hu : Ev l x u) (hv : Ev l y v) : OKR cx o l g (u7l Tryz.prog h g nx t u v) := by
 unfold u7l
 split
 ·rename_i ht
  split
  ·rename_i he
   split
   ·rename_i hc hsrc
    simp only [Bool.and_eq_true] at hc
    obtain ⟨c1, c2, c3⟩ := hc
    have c1 := Nat.eq_of_beq_eq_true c1
    have c2 : 0 < _ := Nat.le_of_ble_eq_true c2
    have c3 := Nat.le_of_ble_eq_true c3
    split
    ·refine OKR.some fun hp => ?_
     have hp := (q9 _).1 hp
     have hS := wZ hv hsrc (fun p h => hp p (by simp [h]))
     have h1 := hp (_ * _ ≤ _) (List.mem_append_right _ (List.mem_cons_self ..))
     have h2 := hp (_ = _) (List.mem_append_right _ (List.mem_cons_of_mem _ (List.mem_cons_self ..)))
     have h3 := hp (_ = _) (List.mem_append_right _ (List.mem_cons_of_mem _ (List.mem_cons_of_mem _ (List.mem_cons_self ..))))
     subst h2
     exact mN ho ht (lK he) c1 c2 hu hS (mS h1 c3) h1 (by rw [h3]; rfl)
    ·split
     ·rename_i hs hb
      have hs := Nat.eq_of_beq_eq_true hs
      subst hs
      split
      ·rename_i hT
       have hT := Nat.eq_of_beq_eq_true hT
       subst hT
       refine OKR.some fun hp => ?_
       have hp := (q9 _).1 hp
       have hS := wZ hv hsrc (fun p h => hp p (by simp [h]))
       have h1 := hp (_ = _) (List.mem_append_right _ (List.mem_cons_self ..))
       have h2 := hp (_ ≤ _) (List.mem_append_right _ (List.mem_cons_of_mem _ (List.mem_cons_self ..)))
       have h3 := hp (_ = _) (List.mem_append_right _ (List.mem_cons_of_mem _ (List.mem_cons_of_mem _ (List.mem_cons_self ..))))
       have h4 := hp (_ = _) (List.mem_append_right _ (List.mem_cons_of_mem _ (List.mem_cons_of_mem _ (List.mem_cons_of_mem _ (List.mem_cons_self ..)))))
       exact z6 ho ht (lK he) c1 c2 hu (uM hb) (by show (List.map C.d _).length = _; rw [List.length_map]; exact h1) hS (mS h2 c3) h2 (by show List.map C.d _ ++ _ = List.map C.d _; rw [← List.map_append, h4]) h3
      ·exact OKR.none
     ·exact OKR.none
    ·exact OKR.none
   ·exact OKR.none
  ·exact OKR.none
 ·exact OKR.none
theorem u1p {h : H} {nx : Nat} {x y : Operand} {t tn : TypeId} (ho : o.op = .call { callee := .builtin .append, args := #[x, y], argTypes := #[t, tn] }) {u v : PV} (hu : Ev l x u) (hv : Ev l y v) : OKR cx o l g (v1d Tryz.prog h g nx t tn u v) := OKR.none
theorem u20 {h : H} {x y : Operand} {t st : TypeId} (ho : o.op = .call { callee := .builtin .copy, args := #[x, y], argTypes := #[t, st] }) {u v : PV} (hu : Ev l x u) (hv : Ev l y v) : OKR cx o l g (v1g Tryz.prog h g t u v) := OKR.none
end
end Go.Proofs.YtbicifcgghmhaaaGreat
