/- Merged texts. -/
import Derived.Test.YtdbjebdomdnbkaaZAmF
namespace Go.Proofs.Ytdbjebdomdnbkaa
open Go.ChangeShapes Go.WideShapes Go.ChangeAt Go.RowKit
set_option linter.unusedVariables false
set_option linter.unusedSimpArgs false
def k2s : List C → Option (List D)
 | [] => some []
 | .d x :: l => match k2s l with
  | some r => some (x :: r)
  | none => none
 | _ :: _ => none
theorem pG : ∀ {l : List C} {r : List D}, k2s l = some r → l = r.map .d
 | [], r, h => by cases h; rfl
 | .d x :: l, r, h => by
  unfold k2s at h
  split at h
  ·rename_i r' hr; cases h; rw [List.map_cons, ← pG hr]
  ·cases h
 | .own .. :: _, _, h => by cases h
 | .ptr .. :: _, _, h => by cases h
 | .rp .. :: _, _, h => by cases h
 | .fn .. :: _, _, h => by cases h
def mS (l : List C) : BC := match k2s l with
 | some r => .ds r
 | none => .cs l
theorem i5 (l : List C) : (mS l).to = l := by
 unfold mS
 split
 ·rename_i h; rw [pG h]; rfl
 ·rfl
def k15 : List D → Nat → List D → List D
 | cur, _, [] => cur
 | cur, o, c :: r => k15 (cur.set o c) (o + 1) r
theorem s0 : ∀ (r : List D) (cur : List D) (o : Nat), lE (cur.map .d) o (r.map .d) = (k15 cur o r).map .d
 | [], _, _ => rfl
 | c :: r, cur, o => by
  show lE ((cur.map C.d).set o (.d c)) (o + 1) (r.map .d) = _
  rw [← List.map_set, s0 r]; rfl
def u6n (off : Nat) : Nat → Nat
 | 0 => off
 | k + 1 => off + (k + 1)
theorem k99 (off k : Nat) : u6n off k = off + k := by cases k <;> rfl
def u1z (i : Nat) : Nat → Nat
 | 1 => i
 | s => i * s
theorem k7r (i s : Nat) : u1z i s = i * s := by
 unfold u1z; split <;> simp
def u2q (P : Program) (t : TypeId) (i : Nat) : PV → R
 | .e (.c (.ptr b off)) => match gQ P t i with
  | some (k, _, _ + 1) => pv (.e (.c (.ptr b (u6n off k))))
  | _ => none
 | .e (.c (.rp ds)) => match gQ P t i with
  | some (k, _, _ + 1) => pv (.e (.c (.rp (ds.drop k))))
  | _ => none
 | _ => none
def k5i (P : Program) (t : TypeId) (i : Nat) : PV → R
 | .e (.agg cs) => match gQ P t i with
  | some (k, false, 1) => match cs[k]? with
   | some c => pv (.e (.c c))
   | none => none
  | some (k, true, n) => pv (.e (.agg ((cs.drop k).take n)))
  | _ => none
 | _ => none
def zA (P : Program) (h : H) (g : EH) (ty : TypeId) : PV → R
 | .e (.c (.ptr b off)) => match g.lookup b with
  | some (some (T, bc)) => match yL P ty with
   | some (false, 1) => match h, bc with
    | .d d, .ds l => some ([l[off]? = some d], ⟨.e (.c (.d d)), [], [], [b]⟩)
    | .no, bc => match bc.to[off]? with
     | some c => some ([], ⟨.e (.c c), [], [], [b]⟩)
     | none => none
    | _, _ => none
   | some (true, n) => match h, bc with
    | .ds r, .ds l => some ([(l.drop off).take n = r, r.length = n], ⟨.e (.agg (r.map .d)), [], [], [b]⟩)
    | .no, bc => match Nat.beq ((bc.to.drop off).take n).length n with
     | true => some ([], ⟨.e (.agg ((bc.to.drop off).take n)), [], [], [b]⟩)
     | false => none
    | _, _ => none
   | _ => none
  | _ => none
 | .e (.c (.rp ds)) => match yL P ty with
  | some (false, 1) => match h with
   | .d d => some ([ds[0]? = some d], ⟨.e (.c (.d d)), [], [], []⟩)
   | .no => match ds[0]? with
    | some d => some ([], ⟨.e (.c (.d d)), [], [], []⟩)
    | none => none
   | _ => none
  | some (true, n) => match h with
   | .ds r => some ([ds.take n = r, r.length = n], ⟨.e (.agg (r.map .d)), [], [], []⟩)
   | .no => match Nat.beq (ds.take n).length n with
    | true => some ([], ⟨.e (.agg ((ds.take n).map .d)), [], [], []⟩)
    | false => none
   | _ => none
  | _ => none
 | _ => none
def rU (P : Program) (h : H) (g : EH) (ty : TypeId) : PV → PV → R
 | .e (.c (.ptr b off)), .e e => match g.lookup b with
  | some (some (T, bc)) => match yL P ty with
   | some (_, n) => match Nat.beq (yJ e).length n with
    | true => match h, bc, k2s (yJ e) with
     | .no, bc, _ => match Nat.ble (off + n) bc.to.length with
      | true => some ([], ⟨.any, [(b, some (T, mS (lE bc.to off (yJ e))))], [], [b]⟩)
      | false => none
     | .ds r, .ds l, some x => some ([off + n ≤ l.length, k15 l off x = r], ⟨.any, [(b, some (T, .ds r))], [], [b]⟩)
     | _, _, _ => none
    | false => none
   | none => none
  | _ => none
 | _, _ => none
def rZ (P : Program) (nx : Nat) (T : TypeId) : R := match fH P T with
 | some zs => match zs.all (·.oneCell') with
  | true => some ([], ⟨.e (.c (.ptr nx 0)), [(nx, some (T, .ds (zs.map .lit)))], [nx], []⟩)
  | false => none
 | none => none
def k5u (nx : Nat) (T : TypeId) : PV → R
 | .e e => some ([], ⟨.e (.c (.ptr nx 0)), [(nx, some (T, mS (yJ e)))], [nx], []⟩)
 | _ => none
section
variable {cx : Cx} {o : Oper} {l : List (Nat × PV)} {g : EH}
theorem k8r {t : TypeId} {i : Nat} {x : Operand} (ho : o.op = .fieldAddr t x i) {u : PV} (hu : Ev l x u) : OKR cx o l g (u2q Try.prog t i u) := by
 unfold u2q
 split
 ·split
  ·rename_i hf; exact OKR.some fun _ => rA ho hf hu (k99 _ _).symm
  ·exact OKR.none
 ·split
  ·rename_i hf; exact OKR.some fun _ => jJ ho hf hu rfl
  ·exact OKR.none
 ·exact OKR.none
theorem k5h {t : TypeId} {i : Nat} {x : Operand} (ho : o.op = .field t x i) {u : PV} (hu : Ev l x u) : OKR cx o l g (k5i Try.prog t i u) := by
 unfold k5i
 split
 ·split
  ·rename_i hf
   split
   ·rename_i hc; exact OKR.some fun _ => k3m ho hf hu hc
   ·exact OKR.none
  ·rename_i hf; exact OKR.some fun _ => p9 ho hf hu rfl
  ·exact OKR.none
 ·exact OKR.none
theorem k1w {h : H} {ty : TypeId} {x : Operand} (ho : o.op = .load ty x) {u : PV} (hu : Ev l x u) : OKR cx o l g (zA Try.prog h g ty u) := by
 unfold zA
 split
 ·split
  ·rename_i T bc hb
   have hb' := qV hb
   split
   ·rename_i ht
    split
    ·refine OKR.some fun hp => k06 ho ht hu hb' ?_
     have hp : _ = some _ := hp
     show (List.map C.d _)[_]? = _
     rw [List.getElem?_map, hp]; rfl
    ·split
     ·rename_i hc; exact OKR.some fun _ => k06 ho ht hu hb' hc
     ·exact OKR.none
    ·exact OKR.none
   ·rename_i ht
    split
    ·refine OKR.some fun hp => i7 ho ht hu hb' ?_ (by rw [List.length_map]; exact hp.2)
     show ((List.map C.d _).drop _).take _ = _
     rw [← List.map_drop, ← List.map_take, hp.1]
    ·split
     ·rename_i hl; exact OKR.some fun _ => i7 ho ht hu hb' rfl (Nat.eq_of_beq_eq_true hl)
     ·exact OKR.none
    ·exact OKR.none
   ·exact OKR.none
  ·exact OKR.none
 ·split
  ·rename_i ht
   split
   ·exact OKR.some fun hp => lY ho ht hu hp
   ·split
    ·rename_i hc; exact OKR.some fun _ => lY ho ht hu hc
    ·exact OKR.none
   ·exact OKR.none
  ·rename_i ht
   split
   ·exact OKR.some fun hp => eH ho ht hu hp.1 hp.2
   ·split
    ·rename_i hl; exact OKR.some fun _ => eH ho ht hu rfl (Nat.eq_of_beq_eq_true hl)
    ·exact OKR.none
   ·exact OKR.none
  ·exact OKR.none
 ·exact OKR.none
theorem xX {h : H} {ty : TypeId} {x y : Operand} (ho : o.op = .store ty x y) {u v : PV} (hu : Ev l x u) (hv : Ev l y v) : OKR cx o l g (rU Try.prog h g ty u v) := by
 unfold rU
 split
 ·split
  ·rename_i T bc hb
   have hb' := qV hb
   split
   ·rename_i ht
    split
    ·rename_i hn
     have hn := Nat.eq_of_beq_eq_true hn
     split
     ·split
      ·rename_i hl
       refine OKR.some fun _ => ?_
       have := tH (cx := cx) ho ht hu hv hb' hn (Nat.le_of_ble_eq_true hl) (i5 _).symm
       exact this
      ·exact OKR.none
     ·rename_i hx
      refine OKR.some fun hp => ?_
      have e := pG hx
      have := tH (cx := cx) (cs' := List.map C.d _) ho ht hu hv hb' hn (by show _ ≤ (List.map C.d _).length; rw [List.length_map]; exact hp.1) (by show lE (List.map C.d _) _ _ = _; rw [e, s0, show k15 _ _ _ = _ from hp.2])
      exact this
     ·exact OKR.none
    ·exact OKR.none
   ·exact OKR.none
  ·exact OKR.none
 ·exact OKR.none
theorem zI {nx : Nat} {T : TypeId} (ho : o.op = .alloc T) : OKR cx o l g (rZ Try.prog nx T) := by
 unfold rZ
 split
 ·rename_i hz
  split
  ·rename_i h1
   refine OKR.some fun _ => ?_
   exact k1h ho hz h1 (by show _ = List.map C.d (List.map D.lit _); rw [List.map_map]; rfl)
  ·exact OKR.none
 ·exact OKR.none
theorem k5t {nx : Nat} {T : TypeId} {x : Operand} (ho : o.op = .box T x) {u : PV} (hu : Ev l x u) : OKR cx o l g (k5u nx T u) := by
 unfold k5u
 split
 ·refine OKR.some fun _ => ?_
  have := u1w (cx := cx) (g := kF g) (nx := nx) ho hu
  rw [← i5 (yJ _)] at this
  exact this
 ·exact OKR.none
end
/-! structs and slices that are written out -/
def lW (P : Program) (t : TypeId) : Option (List (Nat × Nat)) := match P.underlying t with
 | some (.struct fs) => fs.toList.mapM fun f => (P.info? f.type).map fun i => (f.offset, i.size)
 | _ => none
theorem tE {t : TypeId} {pl : List (Nat × Nat)} (h : lW Try.prog t = some pl) : k12 t pl := by
 unfold lW at h
 split at h
 ·rename_i fs hfs
  refine ⟨fs, hfs, fun w => ?_⟩
  have e0 : fs = fs.toList.toArray := by simp
  rw [e0, List.mapM_toArray]
  have : ∀ (l : List Field) (pl : List (Nat × Nat)), (l.mapM fun f => (Try.prog.info? f.type).map fun i => (f.offset, i.size)) = some pl → (l.mapM (fun f => do pure (f.offset, ← sizeOf f.type)) : Sem (List (Nat × Nat))).run Try.prog w = .ok pl w := by
   intro l
   induction l with
   | nil => intro pl h; simp at h; subst h; rfl
   | cons f l ih =>
    intro pl h
    rw [List.mapM_cons] at h
    cases hi : Try.prog.info? f.type with
    | none => simp [hi] at h
    | some i =>
     cases hr : (l.mapM fun f => (Try.prog.info? f.type).map fun i => (f.offset, i.size)) with
     | none => simp [hi, hr] at h
     | some r =>
      simp [hi, hr] at h
      subst h
      have := ih r hr
      simp only [List.mapM_cons, Sem.run_bind, sizeOf, typeInfo, hi] at this ⊢
      simp [this, sizeOf, typeInfo, hi]
      simpa [sizeOf, typeInfo] using congrArg (fun r => Result.andThen r fun a w => Result.ok ((f.offset, i.size) :: a) w) this
  have e := this _ _ h
  simp at e ⊢
  rw [e]; rfl
 ·cases h
def k5a (l : List (Nat × PV)) : List (Nat × Operand) → Option (List (Nat × E1))
 | [] => some []
 | (i, x) :: xs => match aC l x, k5a l xs with
  | some (.e e), some es => some ((i, e) :: es)
  | _, _ => none
theorem rX {l : List (Nat × PV)} : ∀ {xs : List (Nat × Operand)} {es : List (Nat × E1)}, k5a l xs = some es → EvL l xs es
 | [], es, h => by cases h; exact .nil
 | (i, x) :: xs, es, h => by
  unfold k5a at h
  split at h
  ·rename_i h1 h2; cases h; exact .cons (iU h1) (rX h2)
  ·cases h
def rY (P : Program) (l : List (Nat × PV)) (t : TypeId) (parts : Array (Nat × Operand)) : R := match lW P t, fH P t, k5a l parts.toList with
 | some pl, some zs, some es => match zs.all (·.oneCell') with
  | true => match eL (fun i => pl[i]?) (zs.map LC) es with
   | some cs => pv (.e (.agg cs))
   | none => none
  | false => none
 | _, _, _ => none
def k2h (zs : List Value) (s : Nat) : Nat → List C
 | 0 => []
 | n + 1 => k2h zs s n ++ zs.map LC
theorem zO (zs : List Value) (s : Nat) (hs : zs.length = s) (h0 : 0 < s) : ∀ n, k2h zs s n = (List.range (n * s)).map fun j => LC (zs.getD (j % s) undef)
 | 0 => by simp [k2h]
 | n + 1 => by
  rw [k2h, zO zs s hs h0 n, Nat.succ_mul, List.range_add, List.map_append, List.map_map]
  congr 1
  apply List.ext_getElem?
  intro j
  rw [List.getElem?_map, List.getElem?_map]
  by_cases hj : j < s
  ·rw [List.getElem?_range hj]
   have : j < zs.length := by omega
   simp [Function.comp, Nat.add_mod, Nat.mod_eq_of_lt hj, List.getD_eq_getElem?_getD, this]
  ·rw [List.getElem?_eq_none (by omega), List.getElem?_eq_none (by rw [List.length_range]; omega)]; rfl
def u2t (P : Program) (l : List (Nat × PV)) (nx : Nat) (t : TypeId) (n : Nat) (parts : Array (Nat × Operand)) : R := match P.underlying t with
 | some (.slice e) => match yL P e, fH P e, k5a l parts.toList with
  | some (_, s), some zs, some es => match zs.all (·.oneCell') && (Nat.beq zs.length s && (Nat.blt 0 (n * s) && Nat.ble (n * s) 16777216)) with
   | true => match eL (fun i => some (i * s, s)) (k2h zs s n) es with
    | some cs => some ([], ⟨.e (.c (.own nx 0 n s true)), [(nx, some (e, mS cs))], [nx], []⟩)
    | none => none
   | false => none
  | _, _, _ => none
 | _ => none
section
variable {cx : Cx} {o : Oper} {l : List (Nat × PV)} {g : EH}
theorem zG {t : TypeId} {parts : Array (Nat × Operand)} (ho : o.op = .build t parts) : OKR cx o l g (rY Try.prog l t parts) := by
 unfold rY
 split
 ·rename_i h1 h2 h3
  split
  ·rename_i h4
   split
   ·rename_i h5; exact OKR.some fun _ => k3o ho (tE h1) h2 h4 (rX h3) h5
   ·exact OKR.none
  ·exact OKR.none
 ·exact OKR.none
theorem k8u {nx : Nat} {t : TypeId} {n : Nat} {parts : Array (Nat × Operand)} (ho : o.op = .buildSlice t n parts) : OKR cx o l g (u2t Try.prog l nx t n parts) := by
 unfold u2t
 split
 ·rename_i e hu
  split
  ·rename_i bb s zs es he hz hes
   split
   ·rename_i hc
    simp only [Bool.and_eq_true] at hc
    obtain ⟨h1, h2, h3, h4⟩ := hc
    have h2 := Nat.eq_of_beq_eq_true h2
    have h3 : 0 < n * s := Nat.le_of_ble_eq_true h3
    have h4 := Nat.le_of_ble_eq_true h4
    split
    ·rename_i cs hf
     refine OKR.some fun _ => ?_
     have h0 : 0 < s := by rcases Nat.eq_zero_or_pos s with h | h; (subst h; simp at h3); exact h
     rw [zO zs s h2 h0] at hf
     have := m8 (cx := cx) (g := kF g) (nx := nx) ho hu he hz h1 h2 (rX hes) h3 h4 hf
     rw [← i5 cs] at this
     exact this
    ·exact OKR.none
   ·exact OKR.none
  ·exact OKR.none
 ·exact OKR.none
end
end Go.Proofs.Ytdbjebdomdnbkaa
namespace Go.Proofs.Ytdbjebdomdnbkaa
open Go.ChangeShapes Go.WideShapes Go.ChangeAt Go.RowKit
set_option linter.unusedVariables false
set_option linter.unusedSimpArgs false
def zK (P : Program) (e : TypeId) : Option (Value × Nat × Nat) := match P.info? e with
 | some i => match i.zero with
  | some z => some (z, i.size, i.bytes)
  | none => none
 | none => none
theorem bY {e : TypeId} {z : Value} {s bs : Nat} (h : zK Try.prog e = some (z, s, bs)) : (Try.prog.info? e).map (fun i => (i.zero, i.size, i.bytes)) = some (some z, s, bs) := by
 unfold zK at h
 split at h
 ·rename_i i hi
  split at h
  ·rename_i z' hz; cases h; rw [hi]; simp [hz]
  ·cases h
 ·cases h
def u2m (P : Program) (h : H) (nx : Nat) (t : TypeId) : PV → PV → R
 | .e (.c (.d (.lit (.int _ ix)))), .e (.c (.d (.lit (.int _ iy)))) => match P.underlying t, h with
  | some (.slice e), .mk n c r => match zK P e with
   | some (z, 1, bs) => match z.oneCell' && Nat.ble 1 bs with
    | true => some ([ix = (n : Int), iy = (c : Int), n ≤ c, bs * c ≤ 281474976710656, List.replicate n (.lit z) = r], ⟨.e (.c (.own nx 0 n 1 true)), [(nx, some (e, .ds r))], [nx], []⟩)
    | false => none
   | some (z, s, bs) => match Nat.beq z.cells.size s && (z.cells.toList.all Value.oneCell' && Nat.ble 1 bs) with
    | true => some ([ix = (n : Int), iy = (c : Int), n = c, bs * c ≤ 281474976710656, (List.replicate n (z.cells.toList.map D.lit)).flatten = r], ⟨.e (.c (.own nx 0 n s true)), [(nx, some (e, .ds r))], [nx], []⟩)
    | false => none
   | none => none
  | _, _ => none
 | _, _ => none
def u2o (P : Program) (h : H) (t : TypeId) : PV → PV → R
 | .e (.c (.own b off n s _)), .e (.c (.d (.lit (.int _ i)))) => match P.underlying t, h with
  | some (.slice e), .n2 k r => match yL P e with
   | some (_, s') => match Nat.beq s' s with
    | true => some ([i = (k : Int), k < n, off + k * s = r], ⟨.e (.c (.ptr b r)), [], [], []⟩)
    | false => none
   | none => none
  | _, _ => none
 | .e (.c (.d (.sl ds n))), .e (.c (.d (.lit (.int _ i)))) => match P.underlying t, h with
  | some (.slice e), .n k => match yL P e with
   | some (_, s) => some ([i = (k : Int), k < n], ⟨.e (.c (.rp (ds.drop (u1z k s)))), [], [], []⟩)
   | none => none
  | _, _ => none
 | _, _ => none
def wD (l : List (Nat × PV)) (d n : Nat) : Option Operand → Option (List Prop)
 | none => some [d = n]
 | some x => match aC l x with
  | some (.e (.c (.d (.lit (.int _ i))))) => some [i = (n : Int)]
  | _ => none
theorem eZ {l : List (Nat × PV)} {d n : Nat} {x : Option Operand} {ps : List Prop} (h : wD l d n x = some ps) (hp : ∀ p ∈ ps, p) : Bd l d x n := by
 unfold wD at h
 split at h
 ·cases h; have := hp (d = n) (List.mem_cons_self ..); subst this; exact .no
 ·split at h
  ·rename_i hx; cases h; exact .yes (iU hx) (hp _ (List.mem_cons_self ..))
  ·cases h
def k52 (l : List (Nat × PV)) (lo hi : Option Operand) (n : Nat) : Option Operand → Option (List Prop)
 | none => some []
 | some x => match hi, aC l x with
  | some _, some (.e (.c (.d (.lit (.int _ i))))) => some [i = (n : Int)]
  | _, _ => none
theorem rW {l : List (Nat × PV)} {lo hi : Option Operand} {n : Nat} {x : Option Operand} {ps : List Prop} (h : k52 l lo hi n x = some ps) (hp : ∀ p ∈ ps, p) : Mx l lo hi n x := by
 unfold k52 at h
 split at h
 ·exact .no
 ·split at h
  ·rename_i hx; cases h; exact .yes rfl (iU hx) (hp _ (List.mem_cons_self ..))
  ·cases h
def u2j (P : Program) (h : H) (l : List (Nat × PV)) (t : TypeId) (lo hi mx : Option Operand) : PV → R
 | .e (.c (.own b off n s _)) => match P.underlying t, h with
  | some (.slice e), .sl L H r k => match yL P e, wD l 0 L lo, wD l n H hi, k52 l lo hi H mx with
   | some (_, s'), some p1, some p2, some p3 => match Nat.beq s' s with
    | true => some (p1 ++ (p2 ++ (p3 ++ [L ≤ H, H ≤ n, off + L * s = r, H - L = k])), ⟨.e (.c (.own b r k s false)), [], [], []⟩)
    | false => none
   | _, _, _, _ => none
  | _, _ => none
 | .e (.c (.d (.sl ds n))) => match P.underlying t, h with
  | some (.slice e), .sls L H k r => match yL P e, wD l 0 L lo, wD l n H hi, k52 l lo hi H mx with
   | some (_, s), some p1, some p2, some p3 => some (p1 ++ (p2 ++ (p3 ++ [L ≤ H, H ≤ n, H - L = k, (ds.drop (L * s)).take (k * s) = r])), ⟨.e (.c (.d (.sl r k))), [], [], []⟩)
   | _, _, _, _ => none
  | _, _ => none
 | .e (.c (.d (.lit (.slice none 0 0)))) => match P.underlying t with
  | some (.slice e) => match yL P e, wD l 0 0 lo, wD l 0 0 hi, k52 l lo hi 0 mx with
   | some (_, _), some p1, some p2, some p3 => some (p1 ++ (p2 ++ p3), ⟨LV aT, [], [], []⟩)
   | _, _, _, _ => none
  | _ => none
 | _ => none
def k48 (P : Program) (t : TypeId) : Bool := match P.underlying t with
 | some (.slice e) => Nat.beq e (P.elem t)
 | _ => false
theorem k47 {t : TypeId} (h : k48 Try.prog t = true) : Try.prog.underlying t = some (.slice (Try.prog.elem t)) := by
 unfold k48 at h
 split at h
 ·rename_i e he; rw [he, ← Nat.eq_of_beq_eq_true h]
 ·cases h
def k5c (P : Program) (st : TypeId) (u : PV) : R := match k48 P st with
 | true => match u with
  | .e (.c (.own _ _ n _ _)) => pv (LV (.int .i64 n))
  | .e (.c (.d (.sl _ n))) => pv (LV (.int .i64 n))
  | .e (.c (.d (.lit (.slice none 0 0)))) => pv (LV (.int .i64 0))
  | _ => none
 | false => none
def k54 (h : H) : PV → PV → R
 | .e (.c (.d (.lit (.int k a)))), .e (.c (.d (.lit (.int k' b)))) => if k = k' then match h with
   | .no => pv (LV (.int k (min a b)))
   | .i r => mU [min a b = r] (LV (.int k r))
   | _ => none
  else none
 | _, _ => none
def k57 (h : H) : PV → PV → R
 | .e (.c (.d (.lit (.int k a)))), .e (.c (.d (.lit (.int k' b)))) => if k = k' then match h with
   | .no => pv (LV (.int k (max a b)))
   | .i r => mU [max a b = r] (LV (.int k r))
   | _ => none
  else none
 | _, _ => none
def k56 (h : H) : PV → PV → PV → R := fun _ _ _ => none
theorem k40 (a b : Int) : (if b < a then b else a) = min a b := by rw [Int.min_def]; by_cases h : b < a <;> simp [h] <;> omega
theorem k43 (a b : Int) : (if a < b then b else a) = max a b := by rw [Int.max_def]; by_cases h : a < b <;> simp [h] <;> omega
def t9 (g : EH) (s : Nat) (snap : Option (List D)) : PV → Option (List Prop × Nat × List D × List Nat)
 | .e (.c (.d (.lit (.slice none 0 0)))) => some ([], 0, [], [])
 | .e (.c (.d (.sl ds m))) => some ([ds.length = m * s], m, ds, [])
 | .e (.c (.own b off m s' _)) => match Nat.beq s' s, g.lookup b with
  | true, some (some (_, .ds l)) => match snap with
   | none => match off with
    | 0 => some ([l.length = m * s], m, l, [b])
    | _ => none
   | some r => some ([(l.drop off).take (m * s) = r, r.length = m * s], m, r, [b])
  | _, _ => none
 | _ => none
theorem gS {l : List (Nat × PV)} {g : EH} {s : Nat} {snap : Option (List D)} {y : Operand} {u : PV} (hu : Ev l y u) {ps : List Prop} {m : Nat} {ds : List D} {foot : List Nat} (h : t9 g s snap u = some (ps, m, ds, foot)) (hp : ∀ p ∈ ps, p) : Src l (kF g) s y m (ds.map .d) foot := by
 unfold t9 at h
 split at h
 ·cases h; exact .nil hu
 ·cases h; exact .sl hu (hp _ (List.mem_cons_self ..))
 ·split at h
  ·rename_i hs hb
   have hs := Nat.eq_of_beq_eq_true hs
   subst hs
   have hb' := qV hb
   split at h
   ·split at h
    ·cases h
     have h1 := hp _ (List.mem_cons_self ..)
     refine .own hu hb' ?_ (by rw [List.length_map]; exact h1)
     rw [List.drop_zero]; exact List.take_of_length_le (by show (List.map C.d _).length ≤ _; rw [List.length_map, h1]; exact Nat.le_refl _)
    ·cases h
   ·cases h
    have h1 := hp _ (List.mem_cons_self ..)
    have h2 := hp _ (List.mem_cons_of_mem _ (List.mem_cons_self ..))
    refine .own hu hb' ?_ (by rw [List.length_map]; exact h2)
    show ((List.map C.d _).drop _).take _ = _
    rw [← List.map_drop, ← List.map_take, h1]
  ·cases h
 ·cases h
def u2v (P : Program) (h : H) (g : EH) (nx : Nat) (t : TypeId) (u v : PV) : R := match P.underlying t, h with
 | some (.slice e), .ap snap n' r => match zK P e with
  | some (z, s, bs) => match Nat.beq z.cells.size s && (Nat.blt 0 s && Nat.ble 1 bs), t9 g s snap v with
   | true, some (ps, m, ds, foot) => match u with
    | .e (.c (.d (.lit (.slice none 0 0)))) => some (ps ++ [m * bs ≤ 140737488355328, m = n', ds = r], ⟨.e (.c (.own nx 0 n' s true)), [(nx, some (e, .ds r))], [nx], foot⟩)
    | .e (.c (.own b 0 n s' true)) => match Nat.beq s' s, g.lookup b with
     | true, some (some (T, .ds l)) => match Nat.beq T e with
      | true => some (ps ++ [l.length = n * s, (n + m) * bs ≤ 140737488355328, n + m = n', l ++ ds = r], ⟨.e (.c (.own nx 0 n' s true)), [(b, none), (nx, some (e, .ds r))], [nx], b :: foot⟩)
      | false => none
     | _, _ => none
    | _ => none
   | _, _ => none
  | none => none
 | _, _ => none
def u2h (P : Program) (h : H) (g : EH) (nx : Nat) (t tn : TypeId) : PV → PV → R
 | .e (.c (.own b 0 n 1 true)), .e (.c (.d (.lit (.int _ iy)))) => match P.underlying t, P.underlying tn, h, g.lookup b with
  | some (.slice e), some (.int _), .az m n' r, some (some (T, .ds l)) => match zK P e with
   | some (z, 1, bs) => match Nat.beq T e && (z.oneCell' && Nat.ble 1 bs) with
    | true => some ([iy = (m : Int), l.length = n, (n + m) * bs ≤ 140737488355328, n + m = n', l ++ List.replicate m (.lit z) = r], ⟨.e (.c (.own nx 0 n' 1 true)), [(b, none), (nx, some (e, .ds r))], [nx], [b]⟩)
    | false => none
   | _ => none
  | _, _, _, _ => none
 | _, _ => none
def u2r (P : Program) (h : H) (g : EH) (t : TypeId) (u v : PV) : R := match P.underlying t, h, u with
 | some (.slice e), .cp snap k r, .e (.c (.own b off n 1 _)) => match (P.info? e).map (·.size), g.lookup b, t9 g 1 snap v with
  | some 1, some (some (T, .ds l)), some (ps, m, ds, foot) => some (ps ++ [off + n ≤ l.length, min m n = k, l.take off ++ ds.take k ++ l.drop (off + k) = r], ⟨LV (.int .i64 k), [(b, some (T, .ds r))], [], b :: foot⟩)
  | _, _, _ => none
 | _, _, _ => none
section
variable {cx : Cx} {o : Oper} {l : List (Nat × PV)} {g : EH}
theorem bL {n bs : Nat} (h : n * bs ≤ 140737488355328) (hb : 1 ≤ bs) : n ≤ maxLen := by
 have : n * 1 ≤ n * bs := Nat.mul_le_mul_left _ hb
 unfold maxLen; omega
theorem fM (z : Array Value) : ∀ n : Nat, (madeCells z (n * z.size)).toList = (List.replicate n z.toList).flatten
 | 0 => by simp [madeCells]
 | n + 1 => by
  have ih := fM z n
  unfold madeCells at ih ⊢
  rw [Array.toList_map, Array.toList_range] at ih ⊢
  rw [List.replicate_succ', List.flatten_append, ← ih, Nat.succ_mul, List.range_add, List.map_append, List.map_map]
  congr 1
  simp only [List.flatten_cons, List.flatten_nil, List.append_nil]
  apply List.ext_getElem (by simp)
  intro j h1 h2
  have hj : j < z.size := by simpa using h2
  have e : (n * z.size + j) % z.size = j := by rw [Nat.mul_comm, Nat.mul_add_mod]; exact Nat.mod_eq_of_lt hj
  simp [e, hj]
theorem tA {p : Nat → Prop} {ρ : Rh} {w : World} : ∀ {q : List Value}, q.all Value.oneCell' = true → All2 (RepC p ρ w) ((q.map D.lit).map C.d) q
 | [], _ => trivial
 | v :: q, h => by
  rw [List.all_cons, Bool.and_eq_true] at h
  exact ⟨.d (.lit _ h.1), tA h.2⟩
theorem k00 {p : Nat → Prop} {ρ : Rh} {w : World} {q : List Value} (h : q.all Value.oneCell' = true) : ∀ n, All2 (RepC p ρ w) (((List.replicate n (q.map D.lit)).flatten).map C.d) (List.replicate n q).flatten
 | 0 => trivial
 | n + 1 => by
  rw [List.replicate_succ, List.replicate_succ, List.flatten_cons, List.flatten_cons, List.map_append]
  exact All2.app (tA h) (k00 h n)
theorem k3j {nx n c s bs : Nat} {t e : TypeId} {z : Value} {x y : Operand} {kx ky : IntKind} {ix iy : Int} {ds : List D} (ho : o.op = .makeSlice t x y) (hu : Try.prog.underlying t = some (.slice e)) (hi : (Try.prog.info? e).map (fun i => (i.zero, i.size, i.bytes)) = some (some z, s, bs)) (hz : z.cells.size = s) (hz1 : z.cells.toList.all Value.oneCell' = true) (hx : Ev l x (LV (.int kx ix))) (hy : Ev l y (LV (.int ky iy))) (ex : ix = (n : Int)) (ey : iy = (c : Int)) (hn : n = c) (hm : c ≤ maxLen) (hb : bs * c ≤ 281474976710656) (hds : (List.replicate n (z.cells.toList.map D.lit)).flatten = ds) :
  OpOK cx o (S l) (S (kF g)) ⟨.e (.c (.own nx 0 n s true)), [(nx, some (e, ds.map C.d))], [nx], []⟩ :=
 eV (xs := []) fun ρ a w hs => by
  have e1 := qC (hx.rep hs (by rw [ho]; simp [Op.operands]))
  have e2 := qC (hy.rep hs (by rw [ho]; simp [Op.operands]))
  subst ex; subst ey; subst hn; subst hz; subst hds
  obtain ⟨i, h2, h3, h4, h5⟩ := info_parts hi
  have hb' : (i.bytes : Int) * (n : Int) ≤ 281474976710656 := by
   have h : ((bs * n : Nat) : Int) ≤ 281474976710656 := by omega
   rw [h5]; rwa [Int.natCast_mul] at h
  have hr := run_make (P := Try.prog) w t e i z hu h2 h3 kx ky n n (by omega) (by omega) hb' (by unfold maxLen at hm; omega)
  simp only [Int.toNat_natCast, h4] at hr
  have e3 : madeCells z.cells (n * z.cells.size) = ((List.replicate n z.cells.toList).flatten ++ []).toArray := by
   apply Array.ext'
   rw [fM]; simp
  rw [e3] at hr
  refine ⟨(List.replicate n z.cells.toList).flatten, [], n, by unfold execOp; simp [ho, e1, e2, hr], ?_, Nat.le_refl _, hm, by simp⟩
  exact k00 hz1 n
theorem k8o {h : H} {nx : Nat} {t : TypeId} {x y : Operand} (ho : o.op = .makeSlice t x y) {u v : PV} (hu : Ev l x u) (hv : Ev l y v) : OKR cx o l g (u2m Try.prog h nx t u v) := by
 unfold u2m
 split
 ·split
  ·rename_i ht
   split
   ·rename_i he
    split
    ·rename_i hz
     rw [Bool.and_eq_true] at hz
     refine OKR.some fun hp => ?_
     obtain ⟨h1, h2, h3, h4, h5⟩ := hp
     have h5 : _ = _ := h5
     have hb := Nat.le_of_ble_eq_true hz.2
     have h6 := bL (n := _) (bs := 1) (h := by rw [Nat.mul_one]; exact Nat.le_refl _) (by omega)
     exact k3k ho ht (bY he) hz.1 hu hv h1 h2 h3 (by
      refine Nat.le_trans (Nat.le_trans (Nat.le_mul_of_pos_left _ hb) h4) ?_
      unfold maxLen; omega) h4 (by show _ = List.map C.d _; rw [← h5]; simp)
    ·exact OKR.none
   ·rename_i he
    split
    ·rename_i hz
     rw [Bool.and_eq_true, Bool.and_eq_true] at hz
     refine OKR.some fun hp => ?_
     obtain ⟨h1, h2, h3, h4, h5⟩ := hp
     have h5 : _ = _ := h5
     have hb := Nat.le_of_ble_eq_true hz.2.2
     exact k3j ho ht (bY he) (Nat.eq_of_beq_eq_true hz.1) hz.2.1 hu hv h1 h2 h3 (by
      refine Nat.le_trans (Nat.le_trans (Nat.le_mul_of_pos_left _ hb) h4) ?_
      unfold maxLen; omega) h4 h5
    ·exact OKR.none
   ·exact OKR.none
  ·exact OKR.none
 ·exact OKR.none
theorem k8q {h : H} {t : TypeId} {x y : Operand} (ho : o.op = .indexAddr t x y) {u v : PV} (hu : Ev l x u) (hv : Ev l y v) : OKR cx o l g (u2o Try.prog h t u v) := by
 unfold u2o
 split
 ·split
  ·rename_i ht
   split
   ·rename_i he
    split
    ·rename_i hs
     have hs := Nat.eq_of_beq_eq_true hs
     subst hs
     refine OKR.some fun hp => ?_
     obtain ⟨h1, h2, h3⟩ := hp
     have h3 : _ = _ := h3
     subst h1
     exact k3l ho ht he hu hv (by omega) (by omega) (by rw [Int.toNat_natCast]; exact h3)
    ·exact OKR.none
   ·exact OKR.none
  ·exact OKR.none
 ·split
  ·rename_i ht
   split
   ·rename_i he
    refine OKR.some fun hp => ?_
    obtain ⟨h1, h2⟩ := hp
    have h2 : _ < _ := h2
    subst h1
    exact tK ho ht he hu hv (by omega) (by omega) (by rw [Int.toNat_natCast, k7r])
   ·exact OKR.none
  ·exact OKR.none
 ·exact OKR.none
theorem k8j {h : H} {t : TypeId} {x : Operand} {lo hi mx : Option Operand} (ho : o.op = .slice t x lo hi mx) {u : PV} (hu : Ev l x u) : OKR cx o l g (u2j Try.prog h l t lo hi mx u) := by
 unfold u2j
 split
 ·split
  ·rename_i ht
   split
   ·rename_i he h1 h2 h3
    split
    ·rename_i hs
     have hs := Nat.eq_of_beq_eq_true hs
     subst hs
     refine OKR.some fun hp => ?_
     have hp := (qI _).1 hp
     have q1 := eZ h1 (fun p h => hp p (by simp [h]))
     have q2 := eZ h2 (fun p h => hp p (by simp [h]))
     have q3 := rW h3 (fun p h => hp p (by simp [h]))
     exact k3f ho ht he hu q1 q2 q3 (hp _ (by simp)) (hp _ (by simp)) (hp (_ + _ = _) (by simp)) (hp (_ - _ = _) (by simp))
    ·exact OKR.none
   ·exact OKR.none
  ·exact OKR.none
 ·split
  ·rename_i ht
   split
   ·rename_i he h1 h2 h3
    refine OKR.some fun hp => ?_
    have hp := (qI _).1 hp
    have q1 := eZ h1 (fun p h => hp p (by simp [h]))
    have q2 := eZ h2 (fun p h => hp p (by simp [h]))
    have q3 := rW h3 (fun p h => hp p (by simp [h]))
    exact tI ho ht he hu q1 q2 q3 (hp _ (by simp)) (hp _ (by simp)) (hp (_ - _ = _) (by simp)) (hp (List.take _ _ = _) (by simp))
   ·exact OKR.none
  ·exact OKR.none
 ·split
  ·rename_i ht
   split
   ·rename_i he h1 h2 h3
    refine OKR.some fun hp => ?_
    have hp := (qI _).1 hp
    have q1 := eZ h1 (fun p h => hp p (by simp [h]))
    have q2 := eZ h2 (fun p h => hp p (by simp [h]))
    have q3 := rW h3 (fun p h => hp p (by simp [h]))
    exact pX ho ht he hu q1 q2 q3
   ·exact OKR.none
  ·exact OKR.none
 ·exact OKR.none
theorem k5b {x : Operand} {st : TypeId} (ho : o.op = .call { callee := .builtin .len, args := #[x], argTypes := #[st] }) {u : PV} (hu : Ev l x u) : OKR cx o l g (k5c Try.prog st u) := by
 unfold k5c
 split
 ·rename_i hl
  have hl := k47 hl
  split
  ·exact OKR.some fun _ => xH (ty := 0) (ts := #[]) ho hl hu k80
  ·exact OKR.some fun _ => xH (ty := 0) (ts := #[]) ho hl hu u26
  ·exact OKR.some fun _ => xH (ty := 0) (ts := #[]) ho hl hu k82
  ·exact OKR.none
 ·exact OKR.none
theorem k53 {h : H} {x y : Operand} {ts : Array TypeId} (ho : o.op = .call { callee := .builtin .min, args := #[x, y], argTypes := ts }) {u v : PV} (hu : Ev l x u) (hv : Ev l y v) : OKR cx o l g (k54 h u v) := by
 unfold k54
 split
 ·split
  ·rename_i hk
   subst hk
   split
   ·exact OKR.some fun _ => k3h ho hu hv (k40 _ _)
   ·exact OKR.some fun hp => k3h ho hu hv ((k40 _ _).trans hp)
   ·exact OKR.none
  ·exact OKR.none
 ·exact OKR.none
theorem k55 {h : H} {x y : Operand} {ts : Array TypeId} (ho : o.op = .call { callee := .builtin .max, args := #[x, y], argTypes := ts }) {u v : PV} (hu : Ev l x u) (hv : Ev l y v) : OKR cx o l g (k57 h u v) := by
 unfold k57
 split
 ·split
  ·rename_i hk
   subst hk
   split
   ·exact OKR.some fun _ => k3i ho hu hv (k43 _ _)
   ·exact OKR.some fun hp => k3i ho hu hv ((k43 _ _).trans hp)
   ·exact OKR.none
  ·exact OKR.none
 ·exact OKR.none
theorem k1u {h : H} {x y z : Operand} {ts : Array TypeId} (ho : o.op = .call { callee := .builtin .max, args := #[x, y, z], argTypes := ts }) {u v q : PV} (hu : Ev l x u) (hv : Ev l y v) (hq : Ev l z q) : OKR cx o l g (k56 h u v q) := OKR.none
theorem k8w {h : H} {nx : Nat} {x y : Operand} {t : TypeId} (ho : o.op = .call { callee := .builtin .append, args := #[x, y], argTypes := #[t, t] }) {u v : PV} (hu : Ev l x u) (hv : Ev l y v) : OKR cx o l g (u2v Try.prog h g nx t u v) := by
 unfold u2v
 split
 ·rename_i ht
  split
  ·rename_i he
   split
   ·rename_i hc hsrc
    simp only [Bool.and_eq_true] at hc
    obtain ⟨c1, c2, c3⟩ := hc
    have c1 := Nat.eq_of_beq_eq_true c1
    have c2 : 0 < _ := Nat.le_of_ble_eq_true c2
    have c3 := Nat.le_of_ble_eq_true c3
    split
    ·refine OKR.some fun hp => ?_
     have hp := (qI _).1 hp
     have hS := gS hv hsrc (fun p h => hp p (by simp [h]))
     have h1 := hp (_ * _ ≤ _) (List.mem_append_right _ (List.mem_cons_self ..))
     have h2 := hp (_ = _) (List.mem_append_right _ (List.mem_cons_of_mem _ (List.mem_cons_self ..)))
     have h3 := hp (_ = _) (List.mem_append_right _ (List.mem_cons_of_mem _ (List.mem_cons_of_mem _ (List.mem_cons_self ..))))
     subst h2
     exact l0 ho ht (bY he) c1 c2 hu hS (bL h1 c3) h1 (by rw [h3]; rfl)
    ·split
     ·rename_i hs hb
      have hs := Nat.eq_of_beq_eq_true hs
      subst hs
      split
      ·rename_i hT
       have hT := Nat.eq_of_beq_eq_true hT
       subst hT
       refine OKR.some fun hp => ?_
       have hp := (qI _).1 hp
       have hS := gS hv hsrc (fun p h => hp p (by simp [h]))
       have h1 := hp (_ = _) (List.mem_append_right _ (List.mem_cons_self ..))
       have h2 := hp (_ ≤ _) (List.mem_append_right _ (List.mem_cons_of_mem _ (List.mem_cons_self ..)))
       have h3 := hp (_ = _) (List.mem_append_right _ (List.mem_cons_of_mem _ (List.mem_cons_of_mem _ (List.mem_cons_self ..))))
       have h4 := hp (_ = _) (List.mem_append_right _ (List.mem_cons_of_mem _ (List.mem_cons_of_mem _ (List.mem_cons_of_mem _ (List.mem_cons_self ..)))))
       exact xK ho ht (bY he) c1 c2 hu (qV hb) (by show (List.map C.d _).length = _; rw [List.length_map]; exact h1) hS (bL h2 c3) h2 (by show List.map C.d _ ++ _ = List.map C.d _; rw [← List.map_append, h4]) h3
      ·exact OKR.none
     ·exact OKR.none
    ·exact OKR.none
   ·exact OKR.none
  ·exact OKR.none
 ·exact OKR.none
theorem k8h {h : H} {nx : Nat} {x y : Operand} {t tn : TypeId} (ho : o.op = .call { callee := .builtin .append, args := #[x, y], argTypes := #[t, tn] }) {u v : PV} (hu : Ev l x u) (hv : Ev l y v) : OKR cx o l g (u2h Try.prog h g nx t tn u v) := by
 unfold u2h
 split
 ·split
  ·rename_i ht htn hb
   split
   ·rename_i he
    split
    ·rename_i hc
     simp only [Bool.and_eq_true] at hc
     obtain ⟨c1, c2, c3⟩ := hc
     have c1 := Nat.eq_of_beq_eq_true c1
     subst c1
     have c3 := Nat.le_of_ble_eq_true c3
     refine OKR.some fun hp => ?_
     obtain ⟨h1, h2, h3, h4, h5⟩ := hp
     have h5 : _ = _ := h5
     exact k3e ho ht htn (bY he) c2 hu (qV hb) (by show (List.map C.d _).length = _; rw [List.length_map]; exact h2) hv h1 (bL h3 c3) h3 (by show List.map C.d _ ++ _ = List.map C.d _; rw [← h5]; simp) h4
    ·exact OKR.none
   ·exact OKR.none
  ·exact OKR.none
 ·exact OKR.none
theorem k8s {h : H} {x y : Operand} {t st : TypeId} (ho : o.op = .call { callee := .builtin .copy, args := #[x, y], argTypes := #[t, st] }) {u v : PV} (hu : Ev l x u) (hv : Ev l y v) : OKR cx o l g (u2r Try.prog h g t u v) := by
 unfold u2r
 split
 ·rename_i ht
  split
  ·rename_i he hb hsrc
   refine OKR.some fun hp => ?_
   have hp := (qI _).1 hp
   have hS := gS hv hsrc (fun p h => hp p (by simp [h]))
   have h1 := hp (_ ≤ _) (List.mem_append_right _ (List.mem_cons_self ..))
   have h2 := hp (_ = _) (List.mem_append_right _ (List.mem_cons_of_mem _ (List.mem_cons_self ..)))
   have h3 := hp (_ = _) (List.mem_append_right _ (List.mem_cons_of_mem _ (List.mem_cons_of_mem _ (List.mem_cons_self ..))))
   exact k7q (ty := 0) ho ht he hu (qV hb) (by show _ ≤ (List.map C.d _).length; rw [List.length_map]; exact h1) hS h2 (by
    show List.take _ (List.map C.d _) ++ List.take _ (List.map C.d _) ++ List.drop _ (List.map C.d _) = List.map C.d _
    rw [← List.map_take, ← List.map_take, ← List.map_drop, ← List.map_append, ← List.map_append, h3])
  ·exact OKR.none
 ·exact OKR.none
end
end Go.Proofs.Ytdbjebdomdnbkaa
