/- A memory told by names: slices that are computed. No statement is proved here. -/
import Derived.Test.YtalbpleglapihaaZAmG
namespace Go.Proofs.Ytalbpleglapihaa
open Go.ChangeShapes Go.WideShapes Go.ChangeAt Go.RowKit
set_option linter.unusedVariables false
set_option linter.unusedSimpArgs false
def k5i (P : Program) (e : TypeId) : Option (Value × Nat × Nat) := match P.info? e with
 | some i => match i.zero with
  | some z => some (z, i.size, i.bytes)
  | none => none
 | none => none
theorem fR {e : TypeId} {z : Value} {s bs : Nat} (h : k5i Try.prog e = some (z, s, bs)) : (Try.prog.info? e).map (fun i => (i.zero, i.size, i.bytes)) = some (some z, s, bs) := by
 unfold k5i at h
 split at h
 ·rename_i i hi
  split at h
  ·rename_i z' hz; cases h; rw [hi]; simp [hz]
  ·cases h
 ·cases h
def k8p (P : Program) (h : H) (nx : Nat) (t : TypeId) : PV → PV → R
 | .e (.c (.d (.lit (.int _ ix)))), .e (.c (.d (.lit (.int _ iy)))) => match P.underlying t, h with
  | some (.slice e), .mk n c r => match k5i P e with
   | some (z, 1, bs) => match z.oneCell' && Nat.ble 1 bs with
    | true => some ([ix = (n : Int), iy = (c : Int), n ≤ c, bs * c ≤ 281474976710656, List.replicate n (.lit z) = r], ⟨.e (.c (.own nx 0 n 1 true)), [(nx, some (e, .ds r))], [nx], []⟩)
    | false => none
   | some (z, s, bs) => match Nat.beq z.cells.size s && (z.cells.toList.all Value.oneCell' && Nat.ble 1 bs) with
    | true => some ([ix = (n : Int), iy = (c : Int), n = c, bs * c ≤ 281474976710656, (List.replicate n (z.cells.toList.map D.lit)).flatten = r], ⟨.e (.c (.own nx 0 n s true)), [(nx, some (e, .ds r))], [nx], []⟩)
    | false => none
   | none => none
  | _, _ => none
 | _, _ => none
def k8r (P : Program) (h : H) (t : TypeId) : PV → PV → R
 | .e (.c (.own b off n s _)), .e (.c (.d (.lit (.int _ i)))) => match P.underlying t, h with
  | some (.slice e), .n2 k r => match u2 P e with
   | some (_, s') => match Nat.beq s' s with
    | true => some ([i = (k : Int), k < n, off + k * s = r], ⟨.e (.c (.ptr b r)), [], [], []⟩)
    | false => none
   | none => none
  | _, _ => none
 | .e (.c (.d (.sl ds n))), .e (.c (.d (.lit (.int _ i)))) => match P.underlying t, h with
  | some (.slice e), .n k => match u2 P e with
   | some (_, s) => some ([i = (k : Int), k < n], ⟨.e (.c (.rp (ds.drop (k85 k s)))), [], [], []⟩)
   | none => none
  | _, _ => none
 | _, _ => none
def pH (l : List (Nat × PV)) (d n : Nat) : Option Operand → Option (List Prop)
 | none => some [d = n]
 | some x => match y7 l x with
  | some (.e (.c (.d (.lit (.int _ i))))) => some [i = (n : Int)]
  | _ => none
theorem cA {l : List (Nat × PV)} {d n : Nat} {x : Option Operand} {ps : List Prop} (h : pH l d n x = some ps) (hp : ∀ p ∈ ps, p) : Bd l d x n := by
 unfold pH at h
 split at h
 ·cases h; have := hp (d = n) (List.mem_cons_self ..); subst this; exact .no
 ·split at h
  ·rename_i hx; cases h; exact .yes (eS hx) (hp _ (List.mem_cons_self ..))
  ·cases h
def k1u (l : List (Nat × PV)) (lo hi : Option Operand) (n : Nat) : Option Operand → Option (List Prop)
 | none => some []
 | some x => match hi, y7 l x with
  | some _, some (.e (.c (.d (.lit (.int _ i))))) => some [i = (n : Int)]
  | _, _ => none
theorem mS {l : List (Nat × PV)} {lo hi : Option Operand} {n : Nat} {x : Option Operand} {ps : List Prop} (h : k1u l lo hi n x = some ps) (hp : ∀ p ∈ ps, p) : Mx l lo hi n x := by
 unfold k1u at h
 split at h
 ·exact .no
 ·split at h
  ·rename_i hx; cases h; exact .yes rfl (eS hx) (hp _ (List.mem_cons_self ..))
  ·cases h
def k8m (P : Program) (h : H) (l : List (Nat × PV)) (t : TypeId) (lo hi mx : Option Operand) : PV → R
 | .e (.c (.own b off n s _)) => match P.underlying t, h with
  | some (.slice e), .sl L H r k => match u2 P e, pH l 0 L lo, pH l n H hi, k1u l lo hi H mx with
   | some (_, s'), some p1, some p2, some p3 => match Nat.beq s' s with
    | true => some (p1 ++ (p2 ++ (p3 ++ [L ≤ H, H ≤ n, off + L * s = r, H - L = k])), ⟨.e (.c (.own b r k s false)), [], [], []⟩)
    | false => none
   | _, _, _, _ => none
  | _, _ => none
 | .e (.c (.d (.sl ds n))) => match P.underlying t, h with
  | some (.slice e), .sls L H k r => match u2 P e, pH l 0 L lo, pH l n H hi, k1u l lo hi H mx with
   | some (_, s), some p1, some p2, some p3 => some (p1 ++ (p2 ++ (p3 ++ [L ≤ H, H ≤ n, H - L = k, (ds.drop (L * s)).take (k * s) = r])), ⟨.e (.c (.d (.sl r k))), [], [], []⟩)
   | _, _, _, _ => none
  | _, _ => none
 | .e (.c (.d (.lit (.slice none 0 0)))) => match P.underlying t with
  | some (.slice e) => match u2 P e, pH l 0 0 lo, pH l 0 0 hi, k1u l lo hi 0 mx with
   | some (_, _), some p1, some p2, some p3 => some (p1 ++ (p2 ++ p3), ⟨LV aN, [], [], []⟩)
   | _, _, _, _ => none
  | _ => none
 | _ => none
def k11 (P : Program) (t : TypeId) : Bool := match P.underlying t with
 | some (.slice e) => Nat.beq e (P.elem t)
 | _ => false
theorem k10 {t : TypeId} (h : k11 Try.prog t = true) : Try.prog.underlying t = some (.slice (Try.prog.elem t)) := by
 unfold k11 at h
 split at h
 ·rename_i e he; rw [he, ← Nat.eq_of_beq_eq_true h]
 ·cases h
def k24 (P : Program) (st : TypeId) (u : PV) : R := match k11 P st with
 | true => match u with
  | .e (.c (.own _ _ n _ _)) => pv (LV (.int .i64 n))
  | .e (.c (.d (.sl _ n))) => pv (LV (.int .i64 n))
  | .e (.c (.d (.lit (.slice none 0 0)))) => pv (LV (.int .i64 0))
  | _ => none
 | false => none
def k1w (h : H) : PV → PV → R
 | .e (.c (.d (.lit (.int k a)))), .e (.c (.d (.lit (.int k' b)))) => if k = k' then match h with
   | .no => pv (LV (.int k (min a b)))
   | .i r => iN [min a b = r] (LV (.int k r))
   | _ => none
  else none
 | _, _ => none
def k1z (h : H) : PV → PV → R
 | .e (.c (.d (.lit (.int k a)))), .e (.c (.d (.lit (.int k' b)))) => if k = k' then match h with
   | .no => pv (LV (.int k (max a b)))
   | .i r => iN [max a b = r] (LV (.int k r))
   | _ => none
  else none
 | _, _ => none
def k1y (h : H) : PV → PV → PV → R := fun _ _ _ => none
theorem k0u (a b : Int) : (if b < a then b else a) = min a b := by rw [Int.min_def]; by_cases h : b < a <;> simp [h] <;> omega
theorem k0w (a b : Int) : (if a < b then b else a) = max a b := by rw [Int.max_def]; by_cases h : a < b <;> simp [h] <;> omega
def pD (g : EH) (s : Nat) (snap : Option (List D)) : PV → Option (List Prop × Nat × List D × List Nat)
 | .e (.c (.d (.lit (.slice none 0 0)))) => some ([], 0, [], [])
 | .e (.c (.d (.sl ds m))) => some ([ds.length = m * s], m, ds, [])
 | .e (.c (.own b off m s' _)) => match Nat.beq s' s, g.lookup b with
  | true, some (some (_, .ds l)) => match snap with
   | none => match off with
    | 0 => some ([l.length = m * s], m, l, [b])
    | _ => none
   | some r => some ([(l.drop off).take (m * s) = r, r.length = m * s], m, r, [b])
  | _, _ => none
 | _ => none
theorem dQ {l : List (Nat × PV)} {g : EH} {s : Nat} {snap : Option (List D)} {y : Operand} {u : PV} (hu : Ev l y u) {ps : List Prop} {m : Nat} {ds : List D} {foot : List Nat} (h : pD g s snap u = some (ps, m, ds, foot)) (hp : ∀ p ∈ ps, p) : Src l (kG g) s y m (ds.map .d) foot := by
 unfold pD at h
 split at h
 ·cases h; exact .nil hu
 ·cases h; exact .sl hu (hp _ (List.mem_cons_self ..))
 ·split at h
  ·rename_i hs hb
   have hs := Nat.eq_of_beq_eq_true hs
   subst hs
   have hb' := qS hb
   split at h
   ·split at h
    ·cases h
     have h1 := hp _ (List.mem_cons_self ..)
     refine .own hu hb' ?_ (by rw [List.length_map]; exact h1)
     rw [List.drop_zero]; exact List.take_of_length_le (by show (List.map C.d _).length ≤ _; rw [List.length_map, h1]; exact Nat.le_refl _)
    ·cases h
   ·cases h
    have h1 := hp _ (List.mem_cons_self ..)
    have h2 := hp _ (List.mem_cons_of_mem _ (List.mem_cons_self ..))
    refine .own hu hb' ?_ (by rw [List.length_map]; exact h2)
    show ((List.map C.d _).drop _).take _ = _
    rw [← List.map_drop, ← List.map_take, h1]
  ·cases h
 ·cases h
def k8y (P : Program) (h : H) (g : EH) (nx : Nat) (t : TypeId) (u v : PV) : R := match P.underlying t, h with
 | some (.slice e), .ap snap n' r => match k5i P e with
  | some (z, s, bs) => match Nat.beq z.cells.size s && (Nat.blt 0 s && Nat.ble 1 bs), pD g s snap v with
   | true, some (ps, m, ds, foot) => match u with
    | .e (.c (.d (.lit (.slice none 0 0)))) => some (ps ++ [m * bs ≤ 140737488355328, m = n', ds = r], ⟨.e (.c (.own nx 0 n' s true)), [(nx, some (e, .ds r))], [nx], foot⟩)
    | .e (.c (.own b 0 n s' true)) => match Nat.beq s' s, g.lookup b with
     | true, some (some (T, .ds l)) => match Nat.beq T e with
      | true => some (ps ++ [l.length = n * s, (n + m) * bs ≤ 140737488355328, n + m = n', l ++ ds = r], ⟨.e (.c (.own nx 0 n' s true)), [(b, none), (nx, some (e, .ds r))], [nx], b :: foot⟩)
      | false => none
     | _, _ => none
    | _ => none
   | _, _ => none
  | none => none
 | _, _ => none
def u1o (P : Program) (h : H) (g : EH) (nx : Nat) (t tn : TypeId) : PV → PV → R := fun _ _ => none
def k8u (P : Program) (h : H) (g : EH) (t : TypeId) (u v : PV) : R := match P.underlying t, h, u with
 | some (.slice e), .cp snap k r, .e (.c (.own b off n 1 _)) => match (P.info? e).map (·.size), g.lookup b, pD g 1 snap v with
  | some 1, some (some (T, .ds l)), some (ps, m, ds, foot) => some (ps ++ [off + n ≤ l.length, min m n = k, l.take off ++ ds.take k ++ l.drop (off + k) = r], ⟨LV (.int .i64 k), [(b, some (T, .ds r))], [], b :: foot⟩)
  | _, _, _ => none
 | _, _, _ => none
section
variable {cx : Cx} {o : Oper} {l : List (Nat × PV)} {g : EH}
theorem g7 {n bs : Nat} (h : n * bs ≤ 140737488355328) (hb : 1 ≤ bs) : n ≤ maxLen := by
 have : n * 1 ≤ n * bs := Nat.mul_le_mul_left _ hb
 unfold maxLen; omega
theorem cK (z : Array Value) : ∀ n : Nat, (madeCells z (n * z.size)).toList = (List.replicate n z.toList).flatten
 | 0 => by simp [madeCells]
 | n + 1 => by
  have ih := cK z n
  unfold madeCells at ih ⊢
  rw [Array.toList_map, Array.toList_range] at ih ⊢
  rw [List.replicate_succ', List.flatten_append, ← ih, Nat.succ_mul, List.range_add, List.map_append, List.map_map]
  congr 1
  simp only [List.flatten_cons, List.flatten_nil, List.append_nil]
  apply List.ext_getElem (by simp)
  intro j h1 h2
  have hj : j < z.size := by simpa using h2
  have e : (n * z.size + j) % z.size = j := by rw [Nat.mul_comm, Nat.mul_add_mod]; exact Nat.mod_eq_of_lt hj
  simp [e, hj]
theorem oD {p : Nat → Prop} {ρ : Rh} {w : World} : ∀ {q : List Value}, q.all Value.oneCell' = true → All2 (RepC p ρ w) ((q.map D.lit).map C.d) q
 | [], _ => trivial
 | v :: q, h => by
  rw [List.all_cons, Bool.and_eq_true] at h
  exact ⟨.d (.lit _ h.1), oD h.2⟩
theorem tT {p : Nat → Prop} {ρ : Rh} {w : World} {q : List Value} (h : q.all Value.oneCell' = true) : ∀ n, All2 (RepC p ρ w) (((List.replicate n (q.map D.lit)).flatten).map C.d) (List.replicate n q).flatten
 | 0 => trivial
 | n + 1 => by
  rw [List.replicate_succ, List.replicate_succ, List.flatten_cons, List.flatten_cons, List.map_append]
  exact All2.app (oD h) (tT h n)
theorem k0c {nx n c s bs : Nat} {t e : TypeId} {z : Value} {x y : Operand} {kx ky : IntKind} {ix iy : Int} {ds : List D} (ho : o.op = .makeSlice t x y) (hu : Try.prog.underlying t = some (.slice e)) (hi : (Try.prog.info? e).map (fun i => (i.zero, i.size, i.bytes)) = some (some z, s, bs)) (hz : z.cells.size = s) (hz1 : z.cells.toList.all Value.oneCell' = true) (hx : Ev l x (LV (.int kx ix))) (hy : Ev l y (LV (.int ky iy))) (ex : ix = (n : Int)) (ey : iy = (c : Int)) (hn : n = c) (hm : c ≤ maxLen) (hb : bs * c ≤ 281474976710656) (hds : (List.replicate n (z.cells.toList.map D.lit)).flatten = ds) :
  OpOK cx o (S l) (S (kG g)) ⟨.e (.c (.own nx 0 n s true)), [(nx, some (e, ds.map C.d))], [nx], []⟩ :=
 b7 (xs := []) fun ρ a w hs => by
  have e1 := qA (hx.rep hs (by rw [ho]; simp [Op.operands]))
  have e2 := qA (hy.rep hs (by rw [ho]; simp [Op.operands]))
  subst ex; subst ey; subst hn; subst hz; subst hds
  obtain ⟨i, h2, h3, h4, h5⟩ := info_parts hi
  have hb' : (i.bytes : Int) * (n : Int) ≤ 281474976710656 := by
   have h : ((bs * n : Nat) : Int) ≤ 281474976710656 := by omega
   rw [h5]; rwa [Int.natCast_mul] at h
  have hr := run_make (P := Try.prog) w t e i z hu h2 h3 kx ky n n (by omega) (by omega) hb' (by unfold maxLen at hm; omega)
  simp only [Int.toNat_natCast, h4] at hr
  have e3 : madeCells z.cells (n * z.cells.size) = ((List.replicate n z.cells.toList).flatten ++ []).toArray := by
   apply Array.ext'
   rw [cK]; simp
  rw [e3] at hr
  refine ⟨(List.replicate n z.cells.toList).flatten, [], n, by unfold execOp; simp [ho, e1, e2, hr], ?_, Nat.le_refl _, hm, by simp⟩
  exact tT hz1 n
theorem k56 {h : H} {nx : Nat} {t : TypeId} {x y : Operand} (ho : o.op = .makeSlice t x y) {u v : PV} (hu : Ev l x u) (hv : Ev l y v) : OKR cx o l g (k8p Try.prog h nx t u v) := by
 unfold k8p
 split
 ·split
  ·rename_i ht
   split
   ·rename_i he
    split
    ·rename_i hz
     rw [Bool.and_eq_true] at hz
     refine OKR.some fun hp => ?_
     obtain ⟨h1, h2, h3, h4, h5⟩ := hp
     have h5 : _ = _ := h5
     have hb := Nat.le_of_ble_eq_true hz.2
     have h6 := g7 (n := _) (bs := 1) (h := by rw [Nat.mul_one]; exact Nat.le_refl _) (by omega)
     exact k0d ho ht (fR he) hz.1 hu hv h1 h2 h3 (by
      refine Nat.le_trans (Nat.le_trans (Nat.le_mul_of_pos_left _ hb) h4) ?_
      unfold maxLen; omega) h4 (by show _ = List.map C.d _; rw [← h5]; simp)
    ·exact OKR.none
   ·rename_i he
    split
    ·rename_i hz
     rw [Bool.and_eq_true, Bool.and_eq_true] at hz
     refine OKR.some fun hp => ?_
     obtain ⟨h1, h2, h3, h4, h5⟩ := hp
     have h5 : _ = _ := h5
     have hb := Nat.le_of_ble_eq_true hz.2.2
     exact k0c ho ht (fR he) (Nat.eq_of_beq_eq_true hz.1) hz.2.1 hu hv h1 h2 h3 (by
      refine Nat.le_trans (Nat.le_trans (Nat.le_mul_of_pos_left _ hb) h4) ?_
      unfold maxLen; omega) h4 h5
    ·exact OKR.none
   ·exact OKR.none
  ·exact OKR.none
 ·exact OKR.none
theorem k58 {h : H} {t : TypeId} {x y : Operand} (ho : o.op = .indexAddr t x y) {u v : PV} (hu : Ev l x u) (hv : Ev l y v) : OKR cx o l g (k8r Try.prog h t u v) := by
 unfold k8r
 split
 ·split
  ·rename_i ht
   split
   ·rename_i he
    split
    ·rename_i hs
     have hs := Nat.eq_of_beq_eq_true hs
     subst hs
     refine OKR.some fun hp => ?_
     obtain ⟨h1, h2, h3⟩ := hp
     have h3 : _ = _ := h3
     subst h1
     exact k0e ho ht he hu hv (by omega) (by omega) (by rw [Int.toNat_natCast]; exact h3)
    ·exact OKR.none
   ·exact OKR.none
  ·exact OKR.none
 ·split
  ·rename_i ht
   split
   ·rename_i he
    refine OKR.some fun hp => ?_
    obtain ⟨h1, h2⟩ := hp
    have h2 : _ < _ := h2
    subst h1
    exact oM ho ht he hu hv (by omega) (by omega) (by rw [Int.toNat_natCast, k4b])
   ·exact OKR.none
  ·exact OKR.none
 ·exact OKR.none
theorem k51 {h : H} {t : TypeId} {x : Operand} {lo hi mx : Option Operand} (ho : o.op = .slice t x lo hi mx) {u : PV} (hu : Ev l x u) : OKR cx o l g (k8m Try.prog h l t lo hi mx u) := by
 unfold k8m
 split
 ·split
  ·rename_i ht
   split
   ·rename_i he h1 h2 h3
    split
    ·rename_i hs
     have hs := Nat.eq_of_beq_eq_true hs
     subst hs
     refine OKR.some fun hp => ?_
     have hp := (qB _).1 hp
     have q1 := cA h1 (fun p h => hp p (by simp [h]))
     have q2 := cA h2 (fun p h => hp p (by simp [h]))
     have q3 := mS h3 (fun p h => hp p (by simp [h]))
     exact k08 ho ht he hu q1 q2 q3 (hp _ (by simp)) (hp _ (by simp)) (hp (_ + _ = _) (by simp)) (hp (_ - _ = _) (by simp))
    ·exact OKR.none
   ·exact OKR.none
  ·exact OKR.none
 ·split
  ·rename_i ht
   split
   ·rename_i he h1 h2 h3
    refine OKR.some fun hp => ?_
    have hp := (qB _).1 hp
    have q1 := cA h1 (fun p h => hp p (by simp [h]))
    have q2 := cA h2 (fun p h => hp p (by simp [h]))
    have q3 := mS h3 (fun p h => hp p (by simp [h]))
    exact oK ho ht he hu q1 q2 q3 (hp _ (by simp)) (hp _ (by simp)) (hp (_ - _ = _) (by simp)) (hp (List.take _ _ = _) (by simp))
   ·exact OKR.none
  ·exact OKR.none
 ·split
  ·rename_i ht
   split
   ·rename_i he h1 h2 h3
    refine OKR.some fun hp => ?_
    have hp := (qB _).1 hp
    have q1 := cA h1 (fun p h => hp p (by simp [h]))
    have q2 := cA h2 (fun p h => hp p (by simp [h]))
    have q3 := mS h3 (fun p h => hp p (by simp [h]))
    exact l1 ho ht he hu q1 q2 q3
   ·exact OKR.none
  ·exact OKR.none
 ·exact OKR.none
theorem k23 {x : Operand} {st : TypeId} (ho : o.op = .call { callee := .builtin .len, args := #[x], argTypes := #[st] }) {u : PV} (hu : Ev l x u) : OKR cx o l g (k24 Try.prog st u) := by
 unfold k24
 split
 ·rename_i hl
  have hl := k10 hl
  split
  ·exact OKR.some fun _ => rU (ty := 0) (ts := #[]) ho hl hu k4i
  ·exact OKR.some fun _ => rU (ty := 0) (ts := #[]) ho hl hu k8c
  ·exact OKR.some fun _ => rU (ty := 0) (ts := #[]) ho hl hu k4j
  ·exact OKR.none
 ·exact OKR.none
theorem k1v {h : H} {x y : Operand} {ts : Array TypeId} (ho : o.op = .call { callee := .builtin .min, args := #[x, y], argTypes := ts }) {u v : PV} (hu : Ev l x u) (hv : Ev l y v) : OKR cx o l g (k1w h u v) := by
 unfold k1w
 split
 ·split
  ·rename_i hk
   subst hk
   split
   ·exact OKR.some fun _ => k0a ho hu hv (k0u _ _)
   ·exact OKR.some fun hp => k0a ho hu hv ((k0u _ _).trans hp)
   ·exact OKR.none
  ·exact OKR.none
 ·exact OKR.none
theorem k1x {h : H} {x y : Operand} {ts : Array TypeId} (ho : o.op = .call { callee := .builtin .max, args := #[x, y], argTypes := ts }) {u v : PV} (hu : Ev l x u) (hv : Ev l y v) : OKR cx o l g (k1z h u v) := by
 unfold k1z
 split
 ·split
  ·rename_i hk
   subst hk
   split
   ·exact OKR.some fun _ => k0b ho hu hv (k0w _ _)
   ·exact OKR.some fun hp => k0b ho hu hv ((k0w _ _).trans hp)
   ·exact OKR.none
  ·exact OKR.none
 ·exact OKR.none
theorem xP {h : H} {x y z : Operand} {ts : Array TypeId} (ho : o.op = .call { callee := .builtin .max, args := #[x, y, z], argTypes := ts }) {u v q : PV} (hu : Ev l x u) (hv : Ev l y v) (hq : Ev l z q) : OKR cx o l g (k1y h u v q) := OKR.none
theorem k5e {h : H} {nx : Nat} {x y : Operand} {t : TypeId} (ho : o.op = .call { callee := .builtin .append, args := #[x, y], argTypes := #[t, t] }) {u v : PV} (hu : Ev l x u) (hv : Ev l y v) : OKR cx o l g (k8y Try.prog h g nx t u v) := by
 unfold k8y
 split
 ·rename_i ht
  split
  ·rename_i he
   split
   ·rename_i hc hsrc
    simp only [Bool.and_eq_true] at hc
    obtain ⟨c1, c2, c3⟩ := hc
    have c1 := Nat.eq_of_beq_eq_true c1
    have c2 : 0 < _ := Nat.le_of_ble_eq_true c2
    have c3 := Nat.le_of_ble_eq_true c3
    split
    ·refine OKR.some fun hp => ?_
     have hp := (qB _).1 hp
     have hS := dQ hv hsrc (fun p h => hp p (by simp [h]))
     have h1 := hp (_ * _ ≤ _) (List.mem_append_right _ (List.mem_cons_self ..))
     have h2 := hp (_ = _) (List.mem_append_right _ (List.mem_cons_of_mem _ (List.mem_cons_self ..)))
     have h3 := hp (_ = _) (List.mem_append_right _ (List.mem_cons_of_mem _ (List.mem_cons_of_mem _ (List.mem_cons_self ..))))
     subst h2
     exact gR ho ht (fR he) c1 c2 hu hS (g7 h1 c3) h1 (by rw [h3]; rfl)
    ·split
     ·rename_i hs hb
      have hs := Nat.eq_of_beq_eq_true hs
      subst hs
      split
      ·rename_i hT
       have hT := Nat.eq_of_beq_eq_true hT
       subst hT
       refine OKR.some fun hp => ?_
       have hp := (qB _).1 hp
       have hS := dQ hv hsrc (fun p h => hp p (by simp [h]))
       have h1 := hp (_ = _) (List.mem_append_right _ (List.mem_cons_self ..))
       have h2 := hp (_ ≤ _) (List.mem_append_right _ (List.mem_cons_of_mem _ (List.mem_cons_self ..)))
       have h3 := hp (_ = _) (List.mem_append_right _ (List.mem_cons_of_mem _ (List.mem_cons_of_mem _ (List.mem_cons_self ..))))
       have h4 := hp (_ = _) (List.mem_append_right _ (List.mem_cons_of_mem _ (List.mem_cons_of_mem _ (List.mem_cons_of_mem _ (List.mem_cons_self ..)))))
       exact rY ho ht (fR he) c1 c2 hu (qS hb) (by show (List.map C.d _).length = _; rw [List.length_map]; exact h1) hS (g7 h2 c3) h2 (by show List.map C.d _ ++ _ = List.map C.d _; rw [← List.map_append, h4]) h3
      ·exact OKR.none
     ·exact OKR.none
    ·exact OKR.none
   ·exact OKR.none
  ·exact OKR.none
 ·exact OKR.none
theorem k4z {h : H} {nx : Nat} {x y : Operand} {t tn : TypeId} (ho : o.op = .call { callee := .builtin .append, args := #[x, y], argTypes := #[t, tn] }) {u v : PV} (hu : Ev l x u) (hv : Ev l y v) : OKR cx o l g (u1o Try.prog h g nx t tn u v) := OKR.none
theorem k5a {h : H} {x y : Operand} {t st : TypeId} (ho : o.op = .call { callee := .builtin .copy, args := #[x, y], argTypes := #[t, st] }) {u v : PV} (hu : Ev l x u) (hv : Ev l y v) : OKR cx o l g (k8u Try.prog h g t u v) := by
 unfold k8u
 split
 ·rename_i ht
  split
  ·rename_i he hb hsrc
   refine OKR.some fun hp => ?_
   have hp := (qB _).1 hp
   have hS := dQ hv hsrc (fun p h => hp p (by simp [h]))
   have h1 := hp (_ ≤ _) (List.mem_append_right _ (List.mem_cons_self ..))
   have h2 := hp (_ = _) (List.mem_append_right _ (List.mem_cons_of_mem _ (List.mem_cons_self ..)))
   have h3 := hp (_ = _) (List.mem_append_right _ (List.mem_cons_of_mem _ (List.mem_cons_of_mem _ (List.mem_cons_self ..))))
   exact k4a (ty := 0) ho ht he hu (qS hb) (by show _ ≤ (List.map C.d _).length; rw [List.length_map]; exact h1) hS h2 (by
    show List.take _ (List.map C.d _) ++ List.take _ (List.map C.d _) ++ List.drop _ (List.map C.d _) = List.map C.d _
    rw [← List.map_take, ← List.map_take, ← List.map_drop, ← List.map_append, ← List.map_append, h3])
  ·exact OKR.none
 ·exact OKR.none
end
end Go.Proofs.Ytalbpleglapihaa
