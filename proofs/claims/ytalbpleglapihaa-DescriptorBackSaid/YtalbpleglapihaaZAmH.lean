/- A memory told by names: slices that are computed. No statement is proved here. -/
import Derived.Test.YtalbpleglapihaaZAmG
namespace Go.Proofs.Ytalbpleglapihaa
open Go.ChangeShapes Go.WideShapes Go.ChangeAt Go.RowKit
open Bool renaming and_eq_true → kc0
open Int renaming toNat_natCast → kg6
open List renaming flatten_cons → ki3, length_map → kd0, map → kd3, map_append → kg0, map_drop → kj1, map_take → kh7, mem_append_right → kb9, mem_cons_of_mem → kb8, mem_cons_self → kb0, replicate → ka6, replicate_succ → kk1, take → ka2
open Nat renaming beq → ke2, ble → kk0, eq_of_beq_eq_true → kc1, le_mul_of_pos_left → kj5, le_of_ble_eq_true → ka5, le_refl → kc9, le_trans → ke9
set_option linter.unusedVariables false
set_option linter.unusedSimpArgs false
def k02 (P : Program) (e : TypeId) : Option (Value × Nat × Nat) := match P.info? e with
 | some i => match i.zero with
  | some z => some (z, i.size, i.bytes)
  | none => none
 | none => none
theorem c5 {e : TypeId} {z : Value} {s bs : Nat} (h : k02 Try.prog e = some (z, s, bs)) : (Try.prog.info? e).map (fun i => (i.zero, i.size, i.bytes)) = some (some z, s, bs) := by
 unfold k02 at h
 split at h
 ·rename_i i hi
  split at h
  ·rename_i z' hz; cases h; rw [hi]; simp [hz]
  ·cases h
 ·cases h
def u0g (P : Program) (h : H) (nx : Nat) (t : TypeId) : PV → PV → R
 | .e (.c (.d (.lit (.int _ ix)))), .e (.c (.d (.lit (.int _ iy)))) => match P.underlying t, h with
  | some (.slice e), .mk n c r => match k02 P e with
   | some (z, 1, bs) => match z.oneCell' && kk0 1 bs with
    | true => some ([ix = (n : Int), iy = (c : Int), n ≤ c, bs * c ≤ 281474976710656, ka6 n (.lit z) = r], ⟨.e (.c (.own nx 0 n 1 true)), [(nx, some (e, .ds r))], [nx], []⟩)
    | false => none
   | some (z, s, bs) => match ke2 z.cells.size s && (z.cells.toList.all Value.oneCell' && kk0 1 bs) with
    | true => some ([ix = (n : Int), iy = (c : Int), n = c, bs * c ≤ 281474976710656, (ka6 n (z.cells.toList.map D.lit)).flatten = r], ⟨.e (.c (.own nx 0 n s true)), [(nx, some (e, .ds r))], [nx], []⟩)
    | false => none
   | none => none
  | _, _ => none
 | _, _ => none
def u0i (P : Program) (h : H) (t : TypeId) : PV → PV → R
 | .e (.c (.own b off n s _)), .e (.c (.d (.lit (.int _ i)))) => match P.underlying t, h with
  | some (.slice e), .n2 k r => match u2 P e with
   | some (_, s') => match ke2 s' s with
    | true => some ([i = (k : Int), k < n, off + k * s = r], ⟨.e (.c (.ptr b r)), [], [], []⟩)
    | false => none
   | none => none
  | _, _ => none
 | .e (.c (.d (.sl ds n))), .e (.c (.d (.lit (.int _ i)))) => match P.underlying t, h with
  | some (.slice e), .n k => match u2 P e with
   | some (_, s) => some ([i = (k : Int), k < n], ⟨.e (.c (.rp (ds.drop (k9v k s)))), [], [], []⟩)
   | none => none
  | _, _ => none
 | _, _ => none
def rZ (l : List (Nat × PV)) (d n : Nat) : Option Operand → Option (List Prop)
 | none => some [d = n]
 | some x => match vA l x with
  | some (.e (.c (.d (.lit (.int _ i))))) => some [i = (n : Int)]
  | _ => none
theorem cZ {l : List (Nat × PV)} {d n : Nat} {x : Option Operand} {ps : List Prop} (h : rZ l d n x = some ps) (hp : ∀ p ∈ ps, p) : Bd l d x n := by
 unfold rZ at h
 split at h
 ·cases h; have := hp (d = n) (kb0 ..); subst this; exact .no
 ·split at h
  ·rename_i hx; cases h; exact .yes (fL hx) (hp _ (kb0 ..))
  ·cases h
def k39 (l : List (Nat × PV)) (lo hi : Option Operand) (n : Nat) : Option Operand → Option (List Prop)
 | none => some []
 | some x => match hi, vA l x with
  | some _, some (.e (.c (.d (.lit (.int _ i))))) => some [i = (n : Int)]
  | _, _ => none
theorem oA {l : List (Nat × PV)} {lo hi : Option Operand} {n : Nat} {x : Option Operand} {ps : List Prop} (h : k39 l lo hi n x = some ps) (hp : ∀ p ∈ ps, p) : Mx l lo hi n x := by
 unfold k39 at h
 split at h
 ·exact .no
 ·split at h
  ·rename_i hx; cases h; exact .yes rfl (fL hx) (hp _ (kb0 ..))
  ·cases h
def u0d (P : Program) (h : H) (l : List (Nat × PV)) (t : TypeId) (lo hi mx : Option Operand) : PV → R
 | .e (.c (.own b off n s _)) => match P.underlying t, h with
  | some (.slice e), .sl L H r k => match u2 P e, rZ l 0 L lo, rZ l n H hi, k39 l lo hi H mx with
   | some (_, s'), some p1, some p2, some p3 => match ke2 s' s with
    | true => some (p1 ++ (p2 ++ (p3 ++ [L ≤ H, H ≤ n, off + L * s = r, H - L = k])), ⟨.e (.c (.own b r k s false)), [], [], []⟩)
    | false => none
   | _, _, _, _ => none
  | _, _ => none
 | .e (.c (.d (.sl ds n))) => match P.underlying t, h with
  | some (.slice e), .sls L H k r => match u2 P e, rZ l 0 L lo, rZ l n H hi, k39 l lo hi H mx with
   | some (_, s), some p1, some p2, some p3 => some (p1 ++ (p2 ++ (p3 ++ [L ≤ H, H ≤ n, H - L = k, (ds.drop (L * s)).take (k * s) = r])), ⟨.e (.c (.d (.sl r k))), [], [], []⟩)
   | _, _, _, _ => none
  | _, _ => none
 | .e (.c (.d (.lit (.slice none 0 0)))) => match P.underlying t with
  | some (.slice e) => match u2 P e, rZ l 0 0 lo, rZ l 0 0 hi, k39 l lo hi 0 mx with
   | some (_, _), some p1, some p2, some p3 => some (p1 ++ (p2 ++ p3), ⟨LV aB, [], [], []⟩)
   | _, _, _, _ => none
  | _ => none
 | _ => none
def k2f (P : Program) (t : TypeId) : Bool := match P.underlying t with
 | some (.slice e) => ke2 e (P.elem t)
 | _ => false
theorem k2e {t : TypeId} (h : k2f Try.prog t = true) : Try.prog.underlying t = some (.slice (Try.prog.elem t)) := by
 unfold k2f at h
 split at h
 ·rename_i e he; rw [he, ← kc1 h]
 ·cases h
def k3j (P : Program) (st : TypeId) (u : PV) : R := match k2f P st with
 | true => match u with
  | .e (.c (.own _ _ n _ _)) => pv (LV (.int .i64 n))
  | .e (.c (.d (.sl _ n))) => pv (LV (.int .i64 n))
  | .e (.c (.d (.lit (.slice none 0 0)))) => pv (LV (.int .i64 0))
  | _ => none
 | false => none
def k3b (h : H) : PV → PV → R
 | .e (.c (.d (.lit (.int k a)))), .e (.c (.d (.lit (.int k' b)))) => if k = k' then match h with
   | .no => pv (LV (.int k (min a b)))
   | .i r => jP [min a b = r] (LV (.int k r))
   | _ => none
  else none
 | _, _ => none
def k3e (h : H) : PV → PV → R
 | .e (.c (.d (.lit (.int k a)))), .e (.c (.d (.lit (.int k' b)))) => if k = k' then match h with
   | .no => pv (LV (.int k (max a b)))
   | .i r => jP [max a b = r] (LV (.int k r))
   | _ => none
  else none
 | _, _ => none
def k3d (h : H) : PV → PV → PV → R := fun _ _ _ => none
theorem k28 (a b : Int) : (if b < a then b else a) = min a b := by rw [Int.min_def]; by_cases h : b < a <;> simp [h] <;> omega
theorem k2a (a b : Int) : (if a < b then b else a) = max a b := by rw [Int.max_def]; by_cases h : a < b <;> simp [h] <;> omega
def rU (g : EH) (s : Nat) (snap : Option (List D)) : PV → Option (List Prop × Nat × List D × List Nat)
 | .e (.c (.d (.lit (.slice none 0 0)))) => some ([], 0, [], [])
 | .e (.c (.d (.sl ds m))) => some ([ds.length = m * s], m, ds, [])
 | .e (.c (.own b off m s' _)) => match ke2 s' s, g.lookup b with
  | true, some (some (_, .ds l)) => match snap with
   | none => match off with
    | 0 => some ([l.length = m * s], m, l, [b])
    | _ => none
   | some r => some ([(l.drop off).take (m * s) = r, r.length = m * s], m, r, [b])
  | _, _ => none
 | _ => none
theorem eL {l : List (Nat × PV)} {g : EH} {s : Nat} {snap : Option (List D)} {y : Operand} {u : PV} (hu : Ev l y u) {ps : List Prop} {m : Nat} {ds : List D} {foot : List Nat} (h : rU g s snap u = some (ps, m, ds, foot)) (hp : ∀ p ∈ ps, p) : Src l (kG g) s y m (ds.map .d) foot := by
 unfold rU at h
 split at h
 ·cases h; exact .nil hu
 ·cases h; exact .sl hu (hp _ (kb0 ..))
 ·split at h
  ·rename_i hs hb
   have hs := kc1 hs
   subst hs
   have hb' := qP hb
   split at h
   ·split at h
    ·cases h
     have h1 := hp _ (kb0 ..)
     refine .own hu hb' ?_ (by rw [kd0]; exact h1)
     rw [List.drop_zero]; exact List.take_of_length_le (by show (kd3 C.d _).length ≤ _; rw [kd0, h1]; exact kc9 _)
    ·cases h
   ·cases h
    have h1 := hp _ (kb0 ..)
    have h2 := hp _ (kb8 _ (kb0 ..))
    refine .own hu hb' ?_ (by rw [kd0]; exact h2)
    show ((kd3 C.d _).drop _).take _ = _
    rw [← kj1, ← kh7, h1]
  ·cases h
 ·cases h
def u0p (P : Program) (h : H) (g : EH) (nx : Nat) (t : TypeId) (u v : PV) : R := match P.underlying t, h with
 | some (.slice e), .ap snap n' r => match k02 P e with
  | some (z, s, bs) => match ke2 z.cells.size s && (Nat.blt 0 s && kk0 1 bs), rU g s snap v with
   | true, some (ps, m, ds, foot) => match u with
    | .e (.c (.d (.lit (.slice none 0 0)))) => some (ps ++ [m * bs ≤ 140737488355328, m = n', ds = r], ⟨.e (.c (.own nx 0 n' s true)), [(nx, some (e, .ds r))], [nx], foot⟩)
    | .e (.c (.own b 0 n s' true)) => match ke2 s' s, g.lookup b with
     | true, some (some (T, .ds l)) => match ke2 T e with
      | true => some (ps ++ [l.length = n * s, (n + m) * bs ≤ 140737488355328, n + m = n', l ++ ds = r], ⟨.e (.c (.own nx 0 n' s true)), [(b, none), (nx, some (e, .ds r))], [nx], b :: foot⟩)
      | false => none
     | _, _ => none
    | _ => none
   | _, _ => none
  | none => none
 | _, _ => none
def u0b (P : Program) (h : H) (g : EH) (nx : Nat) (t tn : TypeId) : PV → PV → R
 | .e (.c (.own b 0 n 1 true)), .e (.c (.d (.lit (.int _ iy)))) => match P.underlying t, P.underlying tn, h, g.lookup b with
  | some (.slice e), some (.int _), .az m n' r, some (some (T, .ds l)) => match k02 P e with
   | some (z, 1, bs) => match ke2 T e && (z.oneCell' && kk0 1 bs) with
    | true => some ([iy = (m : Int), l.length = n, (n + m) * bs ≤ 140737488355328, n + m = n', l ++ ka6 m (.lit z) = r], ⟨.e (.c (.own nx 0 n' 1 true)), [(b, none), (nx, some (e, .ds r))], [nx], [b]⟩)
    | false => none
   | _ => none
  | _, _, _, _ => none
 | _, _ => none
def u0l (P : Program) (h : H) (g : EH) (t : TypeId) (u v : PV) : R := match P.underlying t, h, u with
 | some (.slice e), .cp snap k r, .e (.c (.own b off n 1 _)) => match (P.info? e).map (·.size), g.lookup b, rU g 1 snap v with
  | some 1, some (some (T, .ds l)), some (ps, m, ds, foot) => some (ps ++ [off + n ≤ l.length, min m n = k, l.take off ++ ds.take k ++ l.drop (off + k) = r], ⟨LV (.int .i64 k), [(b, some (T, .ds r))], [], b :: foot⟩)
  | _, _, _ => none
 | _, _, _ => none
section
variable {cx : Cx} {o : Oper} {l : List (Nat × PV)} {g : EH}
theorem cP {n bs : Nat} (h : n * bs ≤ 140737488355328) (hb : 1 ≤ bs) : n ≤ maxLen := by
 have : n * 1 ≤ n * bs := Nat.mul_le_mul_left _ hb
 unfold maxLen; omega
theorem dD (z : Array Value) : ∀ n : Nat, (madeCells z (n * z.size)).toList = (ka6 n z.toList).flatten
 | 0 => by simp [madeCells]
 | n + 1 => by
  have ih := dD z n
  unfold madeCells at ih ⊢
  rw [Array.toList_map, Array.toList_range] at ih ⊢
  rw [List.replicate_succ', List.flatten_append, ← ih, Nat.succ_mul, List.range_add, kg0, List.map_map]
  congr 1
  simp only [ki3, List.flatten_nil, List.append_nil]
  apply List.ext_getElem (by simp)
  intro j h1 h2
  have hj : j < z.size := by simpa using h2
  have e : (n * z.size + j) % z.size = j := by rw [Nat.mul_comm, Nat.mul_add_mod]; exact Nat.mod_eq_of_lt hj
  simp [e, hj]
theorem pL {p : Nat → Prop} {ρ : Rh} {w : World} : ∀ {q : List Value}, q.all Value.oneCell' = true → All2 (RepC p ρ w) ((q.map D.lit).map C.d) q
 | [], _ => trivial
 | v :: q, h => by
  rw [List.all_cons, kc0] at h
  exact ⟨.d (.lit _ h.1), pL h.2⟩
theorem w5 {p : Nat → Prop} {ρ : Rh} {w : World} {q : List Value} (h : q.all Value.oneCell' = true) : ∀ n, All2 (RepC p ρ w) (((ka6 n (q.map D.lit)).flatten).map C.d) (ka6 n q).flatten
 | 0 => trivial
 | n + 1 => by
  rw [kk1, kk1, ki3, ki3, kg0]
  exact All2.app (pL h) (w5 h n)
theorem k1q {nx n c s bs : Nat} {t e : TypeId} {z : Value} {x y : Operand} {kx ky : IntKind} {ix iy : Int} {ds : List D} (ho : o.op = .makeSlice t x y) (hu : Try.prog.underlying t = some (.slice e)) (hi : (Try.prog.info? e).map (fun i => (i.zero, i.size, i.bytes)) = some (some z, s, bs)) (hz : z.cells.size = s) (hz1 : z.cells.toList.all Value.oneCell' = true) (hx : Ev l x (LV (.int kx ix))) (hy : Ev l y (LV (.int ky iy))) (ex : ix = (n : Int)) (ey : iy = (c : Int)) (hn : n = c) (hm : c ≤ maxLen) (hb : bs * c ≤ 281474976710656) (hds : (ka6 n (z.cells.toList.map D.lit)).flatten = ds) :
  OpOK cx o (S l) (S (kG g)) ⟨.e (.c (.own nx 0 n s true)), [(nx, some (e, ds.map C.d))], [nx], []⟩ :=
 cW (xs := []) fun ρ a w hs => by
  have e1 := kZ (hx.rep hs (by rw [ho]; simp [Op.operands]))
  have e2 := kZ (hy.rep hs (by rw [ho]; simp [Op.operands]))
  subst ex; subst ey; subst hn; subst hz; subst hds
  obtain ⟨i, h2, h3, h4, h5⟩ := info_parts hi
  have hb' : (i.bytes : Int) * (n : Int) ≤ 281474976710656 := by
   have h : ((bs * n : Nat) : Int) ≤ 281474976710656 := by omega
   rw [h5]; rwa [Int.natCast_mul] at h
  have hr := run_make (P := Try.prog) w t e i z hu h2 h3 kx ky n n (by omega) (by omega) hb' (by unfold maxLen at hm; omega)
  simp only [kg6, h4] at hr
  have e3 : madeCells z.cells (n * z.cells.size) = ((ka6 n z.cells.toList).flatten ++ []).toArray := by
   apply Array.ext'
   rw [dD]; simp
  rw [e3] at hr
  refine ⟨(ka6 n z.cells.toList).flatten, [], n, by unfold execOp; simp [ho, e1, e2, hr], ?_, kc9 _, hm, by simp⟩
  exact w5 hz1 n
theorem k6q {h : H} {nx : Nat} {t : TypeId} {x y : Operand} (ho : o.op = .makeSlice t x y) {u v : PV} (hu : Ev l x u) (hv : Ev l y v) : OKR cx o l g (u0g Try.prog h nx t u v) := by
 unfold u0g
 split
 ·split
  ·rename_i ht
   split
   ·rename_i he
    split
    ·rename_i hz
     rw [kc0] at hz
     refine OKR.some fun hp => ?_
     obtain ⟨h1, h2, h3, h4, h5⟩ := hp
     have h5 : _ = _ := h5
     have hb := ka5 hz.2
     have h6 := cP (n := _) (bs := 1) (h := by rw [Nat.mul_one]; exact kc9 _) (by omega)
     exact k1r ho ht (c5 he) hz.1 hu hv h1 h2 h3 (by
      refine ke9 (ke9 (kj5 _ hb) h4) ?_
      unfold maxLen; omega) h4 (by show _ = kd3 C.d _; rw [← h5]; simp)
    ·exact OKR.none
   ·rename_i he
    split
    ·rename_i hz
     rw [kc0, kc0] at hz
     refine OKR.some fun hp => ?_
     obtain ⟨h1, h2, h3, h4, h5⟩ := hp
     have h5 : _ = _ := h5
     have hb := ka5 hz.2.2
     exact k1q ho ht (c5 he) (kc1 hz.1) hz.2.1 hu hv h1 h2 h3 (by
      refine ke9 (ke9 (kj5 _ hb) h4) ?_
      unfold maxLen; omega) h4 h5
    ·exact OKR.none
   ·exact OKR.none
  ·exact OKR.none
 ·exact OKR.none
theorem k6s {h : H} {t : TypeId} {x y : Operand} (ho : o.op = .indexAddr t x y) {u v : PV} (hu : Ev l x u) (hv : Ev l y v) : OKR cx o l g (u0i Try.prog h t u v) := by
 unfold u0i
 split
 ·split
  ·rename_i ht
   split
   ·rename_i he
    split
    ·rename_i hs
     have hs := kc1 hs
     subst hs
     refine OKR.some fun hp => ?_
     obtain ⟨h1, h2, h3⟩ := hp
     have h3 : _ = _ := h3
     subst h1
     exact k1s ho ht he hu hv (by omega) (by omega) (by rw [kg6]; exact h3)
    ·exact OKR.none
   ·exact OKR.none
  ·exact OKR.none
 ·split
  ·rename_i ht
   split
   ·rename_i he
    refine OKR.some fun hp => ?_
    obtain ⟨h1, h2⟩ := hp
    have h2 : _ < _ := h2
    subst h1
    exact pV ho ht he hu hv (by omega) (by omega) (by rw [kg6, k5v])
   ·exact OKR.none
  ·exact OKR.none
 ·exact OKR.none
theorem k6l {h : H} {t : TypeId} {x : Operand} {lo hi mx : Option Operand} (ho : o.op = .slice t x lo hi mx) {u : PV} (hu : Ev l x u) : OKR cx o l g (u0d Try.prog h l t lo hi mx u) := by
 unfold u0d
 split
 ·split
  ·rename_i ht
   split
   ·rename_i he h1 h2 h3
    split
    ·rename_i hs
     have hs := kc1 hs
     subst hs
     refine OKR.some fun hp => ?_
     have hp := (qD _).1 hp
     have q1 := cZ h1 (fun p h => hp p (by simp [h]))
     have q2 := cZ h2 (fun p h => hp p (by simp [h]))
     have q3 := oA h3 (fun p h => hp p (by simp [h]))
     exact k1m ho ht he hu q1 q2 q3 (hp _ (by simp)) (hp _ (by simp)) (hp (_ + _ = _) (by simp)) (hp (_ - _ = _) (by simp))
    ·exact OKR.none
   ·exact OKR.none
  ·exact OKR.none
 ·split
  ·rename_i ht
   split
   ·rename_i he h1 h2 h3
    refine OKR.some fun hp => ?_
    have hp := (qD _).1 hp
    have q1 := cZ h1 (fun p h => hp p (by simp [h]))
    have q2 := cZ h2 (fun p h => hp p (by simp [h]))
    have q3 := oA h3 (fun p h => hp p (by simp [h]))
    exact pT ho ht he hu q1 q2 q3 (hp _ (by simp)) (hp _ (by simp)) (hp (_ - _ = _) (by simp)) (hp (ka2 _ _ = _) (by simp))
   ·exact OKR.none
  ·exact OKR.none
 ·split
  ·rename_i ht
   split
   ·rename_i he h1 h2 h3
    refine OKR.some fun hp => ?_
    have hp := (qD _).1 hp
    have q1 := cZ h1 (fun p h => hp p (by simp [h]))
    have q2 := cZ h2 (fun p h => hp p (by simp [h]))
    have q3 := oA h3 (fun p h => hp p (by simp [h]))
    exact nD ho ht he hu q1 q2 q3
   ·exact OKR.none
  ·exact OKR.none
 ·exact OKR.none
theorem k3i {x : Operand} {st : TypeId} (ho : o.op = .call { callee := .builtin .len, args := #[x], argTypes := #[st] }) {u : PV} (hu : Ev l x u) : OKR cx o l g (k3j Try.prog st u) := by
 unfold k3j
 split
 ·rename_i hl
  have hl := k2e hl
  split
  ·exact OKR.some fun _ => tI (ty := 0) (ts := #[]) ho hl hu k62
  ·exact OKR.some fun _ => tI (ty := 0) (ts := #[]) ho hl hu u02
  ·exact OKR.some fun _ => tI (ty := 0) (ts := #[]) ho hl hu k63
  ·exact OKR.none
 ·exact OKR.none
theorem k3a {h : H} {x y : Operand} {ts : Array TypeId} (ho : o.op = .call { callee := .builtin .min, args := #[x, y], argTypes := ts }) {u v : PV} (hu : Ev l x u) (hv : Ev l y v) : OKR cx o l g (k3b h u v) := by
 unfold k3b
 split
 ·split
  ·rename_i hk
   subst hk
   split
   ·exact OKR.some fun _ => k1o ho hu hv (k28 _ _)
   ·exact OKR.some fun hp => k1o ho hu hv ((k28 _ _).trans hp)
   ·exact OKR.none
  ·exact OKR.none
 ·exact OKR.none
theorem k3c {h : H} {x y : Operand} {ts : Array TypeId} (ho : o.op = .call { callee := .builtin .max, args := #[x, y], argTypes := ts }) {u v : PV} (hu : Ev l x u) (hv : Ev l y v) : OKR cx o l g (k3e h u v) := by
 unfold k3e
 split
 ·split
  ·rename_i hk
   subst hk
   split
   ·exact OKR.some fun _ => k1p ho hu hv (k2a _ _)
   ·exact OKR.some fun hp => k1p ho hu hv ((k2a _ _).trans hp)
   ·exact OKR.none
  ·exact OKR.none
 ·exact OKR.none
theorem z2 {h : H} {x y z : Operand} {ts : Array TypeId} (ho : o.op = .call { callee := .builtin .max, args := #[x, y, z], argTypes := ts }) {u v q : PV} (hu : Ev l x u) (hv : Ev l y v) (hq : Ev l z q) : OKR cx o l g (k3d h u v q) := OKR.none
theorem k6y {h : H} {nx : Nat} {x y : Operand} {t : TypeId} (ho : o.op = .call { callee := .builtin .append, args := #[x, y], argTypes := #[t, t] }) {u v : PV} (hu : Ev l x u) (hv : Ev l y v) : OKR cx o l g (u0p Try.prog h g nx t u v) := by
 unfold u0p
 split
 ·rename_i ht
  split
  ·rename_i he
   split
   ·rename_i hc hsrc
    simp only [kc0] at hc
    obtain ⟨c1, c2, c3⟩ := hc
    have c1 := kc1 c1
    have c2 : 0 < _ := ka5 c2
    have c3 := ka5 c3
    split
    ·refine OKR.some fun hp => ?_
     have hp := (qD _).1 hp
     have hS := eL hv hsrc (fun p h => hp p (by simp [h]))
     have h1 := hp (_ * _ ≤ _) (kb9 _ (kb0 ..))
     have h2 := hp (_ = _) (kb9 _ (kb8 _ (kb0 ..)))
     have h3 := hp (_ = _) (kb9 _ (kb8 _ (kb8 _ (kb0 ..))))
     subst h2
     exact iM ho ht (c5 he) c1 c2 hu hS (cP h1 c3) h1 (by rw [h3]; rfl)
    ·split
     ·rename_i hs hb
      have hs := kc1 hs
      subst hs
      split
      ·rename_i hT
       have hT := kc1 hT
       subst hT
       refine OKR.some fun hp => ?_
       have hp := (qD _).1 hp
       have hS := eL hv hsrc (fun p h => hp p (by simp [h]))
       have h1 := hp (_ = _) (kb9 _ (kb0 ..))
       have h2 := hp (_ ≤ _) (kb9 _ (kb8 _ (kb0 ..)))
       have h3 := hp (_ = _) (kb9 _ (kb8 _ (kb8 _ (kb0 ..))))
       have h4 := hp (_ = _) (kb9 _ (kb8 _ (kb8 _ (kb8 _ (kb0 ..)))))
       exact tL ho ht (c5 he) c1 c2 hu (qP hb) (by show (kd3 C.d _).length = _; rw [kd0]; exact h1) hS (cP h2 c3) h2 (by show kd3 C.d _ ++ _ = kd3 C.d _; rw [← kg0, h4]) h3
      ·exact OKR.none
     ·exact OKR.none
    ·exact OKR.none
   ·exact OKR.none
  ·exact OKR.none
 ·exact OKR.none
theorem k6j {h : H} {nx : Nat} {x y : Operand} {t tn : TypeId} (ho : o.op = .call { callee := .builtin .append, args := #[x, y], argTypes := #[t, tn] }) {u v : PV} (hu : Ev l x u) (hv : Ev l y v) : OKR cx o l g (u0b Try.prog h g nx t tn u v) := by
 unfold u0b
 split
 ·split
  ·rename_i ht htn hb
   split
   ·rename_i he
    split
    ·rename_i hc
     simp only [kc0] at hc
     obtain ⟨c1, c2, c3⟩ := hc
     have c1 := kc1 c1
     subst c1
     have c3 := ka5 c3
     refine OKR.some fun hp => ?_
     obtain ⟨h1, h2, h3, h4, h5⟩ := hp
     have h5 : _ = _ := h5
     exact k1l ho ht htn (c5 he) c2 hu (qP hb) (by show (kd3 C.d _).length = _; rw [kd0]; exact h2) hv h1 (cP h3 c3) h3 (by show kd3 C.d _ ++ _ = kd3 C.d _; rw [← h5]; simp) h4
    ·exact OKR.none
   ·exact OKR.none
  ·exact OKR.none
 ·exact OKR.none
theorem k6u {h : H} {x y : Operand} {t st : TypeId} (ho : o.op = .call { callee := .builtin .copy, args := #[x, y], argTypes := #[t, st] }) {u v : PV} (hu : Ev l x u) (hv : Ev l y v) : OKR cx o l g (u0l Try.prog h g t u v) := by
 unfold u0l
 split
 ·rename_i ht
  split
  ·rename_i he hb hsrc
   refine OKR.some fun hp => ?_
   have hp := (qD _).1 hp
   have hS := eL hv hsrc (fun p h => hp p (by simp [h]))
   have h1 := hp (_ ≤ _) (kb9 _ (kb0 ..))
   have h2 := hp (_ = _) (kb9 _ (kb8 _ (kb0 ..)))
   have h3 := hp (_ = _) (kb9 _ (kb8 _ (kb8 _ (kb0 ..))))
   exact k5u (ty := 0) ho ht he hu (qP hb) (by show _ ≤ (kd3 C.d _).length; rw [kd0]; exact h1) hS h2 (by
    show ka2 _ (kd3 C.d _) ++ ka2 _ (kd3 C.d _) ++ List.drop _ (kd3 C.d _) = kd3 C.d _
    rw [← kh7, ← kh7, ← kj1, ← kg0, ← kg0, h3])
  ·exact OKR.none
 ·exact OKR.none
end
end Go.Proofs.Ytalbpleglapihaa
