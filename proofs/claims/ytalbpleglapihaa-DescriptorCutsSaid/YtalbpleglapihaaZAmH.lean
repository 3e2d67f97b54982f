/- A memory told by names: slices that are computed. No statement is proved here. -/
import Derived.Test.YtalbpleglapihaaZAmG
namespace Go.Proofs.Ytalbpleglapihaa
open Go.ChangeShapes Go.WideShapes Go.ChangeAt Go.RowKit
open Bool renaming and_eq_true → kc0
open Int renaming toNat_natCast → kg5
open List renaming flatten_cons → ki2, length_map → kd0, map → kd1, map_append → kf9, map_drop → kj1, map_take → kh6, mem_append_right → kb9, mem_cons_of_mem → kb8, mem_cons_self → kb0, replicate → ka6, replicate_succ → kj9, take → ka2
open Nat renaming beq → ke1, ble → kj8, eq_of_beq_eq_true → kc2, le_mul_of_pos_left → kj5, le_of_ble_eq_true → ka5, le_refl → kc6, le_trans → ke9
set_option linter.unusedVariables false
set_option linter.unusedSimpArgs false
def x4 (P : Program) (e : TypeId) : Option (Value × Nat × Nat) := match P.info? e with
 | some i => match i.zero with
  | some z => some (z, i.size, i.bytes)
  | none => none
 | none => none
theorem cF {e : TypeId} {z : Value} {s bs : Nat} (h : x4 Try.prog e = some (z, s, bs)) : (Try.prog.info? e).map (fun i => (i.zero, i.size, i.bytes)) = some (some z, s, bs) := by
 unfold x4 at h
 split at h
 ·rename_i i hi
  split at h
  ·rename_i z' hz; cases h; rw [hi]; simp [hz]
  ·cases h
 ·cases h
def k8v (P : Program) (h : H) (nx : Nat) (t : TypeId) : PV → PV → R
 | .e (.c (.d (.lit (.int _ ix)))), .e (.c (.d (.lit (.int _ iy)))) => match P.underlying t, h with
  | some (.slice e), .mk n c r => match x4 P e with
   | some (z, 1, bs) => match z.oneCell' && kj8 1 bs with
    | true => some ([ix = (n : Int), iy = (c : Int), n ≤ c, bs * c ≤ 281474976710656, ka6 n (.lit z) = r], ⟨.e (.c (.own nx 0 n 1 true)), [(nx, some (e, .ds r))], [nx], []⟩)
    | false => none
   | some (z, s, bs) => match ke1 z.cells.size s && (z.cells.toList.all Value.oneCell' && kj8 1 bs) with
    | true => some ([ix = (n : Int), iy = (c : Int), n = c, bs * c ≤ 281474976710656, (ka6 n (z.cells.toList.map D.lit)).flatten = r], ⟨.e (.c (.own nx 0 n s true)), [(nx, some (e, .ds r))], [nx], []⟩)
    | false => none
   | none => none
  | _, _ => none
 | _, _ => none
def k8x (P : Program) (h : H) (t : TypeId) : PV → PV → R
 | .e (.c (.own b off n s _)), .e (.c (.d (.lit (.int _ i)))) => match P.underlying t, h with
  | some (.slice e), .n2 k r => match u2 P e with
   | some (_, s') => match ke1 s' s with
    | true => some ([i = (k : Int), k < n, off + k * s = r], ⟨.e (.c (.ptr b r)), [], [], []⟩)
    | false => none
   | none => none
  | _, _ => none
 | .e (.c (.d (.sl ds n))), .e (.c (.d (.lit (.int _ i)))) => match P.underlying t, h with
  | some (.slice e), .n k => match u2 P e with
   | some (_, s) => some ([i = (k : Int), k < n], ⟨.e (.c (.rp (ds.drop (k8a k s)))), [], [], []⟩)
   | none => none
  | _, _ => none
 | _, _ => none
def pL (l : List (Nat × PV)) (d n : Nat) : Option Operand → Option (List Prop)
 | none => some [d = n]
 | some x => match y8 l x with
  | some (.e (.c (.d (.lit (.int _ i))))) => some [i = (n : Int)]
  | _ => none
theorem cD {l : List (Nat × PV)} {d n : Nat} {x : Option Operand} {ps : List Prop} (h : pL l d n x = some ps) (hp : ∀ p ∈ ps, p) : Bd l d x n := by
 unfold pL at h
 split at h
 ·cases h; have := hp (d = n) (kb0 ..); subst this; exact .no
 ·split at h
  ·rename_i hx; cases h; exact .yes (eX hx) (hp _ (kb0 ..))
  ·cases h
def k21 (l : List (Nat × PV)) (lo hi : Option Operand) (n : Nat) : Option Operand → Option (List Prop)
 | none => some []
 | some x => match hi, y8 l x with
  | some _, some (.e (.c (.d (.lit (.int _ i))))) => some [i = (n : Int)]
  | _, _ => none
theorem mX {l : List (Nat × PV)} {lo hi : Option Operand} {n : Nat} {x : Option Operand} {ps : List Prop} (h : k21 l lo hi n x = some ps) (hp : ∀ p ∈ ps, p) : Mx l lo hi n x := by
 unfold k21 at h
 split at h
 ·exact .no
 ·split at h
  ·rename_i hx; cases h; exact .yes rfl (eX hx) (hp _ (kb0 ..))
  ·cases h
def k8s (P : Program) (h : H) (l : List (Nat × PV)) (t : TypeId) (lo hi mx : Option Operand) : PV → R
 | .e (.c (.own b off n s _)) => match P.underlying t, h with
  | some (.slice e), .sl L H r k => match u2 P e, pL l 0 L lo, pL l n H hi, k21 l lo hi H mx with
   | some (_, s'), some p1, some p2, some p3 => match ke1 s' s with
    | true => some (p1 ++ (p2 ++ (p3 ++ [L ≤ H, H ≤ n, off + L * s = r, H - L = k])), ⟨.e (.c (.own b r k s false)), [], [], []⟩)
    | false => none
   | _, _, _, _ => none
  | _, _ => none
 | .e (.c (.d (.sl ds n))) => match P.underlying t, h with
  | some (.slice e), .sls L H k r => match u2 P e, pL l 0 L lo, pL l n H hi, k21 l lo hi H mx with
   | some (_, s), some p1, some p2, some p3 => some (p1 ++ (p2 ++ (p3 ++ [L ≤ H, H ≤ n, H - L = k, (ds.drop (L * s)).take (k * s) = r])), ⟨.e (.c (.d (.sl r k))), [], [], []⟩)
   | _, _, _, _ => none
  | _, _ => none
 | .e (.c (.d (.lit (.slice none 0 0)))) => match P.underlying t with
  | some (.slice e) => match u2 P e, pL l 0 0 lo, pL l 0 0 hi, k21 l lo hi 0 mx with
   | some (_, _), some p1, some p2, some p3 => some (p1 ++ (p2 ++ p3), ⟨LV v4, [], [], []⟩)
   | _, _, _, _ => none
  | _ => none
 | _ => none
def k17 (P : Program) (t : TypeId) : Bool := match P.underlying t with
 | some (.slice e) => ke1 e (P.elem t)
 | _ => false
theorem k16 {t : TypeId} (h : k17 Try.prog t = true) : Try.prog.underlying t = some (.slice (Try.prog.elem t)) := by
 unfold k17 at h
 split at h
 ·rename_i e he; rw [he, ← kc2 h]
 ·cases h
def k2b (P : Program) (st : TypeId) (u : PV) : R := match k17 P st with
 | true => match u with
  | .e (.c (.own _ _ n _ _)) => pv (LV (.int .i64 n))
  | .e (.c (.d (.sl _ n))) => pv (LV (.int .i64 n))
  | .e (.c (.d (.lit (.slice none 0 0)))) => pv (LV (.int .i64 0))
  | _ => none
 | false => none
def k23 (h : H) : PV → PV → R
 | .e (.c (.d (.lit (.int k a)))), .e (.c (.d (.lit (.int k' b)))) => if k = k' then match h with
   | .no => pv (LV (.int k (min a b)))
   | .i r => iS [min a b = r] (LV (.int k r))
   | _ => none
  else none
 | _, _ => none
def k26 (h : H) : PV → PV → R
 | .e (.c (.d (.lit (.int k a)))), .e (.c (.d (.lit (.int k' b)))) => if k = k' then match h with
   | .no => pv (LV (.int k (max a b)))
   | .i r => iS [max a b = r] (LV (.int k r))
   | _ => none
  else none
 | _, _ => none
def k25 (h : H) : PV → PV → PV → R := fun _ _ _ => none
theorem k10 (a b : Int) : (if b < a then b else a) = min a b := by rw [Int.min_def]; by_cases h : b < a <;> simp [h] <;> omega
theorem k12 (a b : Int) : (if a < b then b else a) = max a b := by rw [Int.max_def]; by_cases h : a < b <;> simp [h] <;> omega
def pH (g : EH) (s : Nat) (snap : Option (List D)) : PV → Option (List Prop × Nat × List D × List Nat)
 | .e (.c (.d (.lit (.slice none 0 0)))) => some ([], 0, [], [])
 | .e (.c (.d (.sl ds m))) => some ([ds.length = m * s], m, ds, [])
 | .e (.c (.own b off m s' _)) => match ke1 s' s, g.lookup b with
  | true, some (some (_, .ds l)) => match snap with
   | none => match off with
    | 0 => some ([l.length = m * s], m, l, [b])
    | _ => none
   | some r => some ([(l.drop off).take (m * s) = r, r.length = m * s], m, r, [b])
  | _, _ => none
 | _ => none
theorem dW {l : List (Nat × PV)} {g : EH} {s : Nat} {snap : Option (List D)} {y : Operand} {u : PV} (hu : Ev l y u) {ps : List Prop} {m : Nat} {ds : List D} {foot : List Nat} (h : pH g s snap u = some (ps, m, ds, foot)) (hp : ∀ p ∈ ps, p) : Src l (kG g) s y m (ds.map .d) foot := by
 unfold pH at h
 split at h
 ·cases h; exact .nil hu
 ·cases h; exact .sl hu (hp _ (kb0 ..))
 ·split at h
  ·rename_i hs hb
   have hs := kc2 hs
   subst hs
   have hb' := qP hb
   split at h
   ·split at h
    ·cases h
     have h1 := hp _ (kb0 ..)
     refine .own hu hb' ?_ (by rw [kd0]; exact h1)
     rw [List.drop_zero]; exact List.take_of_length_le (by show (kd1 C.d _).length ≤ _; rw [kd0, h1]; exact kc6 _)
    ·cases h
   ·cases h
    have h1 := hp _ (kb0 ..)
    have h2 := hp _ (kb8 _ (kb0 ..))
    refine .own hu hb' ?_ (by rw [kd0]; exact h2)
    show ((kd1 C.d _).drop _).take _ = _
    rw [← kj1, ← kh6, h1]
  ·cases h
 ·cases h
def k94 (P : Program) (h : H) (g : EH) (nx : Nat) (t : TypeId) (u v : PV) : R := match P.underlying t, h with
 | some (.slice e), .ap snap n' r => match x4 P e with
  | some (z, s, bs) => match ke1 z.cells.size s && (Nat.blt 0 s && kj8 1 bs), pH g s snap v with
   | true, some (ps, m, ds, foot) => match u with
    | .e (.c (.d (.lit (.slice none 0 0)))) => some (ps ++ [m * bs ≤ 140737488355328, m = n', ds = r], ⟨.e (.c (.own nx 0 n' s true)), [(nx, some (e, .ds r))], [nx], foot⟩)
    | .e (.c (.own b 0 n s' true)) => match ke1 s' s, g.lookup b with
     | true, some (some (T, .ds l)) => match ke1 T e with
      | true => some (ps ++ [l.length = n * s, (n + m) * bs ≤ 140737488355328, n + m = n', l ++ ds = r], ⟨.e (.c (.own nx 0 n' s true)), [(b, none), (nx, some (e, .ds r))], [nx], b :: foot⟩)
      | false => none
     | _, _ => none
    | _ => none
   | _, _ => none
  | none => none
 | _, _ => none
def k8q (P : Program) (h : H) (g : EH) (nx : Nat) (t tn : TypeId) : PV → PV → R
 | .e (.c (.own b 0 n 1 true)), .e (.c (.d (.lit (.int _ iy)))) => match P.underlying t, P.underlying tn, h, g.lookup b with
  | some (.slice e), some (.int _), .az m n' r, some (some (T, .ds l)) => match x4 P e with
   | some (z, 1, bs) => match ke1 T e && (z.oneCell' && kj8 1 bs) with
    | true => some ([iy = (m : Int), l.length = n, (n + m) * bs ≤ 140737488355328, n + m = n', l ++ ka6 m (.lit z) = r], ⟨.e (.c (.own nx 0 n' 1 true)), [(b, none), (nx, some (e, .ds r))], [nx], [b]⟩)
    | false => none
   | _ => none
  | _, _, _, _ => none
 | _, _ => none
def k90 (P : Program) (h : H) (g : EH) (t : TypeId) (u v : PV) : R := match P.underlying t, h, u with
 | some (.slice e), .cp snap k r, .e (.c (.own b off n 1 _)) => match (P.info? e).map (·.size), g.lookup b, pH g 1 snap v with
  | some 1, some (some (T, .ds l)), some (ps, m, ds, foot) => some (ps ++ [off + n ≤ l.length, min m n = k, l.take off ++ ds.take k ++ l.drop (off + k) = r], ⟨LV (.int .i64 k), [(b, some (T, .ds r))], [], b :: foot⟩)
  | _, _, _ => none
 | _, _, _ => none
section
variable {cx : Cx} {o : Oper} {l : List (Nat × PV)} {g : EH}
theorem bY {n bs : Nat} (h : n * bs ≤ 140737488355328) (hb : 1 ≤ bs) : n ≤ maxLen := by
 have : n * 1 ≤ n * bs := Nat.mul_le_mul_left _ hb
 unfold maxLen; omega
theorem cP (z : Array Value) : ∀ n : Nat, (madeCells z (n * z.size)).toList = (ka6 n z.toList).flatten
 | 0 => by simp [madeCells]
 | n + 1 => by
  have ih := cP z n
  unfold madeCells at ih ⊢
  rw [Array.toList_map, Array.toList_range] at ih ⊢
  rw [List.replicate_succ', List.flatten_append, ← ih, Nat.succ_mul, List.range_add, kf9, List.map_map]
  congr 1
  simp only [ki2, List.flatten_nil, List.append_nil]
  apply List.ext_getElem (by simp)
  intro j h1 h2
  have hj : j < z.size := by simpa using h2
  have e : (n * z.size + j) % z.size = j := by rw [Nat.mul_comm, Nat.mul_add_mod]; exact Nat.mod_eq_of_lt hj
  simp [e, hj]
theorem oH {p : Nat → Prop} {ρ : Rh} {w : World} : ∀ {q : List Value}, q.all Value.oneCell' = true → All2 (RepC p ρ w) ((q.map D.lit).map C.d) q
 | [], _ => trivial
 | v :: q, h => by
  rw [List.all_cons, kc0] at h
  exact ⟨.d (.lit _ h.1), oH h.2⟩
theorem tX {p : Nat → Prop} {ρ : Rh} {w : World} {q : List Value} (h : q.all Value.oneCell' = true) : ∀ n, All2 (RepC p ρ w) (((ka6 n (q.map D.lit)).flatten).map C.d) (ka6 n q).flatten
 | 0 => trivial
 | n + 1 => by
  rw [kj9, kj9, ki2, ki2, kf9]
  exact All2.app (oH h) (tX h n)
theorem k0i {nx n c s bs : Nat} {t e : TypeId} {z : Value} {x y : Operand} {kx ky : IntKind} {ix iy : Int} {ds : List D} (ho : o.op = .makeSlice t x y) (hu : Try.prog.underlying t = some (.slice e)) (hi : (Try.prog.info? e).map (fun i => (i.zero, i.size, i.bytes)) = some (some z, s, bs)) (hz : z.cells.size = s) (hz1 : z.cells.toList.all Value.oneCell' = true) (hx : Ev l x (LV (.int kx ix))) (hy : Ev l y (LV (.int ky iy))) (ex : ix = (n : Int)) (ey : iy = (c : Int)) (hn : n = c) (hm : c ≤ maxLen) (hb : bs * c ≤ 281474976710656) (hds : (ka6 n (z.cells.toList.map D.lit)).flatten = ds) :
  OpOK cx o (S l) (S (kG g)) ⟨.e (.c (.own nx 0 n s true)), [(nx, some (e, ds.map C.d))], [nx], []⟩ :=
 cA (xs := []) fun ρ a w hs => by
  have e1 := kY (hx.rep hs (by rw [ho]; simp [Op.operands]))
  have e2 := kY (hy.rep hs (by rw [ho]; simp [Op.operands]))
  subst ex; subst ey; subst hn; subst hz; subst hds
  obtain ⟨i, h2, h3, h4, h5⟩ := info_parts hi
  have hb' : (i.bytes : Int) * (n : Int) ≤ 281474976710656 := by
   have h : ((bs * n : Nat) : Int) ≤ 281474976710656 := by omega
   rw [h5]; rwa [Int.natCast_mul] at h
  have hr := run_make (P := Try.prog) w t e i z hu h2 h3 kx ky n n (by omega) (by omega) hb' (by unfold maxLen at hm; omega)
  simp only [kg5, h4] at hr
  have e3 : madeCells z.cells (n * z.cells.size) = ((ka6 n z.cells.toList).flatten ++ []).toArray := by
   apply Array.ext'
   rw [cP]; simp
  rw [e3] at hr
  refine ⟨(ka6 n z.cells.toList).flatten, [], n, by unfold execOp; simp [ho, e1, e2, hr], ?_, kc6 _, hm, by simp⟩
  exact tX hz1 n
theorem k5d {h : H} {nx : Nat} {t : TypeId} {x y : Operand} (ho : o.op = .makeSlice t x y) {u v : PV} (hu : Ev l x u) (hv : Ev l y v) : OKR cx o l g (k8v Try.prog h nx t u v) := by
 unfold k8v
 split
 ·split
  ·rename_i ht
   split
   ·rename_i he
    split
    ·rename_i hz
     rw [kc0] at hz
     refine OKR.some fun hp => ?_
     obtain ⟨h1, h2, h3, h4, h5⟩ := hp
     have h5 : _ = _ := h5
     have hb := ka5 hz.2
     have h6 := bY (n := _) (bs := 1) (h := by rw [Nat.mul_one]; exact kc6 _) (by omega)
     exact k0j ho ht (cF he) hz.1 hu hv h1 h2 h3 (by
      refine ke9 (ke9 (kj5 _ hb) h4) ?_
      unfold maxLen; omega) h4 (by show _ = kd1 C.d _; rw [← h5]; simp)
    ·exact OKR.none
   ·rename_i he
    split
    ·rename_i hz
     rw [kc0, kc0] at hz
     refine OKR.some fun hp => ?_
     obtain ⟨h1, h2, h3, h4, h5⟩ := hp
     have h5 : _ = _ := h5
     have hb := ka5 hz.2.2
     exact k0i ho ht (cF he) (kc2 hz.1) hz.2.1 hu hv h1 h2 h3 (by
      refine ke9 (ke9 (kj5 _ hb) h4) ?_
      unfold maxLen; omega) h4 h5
    ·exact OKR.none
   ·exact OKR.none
  ·exact OKR.none
 ·exact OKR.none
theorem k5f {h : H} {t : TypeId} {x y : Operand} (ho : o.op = .indexAddr t x y) {u v : PV} (hu : Ev l x u) (hv : Ev l y v) : OKR cx o l g (k8x Try.prog h t u v) := by
 unfold k8x
 split
 ·split
  ·rename_i ht
   split
   ·rename_i he
    split
    ·rename_i hs
     have hs := kc2 hs
     subst hs
     refine OKR.some fun hp => ?_
     obtain ⟨h1, h2, h3⟩ := hp
     have h3 : _ = _ := h3
     subst h1
     exact k0k ho ht he hu hv (by omega) (by omega) (by rw [kg5]; exact h3)
    ·exact OKR.none
   ·exact OKR.none
  ·exact OKR.none
 ·split
  ·rename_i ht
   split
   ·rename_i he
    refine OKR.some fun hp => ?_
    obtain ⟨h1, h2⟩ := hp
    have h2 : _ < _ := h2
    subst h1
    exact oQ ho ht he hu hv (by omega) (by omega) (by rw [kg5, k4i])
   ·exact OKR.none
  ·exact OKR.none
 ·exact OKR.none
theorem k58 {h : H} {t : TypeId} {x : Operand} {lo hi mx : Option Operand} (ho : o.op = .slice t x lo hi mx) {u : PV} (hu : Ev l x u) : OKR cx o l g (k8s Try.prog h l t lo hi mx u) := by
 unfold k8s
 split
 ·split
  ·rename_i ht
   split
   ·rename_i he h1 h2 h3
    split
    ·rename_i hs
     have hs := kc2 hs
     subst hs
     refine OKR.some fun hp => ?_
     have hp := (qB _).1 hp
     have q1 := cD h1 (fun p h => hp p (by simp [h]))
     have q2 := cD h2 (fun p h => hp p (by simp [h]))
     have q3 := mX h3 (fun p h => hp p (by simp [h]))
     exact k0e ho ht he hu q1 q2 q3 (hp _ (by simp)) (hp _ (by simp)) (hp (_ + _ = _) (by simp)) (hp (_ - _ = _) (by simp))
    ·exact OKR.none
   ·exact OKR.none
  ·exact OKR.none
 ·split
  ·rename_i ht
   split
   ·rename_i he h1 h2 h3
    refine OKR.some fun hp => ?_
    have hp := (qB _).1 hp
    have q1 := cD h1 (fun p h => hp p (by simp [h]))
    have q2 := cD h2 (fun p h => hp p (by simp [h]))
    have q3 := mX h3 (fun p h => hp p (by simp [h]))
    exact oO ho ht he hu q1 q2 q3 (hp _ (by simp)) (hp _ (by simp)) (hp (_ - _ = _) (by simp)) (hp (ka2 _ _ = _) (by simp))
   ·exact OKR.none
  ·exact OKR.none
 ·split
  ·rename_i ht
   split
   ·rename_i he h1 h2 h3
    refine OKR.some fun hp => ?_
    have hp := (qB _).1 hp
    have q1 := cD h1 (fun p h => hp p (by simp [h]))
    have q2 := cD h2 (fun p h => hp p (by simp [h]))
    have q3 := mX h3 (fun p h => hp p (by simp [h]))
    exact l7 ho ht he hu q1 q2 q3
   ·exact OKR.none
  ·exact OKR.none
 ·exact OKR.none
theorem k2a {x : Operand} {st : TypeId} (ho : o.op = .call { callee := .builtin .len, args := #[x], argTypes := #[st] }) {u : PV} (hu : Ev l x u) : OKR cx o l g (k2b Try.prog st u) := by
 unfold k2b
 split
 ·rename_i hl
  have hl := k16 hl
  split
  ·exact OKR.some fun _ => rZ (ty := 0) (ts := #[]) ho hl hu k4p
  ·exact OKR.some fun _ => rZ (ty := 0) (ts := #[]) ho hl hu k8h
  ·exact OKR.some fun _ => rZ (ty := 0) (ts := #[]) ho hl hu k4q
  ·exact OKR.none
 ·exact OKR.none
theorem k22 {h : H} {x y : Operand} {ts : Array TypeId} (ho : o.op = .call { callee := .builtin .min, args := #[x, y], argTypes := ts }) {u v : PV} (hu : Ev l x u) (hv : Ev l y v) : OKR cx o l g (k23 h u v) := by
 unfold k23
 split
 ·split
  ·rename_i hk
   subst hk
   split
   ·exact OKR.some fun _ => k0g ho hu hv (k10 _ _)
   ·exact OKR.some fun hp => k0g ho hu hv ((k10 _ _).trans hp)
   ·exact OKR.none
  ·exact OKR.none
 ·exact OKR.none
theorem k24 {h : H} {x y : Operand} {ts : Array TypeId} (ho : o.op = .call { callee := .builtin .max, args := #[x, y], argTypes := ts }) {u v : PV} (hu : Ev l x u) (hv : Ev l y v) : OKR cx o l g (k26 h u v) := by
 unfold k26
 split
 ·split
  ·rename_i hk
   subst hk
   split
   ·exact OKR.some fun _ => k0h ho hu hv (k12 _ _)
   ·exact OKR.some fun hp => k0h ho hu hv ((k12 _ _).trans hp)
   ·exact OKR.none
  ·exact OKR.none
 ·exact OKR.none
theorem xT {h : H} {x y z : Operand} {ts : Array TypeId} (ho : o.op = .call { callee := .builtin .max, args := #[x, y, z], argTypes := ts }) {u v q : PV} (hu : Ev l x u) (hv : Ev l y v) (hq : Ev l z q) : OKR cx o l g (k25 h u v q) := OKR.none
theorem k5l {h : H} {nx : Nat} {x y : Operand} {t : TypeId} (ho : o.op = .call { callee := .builtin .append, args := #[x, y], argTypes := #[t, t] }) {u v : PV} (hu : Ev l x u) (hv : Ev l y v) : OKR cx o l g (k94 Try.prog h g nx t u v) := by
 unfold k94
 split
 ·rename_i ht
  split
  ·rename_i he
   split
   ·rename_i hc hsrc
    simp only [kc0] at hc
    obtain ⟨c1, c2, c3⟩ := hc
    have c1 := kc2 c1
    have c2 : 0 < _ := ka5 c2
    have c3 := ka5 c3
    split
    ·refine OKR.some fun hp => ?_
     have hp := (qB _).1 hp
     have hS := dW hv hsrc (fun p h => hp p (by simp [h]))
     have h1 := hp (_ * _ ≤ _) (kb9 _ (kb0 ..))
     have h2 := hp (_ = _) (kb9 _ (kb8 _ (kb0 ..)))
     have h3 := hp (_ = _) (kb9 _ (kb8 _ (kb8 _ (kb0 ..))))
     subst h2
     exact gW ho ht (cF he) c1 c2 hu hS (bY h1 c3) h1 (by rw [h3]; rfl)
    ·split
     ·rename_i hs hb
      have hs := kc2 hs
      subst hs
      split
      ·rename_i hT
       have hT := kc2 hT
       subst hT
       refine OKR.some fun hp => ?_
       have hp := (qB _).1 hp
       have hS := dW hv hsrc (fun p h => hp p (by simp [h]))
       have h1 := hp (_ = _) (kb9 _ (kb0 ..))
       have h2 := hp (_ ≤ _) (kb9 _ (kb8 _ (kb0 ..)))
       have h3 := hp (_ = _) (kb9 _ (kb8 _ (kb8 _ (kb0 ..))))
       have h4 := hp (_ = _) (kb9 _ (kb8 _ (kb8 _ (kb8 _ (kb0 ..)))))
       exact sA ho ht (cF he) c1 c2 hu (qP hb) (by show (kd1 C.d _).length = _; rw [kd0]; exact h1) hS (bY h2 c3) h2 (by show kd1 C.d _ ++ _ = kd1 C.d _; rw [← kf9, h4]) h3
      ·exact OKR.none
     ·exact OKR.none
    ·exact OKR.none
   ·exact OKR.none
  ·exact OKR.none
 ·exact OKR.none
theorem k56 {h : H} {nx : Nat} {x y : Operand} {t tn : TypeId} (ho : o.op = .call { callee := .builtin .append, args := #[x, y], argTypes := #[t, tn] }) {u v : PV} (hu : Ev l x u) (hv : Ev l y v) : OKR cx o l g (k8q Try.prog h g nx t tn u v) := by
 unfold k8q
 split
 ·split
  ·rename_i ht htn hb
   split
   ·rename_i he
    split
    ·rename_i hc
     simp only [kc0] at hc
     obtain ⟨c1, c2, c3⟩ := hc
     have c1 := kc2 c1
     subst c1
     have c3 := ka5 c3
     refine OKR.some fun hp => ?_
     obtain ⟨h1, h2, h3, h4, h5⟩ := hp
     have h5 : _ = _ := h5
     exact k0d ho ht htn (cF he) c2 hu (qP hb) (by show (kd1 C.d _).length = _; rw [kd0]; exact h2) hv h1 (bY h3 c3) h3 (by show kd1 C.d _ ++ _ = kd1 C.d _; rw [← h5]; simp) h4
    ·exact OKR.none
   ·exact OKR.none
  ·exact OKR.none
 ·exact OKR.none
theorem k5h {h : H} {x y : Operand} {t st : TypeId} (ho : o.op = .call { callee := .builtin .copy, args := #[x, y], argTypes := #[t, st] }) {u v : PV} (hu : Ev l x u) (hv : Ev l y v) : OKR cx o l g (k90 Try.prog h g t u v) := by
 unfold k90
 split
 ·rename_i ht
  split
  ·rename_i he hb hsrc
   refine OKR.some fun hp => ?_
   have hp := (qB _).1 hp
   have hS := dW hv hsrc (fun p h => hp p (by simp [h]))
   have h1 := hp (_ ≤ _) (kb9 _ (kb0 ..))
   have h2 := hp (_ = _) (kb9 _ (kb8 _ (kb0 ..)))
   have h3 := hp (_ = _) (kb9 _ (kb8 _ (kb8 _ (kb0 ..))))
   exact k4h (ty := 0) ho ht he hu (qP hb) (by show _ ≤ (kd1 C.d _).length; rw [kd0]; exact h1) hS h2 (by
    show ka2 _ (kd1 C.d _) ++ ka2 _ (kd1 C.d _) ++ List.drop _ (kd1 C.d _) = kd1 C.d _
    rw [← kh6, ← kh6, ← kj1, ← kf9, ← kf9, h3])
  ·exact OKR.none
 ·exact OKR.none
end
end Go.Proofs.Ytalbpleglapihaa
