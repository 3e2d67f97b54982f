/- A memory told by names: slices that are computed. No statement is proved here. -/
import Derived.Test.YtkjmlililpgamaaZAmG
namespace Go.Proofs.Ytkjmlililpgamaa
open Go.ChangeShapes Go.WideShapes Go.ChangeAt Go.RowKit
open Bool renaming and_eq_true → kb1
open Int renaming toNat_natCast → kh3
open List renaming flatten_cons → kh1, length_map → kc8, map → kc3, map_append → ke1, map_drop → kl9, map_take → ki2, mem_append_right → kb4, mem_cons_of_mem → kb9, mem_cons_self → ka7, replicate → kb0, replicate_succ → kj5, take → ka5
open Nat renaming beq → kd4, ble → kj4, eq_of_beq_eq_true → kb7, le_mul_of_pos_left → ki7, le_of_ble_eq_true → ka3, le_refl → kc1, le_trans → kg7
set_option linter.unusedVariables false
set_option linter.unusedSimpArgs false
def lO (P : Program) (e : TypeId) : Option (Value × Nat × Nat) := match P.info? e with
 | some i => match i.zero with
  | some z => some (z, i.size, i.bytes)
  | none => none
 | none => none
theorem y7 {e : TypeId} {z : Value} {s bs : Nat} (h : lO Try.prog e = some (z, s, bs)) : (Try.prog.info? e).map (fun i => (i.zero, i.size, i.bytes)) = some (some z, s, bs) := by
 unfold lO at h
 split at h
 ·rename_i i hi
  split at h
  ·rename_i z' hz; cases h; rw [hi]; simp [hz]
  ·cases h
 ·cases h
def k0y (P : Program) (h : H) (nx : Nat) (t : TypeId) : PV → PV → R
 | .e (.c (.d (.lit (.int _ ix)))), .e (.c (.d (.lit (.int _ iy)))) => match P.underlying t, h with
  | some (.slice e), .mk n c r => match lO P e with
   | some (z, 1, bs) => match z.oneCell' && kj4 1 bs with
    | true => some ([ix = (n : Int), iy = (c : Int), n ≤ c, bs * c ≤ 281474976710656, kb0 n (.lit z) = r], ⟨.e (.c (.own nx 0 n 1 true)), [(nx, some (e, .ds r))], [nx], []⟩)
    | false => none
   | some (z, s, bs) => match kd4 z.cells.size s && (z.cells.toList.all Value.oneCell' && kj4 1 bs) with
    | true => some ([ix = (n : Int), iy = (c : Int), n = c, bs * c ≤ 281474976710656, (kb0 n (z.cells.toList.map D.lit)).flatten = r], ⟨.e (.c (.own nx 0 n s true)), [(nx, some (e, .ds r))], [nx], []⟩)
    | false => none
   | none => none
  | _, _ => none
 | _, _ => none
def k10 (P : Program) (h : H) (t : TypeId) : PV → PV → R
 | .e (.c (.own b off n s _)), .e (.c (.d (.lit (.int _ i)))) => match P.underlying t, h with
  | some (.slice e), .n2 k r => match qM P e with
   | some (_, s') => match kd4 s' s with
    | true => some ([i = (k : Int), k < n, off + k * s = r], ⟨.e (.c (.ptr b r)), [], [], []⟩)
    | false => none
   | none => none
  | _, _ => none
 | .e (.c (.d (.sl ds n))), .e (.c (.d (.lit (.int _ i)))) => match P.underlying t, h with
  | some (.slice e), .n k => match qM P e with
   | some (_, s) => some ([i = (k : Int), k < n], ⟨.e (.c (.rp (ds.drop (k0d k s)))), [], [], []⟩)
   | none => none
  | _, _ => none
 | _, _ => none
def iX (l : List (Nat × PV)) (d n : Nat) : Option Operand → Option (List Prop)
 | none => some [d = n]
 | some x => match uA l x with
  | some (.e (.c (.d (.lit (.int _ i))))) => some [i = (n : Int)]
  | _ => none
theorem vX {l : List (Nat × PV)} {d n : Nat} {x : Option Operand} {ps : List Prop} (h : iX l d n x = some ps) (hp : ∀ p ∈ ps, p) : Bd l d x n := by
 unfold iX at h
 split at h
 ·cases h; have := hp (d = n) (ka7 ..); subst this; exact .no
 ·split at h
  ·rename_i hx; cases h; exact .yes (bK hx) (hp _ (ka7 ..))
  ·cases h
def rT (l : List (Nat × PV)) (lo hi : Option Operand) (n : Nat) : Option Operand → Option (List Prop)
 | none => some []
 | some x => match hi, uA l x with
  | some _, some (.e (.c (.d (.lit (.int _ i))))) => some [i = (n : Int)]
  | _, _ => none
theorem gE {l : List (Nat × PV)} {lo hi : Option Operand} {n : Nat} {x : Option Operand} {ps : List Prop} (h : rT l lo hi n x = some ps) (hp : ∀ p ∈ ps, p) : Mx l lo hi n x := by
 unfold rT at h
 split at h
 ·exact .no
 ·split at h
  ·rename_i hx; cases h; exact .yes rfl (bK hx) (hp _ (ka7 ..))
  ·cases h
def k0v (P : Program) (h : H) (l : List (Nat × PV)) (t : TypeId) (lo hi mx : Option Operand) : PV → R
 | .e (.c (.own b off n s _)) => match P.underlying t, h with
  | some (.slice e), .sl L H r k => match qM P e, iX l 0 L lo, iX l n H hi, rT l lo hi H mx with
   | some (_, s'), some p1, some p2, some p3 => match kd4 s' s with
    | true => some (p1 ++ (p2 ++ (p3 ++ [L ≤ H, H ≤ n, off + L * s = r, H - L = k])), ⟨.e (.c (.own b r k s false)), [], [], []⟩)
    | false => none
   | _, _, _, _ => none
  | _, _ => none
 | .e (.c (.d (.sl ds n))) => match P.underlying t, h with
  | some (.slice e), .sls L H k r => match qM P e, iX l 0 L lo, iX l n H hi, rT l lo hi H mx with
   | some (_, s), some p1, some p2, some p3 => some (p1 ++ (p2 ++ (p3 ++ [L ≤ H, H ≤ n, H - L = k, (ds.drop (L * s)).take (k * s) = r])), ⟨.e (.c (.d (.sl r k))), [], [], []⟩)
   | _, _, _, _ => none
  | _, _ => none
 | .e (.c (.d (.lit (.slice none 0 0)))) => match P.underlying t with
  | some (.slice e) => match qM P e, iX l 0 0 lo, iX l 0 0 hi, rT l lo hi 0 mx with
   | some (_, _), some p1, some p2, some p3 => some (p1 ++ (p2 ++ p3), ⟨LV vI, [], [], []⟩)
   | _, _, _, _ => none
  | _ => none
 | _ => none
def p9 (P : Program) (t : TypeId) : Bool := match P.underlying t with
 | some (.slice e) => kd4 e (P.elem t)
 | _ => false
theorem p8 {t : TypeId} (h : p9 Try.prog t = true) : Try.prog.underlying t = some (.slice (Try.prog.elem t)) := by
 unfold p9 at h
 split at h
 ·rename_i e he; rw [he, ← kb7 h]
 ·cases h
def r9 (P : Program) (st : TypeId) (u : PV) : R := match p9 P st with
 | true => match u with
  | .e (.c (.own _ _ n _ _)) => pv (LV (.int .i64 n))
  | .e (.c (.d (.sl _ n))) => pv (LV (.int .i64 n))
  | .e (.c (.d (.lit (.slice none 0 0)))) => pv (LV (.int .i64 0))
  | _ => none
 | false => none
def rW (h : H) : PV → PV → R
 | .e (.c (.d (.lit (.int k a)))), .e (.c (.d (.lit (.int k' b)))) => if k = k' then match h with
   | .no => pv (LV (.int k (min a b)))
   | .i r => dO [min a b = r] (LV (.int k r))
   | _ => none
  else none
 | _, _ => none
def rZ (h : H) : PV → PV → R
 | .e (.c (.d (.lit (.int k a)))), .e (.c (.d (.lit (.int k' b)))) => if k = k' then match h with
   | .no => pv (LV (.int k (max a b)))
   | .i r => dO [max a b = r] (LV (.int k r))
   | _ => none
  else none
 | _, _ => none
def rY (h : H) : PV → PV → PV → R := fun _ _ _ => none
theorem pN (a b : Int) : (if b < a then b else a) = min a b := by rw [Int.min_def]; by_cases h : b < a <;> simp [h] <;> omega
theorem pR (a b : Int) : (if a < b then b else a) = max a b := by rw [Int.max_def]; by_cases h : a < b <;> simp [h] <;> omega
def iS (g : EH) (s : Nat) (snap : Option (List D)) : PV → Option (List Prop × Nat × List D × List Nat)
 | .e (.c (.d (.lit (.slice none 0 0)))) => some ([], 0, [], [])
 | .e (.c (.d (.sl ds m))) => some ([ds.length = m * s], m, ds, [])
 | .e (.c (.own b off m s' _)) => match kd4 s' s, g.lookup b with
  | true, some (some (_, .ds l)) => match snap with
   | none => match off with
    | 0 => some ([l.length = m * s], m, l, [b])
    | _ => none
   | some r => some ([(l.drop off).take (m * s) = r, r.length = m * s], m, r, [b])
  | _, _ => none
 | _ => none
theorem a2 {l : List (Nat × PV)} {g : EH} {s : Nat} {snap : Option (List D)} {y : Operand} {u : PV} (hu : Ev l y u) {ps : List Prop} {m : Nat} {ds : List D} {foot : List Nat} (h : iS g s snap u = some (ps, m, ds, foot)) (hp : ∀ p ∈ ps, p) : Src l (kC g) s y m (ds.map .d) foot := by
 unfold iS at h
 split at h
 ·cases h; exact .nil hu
 ·cases h; exact .sl hu (hp _ (ka7 ..))
 ·split at h
  ·rename_i hs hb
   have hs := kb7 hs
   subst hs
   have hb' := kX hb
   split at h
   ·split at h
    ·cases h
     have h1 := hp _ (ka7 ..)
     refine .own hu hb' ?_ (by rw [kc8]; exact h1)
     rw [List.drop_zero]; exact List.take_of_length_le (by show (kc3 C.d _).length ≤ _; rw [kc8, h1]; exact kc1 _)
    ·cases h
   ·cases h
    have h1 := hp _ (ka7 ..)
    have h2 := hp _ (kb9 _ (ka7 ..))
    refine .own hu hb' ?_ (by rw [kc8]; exact h2)
    show ((kc3 C.d _).drop _).take _ = _
    rw [← kl9, ← ki2, h1]
  ·cases h
 ·cases h
def k17 (P : Program) (h : H) (g : EH) (nx : Nat) (t : TypeId) (u v : PV) : R := match P.underlying t, h with
 | some (.slice e), .ap snap n' r => match lO P e with
  | some (z, s, bs) => match kd4 z.cells.size s && (Nat.blt 0 s && kj4 1 bs), iS g s snap v with
   | true, some (ps, m, ds, foot) => match u with
    | .e (.c (.d (.lit (.slice none 0 0)))) => some (ps ++ [m * bs ≤ 140737488355328, m = n', ds = r], ⟨.e (.c (.own nx 0 n' s true)), [(nx, some (e, .ds r))], [nx], foot⟩)
    | .e (.c (.own b 0 n s' true)) => match kd4 s' s, g.lookup b with
     | true, some (some (T, .ds l)) => match kd4 T e with
      | true => some (ps ++ [l.length = n * s, (n + m) * bs ≤ 140737488355328, n + m = n', l ++ ds = r], ⟨.e (.c (.own nx 0 n' s true)), [(b, none), (nx, some (e, .ds r))], [nx], b :: foot⟩)
      | false => none
     | _, _ => none
    | _ => none
   | _, _ => none
  | none => none
 | _, _ => none
def k0t (P : Program) (h : H) (g : EH) (nx : Nat) (t tn : TypeId) : PV → PV → R
 | .e (.c (.own b 0 n 1 true)), .e (.c (.d (.lit (.int _ iy)))) => match P.underlying t, P.underlying tn, h, g.lookup b with
  | some (.slice e), some (.int _), .az m n' r, some (some (T, .ds l)) => match lO P e with
   | some (z, 1, bs) => match kd4 T e && (z.oneCell' && kj4 1 bs) with
    | true => some ([iy = (m : Int), l.length = n, (n + m) * bs ≤ 140737488355328, n + m = n', l ++ kb0 m (.lit z) = r], ⟨.e (.c (.own nx 0 n' 1 true)), [(b, none), (nx, some (e, .ds r))], [nx], [b]⟩)
    | false => none
   | _ => none
  | _, _, _, _ => none
 | _, _ => none
def k13 (P : Program) (h : H) (g : EH) (t : TypeId) (u v : PV) : R := match P.underlying t, h, u with
 | some (.slice e), .cp snap k r, .e (.c (.own b off n 1 _)) => match (P.info? e).map (·.size), g.lookup b, iS g 1 snap v with
  | some 1, some (some (T, .ds l)), some (ps, m, ds, foot) => some (ps ++ [off + n ≤ l.length, min m n = k, l.take off ++ ds.take k ++ l.drop (off + k) = r], ⟨LV (.int .i64 k), [(b, some (T, .ds r))], [], b :: foot⟩)
  | _, _, _ => none
 | _, _, _ => none
section
variable {cx : Cx} {o : Oper} {l : List (Nat × PV)} {g : EH}
theorem vK {n bs : Nat} (h : n * bs ≤ 140737488355328) (hb : 1 ≤ bs) : n ≤ maxLen := by
 have : n * 1 ≤ n * bs := Nat.mul_le_mul_left _ hb
 unfold maxLen; omega
theorem aC (z : Array Value) : ∀ n : Nat, (madeCells z (n * z.size)).toList = (kb0 n z.toList).flatten
 | 0 => by simp [madeCells]
 | n + 1 => by
  have ih := aC z n
  unfold madeCells at ih ⊢
  rw [Array.toList_map, Array.toList_range] at ih ⊢
  rw [List.replicate_succ', List.flatten_append, ← ih, Nat.succ_mul, List.range_add, ke1, List.map_map]
  congr 1
  simp only [kh1, List.flatten_nil, List.append_nil]
  apply List.ext_getElem (by simp)
  intro j h1 h2
  have hj : j < z.size := by simpa using h2
  have e : (n * z.size + j) % z.size = j := by rw [Nat.mul_comm, Nat.mul_add_mod]; exact Nat.mod_eq_of_lt hj
  simp [e, hj]
theorem hE {p : Nat → Prop} {ρ : Rh} {w : World} : ∀ {q : List Value}, q.all Value.oneCell' = true → All2 (RepC p ρ w) ((q.map D.lit).map C.d) q
 | [], _ => trivial
 | v :: q, h => by
  rw [List.all_cons, kb1] at h
  exact ⟨.d (.lit _ h.1), hE h.2⟩
theorem fN {p : Nat → Prop} {ρ : Rh} {w : World} {q : List Value} (h : q.all Value.oneCell' = true) : ∀ n, All2 (RepC p ρ w) (((kb0 n (q.map D.lit)).flatten).map C.d) (kb0 n q).flatten
 | 0 => trivial
 | n + 1 => by
  rw [kj5, kj5, kh1, kh1, ke1]
  exact All2.app (hE h) (fN h n)
theorem pB {nx n c s bs : Nat} {t e : TypeId} {z : Value} {x y : Operand} {kx ky : IntKind} {ix iy : Int} {ds : List D} (ho : o.op = .makeSlice t x y) (hu : Try.prog.underlying t = some (.slice e)) (hi : (Try.prog.info? e).map (fun i => (i.zero, i.size, i.bytes)) = some (some z, s, bs)) (hz : z.cells.size = s) (hz1 : z.cells.toList.all Value.oneCell' = true) (hx : Ev l x (LV (.int kx ix))) (hy : Ev l y (LV (.int ky iy))) (ex : ix = (n : Int)) (ey : iy = (c : Int)) (hn : n = c) (hm : c ≤ maxLen) (hb : bs * c ≤ 281474976710656) (hds : (kb0 n (z.cells.toList.map D.lit)).flatten = ds) :
  OpOK cx o (S l) (S (kC g)) ⟨.e (.c (.own nx 0 n s true)), [(nx, some (e, ds.map C.d))], [nx], []⟩ :=
 vU (xs := []) fun ρ a w hs => by
  have e1 := kG (hx.rep hs (by rw [ho]; simp [Op.operands]))
  have e2 := kG (hy.rep hs (by rw [ho]; simp [Op.operands]))
  subst ex; subst ey; subst hn; subst hz; subst hds
  obtain ⟨i, h2, h3, h4, h5⟩ := info_parts hi
  have hb' : (i.bytes : Int) * (n : Int) ≤ 281474976710656 := by
   have h : ((bs * n : Nat) : Int) ≤ 281474976710656 := by omega
   rw [h5]; rwa [Int.natCast_mul] at h
  have hr := run_make (P := Try.prog) w t e i z hu h2 h3 kx ky n n (by omega) (by omega) hb' (by unfold maxLen at hm; omega)
  simp only [kh3, h4] at hr
  have e3 : madeCells z.cells (n * z.cells.size) = ((kb0 n z.cells.toList).flatten ++ []).toArray := by
   apply Array.ext'
   rw [aC]; simp
  rw [e3] at hr
  refine ⟨(kb0 n z.cells.toList).flatten, [], n, by unfold execOp; simp [ho, e1, e2, hr], ?_, kc1 _, hm, by simp⟩
  exact fN hz1 n
theorem xK {h : H} {nx : Nat} {t : TypeId} {x y : Operand} (ho : o.op = .makeSlice t x y) {u v : PV} (hu : Ev l x u) (hv : Ev l y v) : OKR cx o l g (k0y Try.prog h nx t u v) := by
 unfold k0y
 split
 ·split
  ·rename_i ht
   split
   ·rename_i he
    split
    ·rename_i hz
     rw [kb1] at hz
     refine OKR.some fun hp => ?_
     obtain ⟨h1, h2, h3, h4, h5⟩ := hp
     have h5 : _ = _ := h5
     have hb := ka3 hz.2
     have h6 := vK (n := _) (bs := 1) (h := by rw [Nat.mul_one]; exact kc1 _) (by omega)
     exact pC ho ht (y7 he) hz.1 hu hv h1 h2 h3 (by
      refine kg7 (kg7 (ki7 _ hb) h4) ?_
      unfold maxLen; omega) h4 (by show _ = kc3 C.d _; rw [← h5]; simp)
    ·exact OKR.none
   ·rename_i he
    split
    ·rename_i hz
     rw [kb1, kb1] at hz
     refine OKR.some fun hp => ?_
     obtain ⟨h1, h2, h3, h4, h5⟩ := hp
     have h5 : _ = _ := h5
     have hb := ka3 hz.2.2
     exact pB ho ht (y7 he) (kb7 hz.1) hz.2.1 hu hv h1 h2 h3 (by
      refine kg7 (kg7 (ki7 _ hb) h4) ?_
      unfold maxLen; omega) h4 h5
    ·exact OKR.none
   ·exact OKR.none
  ·exact OKR.none
 ·exact OKR.none
theorem xM {h : H} {t : TypeId} {x y : Operand} (ho : o.op = .indexAddr t x y) {u v : PV} (hu : Ev l x u) (hv : Ev l y v) : OKR cx o l g (k10 Try.prog h t u v) := by
 unfold k10
 split
 ·split
  ·rename_i ht
   split
   ·rename_i he
    split
    ·rename_i hs
     have hs := kb7 hs
     subst hs
     refine OKR.some fun hp => ?_
     obtain ⟨h1, h2, h3⟩ := hp
     have h3 : _ = _ := h3
     subst h1
     exact pD ho ht he hu hv (by omega) (by omega) (by rw [kh3]; exact h3)
    ·exact OKR.none
   ·exact OKR.none
  ·exact OKR.none
 ·split
  ·rename_i ht
   split
   ·rename_i he
    refine OKR.some fun hp => ?_
    obtain ⟨h1, h2⟩ := hp
    have h2 : _ < _ := h2
    subst h1
    exact iB ho ht he hu hv (by omega) (by omega) (by rw [kh3, wQ])
   ·exact OKR.none
  ·exact OKR.none
 ·exact OKR.none
theorem xF {h : H} {t : TypeId} {x : Operand} {lo hi mx : Option Operand} (ho : o.op = .slice t x lo hi mx) {u : PV} (hu : Ev l x u) : OKR cx o l g (k0v Try.prog h l t lo hi mx u) := by
 unfold k0v
 split
 ·split
  ·rename_i ht
   split
   ·rename_i he h1 h2 h3
    split
    ·rename_i hs
     have hs := kb7 hs
     subst hs
     refine OKR.some fun hp => ?_
     have hp := (kN _).1 hp
     have q1 := vX h1 (fun p h => hp p (by simp [h]))
     have q2 := vX h2 (fun p h => hp p (by simp [h]))
     have q3 := gE h3 (fun p h => hp p (by simp [h]))
     exact o7 ho ht he hu q1 q2 q3 (hp _ (by simp)) (hp _ (by simp)) (hp (_ + _ = _) (by simp)) (hp (_ - _ = _) (by simp))
    ·exact OKR.none
   ·exact OKR.none
  ·exact OKR.none
 ·split
  ·rename_i ht
   split
   ·rename_i he h1 h2 h3
    refine OKR.some fun hp => ?_
    have hp := (kN _).1 hp
    have q1 := vX h1 (fun p h => hp p (by simp [h]))
    have q2 := vX h2 (fun p h => hp p (by simp [h]))
    have q3 := gE h3 (fun p h => hp p (by simp [h]))
    exact hZ ho ht he hu q1 q2 q3 (hp _ (by simp)) (hp _ (by simp)) (hp (_ - _ = _) (by simp)) (hp (ka5 _ _ = _) (by simp))
   ·exact OKR.none
  ·exact OKR.none
 ·split
  ·rename_i ht
   split
   ·rename_i he h1 h2 h3
    refine OKR.some fun hp => ?_
    have hp := (kN _).1 hp
    have q1 := vX h1 (fun p h => hp p (by simp [h]))
    have q2 := vX h2 (fun p h => hp p (by simp [h]))
    have q3 := gE h3 (fun p h => hp p (by simp [h]))
    exact fR ho ht he hu q1 q2 q3
   ·exact OKR.none
  ·exact OKR.none
 ·exact OKR.none
theorem r8 {x : Operand} {st : TypeId} (ho : o.op = .call { callee := .builtin .len, args := #[x], argTypes := #[st] }) {u : PV} (hu : Ev l x u) : OKR cx o l g (r9 Try.prog st u) := by
 unfold r9
 split
 ·rename_i hl
  have hl := p8 hl
  split
  ·exact OKR.some fun _ => j0 (ty := 0) (ts := #[]) ho hl hu wW
  ·exact OKR.some fun _ => j0 (ty := 0) (ts := #[]) ho hl hu k0h
  ·exact OKR.some fun _ => j0 (ty := 0) (ts := #[]) ho hl hu wX
  ·exact OKR.none
 ·exact OKR.none
theorem rU {h : H} {x y : Operand} {ts : Array TypeId} (ho : o.op = .call { callee := .builtin .min, args := #[x, y], argTypes := ts }) {u v : PV} (hu : Ev l x u) (hv : Ev l y v) : OKR cx o l g (rW h u v) := by
 unfold rW
 split
 ·split
  ·rename_i hk
   subst hk
   split
   ·exact OKR.some fun _ => o9 ho hu hv (pN _ _)
   ·exact OKR.some fun hp => o9 ho hu hv ((pN _ _).trans hp)
   ·exact OKR.none
  ·exact OKR.none
 ·exact OKR.none
theorem rX {h : H} {x y : Operand} {ts : Array TypeId} (ho : o.op = .call { callee := .builtin .max, args := #[x, y], argTypes := ts }) {u v : PV} (hu : Ev l x u) (hv : Ev l y v) : OKR cx o l g (rZ h u v) := by
 unfold rZ
 split
 ·split
  ·rename_i hk
   subst hk
   split
   ·exact OKR.some fun _ => pA ho hu hv (pR _ _)
   ·exact OKR.some fun hp => pA ho hu hv ((pR _ _).trans hp)
   ·exact OKR.none
  ·exact OKR.none
 ·exact OKR.none
theorem nL {h : H} {x y z : Operand} {ts : Array TypeId} (ho : o.op = .call { callee := .builtin .max, args := #[x, y, z], argTypes := ts }) {u v q : PV} (hu : Ev l x u) (hv : Ev l y v) (hq : Ev l z q) : OKR cx o l g (rY h u v q) := OKR.none
theorem xS {h : H} {nx : Nat} {x y : Operand} {t : TypeId} (ho : o.op = .call { callee := .builtin .append, args := #[x, y], argTypes := #[t, t] }) {u v : PV} (hu : Ev l x u) (hv : Ev l y v) : OKR cx o l g (k17 Try.prog h g nx t u v) := by
 unfold k17
 split
 ·rename_i ht
  split
  ·rename_i he
   split
   ·rename_i hc hsrc
    simp only [kb1] at hc
    obtain ⟨c1, c2, c3⟩ := hc
    have c1 := kb7 c1
    have c2 : 0 < _ := ka3 c2
    have c3 := ka3 c3
    split
    ·refine OKR.some fun hp => ?_
     have hp := (kN _).1 hp
     have hS := a2 hv hsrc (fun p h => hp p (by simp [h]))
     have h1 := hp (_ * _ ≤ _) (kb4 _ (ka7 ..))
     have h2 := hp (_ = _) (kb4 _ (kb9 _ (ka7 ..)))
     have h3 := hp (_ = _) (kb4 _ (kb9 _ (kb9 _ (ka7 ..))))
     subst h2
     exact c4 ho ht (y7 he) c1 c2 hu hS (vK h1 c3) h1 (by rw [h3]; rfl)
    ·split
     ·rename_i hs hb
      have hs := kb7 hs
      subst hs
      split
      ·rename_i hT
       have hT := kb7 hT
       subst hT
       refine OKR.some fun hp => ?_
       have hp := (kN _).1 hp
       have hS := a2 hv hsrc (fun p h => hp p (by simp [h]))
       have h1 := hp (_ = _) (kb4 _ (ka7 ..))
       have h2 := hp (_ ≤ _) (kb4 _ (kb9 _ (ka7 ..)))
       have h3 := hp (_ = _) (kb4 _ (kb9 _ (kb9 _ (ka7 ..))))
       have h4 := hp (_ = _) (kb4 _ (kb9 _ (kb9 _ (kb9 _ (ka7 ..)))))
       exact j3 ho ht (y7 he) c1 c2 hu (kX hb) (by show (kc3 C.d _).length = _; rw [kc8]; exact h1) hS (vK h2 c3) h2 (by show kc3 C.d _ ++ _ = kc3 C.d _; rw [← ke1, h4]) h3
      ·exact OKR.none
     ·exact OKR.none
    ·exact OKR.none
   ·exact OKR.none
  ·exact OKR.none
 ·exact OKR.none
theorem xD {h : H} {nx : Nat} {x y : Operand} {t tn : TypeId} (ho : o.op = .call { callee := .builtin .append, args := #[x, y], argTypes := #[t, tn] }) {u v : PV} (hu : Ev l x u) (hv : Ev l y v) : OKR cx o l g (k0t Try.prog h g nx t tn u v) := by
 unfold k0t
 split
 ·split
  ·rename_i ht htn hb
   split
   ·rename_i he
    split
    ·rename_i hc
     simp only [kb1] at hc
     obtain ⟨c1, c2, c3⟩ := hc
     have c1 := kb7 c1
     subst c1
     have c3 := ka3 c3
     refine OKR.some fun hp => ?_
     obtain ⟨h1, h2, h3, h4, h5⟩ := hp
     have h5 : _ = _ := h5
     exact o6 ho ht htn (y7 he) c2 hu (kX hb) (by show (kc3 C.d _).length = _; rw [kc8]; exact h2) hv h1 (vK h3 c3) h3 (by show kc3 C.d _ ++ _ = kc3 C.d _; rw [← h5]; simp) h4
    ·exact OKR.none
   ·exact OKR.none
  ·exact OKR.none
 ·exact OKR.none
theorem xO {h : H} {x y : Operand} {t st : TypeId} (ho : o.op = .call { callee := .builtin .copy, args := #[x, y], argTypes := #[t, st] }) {u v : PV} (hu : Ev l x u) (hv : Ev l y v) : OKR cx o l g (k13 Try.prog h g t u v) := by
 unfold k13
 split
 ·rename_i ht
  split
  ·rename_i he hb hsrc
   refine OKR.some fun hp => ?_
   have hp := (kN _).1 hp
   have hS := a2 hv hsrc (fun p h => hp p (by simp [h]))
   have h1 := hp (_ ≤ _) (kb4 _ (ka7 ..))
   have h2 := hp (_ = _) (kb4 _ (kb9 _ (ka7 ..)))
   have h3 := hp (_ = _) (kb4 _ (kb9 _ (kb9 _ (ka7 ..))))
   exact wP (ty := 0) ho ht he hu (kX hb) (by show _ ≤ (kc3 C.d _).length; rw [kc8]; exact h1) hS h2 (by
    show ka5 _ (kc3 C.d _) ++ ka5 _ (kc3 C.d _) ++ List.drop _ (kc3 C.d _) = kc3 C.d _
    rw [← ki2, ← ki2, ← kl9, ← ke1, ← ke1, h3])
  ·exact OKR.none
 ·exact OKR.none
end
end Go.Proofs.Ytkjmlililpgamaa
