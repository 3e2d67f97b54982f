/- A memory told by names: slices that are computed. No statement is proved here. -/
import Derived.Test.YtcfmjpnffembpaaGreatZAmG
namespace Go.Proofs.YtcfmjpnffembpaaGreat
open Go.ChangeShapes Go.WideShapes Go.ChangeAt Go.RowKit
set_option linter.unusedVariables false
set_option linter.unusedSimpArgs false
def elOf (P : Program) (e : TypeId) : Option (Value × Nat × Nat) := match P.info? e with
 | some i => match i.zero with
  | some z => some (z, i.size, i.bytes)
  | none => none
 | none => none
theorem elOf_ok {e : TypeId} {z : Value} {s bs : Nat} (h : elOf Tryz.prog e = some (z, s, bs)) : (Tryz.prog.info? e).map (fun i => (i.zero, i.size, i.bytes)) = some (some z, s, bs) := by
 unfold elOf at h
 split at h
 ·rename_i i hi
  split at h
  ·rename_i z' hz; cases h; rw [hi]; simp [hz]
  ·cases h
 ·cases h
def evMk (P : Program) (h : H) (nx : Nat) (t : TypeId) : PV → PV → R := fun _ _ => none
def evIx (P : Program) (h : H) (t : TypeId) : PV → PV → R
 | .e (.c (.own b off n s _)), .e (.c (.d (.lit (.int _ i)))) => match P.underlying t, h with
  | some (.slice e), .n2 k r => match tyOf P e with
   | some (_, s') => match Nat.beq s' s with
    | true => some ([i = (k : Int), k < n, off + k * s = r], ⟨.e (.c (.ptr b r)), [], [], []⟩)
    | false => none
   | none => none
  | _, _ => none
 | .e (.c (.d (.sl ds n))), .e (.c (.d (.lit (.int _ i)))) => match P.underlying t, h with
  | some (.slice e), .n k => match tyOf P e with
   | some (_, s) => some ([i = (k : Int), k < n], ⟨.e (.c (.rp (ds.drop (mulS k s)))), [], [], []⟩)
   | none => none
  | _, _ => none
 | _, _ => none
def evBd (l : List (Nat × PV)) (d n : Nat) : Option Operand → Option (List Prop)
 | none => some [d = n]
 | some x => match evO l x with
  | some (.e (.c (.d (.lit (.int _ i))))) => some [i = (n : Int)]
  | _ => none
theorem evBd_ok {l : List (Nat × PV)} {d n : Nat} {x : Option Operand} {ps : List Prop} (h : evBd l d n x = some ps) (hp : ∀ p ∈ ps, p) : Bd l d x n := by
 unfold evBd at h
 split at h
 ·cases h; have := hp (d = n) (List.mem_cons_self ..); subst this; exact .no
 ·split at h
  ·rename_i hx; cases h; exact .yes (evO_ok hx) (hp _ (List.mem_cons_self ..))
  ·cases h
def evMx (l : List (Nat × PV)) (lo hi : Option Operand) (n : Nat) : Option Operand → Option (List Prop)
 | none => some []
 | some x => match hi, evO l x with
  | some _, some (.e (.c (.d (.lit (.int _ i))))) => some [i = (n : Int)]
  | _, _ => none
theorem evMx_ok {l : List (Nat × PV)} {lo hi : Option Operand} {n : Nat} {x : Option Operand} {ps : List Prop} (h : evMx l lo hi n x = some ps) (hp : ∀ p ∈ ps, p) : Mx l lo hi n x := by
 unfold evMx at h
 split at h
 ·exact .no
 ·split at h
  ·rename_i hx; cases h; exact .yes rfl (evO_ok hx) (hp _ (List.mem_cons_self ..))
  ·cases h
def evSl (P : Program) (h : H) (l : List (Nat × PV)) (t : TypeId) (lo hi mx : Option Operand) : PV → R
 | .e (.c (.own b off n s _)) => match P.underlying t, h with
  | some (.slice e), .sl L H r k => match tyOf P e, evBd l 0 L lo, evBd l n H hi, evMx l lo hi H mx with
   | some (_, s'), some p1, some p2, some p3 => match Nat.beq s' s with
    | true => some (p1 ++ (p2 ++ (p3 ++ [L ≤ H, H ≤ n, off + L * s = r, H - L = k])), ⟨.e (.c (.own b r k s false)), [], [], []⟩)
    | false => none
   | _, _, _, _ => none
  | _, _ => none
 | .e (.c (.d (.sl ds n))) => match P.underlying t, h with
  | some (.slice e), .sls L H k r => match tyOf P e, evBd l 0 L lo, evBd l n H hi, evMx l lo hi H mx with
   | some (_, s), some p1, some p2, some p3 => some (p1 ++ (p2 ++ (p3 ++ [L ≤ H, H ≤ n, H - L = k, (ds.drop (L * s)).take (k * s) = r])), ⟨.e (.c (.d (.sl r k))), [], [], []⟩)
   | _, _, _, _ => none
  | _, _ => none
 | .e (.c (.d (.lit (.slice none 0 0)))) => match P.underlying t with
  | some (.slice e) => match tyOf P e, evBd l 0 0 lo, evBd l 0 0 hi, evMx l lo hi 0 mx with
   | some (_, _), some p1, some p2, some p3 => some (p1 ++ (p2 ++ p3), ⟨LV nilS, [], [], []⟩)
   | _, _, _, _ => none
  | _ => none
 | _ => none
def lenOk (P : Program) (t : TypeId) : Bool := match P.underlying t with
 | some (.slice e) => Nat.beq e (P.elem t)
 | _ => false
theorem lenOk_ok {t : TypeId} (h : lenOk Tryz.prog t = true) : Tryz.prog.underlying t = some (.slice (Tryz.prog.elem t)) := by
 unfold lenOk at h
 split at h
 ·rename_i e he; rw [he, ← Nat.eq_of_beq_eq_true h]
 ·cases h
def evLen (P : Program) (st : TypeId) (u : PV) : R := match lenOk P st with
 | true => match u with
  | .e (.c (.own _ _ n _ _)) => pv (LV (.int .i64 n))
  | .e (.c (.d (.sl _ n))) => pv (LV (.int .i64 n))
  | .e (.c (.d (.lit (.slice none 0 0)))) => pv (LV (.int .i64 0))
  | _ => none
 | false => none
def evMin (h : H) : PV → PV → R
 | .e (.c (.d (.lit (.int k a)))), .e (.c (.d (.lit (.int k' b)))) => if k = k' then match h with
   | .no => pv (LV (.int k (min a b)))
   | .i r => pvc [min a b = r] (LV (.int k r))
   | _ => none
  else none
 | _, _ => none
def evMax (h : H) : PV → PV → R
 | .e (.c (.d (.lit (.int k a)))), .e (.c (.d (.lit (.int k' b)))) => if k = k' then match h with
   | .no => pv (LV (.int k (max a b)))
   | .i r => pvc [max a b = r] (LV (.int k r))
   | _ => none
  else none
 | _, _ => none
def evMax3 (h : H) : PV → PV → PV → R := fun _ _ _ => none
theorem min_if (a b : Int) : (if b < a then b else a) = min a b := by rw [Int.min_def]; by_cases h : b < a <;> simp [h] <;> omega
theorem max_if (a b : Int) : (if a < b then b else a) = max a b := by rw [Int.max_def]; by_cases h : a < b <;> simp [h] <;> omega
def evSrc (g : EH) (s : Nat) (snap : Option (List D)) : PV → Option (List Prop × Nat × List D × List Nat)
 | .e (.c (.d (.lit (.slice none 0 0)))) => some ([], 0, [], [])
 | .e (.c (.d (.sl ds m))) => some ([ds.length = m * s], m, ds, [])
 | .e (.c (.own b off m s' _)) => match Nat.beq s' s, g.lookup b with
  | true, some (some (_, .ds l)) => match snap with
   | none => match off with
    | 0 => some ([l.length = m * s], m, l, [b])
    | _ => none
   | some r => some ([(l.drop off).take (m * s) = r, r.length = m * s], m, r, [b])
  | _, _ => none
 | _ => none
theorem evSrc_ok {l : List (Nat × PV)} {g : EH} {s : Nat} {snap : Option (List D)} {y : Operand} {u : PV} (hu : Ev l y u) {ps : List Prop} {m : Nat} {ds : List D} {foot : List Nat} (h : evSrc g s snap u = some (ps, m, ds, foot)) (hp : ∀ p ∈ ps, p) : Src l (toG g) s y m (ds.map .d) foot := by
 unfold evSrc at h
 split at h
 ·cases h; exact .nil hu
 ·cases h; exact .sl hu (hp _ (List.mem_cons_self ..))
 ·split at h
  ·rename_i hs hb
   have hs := Nat.eq_of_beq_eq_true hs
   subst hs
   have hb' := toG_look hb
   split at h
   ·split at h
    ·cases h
     have h1 := hp _ (List.mem_cons_self ..)
     refine .own hu hb' ?_ (by rw [List.length_map]; exact h1)
     rw [List.drop_zero]; exact List.take_of_length_le (by show (List.map C.d _).length ≤ _; rw [List.length_map, h1]; exact Nat.le_refl _)
    ·cases h
   ·cases h
    have h1 := hp _ (List.mem_cons_self ..)
    have h2 := hp _ (List.mem_cons_of_mem _ (List.mem_cons_self ..))
    refine .own hu hb' ?_ (by rw [List.length_map]; exact h2)
    show ((List.map C.d _).drop _).take _ = _
    rw [← List.map_drop, ← List.map_take, h1]
  ·cases h
 ·cases h
def evAp (P : Program) (h : H) (g : EH) (nx : Nat) (t : TypeId) (u v : PV) : R := match P.underlying t, h with
 | some (.slice e), .ap snap n' r => match elOf P e with
  | some (z, s, bs) => match Nat.beq z.cells.size s && (Nat.blt 0 s && Nat.ble 1 bs), evSrc g s snap v with
   | true, some (ps, m, ds, foot) => match u with
    | .e (.c (.d (.lit (.slice none 0 0)))) => some (ps ++ [m * bs ≤ 140737488355328, m = n', ds = r], ⟨.e (.c (.own nx 0 n' s true)), [(nx, some (e, .ds r))], [nx], foot⟩)
    | .e (.c (.own b 0 n s' true)) => match Nat.beq s' s, g.lookup b with
     | true, some (some (T, .ds l)) => match Nat.beq T e with
      | true => some (ps ++ [l.length = n * s, (n + m) * bs ≤ 140737488355328, n + m = n', l ++ ds = r], ⟨.e (.c (.own nx 0 n' s true)), [(b, none), (nx, some (e, .ds r))], [nx], b :: foot⟩)
      | false => none
     | _, _ => none
    | _ => none
   | _, _ => none
  | none => none
 | _, _ => none
def evZs (P : Program) (h : H) (g : EH) (nx : Nat) (t tn : TypeId) : PV → PV → R := fun _ _ => none
def evCp (P : Program) (h : H) (g : EH) (t : TypeId) (u v : PV) : R := none
section
variable {cx : Cx} {o : Oper} {l : List (Nat × PV)} {g : EH}
theorem le_max63 {n bs : Nat} (h : n * bs ≤ 140737488355328) (hb : 1 ≤ bs) : n ≤ maxLen := by
 have : n * 1 ≤ n * bs := Nat.mul_le_mul_left _ hb
 unfold maxLen; omega
theorem evMk_ok {h : H} {nx : Nat} {t : TypeId} {x y : Operand} (ho : o.op = .makeSlice t x y) {u v : PV} (hu : Ev l x u) (hv : Ev l y v) : OKR cx o l g (evMk Tryz.prog h nx t u v) := OKR.none
theorem evIx_ok {h : H} {t : TypeId} {x y : Operand} (ho : o.op = .indexAddr t x y) {u v : PV} (hu : Ev l x u) (hv : Ev l y v) : OKR cx o l g (evIx Tryz.prog h t u v) := by
 unfold evIx
 split
 ·split
  ·rename_i ht
   split
   ·rename_i he
    split
    ·rename_i hs
     have hs := Nat.eq_of_beq_eq_true hs
     subst hs
     refine OKR.some fun hp => ?_
     obtain ⟨h1, h2, h3⟩ := hp
     have h3 : _ = _ := h3
     subst h1
     exact ok_index ho ht he hu hv (by omega) (by omega) (by rw [Int.toNat_natCast]; exact h3)
    ·exact OKR.none
   ·exact OKR.none
  ·exact OKR.none
 ·split
  ·rename_i ht
   split
   ·rename_i he
    refine OKR.some fun hp => ?_
    obtain ⟨h1, h2⟩ := hp
    have h2 : _ < _ := h2
    subst h1
    exact ok_index_sl ho ht he hu hv (by omega) (by omega) (by rw [Int.toNat_natCast, mulS_eq])
   ·exact OKR.none
  ·exact OKR.none
 ·exact OKR.none
theorem evSl_ok {h : H} {t : TypeId} {x : Operand} {lo hi mx : Option Operand} (ho : o.op = .slice t x lo hi mx) {u : PV} (hu : Ev l x u) : OKR cx o l g (evSl Tryz.prog h l t lo hi mx u) := by
 unfold evSl
 split
 ·split
  ·rename_i ht
   split
   ·rename_i he h1 h2 h3
    split
    ·rename_i hs
     have hs := Nat.eq_of_beq_eq_true hs
     subst hs
     refine OKR.some fun hp => ?_
     have hp := (AllP.iff _).1 hp
     have q1 := evBd_ok h1 (fun p h => hp p (by simp [h]))
     have q2 := evBd_ok h2 (fun p h => hp p (by simp [h]))
     have q3 := evMx_ok h3 (fun p h => hp p (by simp [h]))
     exact ok_slice ho ht he hu q1 q2 q3 (hp _ (by simp)) (hp _ (by simp)) (hp (_ + _ = _) (by simp)) (hp (_ - _ = _) (by simp))
    ·exact OKR.none
   ·exact OKR.none
  ·exact OKR.none
 ·split
  ·rename_i ht
   split
   ·rename_i he h1 h2 h3
    refine OKR.some fun hp => ?_
    have hp := (AllP.iff _).1 hp
    have q1 := evBd_ok h1 (fun p h => hp p (by simp [h]))
    have q2 := evBd_ok h2 (fun p h => hp p (by simp [h]))
    have q3 := evMx_ok h3 (fun p h => hp p (by simp [h]))
    exact ok_slice_sl ho ht he hu q1 q2 q3 (hp _ (by simp)) (hp _ (by simp)) (hp (_ - _ = _) (by simp)) (hp (List.take _ _ = _) (by simp))
   ·exact OKR.none
  ·exact OKR.none
 ·split
  ·rename_i ht
   split
   ·rename_i he h1 h2 h3
    refine OKR.some fun hp => ?_
    have hp := (AllP.iff _).1 hp
    have q1 := evBd_ok h1 (fun p h => hp p (by simp [h]))
    have q2 := evBd_ok h2 (fun p h => hp p (by simp [h]))
    have q3 := evMx_ok h3 (fun p h => hp p (by simp [h]))
    exact ok_slice_nil ho ht he hu q1 q2 q3
   ·exact OKR.none
  ·exact OKR.none
 ·exact OKR.none
theorem evLen_ok {x : Operand} {st : TypeId} (ho : o.op = .call { callee := .builtin .len, args := #[x], argTypes := #[st] }) {u : PV} (hu : Ev l x u) : OKR cx o l g (evLen Tryz.prog st u) := by
 unfold evLen
 split
 ·rename_i hl
  have hl := lenOk_ok hl
  split
  ·exact OKR.some fun _ => ok_len (ty := 0) (ts := #[]) ho hl hu len_own
  ·exact OKR.some fun _ => ok_len (ty := 0) (ts := #[]) ho hl hu len_sl
  ·exact OKR.some fun _ => ok_len (ty := 0) (ts := #[]) ho hl hu len_nil
  ·exact OKR.none
 ·exact OKR.none
theorem evMin_ok {h : H} {x y : Operand} {ts : Array TypeId} (ho : o.op = .call { callee := .builtin .min, args := #[x, y], argTypes := ts }) {u v : PV} (hu : Ev l x u) (hv : Ev l y v) : OKR cx o l g (evMin h u v) := by
 unfold evMin
 split
 ·split
  ·rename_i hk
   subst hk
   split
   ·exact OKR.some fun _ => ok_min ho hu hv (min_if _ _)
   ·exact OKR.some fun hp => ok_min ho hu hv ((min_if _ _).trans hp)
   ·exact OKR.none
  ·exact OKR.none
 ·exact OKR.none
theorem evMax_ok {h : H} {x y : Operand} {ts : Array TypeId} (ho : o.op = .call { callee := .builtin .max, args := #[x, y], argTypes := ts }) {u v : PV} (hu : Ev l x u) (hv : Ev l y v) : OKR cx o l g (evMax h u v) := by
 unfold evMax
 split
 ·split
  ·rename_i hk
   subst hk
   split
   ·exact OKR.some fun _ => ok_max ho hu hv (max_if _ _)
   ·exact OKR.some fun hp => ok_max ho hu hv ((max_if _ _).trans hp)
   ·exact OKR.none
  ·exact OKR.none
 ·exact OKR.none
theorem evMax3_ok {h : H} {x y z : Operand} {ts : Array TypeId} (ho : o.op = .call { callee := .builtin .max, args := #[x, y, z], argTypes := ts }) {u v q : PV} (hu : Ev l x u) (hv : Ev l y v) (hq : Ev l z q) : OKR cx o l g (evMax3 h u v q) := OKR.none
theorem evAp_ok {h : H} {nx : Nat} {x y : Operand} {t : TypeId} (ho : o.op = .call { callee := .builtin .append, args := #[x, y], argTypes := #[t, t] }) {u v : PV} (hu : Ev l x u) (hv : Ev l y v) : OKR cx o l g (evAp Tryz.prog h g nx t u v) := by
 unfold evAp
 split
 ·rename_i ht
  split
  ·rename_i he
   split
   ·rename_i hc hsrc
    simp only [Bool.and_eq_true] at hc
    obtain ⟨c1, c2, c3⟩ := hc
    have c1 := Nat.eq_of_beq_eq_true c1
    have c2 : 0 < _ := Nat.le_of_ble_eq_true c2
    have c3 := Nat.le_of_ble_eq_true c3
    split
    ·refine OKR.some fun hp => ?_
     have hp := (AllP.iff _).1 hp
     have hS := evSrc_ok hv hsrc (fun p h => hp p (by simp [h]))
     have h1 := hp (_ * _ ≤ _) (List.mem_append_right _ (List.mem_cons_self ..))
     have h2 := hp (_ = _) (List.mem_append_right _ (List.mem_cons_of_mem _ (List.mem_cons_self ..)))
     have h3 := hp (_ = _) (List.mem_append_right _ (List.mem_cons_of_mem _ (List.mem_cons_of_mem _ (List.mem_cons_self ..))))
     subst h2
     exact ok_append_nil' ho ht (elOf_ok he) c1 c2 hu hS (le_max63 h1 c3) h1 (by rw [h3]; rfl)
    ·split
     ·rename_i hs hb
      have hs := Nat.eq_of_beq_eq_true hs
      subst hs
      split
      ·rename_i hT
       have hT := Nat.eq_of_beq_eq_true hT
       subst hT
       refine OKR.some fun hp => ?_
       have hp := (AllP.iff _).1 hp
       have hS := evSrc_ok hv hsrc (fun p h => hp p (by simp [h]))
       have h1 := hp (_ = _) (List.mem_append_right _ (List.mem_cons_self ..))
       have h2 := hp (_ ≤ _) (List.mem_append_right _ (List.mem_cons_of_mem _ (List.mem_cons_self ..)))
       have h3 := hp (_ = _) (List.mem_append_right _ (List.mem_cons_of_mem _ (List.mem_cons_of_mem _ (List.mem_cons_self ..))))
       have h4 := hp (_ = _) (List.mem_append_right _ (List.mem_cons_of_mem _ (List.mem_cons_of_mem _ (List.mem_cons_of_mem _ (List.mem_cons_self ..)))))
       exact ok_append' ho ht (elOf_ok he) c1 c2 hu (toG_look hb) (by show (List.map C.d _).length = _; rw [List.length_map]; exact h1) hS (le_max63 h2 c3) h2 (by show List.map C.d _ ++ _ = List.map C.d _; rw [← List.map_append, h4]) h3
      ·exact OKR.none
     ·exact OKR.none
    ·exact OKR.none
   ·exact OKR.none
  ·exact OKR.none
 ·exact OKR.none
theorem evZs_ok {h : H} {nx : Nat} {x y : Operand} {t tn : TypeId} (ho : o.op = .call { callee := .builtin .append, args := #[x, y], argTypes := #[t, tn] }) {u v : PV} (hu : Ev l x u) (hv : Ev l y v) : OKR cx o l g (evZs Tryz.prog h g nx t tn u v) := OKR.none
theorem evCp_ok {h : H} {x y : Operand} {t st : TypeId} (ho : o.op = .call { callee := .builtin .copy, args := #[x, y], argTypes := #[t, st] }) {u v : PV} (hu : Ev l x u) (hv : Ev l y v) : OKR cx o l g (evCp Tryz.prog h g t u v) := OKR.none
end
end Go.Proofs.YtcfmjpnffembpaaGreat
