/- A memory told by names: slices that are computed. No statement is proved here. -/
import Derived.Test.YtcfmjpnffembpaaGreatZAmG
namespace Go.Proofs.YtcfmjpnffembpaaGreat
open Go.ChangeShapes Go.WideShapes Go.ChangeAt Go.RowKit
open List renaming length_map → kc5, map → kd6, mem_append_right → kc1, mem_cons_of_mem → kb9, mem_cons_self → kb5
open Nat renaming beq → ke7, eq_of_beq_eq_true → kc4, le_of_ble_eq_true → ka4
set_option linter.unusedVariables false
set_option linter.unusedSimpArgs false
def u7n (P : Program) (e : TypeId) : Option (Value × Nat × Nat) := match P.info? e with
 | some i => match i.zero with
  | some z => some (z, i.size, i.bytes)
  | none => none
 | none => none
theorem k47 {e : TypeId} {z : Value} {s bs : Nat} (h : u7n Tryz.prog e = some (z, s, bs)) : (Tryz.prog.info? e).map (fun i => (i.zero, i.size, i.bytes)) = some (some z, s, bs) := by
 unfold u7n at h
 split at h
 ·rename_i i hi
  split at h
  ·rename_i z' hz; cases h; rw [hi]; simp [hz]
  ·cases h
 ·cases h
def v0m (P : Program) (h : H) (nx : Nat) (t : TypeId) : PV → PV → R := fun _ _ => none
def u7d (P : Program) (h : H) (t : TypeId) : PV → PV → R
 | .e (.c (.own b off n s _)), .e (.c (.d (.lit (.int _ i)))) => match P.underlying t, h with
  | some (.slice e), .n2 k r => match vD P e with
   | some (_, s') => match ke7 s' s with
    | true => some ([i = (k : Int), k < n, off + k * s = r], ⟨.e (.c (.ptr b r)), [], [], []⟩)
    | false => none
   | none => none
  | _, _ => none
 | .e (.c (.d (.sl ds n))), .e (.c (.d (.lit (.int _ i)))) => match P.underlying t, h with
  | some (.slice e), .n k => match vD P e with
   | some (_, s) => some ([i = (k : Int), k < n], ⟨.e (.c (.rp (ds.drop (u6g k s)))), [], [], []⟩)
   | none => none
  | _, _ => none
 | _, _ => none
def k0p (l : List (Nat × PV)) (d n : Nat) : Option Operand → Option (List Prop)
 | none => some [d = n]
 | some x => match bH l x with
  | some (.e (.c (.d (.lit (.int _ i))))) => some [i = (n : Int)]
  | _ => none
theorem g6 {l : List (Nat × PV)} {d n : Nat} {x : Option Operand} {ps : List Prop} (h : k0p l d n x = some ps) (hp : ∀ p ∈ ps, p) : Bd l d x n := by
 unfold k0p at h
 split at h
 ·cases h; have := hp (d = n) (kb5 ..); subst this; exact .no
 ·split at h
  ·rename_i hx; cases h; exact .yes (mQ hx) (hp _ (kb5 ..))
  ·cases h
def k8z (l : List (Nat × PV)) (lo hi : Option Operand) (n : Nat) : Option Operand → Option (List Prop)
 | none => some []
 | some x => match hi, bH l x with
  | some _, some (.e (.c (.d (.lit (.int _ i))))) => some [i = (n : Int)]
  | _, _ => none
theorem wZ {l : List (Nat × PV)} {lo hi : Option Operand} {n : Nat} {x : Option Operand} {ps : List Prop} (h : k8z l lo hi n x = some ps) (hp : ∀ p ∈ ps, p) : Mx l lo hi n x := by
 unfold k8z at h
 split at h
 ·exact .no
 ·split at h
  ·rename_i hx; cases h; exact .yes rfl (mQ hx) (hp _ (kb5 ..))
  ·cases h
def u79 (P : Program) (h : H) (l : List (Nat × PV)) (t : TypeId) (lo hi mx : Option Operand) : PV → R
 | .e (.c (.own b off n s _)) => match P.underlying t, h with
  | some (.slice e), .sl L H r k => match vD P e, k0p l 0 L lo, k0p l n H hi, k8z l lo hi H mx with
   | some (_, s'), some p1, some p2, some p3 => match ke7 s' s with
    | true => some (p1 ++ (p2 ++ (p3 ++ [L ≤ H, H ≤ n, off + L * s = r, H - L = k])), ⟨.e (.c (.own b r k s false)), [], [], []⟩)
    | false => none
   | _, _, _, _ => none
  | _, _ => none
 | .e (.c (.d (.sl ds n))) => match P.underlying t, h with
  | some (.slice e), .sls L H k r => match vD P e, k0p l 0 L lo, k0p l n H hi, k8z l lo hi H mx with
   | some (_, s), some p1, some p2, some p3 => some (p1 ++ (p2 ++ (p3 ++ [L ≤ H, H ≤ n, H - L = k, (ds.drop (L * s)).take (k * s) = r])), ⟨.e (.c (.d (.sl r k))), [], [], []⟩)
   | _, _, _, _ => none
  | _, _ => none
 | .e (.c (.d (.lit (.slice none 0 0)))) => match P.underlying t with
  | some (.slice e) => match vD P e, k0p l 0 0 lo, k0p l 0 0 hi, k8z l lo hi 0 mx with
   | some (_, _), some p1, some p2, some p3 => some (p1 ++ (p2 ++ p3), ⟨LV fC, [], [], []⟩)
   | _, _, _, _ => none
  | _ => none
 | _ => none
def k81 (P : Program) (t : TypeId) : Bool := match P.underlying t with
 | some (.slice e) => ke7 e (P.elem t)
 | _ => false
theorem k80 {t : TypeId} (h : k81 Tryz.prog t = true) : Tryz.prog.underlying t = some (.slice (Tryz.prog.elem t)) := by
 unfold k81 at h
 split at h
 ·rename_i e he; rw [he, ← kc4 h]
 ·cases h
def k9b (P : Program) (st : TypeId) (u : PV) : R := match k81 P st with
 | true => match u with
  | .e (.c (.own _ _ n _ _)) => pv (LV (.int .i64 n))
  | .e (.c (.d (.sl _ n))) => pv (LV (.int .i64 n))
  | .e (.c (.d (.lit (.slice none 0 0)))) => pv (LV (.int .i64 0))
  | _ => none
 | false => none
def k91 (h : H) : PV → PV → R
 | .e (.c (.d (.lit (.int k a)))), .e (.c (.d (.lit (.int k' b)))) => if k = k' then match h with
   | .no => pv (LV (.int k (min a b)))
   | .i r => pvc [min a b = r] (LV (.int k r))
   | _ => none
  else none
 | _, _ => none
def k94 (h : H) : PV → PV → R
 | .e (.c (.d (.lit (.int k a)))), .e (.c (.d (.lit (.int k' b)))) => if k = k' then match h with
   | .no => pv (LV (.int k (max a b)))
   | .i r => pvc [max a b = r] (LV (.int k r))
   | _ => none
  else none
 | _, _ => none
def k93 (h : H) : PV → PV → PV → R := fun _ _ _ => none
theorem k7q (a b : Int) : (if b < a then b else a) = min a b := by rw [Int.min_def]; by_cases h : b < a <;> simp [h] <;> omega
theorem k7u (a b : Int) : (if a < b then b else a) = max a b := by rw [Int.max_def]; by_cases h : a < b <;> simp [h] <;> omega
def k8o (g : EH) (s : Nat) (snap : Option (List D)) : PV → Option (List Prop × Nat × List D × List Nat)
 | .e (.c (.d (.lit (.slice none 0 0)))) => some ([], 0, [], [])
 | .e (.c (.d (.sl ds m))) => some ([ds.length = m * s], m, ds, [])
 | .e (.c (.own b off m s' _)) => match ke7 s' s, g.lookup b with
  | true, some (some (_, .ds l)) => match snap with
   | none => match off with
    | 0 => some ([l.length = m * s], m, l, [b])
    | _ => none
   | some r => some ([(l.drop off).take (m * s) = r, r.length = m * s], m, r, [b])
  | _, _ => none
 | _ => none
theorem k0l {l : List (Nat × PV)} {g : EH} {s : Nat} {snap : Option (List D)} {y : Operand} {u : PV} (hu : Ev l y u) {ps : List Prop} {m : Nat} {ds : List D} {foot : List Nat} (h : k8o g s snap u = some (ps, m, ds, foot)) (hp : ∀ p ∈ ps, p) : Src l (kH g) s y m (ds.map .d) foot := by
 unfold k8o at h
 split at h
 ·cases h; exact .nil hu
 ·cases h; exact .sl hu (hp _ (kb5 ..))
 ·split at h
  ·rename_i hs hb
   have hs := kc4 hs
   subst hs
   have hb' := uU hb
   split at h
   ·split at h
    ·cases h
     have h1 := hp _ (kb5 ..)
     refine .own hu hb' ?_ (by rw [kc5]; exact h1)
     rw [List.drop_zero]; exact List.take_of_length_le (by show (kd6 C.d _).length ≤ _; rw [kc5, h1]; exact Nat.le_refl _)
    ·cases h
   ·cases h
    have h1 := hp _ (kb5 ..)
    have h2 := hp _ (kb9 _ (kb5 ..))
    refine .own hu hb' ?_ (by rw [kc5]; exact h2)
    show ((kd6 C.d _).drop _).take _ = _
    rw [← List.map_drop, ← List.map_take, h1]
  ·cases h
 ·cases h
def u7j (P : Program) (h : H) (g : EH) (nx : Nat) (t : TypeId) (u v : PV) : R := match P.underlying t, h with
 | some (.slice e), .ap snap n' r => match u7n P e with
  | some (z, s, bs) => match ke7 z.cells.size s && (Nat.blt 0 s && Nat.ble 1 bs), k8o g s snap v with
   | true, some (ps, m, ds, foot) => match u with
    | .e (.c (.d (.lit (.slice none 0 0)))) => some (ps ++ [m * bs ≤ 140737488355328, m = n', ds = r], ⟨.e (.c (.own nx 0 n' s true)), [(nx, some (e, .ds r))], [nx], foot⟩)
    | .e (.c (.own b 0 n s' true)) => match ke7 s' s, g.lookup b with
     | true, some (some (T, .ds l)) => match ke7 T e with
      | true => some (ps ++ [l.length = n * s, (n + m) * bs ≤ 140737488355328, n + m = n', l ++ ds = r], ⟨.e (.c (.own nx 0 n' s true)), [(b, none), (nx, some (e, .ds r))], [nx], b :: foot⟩)
      | false => none
     | _, _ => none
    | _ => none
   | _, _ => none
  | none => none
 | _, _ => none
def v0j (P : Program) (h : H) (g : EH) (nx : Nat) (t tn : TypeId) : PV → PV → R := fun _ _ => none
def v0n (P : Program) (h : H) (g : EH) (t : TypeId) (u v : PV) : R := none
section
variable {cx : Cx} {o : Oper} {l : List (Nat × PV)} {g : EH}
theorem k08 {n bs : Nat} (h : n * bs ≤ 140737488355328) (hb : 1 ≤ bs) : n ≤ maxLen := by
 have : n * 1 ≤ n * bs := Nat.mul_le_mul_left _ hb
 unfold maxLen; omega
theorem u2x {h : H} {nx : Nat} {t : TypeId} {x y : Operand} (ho : o.op = .makeSlice t x y) {u v : PV} (hu : Ev l x u) (hv : Ev l y v) : OKR cx o l g (v0m Tryz.prog h nx t u v) := OKR.none
theorem u2z {h : H} {t : TypeId} {x y : Operand} (ho : o.op = .indexAddr t x y) {u v : PV} (hu : Ev l x u) (hv : Ev l y v) : OKR cx o l g (u7d Tryz.prog h t u v) := by
 unfold u7d
 split
 ·split
  ·rename_i ht
   split
   ·rename_i he
    split
    ·rename_i hs
     have hs := kc4 hs
     subst hs
     refine OKR.some fun hp => ?_
     obtain ⟨h1, h2, h3⟩ := hp
     have h3 : _ = _ := h3
     subst h1
     exact k78 ho ht he hu hv (by omega) (by omega) (by rw [Int.toNat_natCast]; exact h3)
    ·exact OKR.none
   ·exact OKR.none
  ·exact OKR.none
 ·split
  ·rename_i ht
   split
   ·rename_i he
    refine OKR.some fun hp => ?_
    obtain ⟨h1, h2⟩ := hp
    have h2 : _ < _ := h2
    subst h1
    exact z7 ho ht he hu hv (by omega) (by omega) (by rw [Int.toNat_natCast, u22])
   ·exact OKR.none
  ·exact OKR.none
 ·exact OKR.none
theorem u2s {h : H} {t : TypeId} {x : Operand} {lo hi mx : Option Operand} (ho : o.op = .slice t x lo hi mx) {u : PV} (hu : Ev l x u) : OKR cx o l g (u79 Tryz.prog h l t lo hi mx u) := by
 unfold u79
 split
 ·split
  ·rename_i ht
   split
   ·rename_i he h1 h2 h3
    split
    ·rename_i hs
     have hs := kc4 hs
     subst hs
     refine OKR.some fun hp => ?_
     have hp := (uI _).1 hp
     have q1 := g6 h1 (fun p h => hp p (by simp [h]))
     have q2 := g6 h2 (fun p h => hp p (by simp [h]))
     have q3 := wZ h3 (fun p h => hp p (by simp [h]))
     exact k74 ho ht he hu q1 q2 q3 (hp _ (by simp)) (hp _ (by simp)) (hp (_ + _ = _) (by simp)) (hp (_ - _ = _) (by simp))
    ·exact OKR.none
   ·exact OKR.none
  ·exact OKR.none
 ·split
  ·rename_i ht
   split
   ·rename_i he h1 h2 h3
    refine OKR.some fun hp => ?_
    have hp := (uI _).1 hp
    have q1 := g6 h1 (fun p h => hp p (by simp [h]))
    have q2 := g6 h2 (fun p h => hp p (by simp [h]))
    have q3 := wZ h3 (fun p h => hp p (by simp [h]))
    exact z4 ho ht he hu q1 q2 q3 (hp _ (by simp)) (hp _ (by simp)) (hp (_ - _ = _) (by simp)) (hp (List.take _ _ = _) (by simp))
   ·exact OKR.none
  ·exact OKR.none
 ·split
  ·rename_i ht
   split
   ·rename_i he h1 h2 h3
    refine OKR.some fun hp => ?_
    have hp := (uI _).1 hp
    have q1 := g6 h1 (fun p h => hp p (by simp [h]))
    have q2 := g6 h2 (fun p h => hp p (by simp [h]))
    have q3 := wZ h3 (fun p h => hp p (by simp [h]))
    exact t8 ho ht he hu q1 q2 q3
   ·exact OKR.none
  ·exact OKR.none
 ·exact OKR.none
theorem k99 {x : Operand} {st : TypeId} (ho : o.op = .call { callee := .builtin .len, args := #[x], argTypes := #[st] }) {u : PV} (hu : Ev l x u) : OKR cx o l g (k9b Tryz.prog st u) := by
 unfold k9b
 split
 ·rename_i hl
  have hl := k80 hl
  split
  ·exact OKR.some fun _ => k1z (ty := 0) (ts := #[]) ho hl hu u28
  ·exact OKR.some fun _ => k1z (ty := 0) (ts := #[]) ho hl hu u6m
  ·exact OKR.some fun _ => k1z (ty := 0) (ts := #[]) ho hl hu u29
  ·exact OKR.none
 ·exact OKR.none
theorem k90 {h : H} {x y : Operand} {ts : Array TypeId} (ho : o.op = .call { callee := .builtin .min, args := #[x, y], argTypes := ts }) {u v : PV} (hu : Ev l x u) (hv : Ev l y v) : OKR cx o l g (k91 h u v) := by
 unfold k91
 split
 ·split
  ·rename_i hk
   subst hk
   split
   ·exact OKR.some fun _ => k76 ho hu hv (k7q _ _)
   ·exact OKR.some fun hp => k76 ho hu hv ((k7q _ _).trans hp)
   ·exact OKR.none
  ·exact OKR.none
 ·exact OKR.none
theorem k92 {h : H} {x y : Operand} {ts : Array TypeId} (ho : o.op = .call { callee := .builtin .max, args := #[x, y], argTypes := ts }) {u v : PV} (hu : Ev l x u) (hv : Ev l y v) : OKR cx o l g (k94 h u v) := by
 unfold k94
 split
 ·split
  ·rename_i hk
   subst hk
   split
   ·exact OKR.some fun _ => k77 ho hu hv (k7u _ _)
   ·exact OKR.some fun hp => k77 ho hu hv ((k7u _ _).trans hp)
   ·exact OKR.none
  ·exact OKR.none
 ·exact OKR.none
theorem k59 {h : H} {x y z : Operand} {ts : Array TypeId} (ho : o.op = .call { callee := .builtin .max, args := #[x, y, z], argTypes := ts }) {u v q : PV} (hu : Ev l x u) (hv : Ev l y v) (hq : Ev l z q) : OKR cx o l g (k93 h u v q) := OKR.none
theorem u36 {h : H} {nx : Nat} {x y : Operand} {t : TypeId} (ho : o.op = .call { callee := .builtin .append, args := #[x, y], argTypes := #[t, t] }) {u v : PV} (hu : Ev l x u) (hv : Ev l y v) : OKR cx o l g (u7j Tryz.prog h g nx t u v) := by
 unfold u7j
 split
 ·rename_i ht
  split
  ·rename_i he
   split
   ·rename_i hc hsrc
    simp only [Bool.and_eq_true] at hc
    obtain ⟨c1, c2, c3⟩ := hc
    have c1 := kc4 c1
    have c2 : 0 < _ := ka4 c2
    have c3 := ka4 c3
    split
    ·refine OKR.some fun hp => ?_
     have hp := (uI _).1 hp
     have hS := k0l hv hsrc (fun p h => hp p (by simp [h]))
     have h1 := hp (_ * _ ≤ _) (kc1 _ (kb5 ..))
     have h2 := hp (_ = _) (kc1 _ (kb9 _ (kb5 ..)))
     have h3 := hp (_ = _) (kc1 _ (kb9 _ (kb9 _ (kb5 ..))))
     subst h2
     exact o9 ho ht (k47 he) c1 c2 hu hS (k08 h1 c3) h1 (by rw [h3]; rfl)
    ·split
     ·rename_i hs hb
      have hs := kc4 hs
      subst hs
      split
      ·rename_i hT
       have hT := kc4 hT
       subst hT
       refine OKR.some fun hp => ?_
       have hp := (uI _).1 hp
       have hS := k0l hv hsrc (fun p h => hp p (by simp [h]))
       have h1 := hp (_ = _) (kc1 _ (kb5 ..))
       have h2 := hp (_ ≤ _) (kc1 _ (kb9 _ (kb5 ..)))
       have h3 := hp (_ = _) (kc1 _ (kb9 _ (kb9 _ (kb5 ..))))
       have h4 := hp (_ = _) (kc1 _ (kb9 _ (kb9 _ (kb9 _ (kb5 ..)))))
       exact k22 ho ht (k47 he) c1 c2 hu (uU hb) (by show (kd6 C.d _).length = _; rw [kc5]; exact h1) hS (k08 h2 c3) h2 (by show kd6 C.d _ ++ _ = kd6 C.d _; rw [← List.map_append, h4]) h3
      ·exact OKR.none
     ·exact OKR.none
    ·exact OKR.none
   ·exact OKR.none
  ·exact OKR.none
 ·exact OKR.none
theorem u2q {h : H} {nx : Nat} {x y : Operand} {t tn : TypeId} (ho : o.op = .call { callee := .builtin .append, args := #[x, y], argTypes := #[t, tn] }) {u v : PV} (hu : Ev l x u) (hv : Ev l y v) : OKR cx o l g (v0j Tryz.prog h g nx t tn u v) := OKR.none
theorem u31 {h : H} {x y : Operand} {t st : TypeId} (ho : o.op = .call { callee := .builtin .copy, args := #[x, y], argTypes := #[t, st] }) {u v : PV} (hu : Ev l x u) (hv : Ev l y v) : OKR cx o l g (v0n Tryz.prog h g t u v) := OKR.none
end
end Go.Proofs.YtcfmjpnffembpaaGreat
