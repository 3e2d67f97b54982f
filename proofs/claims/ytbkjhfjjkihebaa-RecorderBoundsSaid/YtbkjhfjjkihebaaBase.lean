/- Lemmas on lists of numbers and on slices that are read: no statement is proved here. -/
import Derived.Test.YtbkjhfjjkihebaaRows
import Derived.WalkKit
import Derived.ProofKit
import Derived.OpenShut
import Derived.Below
import Derived.Laws.BitsAllLaws
import Derived.Laws.CopyOwn
import Derived.Laws.AppendOwnNone
import Derived.Laws.BytesArg
import Derived.Deep.QuietTactic
import Derived.BigQuiet
import Derived.Lib.SlBytesConst
namespace Go.Proofs.Ytbkjhfjjkihebaa
open Go.ChangeShapes Go.WideShapes Go.ChangeAt Go.RowKit
set_option linter.unusedVariables false

theorem hid {p : Prop} (h : p) : Hid p := h

theorem own : ownKnob Try.prog.godebug = none := by kernel_rfl
theorem laidOut : laidOutB Try.prog = true := by kernel_rfl

theorem ret_int {k : IntKind} {a b : Int} (h : a = b) : Ending.returned (.int k a) = .returned (.int k b) := by rw [h]

theorem ret_bool {b : Bool} (h : b = true) : Ending.returned (.bool b) = .returned (.bool true) := by rw [h]

/-- a slice of integers as a contract is told of it: its address, its numbers -/
def Sl (k : IntKind) (w : World) (a : Option Addr) (len cap : Nat) (l : List Int) : Prop :=
  l.length = len ∧ len ≤ cap ∧ cap ≤ maxLen ∧ (∀ n ∈ l, (Lit.int k n).wf = true) ∧ (a = none → cap = 0) ∧
  (len = 0 ∨ ∃ b off, a = some ⟨b, off, none⟩ ∧ b < w.heap.size ∧ ∀ i, i < len → w.cell? ⟨b, off + i, none⟩ = some (.int k (l.getD i 0)))

/-- element i of a slice -/
theorem row_at {k : IntKind} {w : World} {b off len : Nat} {l : List Int} (hc : ∀ i, i < len → w.cell? ⟨b, off + i, none⟩ = some (.int k (l.getD i 0))) (i : Nat) (hi : i < len) :
    ∃ x : Int, w.cell? ⟨b, off + i, none⟩ = some (.int k x) ∧ Hid (l.getD i 0 = x) := ⟨_, hc i hi, rfl⟩

def Byte (l : List Int) : Prop := ∀ n ∈ l, 0 ≤ n ∧ n ≤ 255
theorem byte_of_wf {l : List Int} (h : ∀ n ∈ l, (Lit.int .u8 n).wf = true) : Byte l := by
  intro n hn; have := bounds_u8 (h n hn); omega
theorem byte_getD {l : List Int} (h : Byte l) (i : Nat) : 0 ≤ l.getD i 0 ∧ l.getD i 0 ≤ 255 := by
  by_cases hi : i < l.length
  · have := h (l[i]) (List.getElem_mem hi); simp [List.getD_eq_getElem?_getD, hi]; exact this
  · simp [List.getD_eq_getElem?_getD, hi]
theorem take_snoc' (l : List Int) (k : Nat) (h : k < l.length) : l.take (k + 1) = l.take k ++ [l.getD k 0] := by
  rw [List.take_succ_eq_append_getElem h]; simp [List.getD_eq_getElem?_getD, h]
theorem byte_take {l : List Int} (h : Byte l) (k : Nat) : Byte (l.take k) := fun n hn => h n (List.mem_of_mem_take hn)

/-- after a walk that made memory: old cells and old marks read as before -/
theorem bcell {W w1 : World} (hb : Below W.heap.size W w1) : (∀ b o, b < W.heap.size → w1.cell? ⟨b, o, none⟩ = W.cell? ⟨b, o, none⟩) ∧ (∀ b o, b < W.heap.size → w1.frozen? ⟨b, o, none⟩ = W.frozen? ⟨b, o, none⟩) :=
  ⟨fun b o h => hb.cell (p := ⟨b, o, none⟩) h, fun b o h => hb.frozen (p := ⟨b, o, none⟩) h⟩

/-- a slice that was there reads as it did -/
theorem Sl.below {k : IntKind} {w w' : World} {a : Option Addr} {len cap : Nat} {l : List Int} (h : Sl k w a len cap l) (hb : Below w.heap.size w w') : Sl k w' a len cap l := by
  obtain ⟨h1, h2, h3, h4, h5, h6⟩ := h
  refine ⟨h1, h2, h3, h4, h5, ?_⟩
  rcases h6 with h6 | ⟨b, off, rfl, hlt, hc⟩
  · exact .inl h6
  · exact .inr ⟨b, off, rfl, Nat.lt_of_lt_of_le hlt hb.size, fun i hi => ((bcell hb).1 b _ hlt).trans (hc i hi)⟩

/-- what a call made: a slice value in memory from block B on -/
def Made (B : Nat) (k : IntKind) (w : World) (v : Value) (l : List Int) : Prop :=
  ∃ a cap, v = .slice a l.length cap ∧ Sl k w a l.length cap l ∧ (∀ ad, a = some ad → B ≤ ad.block)

theorem made_of_own {B : Nat} {k : IntKind} {w : World} {e : TypeId} {v : Value} {l : List Int} {xs : List Value} (hx : xs = l.map (Value.int k)) (hw : ∀ n ∈ l, (Lit.int k n).wf = true)
    {n : Nat} (hn : n = l.length) (h : w.ownsRow B e 1 v n xs) : Made B k w v l := by
  subst hx; subst hn
  rcases h.2 with ⟨rfl, h0⟩ | ⟨g, cap, cur, rfl, hBg, hg, hnc, hcm, hcs, htake⟩
  · exact ⟨none, 0, by rw [h0], ⟨rfl, by omega, Nat.zero_le _, hw, fun _ => rfl, .inl h0⟩, fun ad h => by cases h⟩
  · refine ⟨_, cap, rfl, ⟨rfl, hnc, hcm, hw, fun h => (by cases h), ?_⟩, fun ad h => by cases h; exact hBg⟩
    by_cases h0 : l.length = 0
    · exact .inl h0
    · refine .inr ⟨g, 0, rfl, (Array.getElem?_eq_some_iff.1 hg).1, fun i hi => ?_⟩
      rw [Nat.zero_add, h.cellAt i (by omega)]
      simp [List.getD_eq_getElem?_getD, hi]

/-- a slice of bytes that came in, as the shell tells of it -/
theorem sl_of_row {k : IntKind} {w : World} {a : Option Addr} {len cap : Nat} {zs : List Int}
    (h : (a = none ∧ len = 0 ∧ cap = 0 ∧ zs = []) ∨ ∃ x, a = some x ∧ len ≤ cap ∧ cap ≤ maxLen ∧ zs.length = cap ∧ (∀ i, i < zs.length → w.cell? (x.add i) = some (.int k (zs.getD i 0))) ∧ ∀ n ∈ zs, (Lit.int k n).wf = true) :
    Sl k w a len cap (zs.take len) := by
  rcases h with ⟨rfl, rfl, rfl, rfl⟩ | ⟨x, rfl, hl, hm, hz, hcell, hwz⟩
  · exact ⟨rfl, by omega, Nat.zero_le _, by simp, fun _ => rfl, .inl rfl⟩
  · refine ⟨by simp; omega, hl, hm, fun n hn => hwz n (List.mem_of_mem_take hn), fun h => (by cases h), ?_⟩
    by_cases h0 : len = 0
    · exact .inl h0
    · obtain ⟨b, off, spot⟩ := x
      have hc := hcell 0 (by omega)
      have hspot : spot = none := by simpa [Addr.add] using World.cell?_spot hc
      subst hspot
      refine .inr ⟨b, off, rfl, ?_, fun i hi => ?_⟩
      · have := World.block_lt_of_cell? w _ hc
        simpa [Addr.add] using this
      · have := hcell i (by omega)
        rw [Addr.add_lit] at this
        rw [this]
        simp [List.getD_eq_getElem?_getD, hi]

/-- 'make([]T, l, c)' -/
theorem wpList_make_lc {P : Program} (w : World) {ops : Array Oper} {rest : List Oper} {o : Oper} {a : Act} {Q : Exit → Act → World → Prop}
    (hg : o.guard = none) (x y : Operand) (t : TypeId) (hop : o.op = Op.makeSlice t x y)
    (e : TypeId) (i : TypeInfo) (z : Value) (h1 : P.underlying t = some (.slice e)) (h2 : P.info? e = some i) (h3 : i.zero = some z) (bs : Nat) (h4 : i.size = 1) (h5 : i.bytes = bs)
    (kl kc : IntKind) (L C : Int) (l c : Nat) (hl : a.eval x = .int kl L) (hc : a.eval y = .int kc C) (hL : L = (l : Int)) (hC : C = (c : Int)) (hlc : l ≤ c) (b2 : bs * c ≤ 281474976710656) (b3 : c ≤ maxLen)
    (hK : ∀ w', Hid (w'.heap[w.heap.size]? = some (.cells (madeCells z.cells c) e (0, 0))) → w.grownBy w' none → wpList P ops Q rest (a.put o.dst (.slice (some ⟨w.heap.size, 0, none⟩) l c)) w') :
    wpList P ops Q (o :: rest) a w := by
  refine wpList_plain hg fun K hK' => ?_
  have h63 : (c : Int) ≤ 9223372036854775807 := by simp [maxLen] at b3; omega
  have hb' : (i.bytes : Int) * (c : Int) ≤ 281474976710656 := by
    have h : ((bs * c : Nat) : Int) ≤ 281474976710656 := by omega
    rw [h5]; rwa [Int.natCast_mul] at h
  have hr := run_make (P := P) w t e i z h1 h2 h3 kl kc l c (by omega) (by omega) hb' h63
  simp only [Int.toNat_natCast, h4, Nat.mul_one] at hr
  subst hL; subst hC
  unfold Oper.wp
  simp [execOp, hop, hl, hc, hr, Result.andThen]
  exact hK' _ _ (hK _ (heap_alloc_new w _) (World.grownBy_alloc w _ none))

/-- 'make([]T, l, c)' as a run -/
theorem run_make_lc {P : Program} {t e : TypeId} {z : Value} {bs : Nat} (h1 : P.underlying t = some (.slice e)) (hi : (P.info? e).map (fun i => (i.zero, i.size, i.bytes)) = some (some z, 1, bs))
    (L C : Int) (l c : Nat) (hL : L = (l : Int)) (hC : C = (c : Int)) (hlc : l ≤ c) (b2 : bs * c ≤ 281474976710656) (b3 : c ≤ 9223372036854775807) (w : World) :
    (Instr.makeSlice t (.int .i64 L) (.int .i64 C)).run P w = .ok (.slice (some ⟨w.heap.size, 0, none⟩) l c) (w.alloc (.cells (madeCells z.cells c) e)) := by
  subst hL; subst hC
  obtain ⟨i, h2, h3, h4, h5⟩ := info_parts hi
  have hb' : (i.bytes : Int) * (c : Int) ≤ 281474976710656 := by
    have h : ((bs * c : Nat) : Int) ≤ 281474976710656 := by omega
    rw [h5]; rwa [Int.natCast_mul] at h
  have hr := run_make (P := P) w t e i z h1 h2 h3 .i64 .i64 l c (by omega) (by omega) hb' (by omega)
  simpa only [Int.toNat_natCast, h4, Nat.mul_one] using hr

theorem int_cells_one {k : IntKind} {l : List Int} : ∀ v ∈ l.map (Value.int k), v.oneCell' = true := by
  intro v hv; obtain ⟨x, _, rfl⟩ := List.mem_map.1 hv; rfl

/-- 'copy(out, b)' of a slice of numbers over the head of a row, as a run -/
theorem run_copy_sl {P : Program} {k : IntKind} {w1 : World} {dT sT ty elem : TypeId} (hu : P.underlying dT = some (.slice elem)) (hi : (P.info? elem).map (·.size) = some 1)
    {a : Option Addr} {len cap : Nat} {l : List Int} (hs : Sl k w1 a len cap l) {g dCap : Nat} {cur : Array Value} {t : TypeId} (hg : w1.heap[g]? = some (.cells cur t (0, 0))) (hfit : len ≤ cur.size) :
    ∃ w2, (Builtin.copy_ #[dT, sT] ty #[.slice (some ⟨g, 0, none⟩) len dCap, .slice a len cap]).run P w1 = .ok (.int .i64 len) w2 ∧
      w2.heap[g]? = some (.cells ((l.map (Value.int k)) ++ cur.toList.drop len).toArray t (0, 0)) ∧ w1.grownBy w2 (some g) := by
  obtain ⟨hz, hl, hm, hw, hn, h0⟩ := hs
  rcases h0 with h0 | ⟨b, off, rfl, hlt, hc⟩
  · subst h0
    obtain rfl : l = [] := List.eq_nil_of_length_eq_zero hz
    refine ⟨w1, run_copy_none (P := P) w1 dT sT ty elem _ a 0 dCap 0 cap hu hi (by rfl), by simpa using hg, World.grownBy.refl _ _⟩
  · have hr := run_copy_row (P := P) w1 dT sT ty elem g 0 len dCap ⟨b, off, none⟩ len cap cur t (l.map (Value.int k)) hu hi hg (by simp [hz]) (by
      intro j v hj
      have hjl : j < len := by have := (List.getElem?_eq_some_iff.1 hj).1; simpa [hz] using this
      rw [Addr.add_lit, hc j hjl]
      rw [List.getElem?_map] at hj
      rw [List.getD_eq_getElem?_getD, List.getElem?_eq_getElem (by omega)] at *
      simpa using hj) (by simp [hz]; exact hfit) int_cells_one
    refine ⟨w1.setRow g (List.map (Value.int k) l ++ List.drop len cur.toList).toArray, by simpa [hz, goInt] using hr, ?_, ⟨rfl, rfl, rfl, by simp [World.setRow], fun k' _ hk => setRow_other w1 g k' _ (fun e => hk (by rw [e]))⟩⟩
    have := setRow_heap w1 g cur (List.take 0 cur.toList ++ List.map (Value.int k) l ++ List.drop (0 + (List.map (Value.int k) l).length) cur.toList).toArray t (0, 0) hg
    simpa [hz] using this

/-- a row whose first cells are known is owned -/
theorem owns_row {w : World} {g n cap : Nat} {e : TypeId} {cur : Array Value} {xs : List Value} (hg : w.heap[g]? = some (.cells cur e (0, 0))) (hn : n ≤ cap) (hm : cap ≤ maxLen) (hc : cur.size = cap) (hx : xs.length = n) (ht : cur.toList.take n = xs) :
    w.ownsRow g e 1 (.slice (some ⟨g, 0, none⟩) n cap) n xs :=
  ⟨by omega, .inr ⟨g, cap, cur, rfl, Nat.le_refl _, hg, hn, hm, by omega, by simpa using ht⟩⟩

theorem owns_lt {w : World} {B g n c : Nat} {e : TypeId} {xs : List Value} (h : w.ownsRow B e 1 (.slice (some ⟨g, 0, none⟩) n c) n xs) : B ≤ g ∧ g < w.heap.size := h.lt g rfl

theorem one_cell_at {w : World} {k : IntKind} {x : Int} {e : TypeId} : ∀ (j : Nat) (u : Value), [Value.int k x][j]? = some u → (w.alloc (Obj.cells #[Value.int k x] e)).cell? ((⟨w.heap.size, 0, none⟩ : Addr).add j) = some u := by
  intro j u hj
  match j, hj with
  | 0, hj => simp at hj; subst hj; simp [Addr.add]

/-- what is owned from B on is owned from every smaller number on -/
theorem owns_from {w : World} {B B' : Nat} {e : TypeId} {v : Value} {n : Nat} {xs : List Value} (h : w.ownsRow B e 1 v n xs) (hB : B' ≤ B) : w.ownsRow B' e 1 v n xs := by
  refine ⟨h.1, ?_⟩
  rcases h.2 with h | ⟨g, cap, cur, a, b, c⟩
  · exact .inl h
  · exact .inr ⟨g, cap, cur, a, Nat.le_trans hB b, c⟩

theorem sl_src {k : IntKind} {w : World} {ad : Addr} {len cap : Nat} {l : List Int} (hs : Sl k w (some ad) len cap l) : ∀ (j : Nat) (u : Value), (l.map (Value.int k))[j]? = some u → w.cell? (ad.add j) = some u := by
  obtain ⟨hz, hl, hm, hw, hn, h0⟩ := hs
  intro j v hj
  have hjl : j < len := by have := (List.getElem?_eq_some_iff.1 hj).1; simpa [hz] using this
  rcases h0 with h0 | ⟨b, off, he, hlt, hc⟩
  · omega
  · cases he
    rw [Addr.add_lit, hc j hjl]
    rw [List.getElem?_map, List.getElem?_eq_getElem (by omega)] at hj
    rw [List.getD_eq_getElem?_getD, List.getElem?_eq_getElem (by omega)]
    simpa using hj

/-- 'append(v, b...)', v of the call's own, b a slice of numbers, as a run -/
theorem run_append_sl {P : Program} {k : IntKind} {t ty e : TypeId} {z : Value} {bs : Nat} (hu : P.underlying t = some (.slice e)) (hi : (P.info? e).map (fun i => (i.zero, i.size, i.bytes)) = some (some z, 1, bs)) (hzs : z.cells.size = 1)
    {w : World} {B : Nat} {v : Value} {n : Nat} {xs : List Value} (hown : w.ownsRow B e 1 v n xs) {a : Option Addr} {m c : Nat} {l : List Int} (hs : Sl k w a m c l)
    (h63 : n + m ≤ maxLen) (hbytes : (n + m) * bs ≤ 140737488355328) (hbase : B ≤ w.heap.size) :
    ∃ v' w', (Builtin.append_ #[t, t] ty #[v, .slice a m c]).run P w = .ok v' w' ∧ w'.ownsRow B e 1 v' (n + m) (xs ++ l.map (Value.int k)) ∧ w.grownBy w' v.ownBlock := by
  obtain ⟨i, h2, h3, h4, h5⟩ := info_parts hi
  cases a with
  | none =>
    have hc : c = 0 := hs.2.2.2.2.1 rfl
    have hm : m = 0 := by have := hs.2.1; omega
    subst hc; subst hm
    obtain rfl : l = [] := List.eq_nil_of_length_eq_zero hs.1
    exact ⟨v, w, run_append_owned_none (P := P) (w := w) B t ty e i 1 hu h2 v n xs hown, by simpa using hown, World.grownBy.refl _ _⟩
  | some ad =>
    obtain ⟨v', w', hr, h6, h7, _⟩ := run_append_own (P := P) w B t ty e i z 1 bs hu h2 h3 h4 h5 hzs (by omega) v n xs hown ad m c (l.map (Value.int k)) (by simp [hs.1]) (sl_src hs) int_cells_one h63 hbytes hbase
    exact ⟨v', w', hr, h6, h7⟩

/-- the same as a law for the walk -/
theorem wpList_append_sl {P : Program} (w : World) {ops : Array Oper} {rest : List Oper} {o : Oper} {act : Act} {Q : Exit → Act → World → Prop} (hgd : o.guard = none) (s x : Operand) (t : TypeId)
    (ho : o.op = .call { callee := .builtin .append, args := #[s, x], argTypes := #[t, t] }) (k : IntKind) (e : TypeId) (z : Value) (bs : Nat)
    (hu : P.underlying t = some (.slice e)) (hi : (P.info? e).map (fun i => (i.zero, i.size, i.bytes)) = some (some z, 1, bs)) (hzs : z.cells.size = 1)
    (B : Nat) (v : Value) (n : Nat) (xs : List Value) (hown : w.ownsRow B e 1 v n xs) (hv : act.eval s = v) (a : Option Addr) (m c : Nat) (l : List Int) (hx : act.eval x = .slice a m c) (hs : Sl k w a m c l)
    (h63 : n + m ≤ maxLen) (hbytes : (n + m) * bs ≤ 140737488355328) (hbase : B ≤ w.heap.size)
    (h : ∀ v' w', Hid (w'.ownsRow B e 1 v' (n + m) (xs ++ l.map (Value.int k))) → Hid (w.grownBy w' v.ownBlock) → wpList P ops Q rest (act.put o.dst v') w') : wpList P ops Q (o :: rest) act w := by
  refine wpList_plain hgd fun K hK => ?_
  obtain ⟨v', w', hr, h2, h3⟩ := run_append_sl (P := P) (ty := o.type) hu hi hzs hown hs h63 hbytes hbase
  unfold Oper.wp execOp
  simp only [ho, resolve, invoke, builtin, Sem.run_bind, Sem.run_pure, Result.andThen_ok, List.map_toArray, List.map_cons, List.map_nil, hv, hx, hr]
  exact hK _ _ (h v' w' h2 h3)

/-- 'append(v, x)' of one number, which lies in a new block of one cell -/
theorem wpList_append_1 {P : Program} (w : World) {ops : Array Oper} {rest : List Oper} {o : Oper} {act : Act} {Q : Exit → Act → World → Prop} (hgd : o.guard = none) (s x : Operand) (t : TypeId)
    (ho : o.op = .call { callee := .builtin .append, args := #[s, x], argTypes := #[t, t] }) (k : IntKind) (e : TypeId) (z : Value) (bs : Nat)
    (hu : P.underlying t = some (.slice e)) (hi : (P.info? e).map (fun i => (i.zero, i.size, i.bytes)) = some (some z, 1, bs)) (hzs : z.cells.size = 1)
    (B : Nat) (v : Value) (n : Nat) (xs : List Value) (hown : w.ownsRow B e 1 v n xs) (hv : act.eval s = v) (y : Int) (hx : act.eval x = .slice (some ⟨w.heap.size, 0, none⟩) 1 1)
    (h63 : n + 1 ≤ maxLen) (hbytes : (n + 1) * bs ≤ 140737488355328) (hbase : B ≤ w.heap.size)
    (h : ∀ v' w', Hid (w'.ownsRow B e 1 v' (n + 1) (xs ++ [Value.int k y])) → Hid ((w.alloc (.cells #[.int k y] e)).grownBy w' v.ownBlock) → wpList P ops Q rest (act.put o.dst v') w') :
    wpList P ops Q (o :: rest) act (w.alloc (.cells #[.int k y] e)) := by
  obtain ⟨i, h2, h3, h4, h5⟩ := info_parts hi
  exact wpList_append_own (w := w.alloc (.cells #[.int k y] e)) hgd s x t ho B e i z 1 bs hu h2 h3 h4 h5 hzs (by omega) v n xs hv (hown.alloc _) ⟨w.heap.size, 0, none⟩ 1 1 [.int k y] hx rfl one_cell_at
    (by intro u hu; simp at hu; subst hu; rfl) h63 hbytes (by simp; omega) (fun v' w' a b _ => h v' w' a b)

/-- 'string(b)' of a slice of bytes, as a run -/
theorem run_string_sl {P : Program} {src e : TypeId} (hs : P.underlying src = some (.slice e)) (he : P.underlying e = some (.int .u8)) {w : World} {a : Option Addr} {len cap : Nat} {l : List Int} (h : Sl .u8 w a len cap l)
    (dst : TypeId) (hd : P.underlying dst = some .string) : (convert src dst (.slice a len cap)).run P w = .ok (.string (strOfNums l)) w := by
  cases a with
  | none =>
    have hc : cap = 0 := h.2.2.2.2.1 rfl
    have hm : len = 0 := by have := h.2.1; omega
    subst hm
    obtain rfl : l = [] := List.eq_nil_of_length_eq_zero h.1
    exact run_convert_bytes_nil w src e hs he 0 cap dst hd
  | some ad =>
    have hl : (loadCells ad len).run P w = .ok (l.map (Value.int .u8)).toArray w := by
      have := run_loadCells_list (P := P) w ad (l.map (Value.int .u8)) (sl_src h)
      simpa [h.1] using this
    rw [run_convert_bytes_string w src dst e _ len cap hs he hd, run_bytesToString w _ len cap l hl, foldl_push_bytes]
    simp [strOfNums, ByteArray.empty, ByteArray.emptyWithCapacity]
    rfl

theorem sl_nil (k : IntKind) (w : World) : Sl k w none 0 0 [] := ⟨rfl, Nat.le_refl _, Nat.zero_le _, by simp, fun _ => rfl, .inl rfl⟩

/-- a slice written out, in a new block -/
theorem sl_lit {k : IntKind} {w : World} {e : TypeId} {fr : Nat × Nat} (l : List Int) (hw : ∀ n ∈ l, (Lit.int k n).wf = true) (hm : l.length ≤ maxLen) :
    Sl k (w.alloc (.cells (l.map (Value.int k)).toArray e fr)) (some ⟨w.heap.size, 0, none⟩) l.length l.length l := by
  refine ⟨rfl, Nat.le_refl _, hm, hw, fun h => (by cases h), ?_⟩
  refine .inr ⟨w.heap.size, 0, rfl, by simp, fun i hi => ?_⟩
  rw [cell_of_row _ w.heap.size (0 + i) _ e fr (heap_alloc_new w _)]
  simp [List.getD_eq_getElem?_getD, hi]

/-- a part of a slice -/
theorem sl_sub {k : IntKind} {w : World} {b off len cap : Nat} {l : List Int} (hs : Sl k w (some ⟨b, off, none⟩) len cap l) (lo n c : Nat) (h : lo + n ≤ len) (hc : n ≤ c) (hcm : c ≤ maxLen) :
    Sl k w (some ⟨b, off + lo, none⟩) n c ((l.drop lo).take n) := by
  obtain ⟨hz, hl, hm, hw, hn, h0⟩ := hs
  refine ⟨by simp; omega, hc, hcm, fun x hx => hw x (List.mem_of_mem_drop (List.mem_of_mem_take hx)), fun h => (by cases h), ?_⟩
  by_cases hn0 : n = 0
  · exact .inl hn0
  · rcases h0 with h0 | ⟨b', off', he, hlt, hcell⟩
    · omega
    · cases he
      refine .inr ⟨b, off + lo, rfl, hlt, fun i hi => ?_⟩
      rw [Nat.add_assoc, hcell (lo + i) (by omega)]
      congr 2
      simp [List.getD_eq_getElem?_getD, hi]

theorem info_u8 : (Try.prog.info? 5).map (fun i => (i.zero, i.size, i.bytes)) = some (some (.int .u8 0), 1, 1) := by kernel_rfl

end Go.Proofs.Ytbkjhfjjkihebaa
