/- Texts in parts, sorted slices: out of Go's library. No statement is proved here. -/
import Derived.Test.YtcmldnahohmieaaDoorL06A
import Derived.Test.YtcmldnahohmieaaDoorShl
namespace Go.Proofs
open Go.Shelf Go.RowKit Go.Lib
variable {P : Program} {ρ : Ren}
set_option maxHeartbeats 1000000 in
/-- a text in parts at a byte: what internal/bytealg.MaxLen holds is not asked for -/
theorem Any.strings_Split_byte (L : Lays.n146 P ρ) (hi9 : (P.info? (ρ.t 9)).map (fun i => (i.zero, i.size, i.bytes)) = some (some (.string ByteArray.empty), 1, 16)) (s : ByteArray) (b : UInt8) (w : World)
    (hs : s.size < 4294967281) :
    Calls P (ρ.f 146) #[.string s, .string ⟨#[b]⟩] w fun e w' =>
      e = .returned (.slice (some ⟨w.heap.size, 0, none⟩) (Lib.countB s ⟨#[b]⟩ + 1) (Lib.countB s ⟨#[b]⟩ + 1)) ∧ w' = w.alloc (.cells ((Lib.splitB ⟨#[b]⟩ 0 (Lib.countB s ⟨#[b]⟩) s).map Value.string).toArray (ρ.t 9)) := by
  have h1 : 1 ≤ (ByteArray.mk #[b]).size := Nat.le_refl 1
  have hle := Lib.countB_le ⟨#[b]⟩ h1 s.size s (Nat.le_refl _)
  have hlen := Lib.splitB_all ⟨#[b]⟩ h1 0 _ s rfl
  have hI : ∀ (x : ByteArray) (c : Array Value), x.size ≤ s.size → Calls P (ρ.f 143) #[.string x, .string ⟨#[b]⟩] (w.alloc (.cells c (ρ.t 9))) fun e w' => e = .returned (.int .i64 (Lib.indexB x ⟨#[b]⟩)) ∧ w' = w.alloc (.cells c (ρ.t 9)) := fun x c _ => by
    refine (Any.strings_Index_one { L with } x b _).mono fun e w' ⟨he, hw⟩ => ⟨?_, hw⟩
    rw [he]
    show _ = Ending.returned (Value.int .i64 (Lib.index x.data.toList [b]))
    rw [Lib.index_one]
  have hC : Calls P (ρ.f 138) #[.string s, .string ⟨#[b]⟩] w fun e w' => e = .returned (.int .i64 (Lib.countB s ⟨#[b]⟩)) ∧ w' = w := by
    refine (Any.strings_Count_one { L with } s b w).mono fun e w' ⟨he, hw⟩ => ⟨?_, hw⟩
    rw [he]
    show _ = Ending.returned (Value.int .i64 ((Lib.count s.data.toList [b] : Nat) : Int))
    rw [Lib.count_one]
    rfl
  have c := Any.strings_genSplit_core { L with } hi9 s ⟨#[b]⟩ 0 (-1) (Lib.countB s ⟨#[b]⟩ + 1) w hs h1 (Nat.zero_le _) hI hC (by decide) (by decide) (by rw [if_pos (by decide)]; omega)
  rw [Nat.add_sub_cancel, hlen] at c
  have e2 : Lib.cellsOf (Lib.splitB ⟨#[b]⟩ 0 (Lib.countB s ⟨#[b]⟩) s) (Lib.countB s ⟨#[b]⟩ + 1) = ((Lib.splitB ⟨#[b]⟩ 0 (Lib.countB s ⟨#[b]⟩) s).map Value.string).toArray := by rw [← hlen]; exact Lib.cellsOf_full _
  rw [e2] at c
  have t3 := L.t3; have t9 := L.t9; have t31 := L.t31
  have a3 := L.a3; have a9 := L.a9; have a31 := L.a31
  have z3 := L.z3; have v3 := L.v3; have z9 := L.z9; have v9 := L.v9; have z31 := L.z31; have v31 := L.v31
  have e221 : ∀ args w, (callFunc (ρ.f 221) args).run P w = .ok (.enter (ρ.f 221) args) w := enters_of L.f221 (by kernel_rfl) rfl
  clear hI hC hle hlen e2
  go_enter L.f146, Body.n146_ntmps ρ
  go_wp2_with (go_at_fn (ρ.f 221); refine c.mono ?_; rintro e w' ⟨rfl, hw⟩; rw [hw])
  go_ret
  exact ⟨rfl, rfl⟩
end Go.Proofs
namespace Go.Proofs.YtcmldnahohmieaaDoor
open Go.ChangeShapes Go.WideShapes Go.ChangeAt Go.RowKit
set_option linter.unusedVariables false
set_option linter.unusedSimpArgs false
def sp8 (c : UInt8) : List UInt8 → List (List UInt8)
  | [] => [[]]
  | x :: r => if x = c then [] :: sp8 c r else match sp8 c r with
    | [] => [[x]]
    | w :: ws => (x :: w) :: ws
theorem splitK_ne {b c : UInt8} (h : ¬ b = c) : ∀ (k : Nat) (l : List UInt8), Lib.splitK [c] 0 k (b :: l) = match Lib.splitK [c] 0 k l with
    | [] => [[b]]
    | w :: ws => (b :: w) :: ws
  | 0, l => rfl
  | k + 1, l => by
    have hb : (b == c) = false := beq_eq_false_iff_ne.2 h
    have e : Lib.index (b :: l) [c] = if Lib.index l [c] == -1 then -1 else Lib.index l [c] + 1 := by
      rw [Lib.index_one, Lib.index_one]
      show (if b == c then _ else _) = _
      rw [hb]; rfl
    have hge := Lib.index_ge l [c]
    show (if Lib.index (b :: l) [c] == -1 then _ else _) = match (if Lib.index l [c] == -1 then _ else _ : List (List UInt8)) with
      | [] => _
      | w :: ws => _
    rw [e]
    by_cases h0 : Lib.index l [c] = -1
    · rw [h0]; rfl
    · have h1 : (Lib.index l [c] == -1) = false := beq_eq_false_iff_ne.2 h0
      rw [h1]
      obtain ⟨i, hi⟩ : ∃ i : Nat, Lib.index l [c] = i := ⟨(Lib.index l [c]).toNat, by omega⟩
      rw [hi]
      have h2 : (((i : Nat) : Int) + 1 == -1) = false := beq_eq_false_iff_ne.2 (by omega)
      show (if ((i : Nat) : Int) + 1 == -1 then _ else _) = _
      rw [h2, show ((i : Nat) : Int) + 1 = ((i + 1 : Nat) : Int) by omega, Int.toNat_natCast]
      show List.take (i + 1 + 0) (b :: l) :: Lib.splitK [c] 0 k (List.drop (i + 1 + 1) (b :: l)) = (b :: List.take (((i : Nat) : Int).toNat + 0) l) :: Lib.splitK [c] 0 k (List.drop (((i : Nat) : Int).toNat + 1) l)
      rw [Int.toNat_natCast]; rfl
theorem splitK_sp8 (c : UInt8) : ∀ l : List UInt8, Lib.splitK [c] 0 (Lib.count l [c]) l = sp8 c l
  | [] => by
    cases Lib.count [] [c] with
    | zero => rfl
    | succ k => rfl
  | b :: l => by
    by_cases h : b = c
    · subst h
      rw [Lib.count_cons_eq, Nat.add_comm]
      have e : Lib.index (b :: l) [b] = 0 := by
        rw [Lib.index_one]
        show (if b == b then _ else _) = _
        rw [beq_self_eq_true]; rfl
      show (if Lib.index (b :: l) [b] == -1 then _ else _) = (if b = b then _ else _)
      rw [e, if_pos rfl]
      show [] :: Lib.splitK [b] 0 (Lib.count l [b]) l = [] :: sp8 b l
      rw [splitK_sp8 b l]
    · rw [Lib.count_cons_ne _ _ _ h, splitK_ne h, splitK_sp8 c l]
      show _ = (if b = c then _ else _)
      rw [if_neg h]
def b8 (l : List Int) : List UInt8 := l.map fun n => UInt8.ofNat n.toNat
theorem sp8_spC : ∀ {l : List Int}, Byt l → sp8 44 (b8 l) = (spC l).map b8
  | [], _ => rfl
  | x :: r, h => by
    have hx := h x (List.mem_cons_self ..)
    have ih := sp8_spC (l := r) (fun y hy => h y (List.mem_cons_of_mem _ hy))
    show (if UInt8.ofNat x.toNat = 44 then _ else _) = _
    by_cases e : x = 44
    · subst e
      rw [spC_c, if_pos (by decide)]
      show [] :: sp8 44 (b8 r) = [] :: (spC r).map b8
      rw [ih]
    · have hne : ¬ UInt8.ofNat x.toNat = 44 := fun e2 => e (ofNat_inj (b := 44) hx (by omega) e2)
      rw [if_neg hne]
      obtain ⟨w, ws, e1, e2⟩ := spC_x e r
      rw [e2]
      show (match sp8 44 (b8 r) with
        | [] => _
        | w :: ws => _) = _
      rw [ih, e1]; rfl
theorem splitB_spC {l : List Int} (hy : Byt l) : Lib.splitB ⟨#[44]⟩ 0 (Lib.countB (strOfNums l) ⟨#[44]⟩) (strOfNums l) = (spC l).map strOfNums := by
  have h := Lib.splitB_data ⟨#[44]⟩ 0 (Lib.countB (strOfNums l) ⟨#[44]⟩) (strOfNums l)
  have e : Lib.splitK (ByteArray.mk #[44]).data.toList 0 (Lib.countB (strOfNums l) ⟨#[44]⟩) (strOfNums l).data.toList = (spC l).map b8 := by
    rw [← sp8_spC hy, ← splitK_sp8]; rfl
  rw [e] at h
  have e2 : (spC l).map b8 = ((spC l).map strOfNums).map (·.data.toList) := by rw [List.map_map]; rfl
  rw [e2] at h
  exact (List.map_inj_right (fun x y hxy => ByteArray.ext (Array.ext' hxy))).1 h
theorem countB_spC {l : List Int} (hy : Byt l) : Lib.countB (strOfNums l) ⟨#[44]⟩ + 1 = (spC l).length := by
  rw [← Lib.splitB_all ⟨#[44]⟩ (Nat.le_refl 1) 0 _ (strOfNums l) rfl, splitB_spC hy, List.length_map]
theorem S_Split (l : List Int) (hy : Byt l) (hb : List.length l ≤ 4000000000) : Fun 49 [.c (.d (D.lit (.string (strOfNums l)))), .c (.d (D.lit (.string (ByteArray.mk #[44]))))] (toG []) 0 (.e (.c (.d (D.sl (stD (spC l)) (List.length (spC l)))))) (toG []) 0 := by
  intro cx args hn hh ha
  rw [args_lit (vs := [.string (strOfNums l), .string (ByteArray.mk #[44])]) ha]
  refine (Any.strings_Split_byte Tryd.lays146 (by kernel_rfl) (strOfNums l) 44 cx.W (by rw [strOfNums_size]; omega)).mono ?_
  rintro e w' ⟨rfl, rfl⟩
  rw [splitB_spC hy, countB_spC hy]
  obtain ⟨arr, harr⟩ : ∃ arr : List Value, ((spC l).map strOfNums).map Value.string = arr := ⟨_, rfl⟩
  rw [harr]
  have hsz : (cx.W.alloc (.cells arr.toArray (Tryd.lays146_ren.t 9))).heap.size = cx.W.heap.size + 1 := Array.size_push _
  have hnew : (cx.W.alloc (.cells arr.toArray (Tryd.lays146_ren.t 9))).heap[cx.W.heap.size]? = some (.cells arr.toArray (Tryd.lays146_ren.t 9) (0, 0)) := Array.getElem?_push_size
  have hold : ∀ k, k < cx.W.heap.size → (cx.W.alloc (.cells arr.toArray (Tryd.lays146_ren.t 9))).heap[k]? = cx.W.heap[k]? := fun k hk => by
    show (Array.push _ _)[k]? = _
    rw [Array.getElem?_push_lt hk]
    exact (Array.getElem?_eq_getElem hk).symm
  have hln := spC_len l
  refine ⟨_, ⟨cx.ρ0.f, fun k => cx.ρ0.z k ∨ k = cx.W.heap.size⟩, rfl, fun _ _ h => h, fun b _ => ?_, ⟨?_, ?_, ?_, ?_, ?_⟩, ⟨rfl, rfl, rfl, by omega, fun k hk _ => hold k hk⟩, ?_⟩
  · cases e : cx.ρ0 b with
    | none => rfl
    | some m => have := cx.hn0 b m e; omega
  · intro b T cs hb; cases hb
  · intro b b' m m' hb; exact absurd rfl hb
  · intro b m hb; exact absurd rfl hb
  · rintro k (hk | rfl)
    · exact hh.zm k hk
    · exact cx.mayNew _ (Nat.le_refl _)
  · rintro k (hk | rfl)
    · have := hh.zl k hk; omega
    · omega
  · refine RepC.d (.sl (stD (spC l)) arr cx.W.heap.size 0 _ _ ?_ ?_ ?_ (.inr (.inr rfl)) (by omega) (Nat.le_refl _) (by unfold maxLen; omega))
    · rw [stD_len, ← harr, List.length_map, List.length_map]
    · intro i u hu
      rw [Nat.zero_add]
      exact (cell_of_row _ _ i arr.toArray _ _ hnew).trans (by simpa using hu)
    · intro i d u hd hu
      unfold stD at hd
      rw [← harr, List.map_map, List.getElem?_map] at hu
      rw [List.getElem?_map] at hd
      obtain ⟨x, hx, rfl⟩ := Option.map_eq_some_iff.1 hu
      rw [hx] at hd
      cases hd
      exact .lit _ rfl

theorem all2_lits {p : Nat → Prop} {ρ : Rh} {w : World} {k : IntKind} : ∀ {l : List Int} {vs : List Value}, All2 (RepC p ρ w) (List.map C.d (dI k l)) vs → vs = l.map (Value.int k)
  | [], [], _ => rfl
  | x :: l, v :: vs, h => by
    have h1 : RepC p ρ w (.d (D.lit (.int k x))) v := h.1
    have e : v = .int k x := by
      cases h1 with
      | d h => cases h; rfl
    rw [e, all2_lits h.2]; rfl
  | [], _ :: _, h => by cases h
  | _ :: _, [], h => by cases h
theorem lits_all2 {p : Nat → Prop} {ρ : Rh} {w : World} {k : IntKind} : ∀ (l : List Int), All2 (RepC p ρ w) (List.map C.d (dI k l)) (l.map (Value.int k))
  | [] => trivial
  | x :: l => ⟨.d (.lit _ rfl), lits_all2 l⟩
theorem putCells_list {k : IntKind} (l m : List Int) (rest : List Value) (h : m.length = l.length) : Sort.putCells (Value.int k) 0 m.toArray (l.map (Value.int k) ++ rest).toArray = (m.map (Value.int k) ++ rest).toArray := by
  apply Array.ext_getElem?
  intro i
  unfold Sort.putCells
  rw [Array.getElem?_mapIdx]
  simp only [List.getElem?_toArray, List.size_toArray, Nat.zero_le, true_and, Nat.zero_add, Nat.sub_zero]
  by_cases hi : i < m.length
  · rw [List.getElem?_append_left (by rw [List.length_map]; omega), List.getElem?_append_left (by rw [List.length_map]; omega), List.getElem?_map, List.getElem?_map, List.getElem?_eq_getElem (by omega), List.getElem?_eq_getElem hi]
    simp only [Option.map_some, if_pos hi]
    congr 2
    simp [hi]
  · rw [List.getElem?_append_right (by rw [List.length_map]; omega), List.getElem?_append_right (by rw [List.length_map]; omega), List.length_map, List.length_map, h]
    cases rest[i - l.length]? with
    | none => rfl
    | some v => simp only [Option.map_some]; rw [if_neg (by omega)]
/-- a function that puts another list into a row, and makes blocks of its own -/
theorem Fun.ofRow {f : FuncId} {T : TypeId} {k : IntKind} {l m : List Int} {n : Nat} (hn : l.length = n) (h1 : 1 ≤ n) (hm : m.length = l.length)
    (h : ∀ (blk cap : Nat) (w : World), Sort.Holds (Value.int k) w blk 0 l.toArray → blk < w.heap.size → Calls Tryd.prog f #[.slice (some ⟨blk, 0, none⟩) l.length cap] w fun e w' => e = .returned (.tuple #[]) ∧ ∃ j os, w' = Sort.grow (Sort.putRow (Value.int k) (Sort.ahead w j) blk 0 m.toArray) os) :
    Fun f [.c (.own 0 0 n 1 true)] (toG [(0, some (T, .ds (dI k l)))]) 1 (.tup []) (toG [(0, some (T, .ds (dI k m)))]) 1 := by
  subst hn
  intro cx args hn hh ha
  obtain ⟨mm, hr, hrow⟩ := hh.row 0 T (List.map C.d (dI k l)) rfl
  rcases hrow with ⟨_, hnil⟩ | ⟨hnl, ⟨vs, rest, hblk, hlen, hall⟩, hmay⟩
  · exfalso
    have := congrArg List.length hnil
    rw [List.length_map, dI_len, List.length_nil] at this
    omega
  obtain rfl := all2_lits hall
  obtain ⟨cap, rfl⟩ : ∃ cap, args = [.slice (some ⟨mm.g, 0, none⟩) l.length cap] := by
    match args, ha with
    | [v], hv =>
      have hv : RepC cx.p cx.ρ0 cx.W (.own 0 0 l.length 1 true) v := hv.1
      generalize hq : l.length = q at hv h1
      cases hv with
      | own b off len s wh m2 cap hm2 hn2 h3 h4 h5 =>
        rw [hr] at hm2; cases hm2
        exact ⟨cap, rfl⟩
      | ownn => exact absurd h1 (by decide)
  have hlt : mm.g < cx.W.heap.size := hblk.lt
  have hz : ¬ cx.ρ0.z mm.g := hh.zf 0 mm (by show S _ 0 ≠ none; intro e; cases e) hr hnl
  refine (h mm.g cap cx.W (fun j hj => ?_) hlt).mono ?_
  · have hj : j < l.length := hj
    rw [Nat.zero_add]
    obtain ⟨fz, hb, hf⟩ := hblk
    refine ⟨?_, hf.free hb (by rw [List.length_append, List.length_map]; omega)⟩
    refine (cell_of_row _ _ _ _ _ _ hb).trans ?_
    simp [List.getElem?_append, hj]
  rintro e w' ⟨rfl, j, os, rfl⟩
  obtain ⟨fz, hb, hf⟩ := hblk
  have hnew : (Sort.grow (Sort.putRow (Value.int k) (Sort.ahead cx.W j) mm.g 0 m.toArray) os).heap[mm.g]? = some (.cells (m.map (Value.int k) ++ rest).toArray T fz) := by
    rw [Sort.heap_grow_old _ _ (by rw [Sort.size_putRow]; exact hlt)]
    show (Array.modify _ _ _)[_]? = _
    rw [Array.getElem?_modify, if_pos rfl]
    show (cx.W.heap[mm.g]?).map _ = _
    rw [hb, Option.map_some]
    show some (Obj.cells (Sort.putCells _ _ _ _) T fz) = _
    rw [putCells_list l m rest hm]
  have hold : ∀ q, q < cx.W.heap.size → q ≠ mm.g → (Sort.grow (Sort.putRow (Value.int k) (Sort.ahead cx.W j) mm.g 0 m.toArray) os).heap[q]? = cx.W.heap[q]? := fun q hq hne => by
    rw [Sort.heap_grow_old _ _ (by rw [Sort.size_putRow]; exact hq)]
    show (Array.modify _ _ _)[_]? = _
    rw [Array.getElem?_modify, if_neg (fun e => hne e.symm)]; rfl
  have hsz : cx.W.heap.size ≤ (Sort.grow (Sort.putRow (Value.int k) (Sort.ahead cx.W j) mm.g 0 m.toArray) os).heap.size := by
    rw [Sort.size_grow, Sort.size_putRow]; show _ ≤ cx.W.heap.size + _; omega
  have hos : (Sort.grow (Sort.putRow (Value.int k) (Sort.ahead cx.W j) mm.g 0 m.toArray) os).os = cx.W.os := rfl
  have htape : (Sort.grow (Sort.putRow (Value.int k) (Sort.ahead cx.W j) mm.g 0 m.toArray) os).tape = cx.W.tape := rfl
  have hout : (Sort.grow (Sort.putRow (Value.int k) (Sort.ahead cx.W j) mm.g 0 m.toArray) os).output = cx.W.output := rfl
  generalize Sort.grow (Sort.putRow (Value.int k) (Sort.ahead cx.W j) mm.g 0 m.toArray) os = w' at *
  have hpz : ∀ q, pz cx.p cx.ρ0 q → q ≠ mm.g := fun q hq e => by
    subst e
    rcases hq with hq | hq
    · exact cx.pm _ hq hmay
    · exact hz hq
  refine ⟨_, cx.ρ0, rfl, fun _ _ h => h, fun b hb1 => ?_, ?_, ⟨hos, htape, hout, hsz, fun q hq hnm => hold q hq (fun e => hnm (e ▸ hmay))⟩, ⟨[], rfl, trivial⟩⟩
  · cases e : cx.ρ0 b with
    | none => rfl
    | some q => have := cx.hn0 b q e; omega
  · refine hh.step ⟨fun _ _ h => h, fun _ h => h, hsz, fun q hq hlt => hold q hlt (hpz q hq)⟩ (fun b T' cs hb9 => .inr ?_)
    match b, hb9 with
    | 0, hb9 =>
      have hb9 : some (T, List.map C.d (dI k m)) = some (T', cs) := hb9
      cases hb9
      refine ⟨mm, hr, .inr ⟨hnl, ⟨m.map (Value.int k), rest, ⟨fz, hnew, ?_⟩, ?_, lits_all2 m⟩, hmay, hz, fun b' m' hne hb' => ?_⟩⟩
      · rw [List.length_append, List.length_map, hm]; rw [List.length_append, List.length_map] at hf; exact hf
      · rw [List.length_append, List.length_map, hm]; rw [List.length_append, List.length_map] at hlen; exact hlen
      · match b', hne, hb' with
        | 0, hne, _ => exact absurd rfl hne
        | b' + 1, _, hb' => exact absurd rfl hb'
    | b + 1, hb9 =>
      have hb9 : (none : Option Bk) = some (T', cs) := hb9
      cases hb9
theorem S_Sort1 (l : List Int) (n : Nat) (hn : List.length l = n) (h1 : 1 ≤ n) (h2 : n ≤ 1000000) : Fun 54 [.c (.own 0 0 n 1 true)] (toG [(0, some (3, .ds (dI .i64 l)))]) 1 (.tup []) (toG [(0, some (3, .ds (dI .i64 (stL l))))]) 1 :=
  Fun.ofRow hn h1 (stL_len l) fun blk cap w hH hlt => Tryd.slices_Sort_int blk 0 cap l w hH hlt (by omega)
end Go.Proofs.YtcmldnahohmieaaDoor
