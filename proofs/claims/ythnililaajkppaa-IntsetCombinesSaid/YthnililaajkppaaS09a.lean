/- A library's function that orders a row in place, told by names. No statement is proved here. -/
import Derived.Test.YthnililaajkppaaLBy
import Derived.Sort.Grow
namespace Go.Proofs.Ythnililaajkppaa
open Go.ChangeShapes Go.WideShapes Go.ChangeAt Go.RowKit
set_option linter.unusedVariables false
set_option linter.unusedSimpArgs false
theorem all2_lits {p : Nat → Prop} {ρ : Rh} {w : World} {k : IntKind} : ∀ {l : List Int} {vs : List Value}, All2 (RepC p ρ w) (List.map C.d (dI k l)) vs → vs = l.map (Value.int k)
  | [], [], _ => rfl
  | x :: l, v :: vs, h => by
    have h1 : RepC p ρ w (.d (D.lit (.int k x))) v := h.1
    have e : v = .int k x := by
      cases h1 with
      | d h => cases h; rfl
    rw [e, all2_lits h.2]; rfl
  | [], _ :: _, h => by cases h
  | _ :: _, [], h => by cases h
theorem lits_all2 {p : Nat → Prop} {ρ : Rh} {w : World} {k : IntKind} : ∀ (l : List Int), All2 (RepC p ρ w) (List.map C.d (dI k l)) (l.map (Value.int k))
  | [] => trivial
  | x :: l => ⟨.d (.lit _ rfl), lits_all2 l⟩
theorem putCells_vals (l m rest : List Value) (h : m.length = l.length) : Sort.putCells id 0 m.toArray (l ++ rest).toArray = (m ++ rest).toArray := by
  apply Array.ext_getElem?
  intro i
  unfold Sort.putCells
  rw [Array.getElem?_mapIdx]
  simp only [List.getElem?_toArray, List.size_toArray, Nat.zero_le, true_and, Nat.zero_add, Nat.sub_zero]
  by_cases hi : i < m.length
  · rw [List.getElem?_append_left (by omega), List.getElem?_append_left (by omega), List.getElem?_eq_getElem (by omega), List.getElem?_eq_getElem hi]
    simp only [Option.map_some, if_pos hi]
    congr 1
    simp [hi]
  · rw [List.getElem?_append_right (by omega), List.getElem?_append_right (by omega), h]
    cases rest[i - l.length]? with
    | none => rfl
    | some v => simp only [Option.map_some]; rw [if_neg (by omega)]
/-- a function that puts another list into a row, and makes blocks of its own -/
theorem Fun.ofRowF {f g : FuncId} {T : TypeId} {k : IntKind} {l m : List Int} {n s : Nat} (hn : l.length = n * s) (h1 : 1 ≤ n) (hs : 1 ≤ s) (hm : m.length = l.length)
    (h : ∀ (blk cap : Nat) (w : World), Sort.Holds id w blk 0 (l.map (Value.int k)).toArray → blk < w.heap.size → Calls Try.prog f #[.slice (some ⟨blk, 0, none⟩) n cap, .func (.func g) #[] #[]] w fun e w' => e = .returned (.tuple #[]) ∧ ∃ j os, w' = Sort.grow (Sort.putRow id (Sort.ahead w j) blk 0 (m.map (Value.int k)).toArray) os) :
    Fun f [.c (.own 0 0 n s true), .c (.fn g [])] (toG [(0, some (T, .ds (dI k l)))]) 1 (.tup []) (toG [(0, some (T, .ds (dI k m)))]) 1 := by
  intro cx args hnx hh ha
  have hpos : 1 ≤ l.length := by rw [hn]; exact Nat.mul_le_mul h1 hs
  obtain ⟨mm, hr, hrow⟩ := hh.row 0 T (List.map C.d (dI k l)) rfl
  rcases hrow with ⟨_, hnil⟩ | ⟨hnl, ⟨vs, rest, hblk, hlen, hall⟩, hmay⟩
  · exfalso
    have := congrArg List.length hnil
    rw [List.length_map, dI_len, List.length_nil] at this
    omega
  obtain rfl := all2_lits hall
  obtain ⟨cap, rfl⟩ : ∃ cap, args = [.slice (some ⟨mm.g, 0, none⟩) n cap, .func (.func g) #[] #[]] := by
    match args, ha with
    | [v, u], hvu =>
      have hu : RepC cx.p cx.ρ0 cx.W (.fn g []) u := hvu.2.1
      have hv : RepC cx.p cx.ρ0 cx.W (.own 0 0 n s true) v := hvu.1
      clear hvu ha
      have hu2 : u = .func (.func g) #[] #[] := by
        cases hu with
        | fn f qs us hq =>
          match us, hq with
          | [], _ => rfl
      subst hu2
      clear hall hblk hlen
      generalize hq : n = q at hv h1
      cases hv with
      | own b off len s2 wh m2 cap hm2 hn2 h3 h4 h5 =>
        rw [hr] at hm2; cases hm2
        exact ⟨cap, rfl⟩
      | ownn => exact absurd h1 (by decide)
  have hlt : mm.g < cx.W.heap.size := hblk.lt
  have hz : ¬ cx.ρ0.z mm.g := hh.zf 0 mm (by show S _ 0 ≠ none; intro e; cases e) hr hnl
  refine (h mm.g cap cx.W (fun j hj => ?_) hlt).mono ?_
  · have hj : j < l.length := by simpa using hj
    rw [Nat.zero_add]
    obtain ⟨fz, hb, hf⟩ := hblk
    refine ⟨?_, hf.free hb (by rw [List.length_append, List.length_map]; omega)⟩
    refine (cell_of_row _ _ _ _ _ _ hb).trans ?_
    simp [List.getElem?_append, hj]
  rintro e w' ⟨rfl, j, os, rfl⟩
  obtain ⟨fz, hb, hf⟩ := hblk
  have hnew : (Sort.grow (Sort.putRow id (Sort.ahead cx.W j) mm.g 0 (m.map (Value.int k)).toArray) os).heap[mm.g]? = some (.cells (m.map (Value.int k) ++ rest).toArray T fz) := by
    rw [Sort.heap_grow_old _ _ (by rw [Sort.size_putRow]; exact hlt)]
    show (Array.modify _ _ _)[_]? = _
    rw [Array.getElem?_modify, if_pos rfl]
    show (cx.W.heap[mm.g]?).map _ = _
    rw [hb, Option.map_some]
    show some (Obj.cells (Sort.putCells _ _ _ _) T fz) = _
    rw [putCells_vals (l.map (Value.int k)) (m.map (Value.int k)) rest (by rw [List.length_map, List.length_map, hm])]
  have hold : ∀ q, q < cx.W.heap.size → q ≠ mm.g → (Sort.grow (Sort.putRow id (Sort.ahead cx.W j) mm.g 0 (m.map (Value.int k)).toArray) os).heap[q]? = cx.W.heap[q]? := fun q hq hne => by
    rw [Sort.heap_grow_old _ _ (by rw [Sort.size_putRow]; exact hq)]
    show (Array.modify _ _ _)[_]? = _
    rw [Array.getElem?_modify, if_neg (fun e => hne e.symm)]; rfl
  have hsz : cx.W.heap.size ≤ (Sort.grow (Sort.putRow id (Sort.ahead cx.W j) mm.g 0 (m.map (Value.int k)).toArray) os).heap.size := by
    rw [Sort.size_grow, Sort.size_putRow]; show _ ≤ cx.W.heap.size + _; omega
  have hos : (Sort.grow (Sort.putRow id (Sort.ahead cx.W j) mm.g 0 (m.map (Value.int k)).toArray) os).os = cx.W.os := rfl
  have htape : (Sort.grow (Sort.putRow id (Sort.ahead cx.W j) mm.g 0 (m.map (Value.int k)).toArray) os).tape = cx.W.tape := rfl
  have hout : (Sort.grow (Sort.putRow id (Sort.ahead cx.W j) mm.g 0 (m.map (Value.int k)).toArray) os).output = cx.W.output := rfl
  generalize Sort.grow (Sort.putRow id (Sort.ahead cx.W j) mm.g 0 (m.map (Value.int k)).toArray) os = w' at *
  have hpz : ∀ q, pz cx.p cx.ρ0 q → q ≠ mm.g := fun q hq e => by
    subst e
    rcases hq with hq | hq
    · exact cx.pm _ hq hmay
    · exact hz hq
  refine ⟨_, cx.ρ0, rfl, fun _ _ h => h, fun b hb1 => ?_, ?_, ⟨hos, htape, hout, hsz, fun q hq hnm => hold q hq (fun e => hnm (e ▸ hmay))⟩, ⟨[], rfl, trivial⟩⟩
  · cases e : cx.ρ0 b with
    | none => rfl
    | some q => have := cx.hn0 b q e; omega
  · refine hh.step ⟨fun _ _ h => h, fun _ h => h, hsz, fun q hq hlt => hold q hlt (hpz q hq)⟩ (fun b T' cs hb9 => .inr ?_)
    match b, hb9 with
    | 0, hb9 =>
      have hb9 : some (T, List.map C.d (dI k m)) = some (T', cs) := hb9
      cases hb9
      refine ⟨mm, hr, .inr ⟨hnl, ⟨m.map (Value.int k), rest, ⟨fz, hnew, ?_⟩, ?_, lits_all2 m⟩, hmay, hz, fun b' m' hne hb' => ?_⟩⟩
      · rw [List.length_append, List.length_map, hm]; rw [List.length_append, List.length_map] at hf; exact hf
      · rw [List.length_append, List.length_map, hm]; rw [List.length_append, List.length_map] at hlen; exact hlen
      · match b', hne, hb' with
        | 0, hne, _ => exact absurd rfl hne
        | b' + 1, _, hb' => exact absurd rfl hb'
    | b + 1, hb9 =>
      have hb9 : (none : Option Bk) = some (T', cs) := hb9
      cases hb9
end Go.Proofs.Ythnililaajkppaa
