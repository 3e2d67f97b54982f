/- A clock's stretches: the iterator and its two callers. No statement is proved here. -/
import Derived.Test.YteggelophhpnfaaL13
import Derived.RangeFuncNested
import Derived.RangeFuncBound
import Derived.RangeFuncCalls
import Derived.RangeFuncLeaves
import Derived.Shelf.Abstract
import Derived.Shelf.RegionOpen
import Derived.WalkKit
import Derived.OwnWalkIn
import Derived.TacticsInMore
import Derived.LoopNIn
import Derived.LoopIn
import Derived.Sort.CutIn
namespace Go.Proofs.Yteggelophhpnfaa
open Go.ChangeShapes Go.WideShapes Go.ChangeAt Go.RowKit Go.Shelf
set_option linter.unusedVariables false
set_option linter.unusedSimpArgs false
attribute [local go_sem] Oper.semAt_some

/-! what is said -/
def toV (l : List Int) (n : Nat) (t : Int) (i : Nat) : Int := if i + 1 < n then min t (l.getD ((i + 1) * 3) 0) else t
def flV (l : List Int) (n : Nat) (t : Int) (i : Nat) : Int :=
  vR (toV l n t i - l.getD (i * 3) 0) (l.getD (i * 3 + 1) 0) (l.getD (i * 3 + 2) 0) ((toV l n t i - l.getD (i * 3) 0) * l.getD (i * 3 + 1) 0 / l.getD (i * 3 + 2) 0) ((toV l n t i - l.getD (i * 3) 0) * l.getD (i * 3 + 1) 0 / l.getD (i * 3 + 2) 0)
def psV (l : List Int) (n : Nat) (t : Int) : Nat → Int
  | 0 => 0
  | k + 1 => wrap64 (psV l n t k + flV l n t k)
def encV (l : List Int) (n : Nat) (t : Int) (i : Nat) : Value := .agg #[.int .i64 (l.getD (i * 3) 0), .int .i64 (l.getD (i * 3 + 1) 0), .int .i64 (l.getD (i * 3 + 2) 0), .int .i64 (toV l n t i), .int .i64 (psV l n t i), .int .i64 (psV l n t (i + 1))]
/-- whatever was asked for lies as it lay -/
def KpS (q : Nat → Prop) (A B : World) : Prop := A.heap.size ≤ B.heap.size ∧ ∀ k, q k → k < A.heap.size → B.heap[k]? = A.heap[k]?
theorem KpS.trans {q : Nat → Prop} {A B C : World} (h : KpS q A B) (k : KpS q B C) : KpS q A C := ⟨Nat.le_trans h.1 k.1, fun i hi hl => (k.2 i hi (Nat.lt_of_lt_of_le hl h.1)).trans (h.2 i hi hl)⟩
theorem KpS.cell {q : Nat → Prop} {A B : World} (h : KpS q A B) {p : Addr} {v : Value} (hq : q p.block) (hc : A.cell? p = some v) : B.cell? p = some v := by
  obtain ⟨o, ho, _⟩ := cells_of_cell hc
  exact (World.cell?_of_block (h.2 _ hq (Array.getElem?_eq_some_iff.1 ho).1)).trans hc
theorem KpS.of_below {q : Nat → Prop} {A B : World} (h : Below A.heap.size A B) : KpS q A B := ⟨h.size, fun k _ hl => h.block k hl⟩

theorem cell_al {w : World} {p : Addr} {v : Value} (o : Obj) (h : w.cell? p = some v) : (w.alloc o).cell? p = some v := by
  obtain ⟨o', ho, _⟩ := cells_of_cell h
  exact (World.cell?_of_block (Below.heap_alloc w o _ (Array.getElem?_eq_some_iff.1 ho).1)).trans h
theorem bel_cell {A B : World} (h : Below A.heap.size A B) {p : Addr} {v : Value} (hc : A.cell? p = some v) : B.cell? p = some v := by
  obtain ⟨o, ho, _⟩ := cells_of_cell hc
  exact (h.cell (Array.getElem?_eq_some_iff.1 ho).1).trans hc
theorem cell_nw {w : World} {vs : List Value} {T : TypeId} {v : Value} (i : Nat) (h : vs[i]? = some v) : (w.alloc (.cells vs.toArray T)).cell? ⟨w.heap.size, i, none⟩ = some v :=
  (cell_of_row _ _ i vs.toArray T (0, 0) (World.alloc_heap_new w _)).trans (by simpa using h)
theorem wr64 {x : Int} (h : -9223372036854775808 ≤ x ∧ x ≤ 9223372036854775807) : wrap64 x = x := by unfold wrap64; omega
/-- a call of plain values -/
theorem Fun.calls {f : Nat} {xs : List E1} {y : PV} (h : Fun f xs [] 0 y [] 0) {w : World} {args : List Value} (ha : All2 (RepE (fun k => k < w.heap.size) Rh.no w) xs args) (hgl : GlOK (fun k => k < w.heap.size) w := by intro q hq; cases hq) :
    Calls Try.prog f args.toArray w fun e w' => (∃ v ρ' p, e = .returned v ∧ RepPV p ρ' w' y v) ∧ Below w.heap.size w w' := by
  have h0 : HRep ⟨fun k => k < w.heap.size, w, fun k => w.heap.size ≤ k, fun k h => by omega, fun k h => h, fun k h => h, Rh.no, 0, (fun b m h => by cases h), hgl⟩ Rh.no w (S []) :=
    ⟨fun b T cs hb => (by cases hb), fun b b' m m' hb => absurd rfl hb, fun b m hb => absurd rfl hb, fun k h => False.elim h, fun k h => False.elim h⟩
  refine (h ⟨fun k => k < w.heap.size, w, fun k => w.heap.size ≤ k, fun k h => by omega, fun k h => h, fun k h => h, Rh.no, 0, (fun b m h => by cases h), hgl⟩ args rfl h0 ha).mono ?_
  rintro e w' ⟨v, ρ', rfl, _, _, _, hk, hv⟩
  exact ⟨⟨v, ρ', _, rfl, hv⟩, ⟨hk.os, hk.tape, hk.output, hk.size, fun k hlt => hk.block k hlt (by show ¬ w.heap.size ≤ k; omega)⟩⟩
theorem rep_tup2 {p : Nat → Prop} {ρ : Rh} {w : World} {a b v : Value} (h : RepPV p ρ w (.tup [.c (.d (.lit a)), .c (.d (.lit b))]) v) : v = .tuple #[a, b] := by
  obtain ⟨us, rfl, hu⟩ := h
  match us, hu with
  | [x, y], ⟨hx, hy, _⟩ =>
    have e1 := rep_lit (show RepPV p ρ w (LV a) x from hx)
    have e2 := rep_lit (show RepPV p ρ w (LV b) y from hy)
    subst e1; subst e2; rfl
theorem floor_calls (n N W : Int) (w : World) : Calls Try.prog 51 #[.int .i64 n, .agg #[.int .i64 N, .int .i64 W]] w fun e w' => e = .returned (.tuple #[.int .i64 (vR n N W ((n * N) / W) ((n * N) / W)), .int .i64 (eR n N W ((n * N) / W))]) ∧ Below w.heap.size w w' := by
  refine (Fun.calls (F_Floor_p n N W) (args := [.int .i64 n, .agg #[.int .i64 N, .int .i64 W]]) ⟨.d (.lit _ rfl), ⟨[_, _], rfl, .d (.lit _ rfl), .d (.lit _ rfl), trivial⟩, trivial⟩).mono ?_
  rintro e w' ⟨⟨v, ρ', p, rfl, hv⟩, hb⟩
  exact ⟨by rw [rep_tup2 hv], hb⟩

set_option maxRecDepth 100000 in
set_option maxHeartbeats 4000000 in
theorem it_in (n : Nat) (hn : 1 ≤ n) (ly Bc Bt b off nn cap : Nat) (l : List Int) (t : Int) (q : Nat → Prop) (J Jx : List Nat → World → Prop) (W : World)
    (hJ : ∀ pre A B, J pre A → Below A.heap.size A B → J pre B)
    (hY : ∀ pre x W, J pre W → pre.length < nn → YieldAt Fence.wide (n - 1) Try.prog ly #[encV l nn t x] W fun e W' =>
      (e = .returned (.bool true) ∧ J (pre ++ [x]) W' ∧ KpS q W W') ∨ (e = .returned (.bool false) ∧ Jx (pre ++ [x]) W'))
    (q1 : q Bc) (q2 : q Bt) (q3 : q b) (hnn : nn ≤ cap) (hcap : cap ≤ maxLen) (hnn1 : 1 ≤ nn) (hnn2 : nn ≤ 64) (hlen : l.length = nn * 3)
    (hrg : ∀ i, i < nn → 0 ≤ l.getD (i * 3) 0 ∧ l.getD (i * 3) 0 ≤ 1099511627776) (ht0 : 0 ≤ t ∧ t ≤ 1099511627776)
    (hBc : W.cell? ⟨Bc, 0, none⟩ = some (.slice (some ⟨b, off, none⟩) nn cap)) (hBt : W.cell? ⟨Bt, 0, none⟩ = some (.int .i64 t))
    (hb : ∀ i, i < nn * 3 → W.cell? ⟨b, off + i, none⟩ = some (.int .i64 (l.getD i 0))) (h0 : J [] W) :
    CallsIn Fence.wide n Try.prog 50 #[.func (.yield ly) #[] #[], .pointer (some ⟨Bc, 0, none⟩), .pointer (some ⟨Bt, 0, none⟩)] W fun e W' => (∃ v, e = .returned v) ∧
      ((∃ xs, (∃ k, xs = List.range k ∧ k ≤ nn ∧ (∀ i, i < k → l.getD (i * 3) 0 ≤ t) ∧ (k = nn ∨ t < l.getD (k * 3) 0)) ∧ J xs W') ∨
       (∃ pre, (∃ k, pre = List.range (k + 1) ∧ k < nn ∧ (∀ i, i < k + 1 → l.getD (i * 3) 0 ≤ t)) ∧ Jx pre W')) := by
  refine callsIn_of_wp Try.func50 rfl trivial ?_ rfl
  simp only [Try.ntmps50, List.size_toArray, List.length_cons, List.length_nil, Nat.reduceAdd, Nat.reduceSub, Array.replicate_succ, Array.replicate_zero, List.push_toArray, List.append_toArray, List.nil_append, List.cons_append]
  gi_wp2
  gi_loopw [4, 13] (fun p i wr => ∃ k : Nat, i = .int .i64 (k : Int) ∧ p = .int .i64 (psV l nn t k) ∧ k ≤ nn ∧ (∀ i, i < k → l.getD (i * 3) 0 ≤ t) ∧
     wr.cell? ⟨Bc, 0, none⟩ = some (.slice (some ⟨b, off, none⟩) nn cap) ∧ wr.cell? ⟨Bt, 0, none⟩ = some (.int .i64 t) ∧
     (∀ i, i < nn * 3 → wr.cell? ⟨b, off + i, none⟩ = some (.int .i64 (l.getD i 0))) ∧ J (List.range k) wr)
    (fun p i wr => nn - (intOf i).toNat)
  case atStart =>
    exact ⟨0, rfl, rfl, by omega, by intro i hi; omega, hBc, hBt, hb, h0⟩
  case round =>
    obtain ⟨k, rfl, rfl, hk, hle, hc1, hc2, hc3, hJs⟩ := hrel
    by_cases hkn : k < nn
    · have hx0 := hc3 (k * 3) (by omega)
      have hx1 := hc3 (k * 3 + 1) (by omega)
      have hx2 := hc3 (k * 3 + 2) (by omega)
      have hk1 : (k : Int) < (nn : Int) := by omega
      have hr0 := hrg k hkn
      obtain ⟨A, hA⟩ : ∃ A, l.getD (k * 3) 0 = A := ⟨_, rfl⟩
      obtain ⟨N, hN⟩ : ∃ A, l.getD (k * 3 + 1) 0 = A := ⟨_, rfl⟩
      obtain ⟨D, hD⟩ : ∃ A, l.getD (k * 3 + 2) 0 = A := ⟨_, rfl⟩
      rw [hA] at hx0 hr0; rw [hN] at hx1; rw [hD] at hx2
      rw [show off + (k * 3 + 1) = off + k * 3 + 1 by omega] at hx1
      rw [show off + (k * 3 + 2) = off + k * 3 + 2 by omega] at hx2
      have hc30 := hid hc3; have hrg0 := hid hrg; have hJ0 := hid hJ
      replace hle := hid hle; have hY0 := hid hY; replace hb := hid hb; clear hBc hBt hY hc3 hrg hJ
      gi_upto_region 4 with (fail)
      have hbl : Below wr.heap.size wr (wr.alloc (.cells #[.int .i64 A, .int .i64 N, .int .i64 D] 60)) := (Below.refl _ wr).alloc (Nat.le_refl _) _
      have hn0 := cell_nw (w := wr) (vs := [.int .i64 A, .int .i64 N, .int .i64 D]) (T := 60) 0 rfl
      have hn1 := cell_nw (w := wr) (vs := [.int .i64 A, .int .i64 N, .int .i64 D]) (T := 60) 1 rfl
      have hn2 := cell_nw (w := wr) (vs := [.int .i64 A, .int .i64 N, .int .i64 D]) (T := 60) 2 rfl
      obtain ⟨w3, hw3⟩ : ∃ w3, wr.alloc (.cells #[.int .i64 A, .int .i64 N, .int .i64 D] 60) = w3 := ⟨_, rfl⟩
      obtain ⟨B6, hB6⟩ : ∃ B6, wr.heap.size = B6 := ⟨_, rfl⟩
      simp only [hw3, hB6] at hbl hn0 hn1 hn2 ⊢
      have hd1 : w3.cell? ⟨Bc, 0, none⟩ = some (.slice (some ⟨b, off, none⟩) nn cap) := by rw [← hB6] at hbl; exact bel_cell hbl hc1
      have hd2 : w3.cell? ⟨Bt, 0, none⟩ = some (.int .i64 t) := by rw [← hB6] at hbl; exact bel_cell hbl hc2
      have hc5 : ∀ i, i < nn * 3 → w3.cell? ⟨b, off + i, none⟩ = some (.int .i64 (l.getD i 0)) := by rw [← hB6] at hbl; exact fun i hi => bel_cell hbl (hc30.out i hi)
      have hJ1 : J (List.range k) w3 := by rw [← hB6] at hbl; exact hJ0.out _ _ _ hJs hbl
      clear hbl hw3 hc30 hc1 hc2 hJs hx0 hx1 hx2
      by_cases ht : t < A
      · replace hc5 := hid hc5; replace hA := hid hA; replace hJ1 := hid hJ1; clear hn1 hn2
        gi_wp2
        refine bodyPost_ret (results_none rfl _ _ _) rfl ?_
        exact ⟨⟨_, rfl⟩, .inl ⟨_, ⟨k, rfl, hk, hle.out, .inr (by rw [hA.out]; exact ht)⟩, hJ1.out⟩⟩
      · have ht' : A ≤ t := by omega
        by_cases hk2 : k + 1 < nn
        · have hx3 := hc5 ((k + 1) * 3) (by omega)
          have hr1 := hrg0.out (k + 1) hk2
          obtain ⟨A', hA'⟩ : ∃ A, l.getD ((k + 1) * 3) 0 = A := ⟨_, rfl⟩
          rw [hA'] at hx3 hr1
          have hk3 : (k : Int) + 1 < (nn : Int) := by omega
          by_cases hm : t ≤ A'
          · have hTo : toV l nn t k = t := by unfold toV; rw [if_pos hk2, hA', Int.min_eq_left hm]
            have hz2 : -9223372036854775808 ≤ t - A ∧ t - A ≤ 9223372036854775807 := by omega
            have hwr : wrap64 (t - A) = t - A := wr64 hz2
            obtain ⟨P, hP⟩ : ∃ P, psV l nn t k = P := ⟨_, rfl⟩
            obtain ⟨G, hG⟩ : ∃ G, flV l nn t k = G := ⟨_, rfl⟩
            obtain ⟨E, hE⟩ : ∃ E, eR (t - A) N D ((t - A) * N / D) = E := ⟨_, rfl⟩
            have hfl : ∀ w : World, Calls Try.prog 51 #[.int .i64 (t - A), .agg #[.int .i64 N, .int .i64 D]] w fun e w' => e = .returned (.tuple #[.int .i64 G, .int .i64 E]) ∧ Below w.heap.size w w' := by
              intro w
              have h := floor_calls (t - A) N D w
              rw [hE] at h
              rw [show G = vR (t - A) N D ((t - A) * N / D) ((t - A) * N / D) by rw [← hG]; unfold flV; rw [hTo, hA, hN, hD]]
              exact h
            have henc : encV l nn t k = .agg #[.int .i64 A, .int .i64 N, .int .i64 D, .int .i64 t, .int .i64 P, .int .i64 (wrap64 (P + G))] := by
              unfold encV; rw [hTo, hA, hN, hD, hP, show psV l nn t (k + 1) = wrap64 (P + G) by show wrap64 (psV l nn t k + flV l nn t k) = _; rw [hP, hG]]
            rw [hP]
            replace hP := hid hP; replace hG := hid hG; replace hE := hid hE; replace hA := hid hA; replace hN := hid hN; replace hD := hid hD; replace hTo := hid hTo; replace henc := hid henc
            replace hc5 := hid hc5; replace hfl := hid hfl; replace hJ1 := hid hJ1; clear hz2
            gi_upto_region 8 with (fail)
            gi_wp2
            refine ⟨trivial, ?_⟩
            gi_at_call 51
            refine (callsIn_wide.2 (hfl.out _)).mono ?_
            rintro e w1 ⟨rfl, hb1⟩
            replace hd1 := bel_cell hb1 hd1
            replace hd2 := bel_cell hb1 hd2
            replace hn0 := bel_cell hb1 hn0
            replace hn1 := bel_cell hb1 hn1
            replace hn2 := bel_cell hb1 hn2
            have hJ2 := hJ0.out _ _ _ hJ1.out hb1
            have hc6 : Hid (∀ i, i < nn * 3 → w1.cell? ⟨b, off + i, none⟩ = some (.int .i64 (l.getD i 0))) := hid (fun i hi => bel_cell hb1 (hc5.out i hi))
            obtain ⟨fn9, tm9, as9, bo9, hy, hR⟩ := hY0.out _ k w1 hJ2 (by rw [List.length_range]; exact hkn)
            rw [henc.out] at hy
            clear hb1 hc5 hJ1
            gi_upto_region 9 with (fail)
            gi_wp2
            refine hR.mono ?_
            rintro e W3 (⟨rfl, hJ3, hk9⟩ | ⟨rfl, hJx3⟩)
            · have h1 := hk9.cell q1 hd1
              have h2 := hk9.cell q2 hd2
              have hc7 : ∀ i, i < nn * 3 → W3.cell? ⟨b, off + i, none⟩ = some (.int .i64 (l.getD i 0)) := fun i hi => hk9.cell q3 (hc6.out i hi)
              clear hy hR hn0 hn1 hn2 hd1 hd2 hc6 hk9
              gi_wp2
              go_roundw
              case rel => exact ⟨k + 1, (by rw [Int.natCast_succ]), (by rw [← hP.out, ← hG.out]; rfl), hkn, fun i hi => (Nat.lt_succ_iff_lt_or_eq.1 hi).elim (hle.out i) (fun e9 => by subst e9; rw [hA.out]; exact ht'), h1, h2, hc7, (by rw [List.range_succ]; exact hJ3)⟩
              case measure =>
                clear hwr
                show nn - ((k : Int) + 1).toNat < nn - ((k : Int)).toNat
                omega
            · clear hy hR hn0 hn1 hn2 hd1 hd2 hc6
              gi_wp2
              refine bodyPost_ret (results_none rfl _ _ _) rfl ?_
              exact ⟨⟨_, rfl⟩, .inr ⟨_, ⟨k, List.range_succ.symm, hkn, fun i hi => (Nat.lt_succ_iff_lt_or_eq.1 hi).elim (hle.out i) (fun e9 => by subst e9; rw [hA.out]; exact ht')⟩, hJx3⟩⟩
          · have hm' : A' < t := by omega
            have hTo : toV l nn t k = A' := by unfold toV; rw [if_pos hk2, hA', Int.min_eq_right (by omega)]
            have hz2 : -9223372036854775808 ≤ A' - A ∧ A' - A ≤ 9223372036854775807 := by omega
            have hwr : wrap64 (A' - A) = A' - A := wr64 hz2
            obtain ⟨P, hP⟩ : ∃ P, psV l nn t k = P := ⟨_, rfl⟩
            obtain ⟨G, hG⟩ : ∃ G, flV l nn t k = G := ⟨_, rfl⟩
            obtain ⟨E, hE⟩ : ∃ E, eR (A' - A) N D ((A' - A) * N / D) = E := ⟨_, rfl⟩
            have hfl : ∀ w : World, Calls Try.prog 51 #[.int .i64 (A' - A), .agg #[.int .i64 N, .int .i64 D]] w fun e w' => e = .returned (.tuple #[.int .i64 G, .int .i64 E]) ∧ Below w.heap.size w w' := by
              intro w
              have h := floor_calls (A' - A) N D w
              rw [hE] at h
              rw [show G = vR (A' - A) N D ((A' - A) * N / D) ((A' - A) * N / D) by rw [← hG]; unfold flV; rw [hTo, hA, hN, hD]]
              exact h
            have henc : encV l nn t k = .agg #[.int .i64 A, .int .i64 N, .int .i64 D, .int .i64 A', .int .i64 P, .int .i64 (wrap64 (P + G))] := by
              unfold encV; rw [hTo, hA, hN, hD, hP, show psV l nn t (k + 1) = wrap64 (P + G) by show wrap64 (psV l nn t k + flV l nn t k) = _; rw [hP, hG]]
            rw [hP]
            replace hP := hid hP; replace hG := hid hG; replace hE := hid hE; replace hA := hid hA; replace hN := hid hN; replace hD := hid hD; replace hTo := hid hTo; replace henc := hid henc
            replace hc5 := hid hc5; replace hfl := hid hfl; replace hJ1 := hid hJ1; clear hz2
            gi_upto_region 8 with (fail)
            gi_wp2
            refine ⟨trivial, ?_⟩
            gi_at_call 51
            refine (callsIn_wide.2 (hfl.out _)).mono ?_
            rintro e w1 ⟨rfl, hb1⟩
            replace hd1 := bel_cell hb1 hd1
            replace hd2 := bel_cell hb1 hd2
            replace hn0 := bel_cell hb1 hn0
            replace hn1 := bel_cell hb1 hn1
            replace hn2 := bel_cell hb1 hn2
            have hJ2 := hJ0.out _ _ _ hJ1.out hb1
            have hc6 : Hid (∀ i, i < nn * 3 → w1.cell? ⟨b, off + i, none⟩ = some (.int .i64 (l.getD i 0))) := hid (fun i hi => bel_cell hb1 (hc5.out i hi))
            obtain ⟨fn9, tm9, as9, bo9, hy, hR⟩ := hY0.out _ k w1 hJ2 (by rw [List.length_range]; exact hkn)
            rw [henc.out] at hy
            clear hb1 hc5 hJ1
            gi_upto_region 9 with (fail)
            gi_wp2
            refine hR.mono ?_
            rintro e W3 (⟨rfl, hJ3, hk9⟩ | ⟨rfl, hJx3⟩)
            · have h1 := hk9.cell q1 hd1
              have h2 := hk9.cell q2 hd2
              have hc7 : ∀ i, i < nn * 3 → W3.cell? ⟨b, off + i, none⟩ = some (.int .i64 (l.getD i 0)) := fun i hi => hk9.cell q3 (hc6.out i hi)
              clear hy hR hn0 hn1 hn2 hd1 hd2 hc6 hk9
              gi_wp2
              go_roundw
              case rel => exact ⟨k + 1, (by rw [Int.natCast_succ]), (by rw [← hP.out, ← hG.out]; rfl), hkn, fun i hi => (Nat.lt_succ_iff_lt_or_eq.1 hi).elim (hle.out i) (fun e9 => by subst e9; rw [hA.out]; exact ht'), h1, h2, hc7, (by rw [List.range_succ]; exact hJ3)⟩
              case measure =>
                clear hwr
                show nn - ((k : Int) + 1).toNat < nn - ((k : Int)).toNat
                omega
            · clear hy hR hn0 hn1 hn2 hd1 hd2 hc6
              gi_wp2
              refine bodyPost_ret (results_none rfl _ _ _) rfl ?_
              exact ⟨⟨_, rfl⟩, .inr ⟨_, ⟨k, List.range_succ.symm, hkn, fun i hi => (Nat.lt_succ_iff_lt_or_eq.1 hi).elim (hle.out i) (fun e9 => by subst e9; rw [hA.out]; exact ht')⟩, hJx3⟩⟩
        · have hk3 : ¬ (k : Int) + 1 < (nn : Int) := by omega
          have hTo : toV l nn t k = t := by unfold toV; rw [if_neg hk2]
          have hz2 : -9223372036854775808 ≤ t - A ∧ t - A ≤ 9223372036854775807 := by omega
          have hwr : wrap64 (t - A) = t - A := wr64 hz2
          obtain ⟨P, hP⟩ : ∃ P, psV l nn t k = P := ⟨_, rfl⟩
          obtain ⟨G, hG⟩ : ∃ G, flV l nn t k = G := ⟨_, rfl⟩
          obtain ⟨E, hE⟩ : ∃ E, eR (t - A) N D ((t - A) * N / D) = E := ⟨_, rfl⟩
          have hfl : ∀ w : World, Calls Try.prog 51 #[.int .i64 (t - A), .agg #[.int .i64 N, .int .i64 D]] w fun e w' => e = .returned (.tuple #[.int .i64 G, .int .i64 E]) ∧ Below w.heap.size w w' := by
            intro w
            have h := floor_calls (t - A) N D w
            rw [hE] at h
            rw [show G = vR (t - A) N D ((t - A) * N / D) ((t - A) * N / D) by rw [← hG]; unfold flV; rw [hTo, hA, hN, hD]]
            exact h
          have henc : encV l nn t k = .agg #[.int .i64 A, .int .i64 N, .int .i64 D, .int .i64 t, .int .i64 P, .int .i64 (wrap64 (P + G))] := by
            unfold encV; rw [hTo, hA, hN, hD, hP, show psV l nn t (k + 1) = wrap64 (P + G) by show wrap64 (psV l nn t k + flV l nn t k) = _; rw [hP, hG]]
          rw [hP]
          replace hP := hid hP; replace hG := hid hG; replace hE := hid hE; replace hA := hid hA; replace hN := hid hN; replace hD := hid hD; replace hTo := hid hTo; replace henc := hid henc
          replace hc5 := hid hc5; replace hfl := hid hfl; replace hJ1 := hid hJ1; clear hz2
          gi_upto_region 8 with (fail)
          gi_wp2
          refine ⟨trivial, ?_⟩
          gi_at_call 51
          refine (callsIn_wide.2 (hfl.out _)).mono ?_
          rintro e w1 ⟨rfl, hb1⟩
          replace hd1 := bel_cell hb1 hd1
          replace hd2 := bel_cell hb1 hd2
          replace hn0 := bel_cell hb1 hn0
          replace hn1 := bel_cell hb1 hn1
          replace hn2 := bel_cell hb1 hn2
          have hJ2 := hJ0.out _ _ _ hJ1.out hb1
          have hc6 : Hid (∀ i, i < nn * 3 → w1.cell? ⟨b, off + i, none⟩ = some (.int .i64 (l.getD i 0))) := hid (fun i hi => bel_cell hb1 (hc5.out i hi))
          obtain ⟨fn9, tm9, as9, bo9, hy, hR⟩ := hY0.out _ k w1 hJ2 (by rw [List.length_range]; exact hkn)
          rw [henc.out] at hy
          clear hb1 hc5 hJ1
          gi_upto_region 9 with (fail)
          gi_wp2
          refine hR.mono ?_
          rintro e W3 (⟨rfl, hJ3, hk9⟩ | ⟨rfl, hJx3⟩)
          · have h1 := hk9.cell q1 hd1
            have h2 := hk9.cell q2 hd2
            have hc7 : ∀ i, i < nn * 3 → W3.cell? ⟨b, off + i, none⟩ = some (.int .i64 (l.getD i 0)) := fun i hi => hk9.cell q3 (hc6.out i hi)
            clear hy hR hn0 hn1 hn2 hd1 hd2 hc6 hk9
            gi_wp2
            go_roundw
            case rel => exact ⟨k + 1, (by rw [Int.natCast_succ]), (by rw [← hP.out, ← hG.out]; rfl), hkn, fun i hi => (Nat.lt_succ_iff_lt_or_eq.1 hi).elim (hle.out i) (fun e9 => by subst e9; rw [hA.out]; exact ht'), h1, h2, hc7, (by rw [List.range_succ]; exact hJ3)⟩
            case measure =>
              clear hwr
              show nn - ((k : Int) + 1).toNat < nn - ((k : Int)).toNat
              omega
          · clear hy hR hn0 hn1 hn2 hd1 hd2 hc6
            gi_wp2
            refine bodyPost_ret (results_none rfl _ _ _) rfl ?_
            exact ⟨⟨_, rfl⟩, .inr ⟨_, ⟨k, List.range_succ.symm, hkn, fun i hi => (Nat.lt_succ_iff_lt_or_eq.1 hi).elim (hle.out i) (fun e9 => by subst e9; rw [hA.out]; exact ht')⟩, hJx3⟩⟩
    · have hk3 : ¬ (k : Int) < (nn : Int) := by omega
      replace hc3 := hid hc3; replace hle := hid hle; replace hY := hid hY
      gi_wp2
      go_end0
      exact ⟨⟨_, rfl⟩, .inl ⟨_, ⟨k, rfl, hk, hle.out, .inl (by omega)⟩, hJs⟩⟩
end Go.Proofs.Yteggelophhpnfaa
