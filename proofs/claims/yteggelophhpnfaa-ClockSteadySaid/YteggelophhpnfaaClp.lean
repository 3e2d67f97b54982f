/- A clock read: positions. No statement is proved here. -/
import Derived.Test.YteggelophhpnfaaClk
namespace Go.Proofs.Yteggelophhpnfaa
open Go.ChangeShapes Go.WideShapes Go.ChangeAt Go.RowKit Go.Shelf
set_option linter.unusedVariables false
set_option linter.unusedSimpArgs false
attribute [local go_sem] Oper.semAt_some


theorem seg_open {p : Nat → Prop} {w : World} {l : List Int} {n : Nat} {v : Value} (h : RepD p w (.sl (dI .i64 l) n) v) (hn : 1 ≤ n) (hl : l.length = n * 3) :
    ∃ b off cap, v = .slice (some ⟨b, off, none⟩) n cap ∧ n ≤ cap ∧ cap ≤ maxLen ∧ b < w.heap.size ∧ ∀ i, i < n * 3 → w.cell? ⟨b, off + i, none⟩ = some (.int .i64 (l.getD i 0)) := by
  generalize hd : dI .i64 l = ds at h
  cases h with
  | nil a cap hm ha => omega
  | sl _ us b off _ cap hl2 hc hr hp hb hn2 hm =>
    refine ⟨b, off, cap, rfl, hn2, hm, hb, fun i hi => ?_⟩
    subst hd
    have hlen : us.length = l.length := by rw [hl2]; simp [dI]
    have hiu : i < us.length := by omega
    obtain ⟨u, hu⟩ : ∃ u, us[i]? = some u := ⟨_, List.getElem?_eq_getElem hiu⟩
    have h1 := hr i (.lit (.int .i64 (l.getD i 0))) u (by simp [dI, List.getD_eq_getElem?_getD, List.getElem?_eq_getElem (show i < l.length by omega)]) hu
    cases h1
    exact hc i _ hu
theorem ck_rg {l : List Int} {n : Nat} (h : ckB l n = true) : ∀ i, i < n → 0 ≤ l.getD (i * 3) 0 ∧ l.getD (i * 3) 0 ≤ 1099511627776 := by
  obtain ⟨h1, h2⟩ := ck_of h
  intro i
  induction i with
  | zero =>
    intro hi
    have h3 := h2 0 hi
    unfold segB at h3
    rw [Bool.and_eq_true] at h3
    have h4 := of_decide_eq_true h3.2
    obtain ⟨h5, h6, _⟩ := h4
    have h7 := h6.resolve_left (by simp)
    exact ⟨by rw [h7]; exact Int.le_refl 0, h5⟩
  | succ i ih =>
    intro hi
    have h3 := h2 (i + 1) hi
    unfold segB at h3
    rw [Bool.and_eq_true] at h3
    have h4 := of_decide_eq_true h3.2
    obtain ⟨h5, _, h6⟩ := h4
    have h7 := h6.resolve_left (by simp)
    have h8 := (ih (by omega)).1
    rw [Nat.add_sub_cancel] at h7
    exact ⟨Int.le_trans h8 (Int.le_of_lt h7), h5⟩
/-- a function that reads and gives plain values -/
theorem Fun.ofBelow {f : Nat} {xs : List E1} {y : PV} (h : ∀ (p : Nat → Prop) (ρ : Rh) (w : World) (args : List Value), (∃ p', GlOK p' w) → All2 (RepE p ρ w) xs args → Calls Try.prog f args.toArray w fun e w' => (∃ v, e = .returned v ∧ ∀ p' ρ', RepPV p' ρ' w' y v) ∧ Below w.heap.size w w') : Fun f xs [] 0 y [] 0 := by
  intro cx args hn hh ha
  refine (h cx.p cx.ρ0 cx.W args ⟨cx.p, cx.gl⟩ ha).mono ?_
  rintro e w' ⟨⟨v, rfl, hv⟩, hb⟩
  refine ⟨v, cx.ρ0, rfl, fun _ _ h => h, fun b _ => ?_, ⟨?_, ?_, ?_, hh.zm, fun k hk => Nat.lt_of_lt_of_le (hh.zl k hk) hb.size⟩, ⟨hb.os, hb.tape, hb.output, hb.size, fun k hk _ => hb.block k hk⟩, hv _ _⟩
  · cases e : cx.ρ0 b with
    | none => rfl
    | some m => have := cx.hn0 b m e; omega
  · intro b T cs hb; cases hb
  · intro b b' m m' hb; exact absurd rfl hb
  · intro b m hb; exact absurd rfl hb
theorem grown_bel {A B : World} (h : Below A.heap.size A B) : A.grownBy B none := ⟨h.os, h.tape, h.output, h.size, fun k hk _ => h.block k hk⟩
/-- how many segments have begun -/
def kkF (l : List Int) (t : Int) : Nat → Nat → Nat
  | 0, i => i
  | m + 1, i => if l.getD (i * 3) 0 ≤ t then kkF l t m (i + 1) else i
theorem kkF_of {l : List Int} {t : Int} {k : Nat} : ∀ (m i : Nat), i ≤ k → (∀ j, j < k → l.getD (j * 3) 0 ≤ t) → (k = i + m ∨ (k < i + m ∧ t < l.getD (k * 3) 0)) → kkF l t m i = k
  | 0, i, h1, _, h3 => by show i = k; omega
  | m + 1, i, h1, h2, h3 => by
    unfold kkF
    by_cases hik : i < k
    · rw [if_pos (h2 i hik)]; exact kkF_of m (i + 1) hik h2 (by omega)
    · obtain rfl : i = k := by omega
      have h4 : t < l.getD (i * 3) 0 := by rcases h3 with h3 | h3; omega; exact h3.2
      rw [if_neg (by omega)]
def posV (l : List Int) (n : Nat) (t : Int) : Int := psV l n t (kkF l t n 0)
theorem posV_of {l : List Int} {n : Nat} {t : Int} {k : Nat} (h1 : k ≤ n) (h2 : ∀ j, j < k → l.getD (j * 3) 0 ≤ t) (h3 : k = n ∨ t < l.getD (k * 3) 0) : posV l n t = psV l n t k := by
  unfold posV; rw [kkF_of n 0 (Nat.zero_le _) h2 (by omega)]
/-- what has been counted when these stretches have come -/
def acV (l : List Int) (n : Nat) (t : Int) (pre : List Nat) : Int := match pre.getLast? with | none => 0 | some x => psV l n t (x + 1)
theorem acV_snoc (l : List Int) (n : Nat) (t : Int) (pre : List Nat) (x : Nat) : acV l n t (pre ++ [x]) = psV l n t (x + 1) := by unfold acV; rw [List.getLast?_concat]
theorem acV_range (l : List Int) (n : Nat) (t : Int) (k : Nat) : acV l n t (List.range k) = psV l n t k := by
  cases k with
  | zero => rfl
  | succ k => rw [List.range_succ, acV_snoc]

set_option maxHeartbeats 1000000 in
theorem str_in (n : Nat) (v : Value) (hv : v.oneCell' = true) (t : Int) (w : World) (b off nn cap : Nat) (hv2 : v = .slice (some ⟨b, off, none⟩) nn cap) :
    CallsIn Fence.wide n Try.prog 36 #[.agg #[v], .int .i64 t] w fun e w' => e = .returned (.func (.func 50) #[] #[.pointer (some ⟨w.heap.size, 0, none⟩), .pointer (some ⟨w.heap.size + 1, 0, none⟩)]) ∧ w' = (w.alloc (.cells #[v] 24)).alloc (.cells #[.int .i64 t] 2) := by
  subst hv2
  refine callsIn_of_wp Try.func36 rfl trivial ?_ rfl
  simp only [Try.ntmps36, List.size_toArray, List.length_cons, List.length_nil, Nat.reduceAdd, Nat.reduceSub, Array.replicate_succ, Array.replicate_zero, List.push_toArray, List.append_toArray, List.nil_append, List.cons_append]
  gi_wp2
  go_ret
  exact ⟨rfl, rfl⟩

/-- the iterator keeps its contract -/
theorem it_stops (n : Nat) (hn : 1 ≤ n) (Bc Bt b off nn cap : Nat) (l : List Int) (t : Int) (q : Nat → Prop) (w : World)
    (q1 : q Bc) (q2 : q Bt) (q3 : q b) (hnn : nn ≤ cap) (hcap : cap ≤ maxLen) (hnn1 : 1 ≤ nn) (hnn2 : nn ≤ 64) (hlen : l.length = nn * 3)
    (hrg : ∀ i, i < nn → 0 ≤ l.getD (i * 3) 0 ∧ l.getD (i * 3) 0 ≤ 1099511627776) (ht0 : 0 ≤ t ∧ t ≤ 1099511627776)
    (hBc : w.cell? ⟨Bc, 0, none⟩ = some (.slice (some ⟨b, off, none⟩) nn cap)) (hBt : w.cell? ⟨Bt, 0, none⟩ = some (.int .i64 t))
    (hb : ∀ i, i < nn * 3 → w.cell? ⟨b, off + i, none⟩ = some (.int .i64 (l.getD i 0))) :
    SeqStopsK Fence.wide n Try.prog 50 #[.pointer (some ⟨Bc, 0, none⟩), .pointer (some ⟨Bt, 0, none⟩)] (fun x : Nat => #[encV l nn t x]) (KpS q)
      (fun xs => ∃ k, xs = List.range k ∧ k ≤ nn ∧ (∀ i, i < k → l.getD (i * 3) 0 ≤ t) ∧ (k = nn ∨ t < l.getD (k * 3) 0))
      (fun pre => ∃ k, pre = List.range (k + 1) ∧ k < nn ∧ (∀ i, i < k + 1 → l.getD (i * 3) 0 ≤ t)) nn w := fun ly J Jx W hW hJ _ hY h0 =>
  it_in n hn ly Bc Bt b off nn cap l t q J Jx W (fun pre A B hA hAB => hJ pre A B none hA (grown_bel hAB) (fun r e => by cases e)) hY q1 q2 q3 hnn hcap hnn1 hnn2 hlen hrg ht0
    (bel_cell hW hBc) (bel_cell hW hBt) (fun i hi => bel_cell hW (hb i hi)) h0

theorem kpS_b {q : Nat → Prop} {B : Nat} (hq : ∀ k, q k → k < B) (W : World) (l : Nat) (o o' : Obj) (hl : B ≤ l) (h : W.heap[l]? = some o) (_ : o.isCells = false) (_ : o.isWalk = false) : KpS q W (W.putObj l o') :=
  ⟨(KeepsFrom.size (KeepsFrom.of_grownBy (B := l + 1) (grownBy_putObj' W l o') (fun j e => by cases e; omega))), fun k hk _ => World.putObj_heap_other (by have := hq k hk; omega)⟩

set_option maxRecDepth 100000 in
set_option maxHeartbeats 4000000 in
theorem pos_in (n : Nat) (hn : 3 ≤ n) (b off nn cap : Nat) (l : List Int) (t : Int) (w : World)
    (hnn : nn ≤ cap) (hcap : cap ≤ maxLen) (hnn1 : 1 ≤ nn) (hnn2 : nn ≤ 64) (hlen : l.length = nn * 3)
    (hrg : ∀ i, i < nn → 0 ≤ l.getD (i * 3) 0 ∧ l.getD (i * 3) 0 ≤ 1099511627776) (ht0 : 0 ≤ t ∧ t ≤ 1099511627776)
    (hb0 : b < w.heap.size) (hb : ∀ i, i < nn * 3 → w.cell? ⟨b, off + i, none⟩ = some (.int .i64 (l.getD i 0))) :
    CallsIn Fence.wide n Try.prog 34 #[.agg #[.slice (some ⟨b, off, none⟩) nn cap], .int .i64 t] w fun e w' => e = .returned (.int .i64 (posV l nn t)) ∧ Below w.heap.size w w' := by
  have h1 : 1 ≤ n := by omega
  refine callsIn_of_wp_marks Try.func34 rfl trivial ?_ rfl
  simp only [Try.ntmps34, List.size_toArray, List.length_cons, List.length_nil, Nat.reduceAdd, Nat.reduceSub, Array.replicate_succ, Array.replicate_zero, List.push_toArray, List.append_toArray, List.nil_append, List.cons_append]
  replace hb := hid hb; replace hrg := hid hrg
  gi_wp2
  refine ⟨trivial, ?_⟩
  gi_at_call 36
  refine (str_in (n - 1) _ rfl t _ b off nn cap rfl).mono ?_
  rintro e w' ⟨rfl, rfl⟩
  simp only [World.size_alloc]
  obtain ⟨W1, hW1⟩ : ∃ W1, (w.alloc (.cells #[.slice (some ⟨b, off, none⟩) nn cap] 24)).alloc (.cells #[.int .i64 0] 2) = W1 := ⟨_, rfl⟩
  have hs1 : W1.heap.size = w.heap.size + 2 := by rw [← hW1]; simp
  have bF1 : Boxed W1 (w.heap.size + 1) 2 (.int .i64 0) := by rw [← hW1]; have := Boxed.new (w.alloc (.cells #[.slice (some ⟨b, off, none⟩) nn cap] 24)) 2 (.int .i64 0); rwa [World.size_alloc] at this
  have hB1 : Below w.heap.size w W1 := by rw [← hW1]; exact ((Below.refl _ w).alloc (Nat.le_refl _) _).alloc (by simp) _
  rw [hW1]
  obtain ⟨W0, hW0⟩ : ∃ W0, (W1.alloc (.cells #[.slice (some ⟨b, off, none⟩) nn cap] 24)).alloc (.cells #[.int .i64 t] 2) = W0 := ⟨_, rfl⟩
  have hs0 : W0.heap.size = w.heap.size + 4 := by rw [← hW0]; simp [hs1]
  have cC : W0.cell? ⟨w.heap.size + 2, 0, none⟩ = some (.slice (some ⟨b, off, none⟩) nn cap) := by rw [← hW0, ← hs1]; exact ((Boxed.new W1 _ _).alloc _).cell
  have cT : W0.cell? ⟨w.heap.size + 3, 0, none⟩ = some (.int .i64 t) := by rw [← hW0]; have := (Boxed.new (W1.alloc (.cells #[.slice (some ⟨b, off, none⟩) nn cap] 24)) 2 (.int .i64 t)).cell; rwa [World.size_alloc, hs1] at this
  have bF : Boxed W0 (w.heap.size + 1) 2 (.int .i64 0) := by rw [← hW0]; exact (bF1.alloc _).alloc _
  have hB0 : Below w.heap.size w W0 := by rw [← hW0]; exact (hB1.alloc hB1.size _).alloc (by simp; omega) _
  rw [hW0]
  simp only [Nat.add_assoc, Nat.reduceAdd]
  gi_wp2
  have hbW : ∀ i, i < nn * 3 → W0.cell? ⟨b, off + i, none⟩ = some (.int .i64 (l.getD i 0)) := fun i hi => (hB0.cell hb0).trans (hb.out i hi)
  clear hW0 hW1 bF1 hB1 hs1
  refine wpIn_rangeFunc_ownH rfl h1 (gf := 50) (lb := #[.pointer (some ⟨w.heap.size + 2, 0, none⟩), .pointer (some ⟨w.heap.size + 3, 0, none⟩)]) rfl trivial (enters_of Try.func50 (by kernel_rfl) rfl)
    (it_stops (n - 1) (by omega) (w.heap.size + 2) (w.heap.size + 3) b off nn cap l t (fun k => k ≠ w.heap.size + 1 ∧ k < w.heap.size + 4) W0 ⟨by omega, by omega⟩ ⟨by omega, by omega⟩ ⟨by omega, by omega⟩ hnn hcap hnn1 hnn2 hlen hrg.out ht0 cC cT hbW)
    KpS.trans (kpS_b (fun k hk => by rw [hs0]; exact hk.2)) (Below.refl _ _) (fun _ => rfl)
    (fun pre W => Boxed W (w.heap.size + 1) 2 (.int .i64 (acV l nn t pre)) ∧ Below w.heap.size w W)
    (fun _ _ _ => False)
    (OwnFrom.and (Own.from (boxed_own _ _ _) _) (ownFrom_below (Nat.le_refl _) (by omega)))
    (fun _ _ _ _ _ hs _ _ => hs)
    ⟨bF, hB0⟩
    (fun x a' W => ∃ Bx, w.heap.size + 1 < Bx ∧ W.cell? ⟨Bx, 5, none⟩ = some (.int .i64 (psV l nn t (x + 1))) ∧ a' = { tmps := #[.agg #[.slice (some ⟨b, off, none⟩) nn cap], .int .i64 t, .pointer (some ⟨w.heap.size, 0, none⟩), undef, .int .i64 0, .pointer (some ⟨w.heap.size + 1, 0, none⟩), .pointer (some ⟨Bx, 0, none⟩), .agg #[.slice (some ⟨b, off, none⟩) nn cap], .int .i64 t, .func (.func 50) #[] #[.pointer (some ⟨w.heap.size + 2, 0, none⟩), .pointer (some ⟨w.heap.size + 3, 0, none⟩)], encV l nn t x, undef, undef, undef], defers := [] })
    (fun x a' _ X Y row hs hg hr => by obtain ⟨Bx, h1, h2, h3⟩ := hs; exact ⟨Bx, h1, cell_kept h2 hg (fun r e => (hr r e).2), h3⟩)
    ?assign ?body ?done ?stop
  case assign =>
    rintro ly pre x W K ⟨bF1, hB1⟩ hK
    obtain ⟨e1, e2, e3, e4, e5, e6, henc, he6⟩ : ∃ e1 e2 e3 e4 e5 e6, encV l nn t x = .agg #[.int .i64 e1, .int .i64 e2, .int .i64 e3, .int .i64 e4, .int .i64 e5, .int .i64 e6] ∧ psV l nn t (x + 1) = e6 := ⟨_, _, _, _, _, _, rfl, rfl⟩
    rw [henc, he6] at hK
    rw [henc]
    gi_wp2
    exact hK _ _ ((KeepsOthers.alloc _ _).from _) (KpS.of_below ((Below.refl _ W).alloc (Nat.le_refl _) _)) ⟨bF1.alloc _, hB1.alloc hB1.size _⟩ ⟨W.heap.size, bF1.lt, cell_nw (vs := [.int .i64 e1, .int .i64 e2, .int .i64 e3, .int .i64 e4, .int .i64 e5, .int .i64 e6]) 5 rfl, rfl⟩
  case body =>
    rintro ly pre x a' W hl ⟨r, hr⟩ ⟨bF1, hB1⟩ ⟨Bx, hBx, bX, rfl⟩ hlt
    have cF := bF1.cell
    have fF := bF1.frozen
    gi_wp2
    exact ⟨(KeepsOthers.setCell _ _ _).from _, ⟨(KeepsOthers.setCell _ _ _).size, fun k hk _ => Below.heap_setCell _ _ _ k (fun e => hk.1 e)⟩, by rw [acV_snoc]; exact bF1.set _, hB1.setCell (p := ⟨w.heap.size + 1, 0, none⟩) (by simp) _⟩
  case done =>
    rintro D xs W hD ⟨k, rfl, hk, hle, hlast⟩ ⟨bF1, hB1⟩ hK
    have cF := bF1.cell
    rw [acV_range, ← posV_of hk hle hlast] at cF
    gi_wp2
    refine ⟨by simp, .inl ⟨_, _, rfl, run_takeDeferred hK, ?_⟩⟩
    exact ⟨_, results_tmp rfl _ _ _, rfl, hB1.trans (belowK_b (w := w) (Nat.le_refl _) W D _ _ (by omega) hK rfl rfl)⟩
  case stop =>
    rintro D c pre W _ _ h _
    exact h.elim
end Go.Proofs.Yteggelophhpnfaa
