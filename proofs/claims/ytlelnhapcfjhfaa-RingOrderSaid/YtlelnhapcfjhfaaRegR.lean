/- A region that draws its order, with phases: how its steps are taken. No statement is proved here. -/
import Derived.Test.YtlelnhapcfjhfaaFactsR
import Derived.Test.YtlelnhapcfjhfaaLx
namespace Go.Proofs.Ytlelnhapcfjhfaa
open Go.ChangeShapes Go.WideShapes Go.ChangeAt Go.RowKit
set_option linter.unusedVariables false
set_option linter.unusedSimpArgs false

def phA (ws : List Nat) (A : Nat → World → Prop) (L : Nat → Bool) (w : World) : Prop := A (ws.countP L) w
def phF (ws : List Nat) (F : Nat → Nat → Value → World → Prop) (L : Nat → Bool) (j : Nat) (v : Value) (w : World) : Prop := F (ws.countP L) j v w
theorem count_keep {ws : List Nat} {L : Nat → Bool} {i : Nat} (hi : ws.contains i = false) : ws.countP (fun j => if j = i then true else L j) = ws.countP L := by
  refine List.countP_congr fun x hx => ?_
  have : x ≠ i := by intro e; subst e; simp at hi; exact hi hx
  simp [this]
theorem phN_count {ws : List Nat} {L : Nat → Bool} {i : Nat} (hc : ws.count i = 1) (hL : L i = false) : ws.countP (fun j => if j = i then true else L j) = ws.countP L + 1 := by
  induction ws with
  | nil => simp at hc
  | cons x ws ih =>
    by_cases hx : x = i
    · subst hx
      have h0 : ws.contains x = false := by
        rw [List.count_cons_self] at hc
        have : ws.count x = 0 := by omega
        simp
        exact List.count_eq_zero.1 this
      rw [List.countP_cons, List.countP_cons, count_keep h0]
      simp [hL]
    · have h1 : ws.count i = 1 := by rwa [List.count_cons_of_ne hx] at hc
      rw [List.countP_cons, List.countP_cons, ih h1]
      simp [hx]
      omega
theorem phA_keep {ws : List Nat} {A : Nat → World → Prop} {L : Nat → Bool} {w : World} {i : Nat} (hi : ws.contains i = false) (h : phA ws A L w) : phA ws A (fun j => if j = i then true else L j) w := by
  unfold phA at *; rw [count_keep hi]; exact h
theorem phF_keep {ws : List Nat} {F : Nat → Nat → Value → World → Prop} {L : Nat → Bool} {j : Nat} {v : Value} {w : World} {i : Nat} (hi : ws.contains i = false) (h : phF ws F L j v w) : phF ws F (fun j => if j = i then true else L j) j v w := by
  unfold phF at *; rw [count_keep hi]; exact h
theorem phA_at {ws : List Nat} {A : Nat → World → Prop} {L : Nat → Bool} {w : World} {k : Nat} (hk : ws.countP L = k) (h : phA ws A L w) : A k w := by
  unfold phA at h; rw [hk] at h; exact h
theorem phF_at {ws : List Nat} {F : Nat → Nat → Value → World → Prop} {L : Nat → Bool} {j : Nat} {v : Value} {w : World} {k : Nat} (hk : ws.countP L = k) (h : phF ws F L j v w) : F k j v w := by
  unfold phF at h; rw [hk] at h; exact h
theorem phA_self {ws : List Nat} {A : Nat → World → Prop} {L : Nat → Bool} {w : World} (h : phA ws A L w) : A (ws.countP L) w := h
theorem phF_self {ws : List Nat} {F : Nat → Nat → Value → World → Prop} {L : Nat → Bool} {j : Nat} {v : Value} {w : World} (h : phF ws F L j v w) : F (ws.countP L) j v w := h
/-- a step of an operation that turns no phase -/
theorem phK_plain {ops : List Oper} {ws : List Nat} {A : Nat → World → Prop} {F : Nat → Nat → Value → World → Prop} {L : Nat → Bool} {i : Nat} {o : Oper} {a : Act} {w : World} {K : Act → World → Prop} (hi : ws.contains i = false)
    (hK : ∀ v w', phA ws A (fun j => if j = i then true else L j) w' → phF ws F (fun j => if j = i then true else L j) i (if o.dst.isSome then v else undef) w' → (∀ j oj, ops[j]? = some oj → j ≠ i → L j = true → phF ws F L j (slotOf a oj) w → phF ws F (fun j => if j = i then true else L j) j (slotOf a oj) w') → K (a.put o.dst v) w') :
    ∀ v w', A (ws.countP L) w' → F (ws.countP L) i (if o.dst.isSome then v else undef) w' → (∀ j oj, ops[j]? = some oj → j ≠ i → L j = true → F (ws.countP L) j (slotOf a oj) w → F (ws.countP L) j (slotOf a oj) w') → K (a.put o.dst v) w' :=
  fun v w' hA hF hk => hK v w' (phA_keep hi hA) (phF_keep hi hF) (fun j oj hj hji hl hf => phF_keep hi (hk j oj hj hji hl hf))
/-- a step of writer number p -/
theorem phK_write {ops : List Oper} {ws : List Nat} {A : Nat → World → Prop} {F : Nat → Nat → Value → World → Prop} {L : Nat → Bool} {i : Nat} {o : Oper} {a : Act} {w : World} {K : Act → World → Prop} (p : Nat) (h0 : ws.countP L = p) (h1 : ws.countP (fun j => if j = i then true else L j) = p + 1)
    (hK : ∀ v w', phA ws A (fun j => if j = i then true else L j) w' → phF ws F (fun j => if j = i then true else L j) i (if o.dst.isSome then v else undef) w' → (∀ j oj, ops[j]? = some oj → j ≠ i → L j = true → phF ws F L j (slotOf a oj) w → phF ws F (fun j => if j = i then true else L j) j (slotOf a oj) w') → K (a.put o.dst v) w') :
    ∀ v w', A (p + 1) w' → F (p + 1) i (if o.dst.isSome then v else undef) w' → (∀ j oj, ops[j]? = some oj → j ≠ i → L j = true → F p j (slotOf a oj) w → F (p + 1) j (slotOf a oj) w') → K (a.put o.dst v) w' :=
  fun v w' hA hF hk => hK v w' (by unfold phA; rw [h1]; exact hA) (by unfold phF; rw [h1]; exact hF) (fun j oj hj hji hl hf => by unfold phF at *; rw [h1]; rw [h0] at hf; exact hk j oj hj hji hl hf)
/-- block b, newer than lo -/
def NB (w : World) (lo b : Nat) (vs : List Value) (T : TypeId) : Prop := Blk w b vs T ∧ lo < b
theorem NB.below {w w' : World} {lo b : Nat} {vs : List Value} {T : TypeId} (h : NB w lo b vs T) (hb : Below w.heap.size w w') : NB w' lo b vs T := ⟨h.1.kept hb, h.2⟩
theorem NB.but {w w' : World} {lo b d : Nat} {vs : List Value} {T : TypeId} (h : NB w lo b vs T) (hb : But d w w') (hd : d ≤ lo) : NB w' lo b vs T := ⟨h.1.only ⟨hb.os, hb.tape, hb.output, hb.size, hb.block⟩ (by have := h.2; omega), h.2⟩
theorem NB.only {w w' : World} {lo b d : Nat} {vs : List Value} {T : TypeId} (h : NB w lo b vs T) (hb : Only d w w') (hd : b ≠ d) : NB w' lo b vs T := ⟨h.1.only hb hd, h.2⟩
theorem Lx.only {W w w' : World} {D : Option Nat} {L : List (Nat × List Value × TypeId)} (h : Lx W w D L) {g : Nat} (hg : Only g w w') (h1 : W.heap.size ≤ g) (h2 : ∀ x ∈ L, x.1 ≠ g) (h3 : ∀ d, D = some d → d < g) : Lx W w' D L :=
  h.grown (row := some g) ⟨hg.os, hg.tape, hg.output, hg.size, fun k hk hne => hg.block k hk (by simpa using hne)⟩ (fun k e => by cases e; exact ⟨h1, h2, h3⟩)
theorem NB.mk {w : World} {lo b : Nat} {vs : List Value} {T : TypeId} (h : Blk w b vs T) (hl : lo < b) : NB w lo b vs T := ⟨h, hl⟩
theorem Live.onlySet {w w' : World} {b : Nat} {us : List Value} (ho : Only b w w') : ∀ {L : List (Nat × List Value × TypeId)}, Live w L → (L.map (·.1)).Nodup → ∀ (i : Nat) (vs : List Value) (T : TypeId), L[i]? = some (b, vs, T) → Blk w' b us T → Live w' (L.set i (b, us, T))
  | [], _, _, i, vs, T, hi, _ => by simp at hi
  | (c, ds, U) :: L, h, hn, 0, vs, T, hi, hB => by
    simp at hi; obtain ⟨rfl, rfl, rfl⟩ := hi
    rw [List.map_cons, List.nodup_cons] at hn
    exact ⟨hB, h.2.turn ho.block (fun x hx e => hn.1 (List.mem_map.2 ⟨x, hx, e⟩))⟩
  | (c, ds, U) :: L, h, hn, i + 1, vs, T, hi, hB => by
    rw [List.map_cons, List.nodup_cons] at hn
    have hi' : L[i]? = some (b, vs, T) := by simpa using hi
    have hcb : c ≠ b := fun e => hn.1 (List.mem_map.2 ⟨_, List.mem_of_getElem? hi', e.symm⟩)
    exact ⟨Blk.only (show Blk w c ds U from h.1) ho hcb, Live.onlySet ho h.2 hn.2 i vs T hi' hB⟩
/-- a store into block number i -/
theorem Lx.onlySet {W w w' : World} {D : Option Nat} {L : List (Nat × List Value × TypeId)} (h : Lx W w D L) (i : Nat) {b : Nat} {vs us : List Value} {T : TypeId} (hi : L[i]? = some (b, vs, T)) (ho : Only b w w') (hB : Blk w' b us T) : Lx W w' D (L.set i (b, us, T)) := by
  obtain ⟨hW, hd⟩ := h.own _ (List.mem_of_getElem? hi)
  refine ⟨ho.os.trans h.os, ho.tape.trans h.tape, ho.output.trans h.output, Nat.le_trans h.size ho.size, fun j hj hjd => (ho.block j (Nat.lt_of_lt_of_le hj h.size) (by have : W.heap.size ≤ b := hW; omega)).trans (h.block j hj hjd), fun d e => (h.dice d e).far ho.size ho.block (hd d e), h.live.onlySet ho h.nodup i vs T hi hB, ?_, by rw [map_set_same hi]; exact h.nodup⟩
  intro x hx
  rcases List.mem_or_eq_of_mem_set hx with hx | rfl
  · exact h.own x hx
  · exact ⟨hW, hd⟩
theorem La.onlySet {W w w' : World} {D : Option Nat} {L : List (Nat × List Value × TypeId)} {e : TypeId} {sz n : Nat} {v : Value} {xs : List Value} (h : La W w D L e sz v n xs) (i : Nat) {b : Nat} {vs us : List Value} {T : TypeId} (hi : L[i]? = some (b, vs, T)) (ho : Only b w w') (hB : Blk w' b us T) : La W w' D (L.set i (b, us, T)) e sz v n xs := by
  have hm := List.mem_of_getElem? hi
  refine ⟨h.lx.onlySet i hi ho hB, h.row.kept (row := some b) ⟨ho.os, ho.tape, ho.output, ho.size, fun k hk hne => ho.block k hk (by simpa using hne)⟩ ?_, fun g hg => ⟨fun x hx => ?_, (h.far g hg).2⟩⟩
  · cases hv : v.ownBlock with
    | none => exact .inl rfl
    | some g => right; have := (h.far g hv).1 _ hm; simpa using Ne.symm this
  · rcases List.mem_or_eq_of_mem_set hx with hx | rfl
    · exact (h.far g hg).1 x hx
    · exact fun e => (h.far g hg).1 _ hm e
theorem La.sub {W w : World} {D : Option Nat} {L L' : List (Nat × List Value × TypeId)} {e : TypeId} {sz n : Nat} {v : Value} {xs : List Value} (h : La W w D L e sz v n xs) (hs : List.Sublist L' L) : La W w D L' e sz v n xs := ⟨h.lx.sub hs, h.row, fun g hg => ⟨fun x hx => (h.far g hg).1 x (hs.subset hx), (h.far g hg).2⟩⟩
/-- 'append(v, b...)', b a slice of numbers -/
theorem run_append_la_sl {P : Program} {k : IntKind} {W w : World} {D : Option Nat} {L : List (Nat × List Value × TypeId)} {t ty e : TypeId} {z : Value} {bs : Nat} {v : Value} {n : Nat} {xs : List Value} (hu : P.underlying t = some (.slice e)) (hi : (P.info? e).map (fun i => (i.zero, i.size, i.bytes)) = some (some z, 1, bs)) (hzs : z.cells.size = 1)
    (h : La W w D L e 1 v n xs) {a : Option Addr} {m c : Nat} {l : List Int} (hs : Sl k w a m c l) (h63 : n + m ≤ maxLen) (hbytes : (n + m) * bs ≤ 140737488355328) :
    ∃ v' w', (Builtin.append_ #[t, t] ty #[v, .slice a m c]).run P w = .ok v' w' ∧ La W w' D L e 1 v' (n + m) (xs ++ l.map (Value.int k)) := by
  obtain ⟨i, h2, h3, h4, h5⟩ := info_parts hi
  cases a with
  | none =>
    have hc : c = 0 := hs.2.2.2.2.1 rfl
    have hm : m = 0 := by have := hs.2.1; omega
    subst hc; subst hm
    obtain rfl : l = [] := List.eq_nil_of_length_eq_zero hs.1
    exact ⟨v, w, run_append_owned_none (P := P) (w := w) W.heap.size t ty e i 1 hu h2 v n xs h.row, by simpa using h⟩
  | some ad =>
    obtain ⟨v', w', hr, h6⟩ := run_append_la (P := P) (ty := ty) hu h2 h3 (by rw [h4]; exact hzs) (by omega) (by rw [h4]; exact h) ad m c (l.map (Value.int k)) (by rw [h4]; simp [hs.1]) (sl_src hs) int_cells_one h63 (by rw [h5]; exact hbytes)
    rw [h4] at h6
    exact ⟨v', w', hr, h6⟩
end Go.Proofs.Ytlelnhapcfjhfaa
