/- The world of a call: what it has made, one die that it throws, one slice that it lets grow. No statement is proved here. -/
import Derived.Test.YtlelnhapcfjhfaaDiceSt
import Derived.Test.YtlelnhapcfjhfaaLive
import Derived.Test.YtlelnhapcfjhfaaFacts
import Derived.Deep.RegionHeld
namespace Go.Proofs.Ytlelnhapcfjhfaa
open Go.ChangeShapes Go.WideShapes Go.ChangeAt Go.RowKit
set_option linter.unusedVariables false
set_option linter.unusedSimpArgs false

/-- w since W: blocks L are the call's own, D's die has been thrown, all else is as it was -/
structure Lx (W w : World) (D : Option Nat) (L : List (Nat × List Value × TypeId)) : Prop where
  os : w.os = W.os
  tape : w.tape = W.tape
  output : w.output = W.output
  size : W.heap.size ≤ w.heap.size
  block : ∀ k, k < W.heap.size → D ≠ some k → w.heap[k]? = W.heap[k]?
  dice : ∀ d, D = some d → DiceAt w d
  live : Live w L
  own : ∀ x ∈ L, W.heap.size ≤ x.1 ∧ ∀ d, D = some d → d < x.1
  nodup : (L.map (·.1)).Nodup
theorem Lx.start (w : World) : Lx w w none [] := ⟨rfl, rfl, rfl, Nat.le_refl _, fun _ _ _ => rfl, fun _ h => (by cases h), trivial, fun _ h => (by cases h), by simp⟩
theorem Lx.startD {w : World} {d : Nat} (h : DiceAt w d) : Lx w w (some d) [] := ⟨rfl, rfl, rfl, Nat.le_refl _, fun _ _ _ => rfl, fun _ e => (by cases e; exact h), trivial, fun _ h => (by cases h), by simp⟩
theorem Lx.below {W w : World} {L : List (Nat × List Value × TypeId)} (h : Lx W w none L) : Below W.heap.size W w := ⟨h.os, h.tape, h.output, h.size, fun k hk => h.block k hk (by simp)⟩
theorem Lx.but {W w : World} {d : Nat} {L : List (Nat × List Value × TypeId)} (h : Lx W w (some d) L) : But d W w := ⟨h.os, h.tape, h.output, h.size, fun k hk hd => h.block k hk (by simpa using Ne.symm hd)⟩
theorem Lx.diceAt {W w : World} {d : Nat} {L : List (Nat × List Value × TypeId)} (h : Lx W w (some d) L) : DiceAt w d := h.dice d rfl
theorem Lx.lv {W w : World} {L : List (Nat × List Value × TypeId)} (h : Lx W w none L) : Lv W w L := ⟨h.below, h.live⟩
theorem Lx.facts {W w : World} {D : Option Nat} {L : List (Nat × List Value × TypeId)} (h : Lx W w D L) : liveAt w L := h.live.at
theorem Live.get {w : World} : ∀ {L : List (Nat × List Value × TypeId)}, Live w L → ∀ (i b : Nat) (vs : List Value) (T : TypeId), L[i]? = some (b, vs, T) → Blk w b vs T
  | [], _, i, b, vs, T, hi => by simp at hi
  | (c, us, U) :: L, h, 0, b, vs, T, hi => by simp at hi; obtain ⟨rfl, rfl, rfl⟩ := hi; exact h.1
  | (c, us, U) :: L, h, i + 1, b, vs, T, hi => Live.get h.2 i b vs T (by simpa using hi)
theorem Lx.blk {W w : World} {D : Option Nat} {L : List (Nat × List Value × TypeId)} (h : Lx W w D L) (i : Nat) {b : Nat} {vs : List Value} {T : TypeId} (hi : L[i]? = some (b, vs, T)) : Blk w b vs T := h.live.get i b vs T hi
theorem Live.ltAll {w : World} : ∀ {L : List (Nat × List Value × TypeId)}, Live w L → ∀ x ∈ L, x.1 < w.heap.size
  | [], _, x, hx => by cases hx
  | (c, us, U) :: L, h, x, hx => by
    rcases List.mem_cons.1 hx with rfl | hx
    · exact (Array.getElem?_eq_some_iff.1 h.1).1
    · exact Live.ltAll h.2 x hx
theorem Lx.kept {W w w' : World} {D : Option Nat} {L : List (Nat × List Value × TypeId)} (h : Lx W w D L) (hb : Below w.heap.size w w') : Lx W w' D L :=
  ⟨hb.os.trans h.os, hb.tape.trans h.tape, hb.output.trans h.output, Nat.le_trans h.size hb.size, fun k hk hd => (hb.block k (Nat.lt_of_lt_of_le hk h.size)).trans (h.block k hk hd), fun d e => (h.dice d e).kept hb, h.live.kept hb, h.own, h.nodup⟩
theorem Lx.drew {W w : World} {D : Option Nat} {L : List (Nat × List Value × TypeId)} (h : Lx W w D L) : Lx W w.drew D L := h.kept ((Below.refl _ _).drew)
theorem Lx.enter {W w : World} {D : Option Nat} {L : List (Nat × List Value × TypeId)} (h : Lx W w D L) {b : Nat} {vs : List Value} {T : TypeId} (hb : Blk w b vs T) (hW : W.heap.size ≤ b) (hd : ∀ d, D = some d → d < b) (hn : ∀ x ∈ L, x.1 ≠ b) : Lx W w D ((b, vs, T) :: L) :=
  ⟨h.os, h.tape, h.output, h.size, h.block, h.dice, ⟨hb, h.live⟩, fun x hx => (by
    rcases List.mem_cons.1 hx with rfl | hx
    · exact ⟨hW, hd⟩
    · exact h.own x hx), by
    rw [List.map_cons, List.nodup_cons]
    refine ⟨fun hm => ?_, h.nodup⟩
    obtain ⟨x, hx, he⟩ := List.mem_map.1 hm
    exact hn x hx he⟩
/-- a call made block b -/
theorem Lx.keptNew {W w w' : World} {D : Option Nat} {L : List (Nat × List Value × TypeId)} (h : Lx W w D L) (hb : Below w.heap.size w w') {b : Nat} {vs : List Value} {T : TypeId} (hB : Blk w' b vs T) (hG : w.heap.size ≤ b) : Lx W w' D ((b, vs, T) :: L) :=
  (h.kept hb).enter hB (Nat.le_trans h.size hG) (fun d e => Nat.lt_of_lt_of_le (h.dice d e).lt hG) (fun x hx => by have := h.live.ltAll x hx; omega)
theorem Lx.alloc {W w : World} {D : Option Nat} {vs : List Value} {T : TypeId} {L : List (Nat × List Value × TypeId)} (h : Lx W w D L) : Lx W (w.alloc (.cells vs.toArray T)) D ((w.heap.size, vs, T) :: L) :=
  h.keptNew ((Below.refl _ _).alloc (Nat.le_refl _) _) (heap_alloc_new w _) (Nat.le_refl _)
theorem Lx.next {W w w' : World} {d : Nat} {L : List (Nat × List Value × TypeId)} (h : Lx W w (some d) L) (hk : DiceAt w' d) (hb : But d w w') : Lx W w' (some d) L :=
  ⟨hb.os.trans h.os, hb.tape.trans h.tape, hb.output.trans h.output, Nat.le_trans h.size hb.size, fun k hk hd => (hb.block k (Nat.lt_of_lt_of_le hk h.size) (by simpa using Ne.symm hd)).trans (h.block k hk hd), fun _ e => (by cases e; exact hk), h.live.turn hb.block (fun x hx => by have := (h.own x hx).2 d rfl; omega), h.own, h.nodup⟩
theorem Lx.roll {W w w' : World} {d : Nat} (h : Lx W w none []) (hb : Below w.heap.size w w') (hk : DiceAt w' d) : Lx W w' (some d) [] :=
  ⟨hb.os.trans h.os, hb.tape.trans h.tape, hb.output.trans h.output, Nat.le_trans h.size hb.size, fun k hk hd => (hb.block k (Nat.lt_of_lt_of_le hk h.size)).trans (h.block k hk (by simp)), fun _ e => (by cases e; exact hk), trivial, fun _ h => (by cases h), by simp⟩
theorem Live.setAt {w : World} {b k : Nat} {v : Value} : ∀ {L : List (Nat × List Value × TypeId)}, Live w L → (L.map (·.1)).Nodup → ∀ (i : Nat) (vs : List Value) (T : TypeId), L[i]? = some (b, vs, T) → Live (w.setCell ⟨b, k, none⟩ v) (L.set i (b, vs.set k v, T))
  | [], _, _, i, vs, T, hi => by simp at hi
  | (c, us, U) :: L, h, hn, 0, vs, T, hi => by
    simp at hi; obtain ⟨rfl, rfl, rfl⟩ := hi
    rw [List.map_cons, List.nodup_cons] at hn
    exact ⟨Blk.set (show Blk w c us U from h.1) k v, h.2.turn (fun j _ hj => Below.heap_setCell _ _ _ _ hj) (fun x hx e => hn.1 (List.mem_map.2 ⟨x, hx, e⟩))⟩
  | (c, us, U) :: L, h, hn, i + 1, vs, T, hi => by
    rw [List.map_cons, List.nodup_cons] at hn
    have hi' : L[i]? = some (b, vs, T) := by simpa using hi
    have hcb : c ≠ b := fun e => hn.1 (List.mem_map.2 ⟨_, List.mem_of_getElem? hi', e.symm⟩)
    exact ⟨(Below.heap_setCell w ⟨b, k, none⟩ v c hcb).trans h.1, Live.setAt h.2 hn.2 i vs T hi'⟩
theorem map_set_same {L : List (Nat × List Value × TypeId)} {i b : Nat} {vs us : List Value} {T : TypeId} (hi : L[i]? = some (b, vs, T)) : (L.set i (b, us, T)).map (·.1) = L.map (·.1) := by
  apply List.ext_getElem? 
  intro j
  rw [List.map_set]
  by_cases hj : i = j
  · subst hj
    have : i < L.length := (List.getElem?_eq_some_iff.1 hi).1
    rw [List.getElem?_set_self (by simpa using this)]
    simp [hi]
  · rw [List.getElem?_set_ne hj]
theorem Lx.set {W w : World} {D : Option Nat} {L : List (Nat × List Value × TypeId)} (h : Lx W w D L) (i k : Nat) (v : Value) {b : Nat} {vs : List Value} {T : TypeId} (hi : L[i]? = some (b, vs, T)) : Lx W (w.setCell ⟨b, k, none⟩ v) D (L.set i (b, vs.set k v, T)) := by
  have hm := List.mem_of_getElem? hi
  obtain ⟨hW, hd⟩ := h.own _ hm
  have ho : ∀ k', k' < w.heap.size → k' ≠ b → (w.setCell ⟨b, k, none⟩ v).heap[k']? = w.heap[k']? := fun j _ hj => Below.heap_setCell _ _ _ _ hj
  have hs : w.heap.size ≤ (w.setCell ⟨b, k, none⟩ v).heap.size := by simp [World.setCell]
  refine ⟨h.os, h.tape, h.output, Nat.le_trans h.size hs, fun j hj hjd => (ho j (Nat.lt_of_lt_of_le hj h.size) (by have : W.heap.size ≤ b := hW; omega)).trans (h.block j hj hjd), fun d e => (h.dice d e).far hs ho (hd d e), h.live.setAt h.nodup i vs T hi, ?_, by rw [map_set_same hi]; exact h.nodup⟩
  intro x hx
  rcases List.mem_or_eq_of_mem_set hx with hx | rfl
  · exact h.own x hx
  · exact ⟨hW, hd⟩
theorem Live.sub {w : World} : ∀ {L' L : List (Nat × List Value × TypeId)}, List.Sublist L' L → Live w L → Live w L' := by
  intro L' L hs
  induction hs with
  | slnil => intro _; trivial
  | cons x _ ih => intro h; exact ih h.2
  | cons_cons x _ ih => intro h; exact ⟨h.1, ih h.2⟩
theorem Lx.sub {W w : World} {D : Option Nat} {L L' : List (Nat × List Value × TypeId)} (h : Lx W w D L) (hs : List.Sublist L' L) : Lx W w D L' :=
  ⟨h.os, h.tape, h.output, h.size, h.block, h.dice, h.live.sub hs, fun x hx => h.own x (hs.subset hx), h.nodup.sublist (hs.map _)⟩
theorem Lx.cell {W w : World} {D : Option Nat} {L : List (Nat × List Value × TypeId)} (h : Lx W w D L) (i k : Nat) {b : Nat} {vs : List Value} {T : TypeId} {v : Value} (hi : L[i]? = some (b, vs, T)) (hk : vs[k]? = some v) : w.cell? ⟨b, k, none⟩ = some v := (h.blk i hi).cell k hk
theorem Lx.lt {W w : World} {D : Option Nat} {L : List (Nat × List Value × TypeId)} (h : Lx W w D L) (i : Nat) {b : Nat} {vs : List Value} {T : TypeId} (hi : L[i]? = some (b, vs, T)) : b < w.heap.size := (h.blk i hi).lt
theorem Lx.ge {W w : World} {D : Option Nat} {L : List (Nat × List Value × TypeId)} (h : Lx W w D L) (i : Nat) {b : Nat} {vs : List Value} {T : TypeId} (hi : L[i]? = some (b, vs, T)) : W.heap.size ≤ b := (h.own _ (List.mem_of_getElem? hi)).1
theorem Lx.re {W w : World} {D : Option Nat} {L L' : List (Nat × List Value × TypeId)} (h : Lx W w D L) (hp : List.Perm L L') : Lx W w D L' :=
  ⟨h.os, h.tape, h.output, h.size, h.block, h.dice, by
    have hl := h.live
    clear h
    induction hp with
    | nil => trivial
    | cons x _ ih => exact ⟨hl.1, ih hl.2⟩
    | swap x y l => exact ⟨hl.2.1, hl.1, hl.2.2⟩
    | trans _ _ i1 i2 => exact i2 (i1 hl), fun x hx => h.own x (hp.mem_iff.2 hx), (hp.map _).nodup_iff.1 h.nodup⟩
theorem Lx.ofLv {W w0 w : World} {L0 L : List (Nat × List Value × TypeId)} (h0 : Lx W w0 none L0) (hv : Lv W w L) (he : L.map (·.1) = L0.map (·.1)) : Lx W w none L :=
  ⟨hv.below.os, hv.below.tape, hv.below.output, hv.below.size, fun k hk _ => hv.below.block k hk, fun _ h => (by cases h), hv.live, fun x hx => (by
    have : x.1 ∈ L0.map (·.1) := he ▸ List.mem_map.2 ⟨x, hx, rfl⟩
    obtain ⟨y, hy, e⟩ := List.mem_map.1 this
    exact ⟨e ▸ (h0.own y hy).1, fun _ h => (by cases h)⟩), he ▸ h0.nodup⟩
theorem nodup_inj : ∀ {l : List Nat}, l.Nodup → ∀ {i j b : Nat}, l[i]? = some b → l[j]? = some b → i = j
  | [], _, i, j, b, hi, _ => by simp at hi
  | x :: l, hn, 0, 0, b, _, _ => rfl
  | x :: l, hn, 0, j + 1, b, hi, hj => by
    rw [List.nodup_cons] at hn
    simp at hi hj
    subst hi
    exact absurd (List.mem_of_getElem? hj) hn.1
  | x :: l, hn, i + 1, 0, b, hi, hj => by
    rw [List.nodup_cons] at hn
    simp at hi hj
    subst hj
    exact absurd (List.mem_of_getElem? hi) hn.1
  | x :: l, hn, i + 1, j + 1, b, hi, hj => by
    rw [List.nodup_cons] at hn
    have := nodup_inj hn.2 (i := i) (j := j) (b := b) (by simpa using hi) (by simpa using hj)
    omega
theorem Lx.ne {W w : World} {D : Option Nat} {L : List (Nat × List Value × TypeId)} (h : Lx W w D L) (i j : Nat) {b c : Nat} {vs us : List Value} {T U : TypeId} (hi : L[i]? = some (b, vs, T)) (hj : L[j]? = some (c, us, U)) (hij : i ≠ j) : b ≠ c := by
  intro e
  subst e
  have h1 : (L.map (·.1))[i]? = some b := by simp [hi]
  have h2 : (L.map (·.1))[j]? = some b := by simp [hj]
  exact hij (nodup_inj h.nodup h1 h2)
/-- a slice that was there reads as it did -/
theorem Lx.sl {k : IntKind} {W w : World} {D : Option Nat} {L : List (Nat × List Value × TypeId)} {a : Option Addr} {len cap : Nat} {l : List Int} (h : Lx W w D L) (hs : Sl k W a len cap l) (hd : ∀ d, D = some d → len ≠ 0 → ∀ ad, a = some ad → ad.block ≠ d) : Sl k w a len cap l := by
  obtain ⟨h1, h2, h3, h4, h5, h6⟩ := hs
  refine ⟨h1, h2, h3, h4, h5, ?_⟩
  rcases h6 with h6 | ⟨b, off, rfl, hlt, hcell⟩
  · exact .inl h6
  · by_cases h0 : len = 0
    · exact .inl h0
    · refine .inr ⟨b, off, rfl, Nat.lt_of_lt_of_le hlt h.size, fun i hi => ?_⟩
      rw [World.cell?_of_block (w := W) (h.block b hlt (fun e => hd b e h0 _ rfl rfl))]
      exact hcell i hi
theorem Lx.slN {k : IntKind} {W w : World} {L : List (Nat × List Value × TypeId)} {a : Option Addr} {len cap : Nat} {l : List Int} (h : Lx W w none L) (hs : Sl k W a len cap l) : Sl k w a len cap l := hs.below h.below
/-- a slice of the call's own that grows -/
structure La (W w : World) (D : Option Nat) (L : List (Nat × List Value × TypeId)) (e : TypeId) (sz : Nat) (v : Value) (n : Nat) (xs : List Value) : Prop where
  lx : Lx W w D L
  row : w.ownsRow W.heap.size e sz v n xs
  far : ∀ g, v.ownBlock = some g → (∀ x ∈ L, x.1 ≠ g) ∧ ∀ d, D = some d → d < g
theorem La.nil {W w : World} {D : Option Nat} {L : List (Nat × List Value × TypeId)} {e : TypeId} {sz : Nat} (h : Lx W w D L) : La W w D L e sz (.slice none 0 0) 0 [] := ⟨h, World.ownsRow_nil _ _ _ _, fun g hg => (by cases hg)⟩
theorem grown_below {w w' : World} (hb : Below w.heap.size w w') (row : Option Nat) : w.grownBy w' row := ⟨hb.os, hb.tape, hb.output, hb.size, fun k hk _ => hb.block k hk⟩
theorem La.kept {W w w' : World} {D : Option Nat} {L : List (Nat × List Value × TypeId)} {e : TypeId} {sz n : Nat} {v : Value} {xs : List Value} (h : La W w D L e sz v n xs) (hb : Below w.heap.size w w') : La W w' D L e sz v n xs :=
  ⟨h.lx.kept hb, h.row.kept (grown_below hb none) (by cases v.ownBlock <;> simp), h.far⟩
theorem La.drew {W w : World} {D : Option Nat} {L : List (Nat × List Value × TypeId)} {e : TypeId} {sz n : Nat} {v : Value} {xs : List Value} (h : La W w D L e sz v n xs) : La W w.drew D L e sz v n xs := h.kept ((Below.refl _ _).drew)
theorem La.next {W w w' : World} {d : Nat} {L : List (Nat × List Value × TypeId)} {e : TypeId} {sz n : Nat} {v : Value} {xs : List Value} (h : La W w (some d) L e sz v n xs) (hk : DiceAt w' d) (hb : But d w w') : La W w' (some d) L e sz v n xs :=
  ⟨h.lx.next hk hb, h.row.kept (row := some d) ⟨hb.os, hb.tape, hb.output, hb.size, fun k hk hd => hb.block k hk (by simpa using hd)⟩ (by
    cases hv : v.ownBlock with
    | none => exact .inl rfl
    | some g => right; have := (h.far g hv).2 d rfl; simp; omega), h.far⟩
theorem Lx.grown {W w w' : World} {D : Option Nat} {L : List (Nat × List Value × TypeId)} (h : Lx W w D L) {row : Option Nat} (hg : w.grownBy w' row) (hr : ∀ g, row = some g → W.heap.size ≤ g ∧ (∀ x ∈ L, x.1 ≠ g) ∧ ∀ d, D = some d → d < g) : Lx W w' D L := by
  cases row with
  | none => exact h.kept ⟨hg.os, hg.tape, hg.output, hg.size, fun k hk => hg.block k hk (by simp)⟩
  | some g =>
    obtain ⟨r1, r2, r3⟩ := hr g rfl
    have ho : ∀ k, k < w.heap.size → k ≠ g → w'.heap[k]? = w.heap[k]? := fun k hk hne => hg.block k hk (by simpa using hne)
    exact ⟨hg.os.trans h.os, hg.tape.trans h.tape, hg.output.trans h.output, Nat.le_trans h.size hg.size, fun k hk hd => (ho k (Nat.lt_of_lt_of_le hk h.size) (by omega)).trans (h.block k hk hd), fun d e => (h.dice d e).far hg.size ho (r3 d e), h.live.turn ho r2, h.own, h.nodup⟩
theorem own_where {P : Program} {w : World} {B : Nat} {t ty e : TypeId} {i : TypeInfo} {z : Value} {v : Value} {n : Nat} {xs : List Value} (ht : P.underlying t = some (.slice e)) (hi : P.info? e = some i) (hz : i.zero = some z)
    (hown : w.ownsRow B e i.size v n xs) (a : Addr) (m c : Nat) (news : List Value) (hl : news.length = m * i.size) (hnews : ∀ j u, news[j]? = some u → w.cell? (a.add j) = some u) (h1 : ∀ u ∈ news, u.oneCell' = true)
    (h63 : n + m ≤ maxLen) (hbytes : (n + m) * i.bytes ≤ 140737488355328) {v' : Value} {w' : World} (hr : (Builtin.append_ #[t, t] ty #[v, .slice (some a) m c]).run P w = .ok v' w') :
    v'.ownBlock = v.ownBlock ∨ ∀ g, v'.ownBlock = some g → w.heap.size ≤ g := by
  have hsmall : n + m ≤ 9223372036854775807 := by simp only [maxLen] at h63; omega
  rcases hown.2 with ⟨rfl, rfl⟩ | ⟨g, cap, cur, rfl, hbg, hg, hnc, hcm, hcs, htake⟩
  · by_cases hm : m = 0
    · subst hm
      have hn : news = [] := List.eq_nil_of_length_eq_zero (by simpa using hl)
      subst hn
      left
      have : (Builtin.append_ #[t, t] ty #[.slice none 0 0, .slice (some a) 0 c]).run P w = .ok (.slice none 0 0) w := by
        simp [Builtin.append_, run_underlying ht, sizeOf, typeInfo, hi, Builtin.lenOf, Builtin.firstCells, loadCells, loadCellsFrom]
      rw [this] at hr
      cases hr
      rfl
    · right
      have h := run_append_nil (P := P) w t ty e i z ht hi hz a m c news hl hnews (by omega) (by omega) (by have hb := hbytes; simp only [Nat.zero_add] at hb; omega)
      rw [h] at hr
      cases hr
      intro g hg
      simp [Value.ownBlock] at hg
      omega
  · by_cases hroom : n + m ≤ cap
    · left
      have hfit : n * i.size + news.length ≤ cur.size := by rw [hl, hcs, ← Nat.add_mul]; exact Nat.mul_le_mul_right _ hroom
      have h := run_append_room (P := P) w t ty e i ht hi g n cap cur hg a m c news hl hnews h1 hroom hfit
      rw [h] at hr
      cases hr
      rfl
    · right
      have holds : ∀ j u, xs[j]? = some u → w.cell? ((⟨g, 0, none⟩ : Addr).add j) = some u := hown.cells (g := g) rfl
      have h := run_append_grow (P := P) w t ty e i z ht hi hz ⟨g, 0, none⟩ n cap xs hown.1 holds a m c news hl hnews (by omega) (by omega) (growslice_fits (by omega) hbytes)
      rw [h] at hr
      cases hr
      intro k hk
      simp [Value.ownBlock] at hk
      omega
/-- 'append(v, ..)' of the slice that grows -/
theorem run_append_la {P : Program} {W w : World} {D : Option Nat} {L : List (Nat × List Value × TypeId)} {t ty e : TypeId} {i : TypeInfo} {z : Value} {v : Value} {n : Nat} {xs : List Value} (ht : P.underlying t = some (.slice e)) (hi : P.info? e = some i) (hz : i.zero = some z) (hzs : z.cells.size = i.size) (hsz : 0 < i.size)
    (h : La W w D L e i.size v n xs) (a : Addr) (m c : Nat) (news : List Value) (hl : news.length = m * i.size) (hnews : ∀ j u, news[j]? = some u → w.cell? (a.add j) = some u) (h1 : ∀ u ∈ news, u.oneCell' = true)
    (h63 : n + m ≤ maxLen) (hbytes : (n + m) * i.bytes ≤ 140737488355328) :
    ∃ v' w', (Builtin.append_ #[t, t] ty #[v, .slice (some a) m c]).run P w = .ok v' w' ∧ La W w' D L e i.size v' (n + m) (xs ++ news) := by
  obtain ⟨v', w', hr, hrow, hgb, _⟩ := run_append_own (P := P) w W.heap.size t ty e i z i.size i.bytes ht hi hz rfl rfl hzs hsz v n xs h.row a m c news hl hnews h1 h63 hbytes h.lx.size
  refine ⟨v', w', hr, h.lx.grown hgb (fun g hg => ⟨(h.row.lt g hg).1, h.far g hg⟩), hrow, ?_⟩
  intro g hg
  rcases own_where ht hi hz h.row a m c news hl hnews h1 h63 hbytes hr with h2 | h2
  · exact h.far g (h2 ▸ hg)
  · have h3 := h2 g hg
    exact ⟨fun x hx => by have := h.lx.live.ltAll x hx; omega, fun d e => Nat.lt_of_lt_of_le (h.lx.dice d e).lt h3⟩
/-- 'append(v, x)' of one number out of a new block, as a law for the walk -/
theorem wpList_append_la1 {P : Program} {W w : World} {D : Option Nat} {L : List (Nat × List Value × TypeId)} {ops : Array Oper} {rest : List Oper} {o : Oper} {act : Act} {Q : Exit → Act → World → Prop} (hgd : o.guard = none) (s x : Operand) (t : TypeId)
    (ho : o.op = .call { callee := .builtin .append, args := #[s, x], argTypes := #[t, t] }) (k : IntKind) (e : TypeId) (z : Value) (bs : Nat)
    (hu : P.underlying t = some (.slice e)) (hi : (P.info? e).map (fun i => (i.zero, i.size, i.bytes)) = some (some z, 1, bs)) (hzs : z.cells.size = 1)
    (v : Value) (n : Nat) (xs : List Value) (hla : La W w D L e 1 v n xs) (hv : act.eval s = v) (y : Int) (hx : act.eval x = .slice (some ⟨w.heap.size, 0, none⟩) 1 1)
    (h63 : n + 1 ≤ maxLen) (hbytes : (n + 1) * bs ≤ 140737488355328)
    (h : ∀ v' w', Hid (La W w' D L e 1 v' (n + 1) (xs ++ [Value.int k y])) → wpList P ops Q rest (act.put o.dst v') w') :
    wpList P ops Q (o :: rest) act (w.alloc (.cells #[.int k y] e)) := by
  obtain ⟨i, h2, h3, h4, h5⟩ := info_parts hi
  refine wpList_plain hgd fun K hK => ?_
  have hla2 : La W (w.alloc (.cells #[.int k y] e)) D L e i.size v n xs := by rw [h4]; exact hla.kept ((Below.refl _ _).alloc (Nat.le_refl _) _)
  obtain ⟨v', w', hr, h6⟩ := run_append_la (P := P) (ty := o.type) hu h2 h3 (by rw [h4]; exact hzs) (by omega) hla2 ⟨w.heap.size, 0, none⟩ 1 1 [.int k y] (by rw [h4]; rfl) one_cell_at (by intro u hu; simp at hu; subst hu; rfl) h63 (by rw [h5]; exact hbytes)
  rw [h4] at h6
  unfold Oper.wp execOp
  simp only [ho, resolve, invoke, builtin, Sem.run_bind, Sem.run_pure, Result.andThen_ok, List.map_toArray, List.map_cons, List.map_nil, hv, hx, hr]
  exact hK _ _ (h v' w' h6)
/-- what has grown reads as numbers -/
theorem La.sl {W w : World} {D : Option Nat} {L : List (Nat × List Value × TypeId)} {e : TypeId} {n : Nat} {v : Value} {k : IntKind} {l : List Int} (h : La W w D L e 1 v n (l.map (Value.int k))) (hw : ∀ x ∈ l, (Lit.int k x).wf = true) : ∃ a cap, v = .slice a n cap ∧ Sl k w a n cap l ∧ (∀ ad, a = some ad → W.heap.size ≤ ad.block ∧ (∀ d, D = some d → d < ad.block)) := by
  have hn : n = l.length := by have := h.row.1; simp at this; omega
  obtain ⟨a, cap, e1, e2, e3⟩ := made_of_own rfl hw hn h.row
  rw [hn]
  refine ⟨a, cap, e1, e2, fun ad he => ⟨e3 ad he, fun d hd => (h.far ad.block (by rw [e1, he]; rfl)).2 d hd⟩⟩
end Go.Proofs.Ytlelnhapcfjhfaa
