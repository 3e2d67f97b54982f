/- What a limiter makes of its frames, as a calculation. No statement is proved here. -/
import Derived.Test.YtbcifmddbhnkhaaLimitPeak
import Derived.Test.YtbcifmddbhnkhaaFacts
namespace Go.Proofs.Ytbcifmddbhnkhaa
open Go.ChangeShapes Go.WideShapes Go.ChangeAt Go.RowKit
set_option linter.unusedVariables false
set_option linter.unusedSimpArgs false

def satI (x : Int) : Int := min (max x (-8388608)) 8388607
theorem satI_bd (x : Int) : -8388608 ≤ satI x ∧ satI x ≤ 8388607 := by unfold satI; omega
theorem satI_in {x : Int} (h0 : -8388608 ≤ x) (h1 : x ≤ 8388607) : satI x = x := by unfold satI; omega
def nxL (t r g : Int) (F : List Int) : Int := min (needL t (peakF 0 F)) (g + r)
def outL (g s : Int) : Int := satI ((s * g).tdiv 65536)
def runL (c : Nat) (t r : Int) : Nat → Int → List Int → List Int × Int
  | 0, g, _ => ([], g)
  | n + 1, g, l => ((l.take c).map (outL (nxL t r g (l.take c))) ++ (runL c t r n (nxL t r g (l.take c)) (l.drop c)).1, (runL c t r n (nxL t r g (l.take c)) (l.drop c)).2)
theorem runL_snoc (c : Nat) (t r : Int) : ∀ (n : Nat) (g : Int) (l : List Int),
    runL c t r (n + 1) g l = ((runL c t r n g l).1 ++ ((l.drop (n * c)).take c).map (outL (nxL t r (runL c t r n g l).2 ((l.drop (n * c)).take c))), nxL t r (runL c t r n g l).2 ((l.drop (n * c)).take c)) := by
  intro n
  induction n with
  | zero => intro g l; simp [runL]
  | succ n ih =>
    intro g l
    have e := ih (nxL t r g (l.take c)) (l.drop c)
    rw [runL, e]
    have e2 : (l.drop c).drop (n * c) = l.drop ((n + 1) * c) := by rw [List.drop_drop]; congr 1; rw [Nat.add_mul]; omega
    rw [e2]
    simp only [runL, List.append_assoc]
theorem runL_add (c : Nat) (t r : Int) : ∀ (m n : Nat) (g : Int) (l : List Int),
    runL c t r (m + n) g l = ((runL c t r m g l).1 ++ (runL c t r n (runL c t r m g l).2 (l.drop (m * c))).1, (runL c t r n (runL c t r m g l).2 (l.drop (m * c))).2) := by
  intro m
  induction m with
  | zero => intro n g l; simp [runL]
  | succ m ih =>
    intro n g l
    have e2 : (l.drop c).drop (m * c) = l.drop ((m + 1) * c) := by rw [List.drop_drop]; congr 1; rw [Nat.add_mul]; omega
    rw [show m + 1 + n = (m + n) + 1 by omega, runL, ih, e2]
    simp only [runL, List.append_assoc]
theorem runL_len (c : Nat) (t r : Int) : ∀ (n : Nat) (g : Int) (l : List Int), n * c ≤ l.length → (runL c t r n g l).1.length = n * c := by
  intro n
  induction n with
  | zero => intro g l _; simp [runL]
  | succ n ih =>
    intro g l h
    rw [Nat.add_mul] at h
    rw [runL, List.length_append, List.length_map, ih _ _ (by rw [List.length_drop]; omega), List.length_take, Nat.add_mul]
    omega
theorem mem_frame {l : List Int} {m c : Nat} {s : Int} (h : s ∈ (l.drop m).take c) : s ∈ l := List.mem_of_mem_drop (List.mem_of_mem_take h)
theorem nxL_bd {t r g : Int} (ht : 1 ≤ t ∧ t ≤ 8388607) (hr : 1 ≤ r ∧ r ≤ 65536) (hg : 0 ≤ g ∧ g ≤ 65536) (F : List Int) (hb : ∀ s ∈ F, -1099511627776 ≤ s ∧ s ≤ 1099511627776) :
    0 ≤ nxL t r g F ∧ nxL t r g F ≤ 65536 ∧ nxL t r g F * peakF 0 F ≤ t * 65536 := by
  obtain ⟨p0, p1, _⟩ := peakF_bd F 0 (Int.le_refl _) (by omega) hb
  obtain ⟨n0, n1, n2⟩ := needL_bd ht p0 p1
  have hle : nxL t r g F ≤ needL t (peakF 0 F) := Int.min_le_left _ _
  refine ⟨by unfold nxL; omega, by omega, Int.le_trans (Int.mul_le_mul_of_nonneg_right hle p0) n2⟩
theorem runL_gain (c : Nat) {t r : Int} (ht : 1 ≤ t ∧ t ≤ 8388607) (hr : 1 ≤ r ∧ r ≤ 65536) : ∀ (n : Nat) (g : Int) (l : List Int), (0 ≤ g ∧ g ≤ 65536) → (∀ s ∈ l, -1099511627776 ≤ s ∧ s ≤ 1099511627776) → 0 ≤ (runL c t r n g l).2 ∧ (runL c t r n g l).2 ≤ 65536 := by
  intro n
  induction n with
  | zero => intro g l hg _; exact hg
  | succ n ih =>
    intro g l hg hb
    have h := nxL_bd ht hr hg (l.take c) (fun s hs => hb s (List.mem_of_mem_take hs))
    exact ih _ _ ⟨h.1, h.2.1⟩ (fun s hs => hb s (List.mem_of_mem_drop hs))
/-- samples in 24 bits -/
theorem runL_sample (c : Nat) (t r : Int) : ∀ (n : Nat) (g : Int) (l : List Int), ∀ s ∈ (runL c t r n g l).1, -8388608 ≤ s ∧ s ≤ 8388607 := by
  intro n
  induction n with
  | zero => intro g l s hs; cases hs
  | succ n ih =>
    intro g l s hs
    rw [runL] at hs
    rcases List.mem_append.1 hs with h | h
    · obtain ⟨x, _, rfl⟩ := List.mem_map.1 h
      exact satI_bd _
    · exact ih _ _ s h
/-- a row of n cells whose first hold samples -/
def rowV (n : Nat) (o : List Int) : List Value := o.map (Value.int .i32) ++ List.replicate (n - o.length) (Value.int .i32 0)
theorem rowV_len {n : Nat} {o : List Int} (h : o.length ≤ n) : (rowV n o).length = n := by simp [rowV]; omega
theorem rowV_set {n : Nat} {o : List Int} (h : o.length < n) (x : Int) : (rowV n o).set o.length (.int .i32 x) = rowV n (o ++ [x]) := by
  unfold rowV
  obtain ⟨m, hm⟩ : ∃ m, n - o.length = m + 1 := ⟨n - o.length - 1, by omega⟩
  rw [List.set_append_right _ _ (by simp), hm]
  simp only [List.length_map, Nat.sub_self, List.replicate_succ, List.set_cons_zero, List.map_append, List.map_cons, List.map_nil, List.append_assoc, List.length_append, List.length_cons, List.length_nil, List.cons_append, List.nil_append]
  rw [show n - (o.length + (0 + 1)) = m by omega]
theorem rowV_get {n : Nat} {o : List Int} {i : Nat} (h : i < o.length) : (rowV n o)[i]? = some (.int .i32 (o.getD i 0)) := by
  unfold rowV
  rw [List.getElem?_append_left (by simpa using h)]
  simp [List.getD_eq_getElem?_getD, h]
/-- a store into any block that the call has made -/
def updL (b k : Nat) (v : Value) (x : Nat × List Value × TypeId) : Nat × List Value × TypeId := if x.1 = b then (x.1, x.2.1.set k v, x.2.2) else x
theorem Live.upd {w : World} {b k : Nat} {v : Value} : ∀ {L : List (Nat × List Value × TypeId)}, Live w L → Live (w.setCell ⟨b, k, none⟩ v) (L.map (updL b k v))
  | [], _ => trivial
  | (c, vs, T) :: L, h => by
    have hb : Blk w c vs T := h.1
    rw [List.map_cons]
    by_cases e : c = b
    · subst e
      rw [show updL c k v (c, vs, T) = (c, vs.set k v, T) by unfold updL; rw [if_pos rfl]]
      exact ⟨hb.set k v, Live.upd h.2⟩
    · rw [show updL b k v (c, vs, T) = (c, vs, T) by unfold updL; rw [if_neg e]]
      exact ⟨hb.only (only_setCells [v] k w) e, Live.upd h.2⟩
theorem Lv.upd {W w : World} {L : List (Nat × List Value × TypeId)} (h : Lv W w L) (b k : Nat) (v : Value) (hb : W.heap.size ≤ b) : Lv W (w.setCell ⟨b, k, none⟩ v) (L.map (updL b k v)) :=
  ⟨h.below.trans ((only_setCells [v] k w : Only b w (w.setCell ⟨b, k, none⟩ v)).below hb h.below.size), h.live.upd⟩
theorem updL_far {b k : Nat} {v : Value} : ∀ {L : List (Nat × List Value × TypeId)}, (∀ x ∈ L, x.1 ≠ b) → L.map (updL b k v) = L
  | [], _ => rfl
  | x :: L, h => by
    rw [List.map_cons, updL_far (fun y hy => h y (List.mem_cons_of_mem _ hy)), updL, if_neg (h x (List.mem_cons_self ..))]
theorem Sl.sub {k : IntKind} {w : World} {b off len cap : Nat} {l : List Int} (h : Sl k w (some ⟨b, off, none⟩) len cap l) (m c : Nat) (hm : m + c ≤ len) : Sl k w (some ⟨b, off + m, none⟩) c (cap - m) ((l.drop m).take c) := by
  obtain ⟨h1, h2, h3, h4, h5, h6⟩ := h
  refine ⟨by simp; omega, by omega, by omega, fun n hn => h4 n (mem_frame hn), fun h => (by cases h), ?_⟩
  by_cases hc : c = 0
  · exact .inl hc
  rcases h6 with h6 | ⟨b', off', he, hlt, hcell⟩
  · omega
  · cases he
    refine .inr ⟨b, off + m, rfl, hlt, fun i hi => ?_⟩
    have := hcell (m + i) (by omega)
    rw [show off + (m + i) = off + m + i by omega] at this
    rw [this]
    simp [List.getD_eq_getElem?_getD, hi]
end Go.Proofs.Ytbcifmddbhnkhaa
