/- Arguments of any shape that come in: numbers, truth values, texts, structs, slices. No statement is proved here. -/
import Derived.Test.YtdbjebdomdnbkaaZAmD
import Derived.Deep.Slices
import Derived.ChangeArms
namespace Go.Proofs.Ytdbjebdomdnbkaa
open Go.ChangeShapes Go.WideShapes Go.ChangeAt Go.RowKit
open Bool renaming and_eq_true → kb9, noConfusion → kf9
open List renaming eq_nil_of_length_eq_zero → kc9, getElem?_eq_getElem → ka9
set_option linter.unusedVariables false
set_option linter.unusedSimpArgs false
inductive Ty where
  | i (k : IntKind)
  | b
  | s
  | sl (t : Ty)
  | st (f : Ty)
  | fnil
  | fcons (t f : Ty)
inductive TA where
  | t (t : TypeId)
  | f (fs : List Field) (off tot : Nat)
def f7 (P : Program) : Ty → TA → Bool
  | .i k, .t t => match P.underlying t with
    | some (.int k') => decide (k' = k)
    | _ => false
  | .b, .t t => match P.underlying t with
    | some .bool => true
    | _ => false
  | .s, .t t => match P.underlying t with
    | some .string => true
    | _ => false
  | .sl T, .t t => match P.underlying t with
    | some (.slice e) => decide (1 ≤ P.cellsOf e) && f7 P T (.t e)
    | _ => false
  | .st F, .t t => match P.underlying t with
    | some (.struct fs) => f7 P F (.f fs.toList 0 (P.cellsOf t))
    | _ => false
  | .fnil, .f fs off tot => match fs with
    | [] => decide (off = tot)
    | _ :: _ => false
  | .fcons T F, .f fs off tot => match fs with
    | [] => false
    | f :: r => decide (f.offset = off) && decide (off + P.cellsOf f.type ≤ tot) && f7 P T (.t f.type) && f7 P F (.f r (off + P.cellsOf f.type) tot)
  | _, _ => false
def WfD : Ty → List D → Prop
  | .i k, ds => ∃ z, ds = [D.lit (.int k z)] ∧ (Lit.int k z).wf = true
  | .b, ds => ∃ z, ds = [D.lit (.bool z)]
  | .s, ds => ∃ z : ByteArray, ds = [D.lit (.string z)] ∧ z.size ≤ maxLen
  | .sl T, ds => ∃ xs : List (List D), ds = [D.sl xs.flatten xs.length] ∧ xs.length ≤ maxLen ∧ ∀ x ∈ xs, WfD T x
  | .st F, ds => WfD F ds
  | .fnil, ds => ds = []
  | .fcons T F, ds => ∃ x y, ds = x ++ y ∧ WfD T x ∧ WfD F y
section
variable {H : Type} {enc : TypeId × Value → H} {P : Program} {w : World} {base : Nat} {spare : Nat → Bool} {held : Bool}
theorem oA {c : Nat} {a : Addr} {Q : List D → Prop} {R : List D → List Value → Prop} (h1 : 1 ≤ c) : ∀ (m : Nat), (∀ i, i < m → ∃ cs ds, w.cells? base (a.add (i * c)) c = some cs ∧ Q ds ∧ All2 (RepD (fun k => k < w.heap.size) w) ds cs) →
    ∃ (xs : List (List D)) (us : List Value), xs.length = m ∧ (∀ x ∈ xs, Q x) ∧ us.length = m * c ∧ All2 (RepD (fun k => k < w.heap.size) w) xs.flatten us ∧ ∀ (i : Nat) (u : Value), us[i]? = some u → w.cell? (a.add i) = some u
  | 0, _ => ⟨[], [], rfl, fun x hx => by (cases hx), by simp, trivial, fun i u hu => by (simp at hu)⟩
  | m + 1, h => by
    obtain ⟨xs, us, hx, hq, hu, ha, hc⟩ := oA (R := R) h1 m fun i hi => h i zo
    obtain ⟨cs, ds, g1, g2, g3⟩ := h m zo
    obtain ⟨_, g4, g5⟩ := World.cells?_some g1
    refine ⟨xs ++ [ds], us ++ cs, by simp [hx], fun x hx' => ?_, by rw [List.length_append, hu, g4, Nat.succ_mul], ?_, fun i u hi => ?_⟩
    · rcases List.mem_append.1 hx' with h9 | h9
      · exact hq x h9
      · rw [List.mem_singleton.1 h9]; exact g2
    · rw [List.flatten_append]
      exact ha.app (by simpa using g3)
    · by_cases hl : i < m * c
      · rw [List.getElem?_append_left (by omega)] at hi; exact hc i u hi
      · rw [List.getElem?_append_right (by omega), hu] at hi
        have hlt : i - m * c < c := by
          have := (List.getElem?_eq_some_iff.1 hi).1; omega
        have e := g5 (i - m * c) hlt
        rw [Go.Deep.add_add, show m * c + (i - m * c) = i by omega] at e
        rw [e]; exact hi
theorem eG : ∀ (T : Ty), (∀ (t : TypeId) (fuel : Nat) (cs : List Value) (x : DataW H × List MemPlace), f7 P T (.t t) = true → DataW.trod enc P w base spare held fuel t cs = some x → ∃ ds, WfD T ds ∧ All2 (RepD (fun k => k < w.heap.size) w) ds cs) ∧
    (∀ (fs : List Field) (off tot n : Nat) (cs : List Value), f7 P T (.f fs off tot) = true → cs.length + off = tot → (∀ (i : Nat) (f : Field), fs[i]? = some f → ∃ x, DataW.trod enc P w base spare held n f.type ((cs.drop (f.offset - off)).take (P.cellsOf f.type)) = some x) → (∀ (i : Nat) (f : Field), fs[i]? = some f → off ≤ f.offset) → ∃ ds, WfD T ds ∧ All2 (RepD (fun k => k < w.heap.size) w) ds cs)
  | .i k => ⟨fun t fuel cs x ht h => by
      unfold f7 at ht
      split at ht
      · rename_i k' hu
        obtain rfl := of_decide_eq_true ht
        obtain ⟨n, rfl, _, hw⟩ := DataW.trod_int hu h
        exact ⟨_, ⟨n, rfl, hw⟩, .lit _ rfl, trivial⟩
      · exact kf9 ht, fun fs off tot n cs ht => by (unfold f7 at ht; cases ht)⟩
  | .b => ⟨fun t fuel cs x ht h => by
      unfold f7 at ht
      split at ht
      · rename_i hu
        obtain ⟨n, rfl, _⟩ := DataW.trod_bool hu h
        exact ⟨_, ⟨n, rfl⟩, .lit _ rfl, trivial⟩
      · exact kf9 ht, fun fs off tot n cs ht => by (unfold f7 at ht; cases ht)⟩
  | .s => ⟨fun t fuel cs x ht h => by
      unfold f7 at ht
      split at ht
      · rename_i hu
        obtain ⟨n, rfl, _, hw⟩ := DataW.trod_string hu h
        exact ⟨_, ⟨n, rfl, hw⟩, .lit _ rfl, trivial⟩
      · exact kf9 ht, fun fs off tot n cs ht => by (unfold f7 at ht; cases ht)⟩
  | .sl T => ⟨fun t fuel cs x ht h => by
      unfold f7 at ht
      split at ht
      · rename_i e hu
        rw [kb9] at ht
        obtain ⟨h1, h2⟩ := ht
        have h1 := of_decide_eq_true h1
        rcases Go.Deep.open_slice hu h with ⟨rfl, _⟩ | ⟨a, len, cap, m, n, D', Pl, rfl, hb, hl, hm, hmm, _, hx⟩
        · exact ⟨[D.sl [] 0], ⟨[], rfl, Nat.zero_le _, fun x hx => by (cases hx)⟩, .nil none 0 (Nat.zero_le _) (fun _ => rfl), trivial⟩
        · have hlm : len ≤ m := by rw [hmm]; split <;> omega
          obtain ⟨xs, us, g1, g2, g3, g4, g5⟩ := oA (w := w) (base := base) (a := a) (Q := WfD T) (R := fun _ _ => True) h1 len fun i hi => by
            obtain ⟨cs', e1, e2⟩ := hx i zo
            obtain ⟨ds, e3, e4⟩ := (eG T).1 e n cs' _ h2 e2
            exact ⟨cs', ds, e1, e3, e4⟩
          refine ⟨[D.sl xs.flatten xs.length], ⟨xs, rfl, by omega, g2⟩, ?_, trivial⟩
          rw [g1]
          by_cases h0 : len = 0
          · subst h0
            obtain rfl := kc9 g1
            exact .nil (some a) cap hm (fun h => by cases h)
          · obtain ⟨b, off, spot⟩ := a
            have hus : 0 < us.length := by
              rw [g3]; exact Nat.mul_pos (by omega) (by omega)
            have hc0 := g5 0 us[0] (ka9 hus)
            have hspot : spot = none := by simpa [Addr.add] using World.cell?_spot hc0
            subst hspot
            have hlt : b < w.heap.size := by
              have := World.block_lt_of_cell? w _ hc0
              simpa [Addr.add] using this
            exact .sl xs.flatten us b off len cap g4.len.symm (fun i u hu => by rw [← Addr.add_lit]; exact g5 i u hu) (fun i d u hd hu => g4.get i d u hd hu) hlt hlt hl hm
      · exact kf9 ht, fun fs off tot n cs ht => by (unfold f7 at ht; cases ht)⟩
  | .st F => ⟨fun t fuel cs x ht h => by
      unfold f7 at ht
      split at ht
      · rename_i fs hu
        obtain ⟨xs, n, _, _, hl, hlen, hg⟩ := DataW.trod_struct hu h
        obtain ⟨ds, e1, e2⟩ := (eG F).2 fs.toList 0 (P.cellsOf t) n cs ht zo (fun i f hf => by
          have hf' : fs[i]? = some f := by simpa using hf
          have hi : i < xs.length := by rw [hlen]; exact (Array.getElem?_eq_some_iff.1 hf').1
          exact ⟨xs[i], by rw [Nat.sub_zero, hg i f hf', ka9 hi]⟩) (fun i f hf => Nat.zero_le _)
        exact ⟨ds, e1, e2⟩
      · exact kf9 ht, fun fs off tot n cs ht => by (unfold f7 at ht; cases ht)⟩
  | .fnil => ⟨fun t fuel cs x ht => by (unfold f7 at ht; cases ht), fun fs off tot n cs ht hl hg ho => by
      cases fs with
      | cons => (unfold f7 at ht; cases ht)
      | nil =>
        have h1 : off = tot := by (unfold f7 at ht; exact of_decide_eq_true ht)
        have : cs = [] := kc9 (by omega)
        subst this
        exact ⟨[], rfl, trivial⟩⟩
  | .fcons T F => ⟨fun t fuel cs x ht => by (unfold f7 at ht; cases ht), fun fs off tot n cs ht hl hg ho => by
      cases fs with
      | nil => (unfold f7 at ht; cases ht)
      | cons f r =>
        unfold f7 at ht
        simp only [kb9] at ht
        obtain ⟨⟨⟨h1, h2⟩, h3⟩, h4⟩ := ht
        have h1 := of_decide_eq_true h1
        have h2 := of_decide_eq_true h2
        obtain ⟨x, hx⟩ := hg 0 f rfl
        rw [h1, Nat.sub_self, List.drop_zero] at hx
        obtain ⟨d1, e1, e2⟩ := (eG T).1 f.type n _ x h3 hx
        have hlow := tyG_low F r _ _ h4
        obtain ⟨d2, e3, e4⟩ := (eG F).2 r (off + P.cellsOf f.type) tot n (cs.drop (P.cellsOf f.type)) h4 (by rw [List.length_drop]; omega) (fun i g hi => by
          obtain ⟨y, hy⟩ := hg (i + 1) g (by simpa using hi)
          have hle := hlow i g hi
          refine ⟨y, ?_⟩
          rw [List.drop_drop, show P.cellsOf f.type + (g.offset - (off + P.cellsOf f.type)) = g.offset - off by omega]
          exact hy) (fun i g hi => hlow i g hi)
        refine ⟨d1 ++ d2, ⟨d1, d2, rfl, e1, e3⟩, ?_⟩
        have := e2.app e4
        rwa [List.take_append_drop] at this⟩
where
  tyG_low : ∀ (F : Ty) (r : List Field) (off tot : Nat), f7 P F (.f r off tot) = true → ∀ (i : Nat) (g : Field), r[i]? = some g → off ≤ g.offset
  | .fcons T F, [], off, tot, h, i, g, hi => by simp at hi
  | .fcons T F, f :: r, off, tot, h, i, g, hi => by
    unfold f7 at h
    simp only [kb9] at h
    have h1 := of_decide_eq_true h.1.1.1
    cases i with
    | zero => simp at hi; subst hi; omega
    | succ j => have := tyG_low F r (off + P.cellsOf f.type) tot h.2 j g (by simpa using hi); omega
  | .fnil, [], off, tot, h, i, g, hi => by simp at hi
  | .fnil, _ :: _, off, tot, h, i, g, hi => by (unfold f7 at h; cases h)
  | .i _, _, off, tot, h, i, g, hi => by (unfold f7 at h; cases h)
  | .b, _, off, tot, h, i, g, hi => by (unfold f7 at h; cases h)
  | .s, _, off, tot, h, i, g, hi => by (unfold f7 at h; cases h)
  | .sl _, _, off, tot, h, i, g, hi => by (unfold f7 at h; cases h)
  | .st _, _, off, tot, h, i, g, hi => by (unfold f7 at h; cases h)
end
def InD (w : World) (T : Ty) (ds : List D) (v : Value) : Prop := WfD T ds ∧ All2 (RepD (fun k => k < w.heap.size) w) ds v.cells.toList
theorem InD.c {w : World} {T : Ty} {d : D} {v : Value} (h : InD w T [d] v) (hv : v.cells = #[v]) : RepE (fun k => k < w.heap.size) Rh.no w (.c (.d d)) v := by
  have h2 := h.2
  rw [hv] at h2
  exact .d (h2.1.mono (fun k hk => .inl hk) (Nat.le_refl _) fun _ _ _ => rfl)
theorem InD.agg {w : World} {T : Ty} {ds : List D} {cs : Array Value} (h : InD w T ds (.agg cs)) : RepE (fun k => k < w.heap.size) Rh.no w (.agg (ds.map .d)) (.agg cs) := by
  refine ⟨cs.toList, by simp, ?_⟩
  have h2 : All2 (RepD (fun k => k < w.heap.size) w) ds cs.toList := by simpa [Value.cells] using h.2
  clear h
  revert h2
  generalize cs.toList = l
  induction ds generalizing l with
  | nil => intro h2; cases l with
    | nil => trivial
    | cons => exact h2
  | cons d ds ih => intro h2; cases l with
    | nil => exact h2
    | cons u l => exact ⟨.d (h2.1.mono (fun k hk => .inl hk) (Nat.le_refl _) fun _ _ _ => rfl), ih l h2.2⟩
def InA (w : World) (T : Ty) (ds : List D) (v : Value) : Prop := WfD T ds ∧ RepE (fun k => k < w.heap.size) Rh.no w (.agg (ds.map .d)) v
theorem eK {α : Type} {f : α → List D} {Q : α → Prop} : ∀ (xs : List (List D)), (∀ x ∈ xs, ∃ y, x = f y ∧ Q y) → ∃ ys : List α, xs = ys.map f ∧ ∀ y ∈ ys, Q y
  | [], _ => ⟨[], rfl, fun y hy => by (cases hy)⟩
  | x :: xs, h => by
    obtain ⟨y, e, q⟩ := h x (List.mem_cons_self ..)
    obtain ⟨ys, es, qs⟩ := eK xs fun z hz => h z (List.mem_cons_of_mem _ hz)
    refine ⟨y :: ys, by rw [e, es]; rfl, fun z hz => ?_⟩
    rcases List.mem_cons.1 hz with rfl | hz
    · exact q
    · exact qs z hz
end Go.Proofs.Ytdbjebdomdnbkaa
