/- A region that draws its order, by facts, with guards whose values are known and a state of the world that depends on what has come up. No statement is proved here. -/
import Derived.Test.YtbkjhfjjkihebaaFactsG
namespace Go.Proofs.Ytbkjhfjjkihebaa
open Go.ChangeShapes Go.WideShapes Go.ChangeAt Go.RowKit
set_option linter.unusedVariables false
set_option linter.unusedSimpArgs false

/-- operation j is i or waits for it -/
def reachB (ops : List Oper) : Nat → Nat → Nat → Bool
  | 0, j, i => j == i
  | f + 1, j, i => j == i || match ops[j]? with
    | none => false
    | some o => o.after.any fun e => Region.binds .any e && reachB ops f e.on i
/-- what is up is up with all that it waits for -/
def Closed (ops : List Oper) (L : Nat → Bool) : Prop := ∀ j o, ops[j]? = some o → L j = true → ∀ e ∈ o.after, Region.binds .any e = true → L e.on = true
theorem Closed.up {ops : List Oper} {L : Nat → Bool} (h : Closed ops L) : ∀ (f j i : Nat), reachB ops f j i = true → L j = true → L i = true := by
  intro f
  induction f with
  | zero => intro j i hr hl; simp [reachB] at hr; subst hr; exact hl
  | succ f ih =>
    intro j i hr hl
    simp only [reachB, Bool.or_eq_true, beq_iff_eq] at hr
    rcases hr with hr | hr
    · subst hr; exact hl
    · cases ho : ops[j]? with
      | none => simp [ho] at hr
      | some o =>
        simp only [ho] at hr
        obtain ⟨e, he, hb⟩ := Array.any_eq_true'.1 hr
        simp only [Bool.and_eq_true] at hb
        exact ih e.on i hb.2 (h j o ho hl e he hb.1)
/-- what is asked of operation number i -/
def StepPh (P : Program) (ops : List Oper) (a0 : Act) (I : (Nat → Bool) → World → Prop) (F : Nat → Value → World → Prop) (Q : Exit → Act → World → Prop) (i : Nat) (o : Oper) : Prop :=
  ∀ (a : Act) (w : World) (L : Nat → Bool), a.tmps.size = a0.tmps.size → a.defers = a0.defers → (∀ t, farSlot ops t = true → a.tmps[t]? = a0.tmps[t]?) → I L w →
    (∀ j, reachB ops 20 j i = true → L j = false) →
    (∀ j, reachB ops 20 i j = true → (j == i) = false → L j = true) →
    (∀ j, reachB ops 20 i j = true → (j == i) = false → ∀ oe, ops[j]? = some oe → F j (slotOf a oe) w) →
    ∀ K : Act → World → Prop, (∀ v w', I (fun j => if j = i then true else L j) w' → F i (if o.dst.isSome then v else undef) w' → (∀ j, j ≠ i → L j = true → ∀ u, F j u w → F j u w') → K (a.put o.dst v) w') → o.wp P a w K Q
def StepGP (P : Program) (val : Nat → Option Bool) (ops : List Oper) (a0 : Act) (I : (Nat → Bool) → World → Prop) (F : Nat → Value → World → Prop) (Q : Exit → Act → World → Prop) (i : Nat) (o : Oper) : Prop :=
  if wantedBy val o = true then StepPh P ops a0 I F Q i o else ∀ L w, I L w → I (fun j => if j = i then true else L j) w ∧ F i undef w
def StepsGP (P : Program) (val : Nat → Option Bool) (ops : List Oper) (a0 : Act) (I : (Nat → Bool) → World → Prop) (F : Nat → Value → World → Prop) (Q : Exit → Act → World → Prop) : Nat → List Oper → Prop
  | _, [] => True
  | k, o :: l => StepGP P val ops a0 I F Q k o ∧ StepsGP P val ops a0 I F Q (k + 1) l
theorem stepsGP_get {P : Program} {val : Nat → Option Bool} {ops : List Oper} {a0 : Act} {I : (Nat → Bool) → World → Prop} {F : Nat → Value → World → Prop} {Q : Exit → Act → World → Prop} :
    ∀ (l : List Oper) (k : Nat), StepsGP P val ops a0 I F Q k l → ∀ i o, l[i]? = some o → StepGP P val ops a0 I F Q (k + i) o := by
  intro l
  induction l with
  | nil => intro k _ i o h; simp at h
  | cons x l ih =>
    intro k h i o hi
    cases i with
    | zero => simp at hi; subst hi; exact h.1
    | succ i => have := ih (k + 1) h.2 i o (by simpa using hi); rw [show k + (i + 1) = k + 1 + i by omega]; exact this
structure PInv (ops : List Oper) (a0 : Act) (I : (Nat → Bool) → World → Prop) (F : Nat → Value → World → Prop) (listed : Array Bool) (a : Act) (w : World) : Prop where
  size : a.tmps.size = a0.tmps.size
  defers : a.defers = a0.defers
  far : ∀ t, farSlot ops t = true → a.tmps[t]? = a0.tmps[t]?
  inv : I (fun j => listed.getD j false) w
  closed : Closed ops (fun j => listed.getD j false)
  facts : ∀ j o, ops[j]? = some o → listed.getD j false = true → F j (slotOf a o) w
theorem getD_set_fun {l : Array Bool} {i : Nat} (h : i < l.size) : (fun j => (l.setIfInBounds i true).getD j false) = fun j => if j = i then true else l.getD j false := by
  funext j
  by_cases hj : j = i
  · subst hj; rw [if_pos rfl, getD_set_same h]
  · rw [if_neg hj, getD_set_other (Ne.symm hj)]

theorem wp_any_factsP {P : Program} {val : Nat → Option Bool} {ops : List Oper} {a0 : Act} {I : (Nat → Bool) → World → Prop} {F : Nat → Value → World → Prop} {Q : Exit → Act → World → Prop}
    (hp : guardOps ops = true) (hd : ∀ o ∈ ops, ∀ t, o.dst = some t → t < a0.tmps.size)
    (hval : ∀ g b, val g = some b → ∀ u w, F g u w → u = .bool b) (hval2 : ∀ g o o' b, ops[g]? = some o → o' ∈ ops → o'.guard = some (g, b) → val g = none → ∀ u w, F g u w → ∀ b, u ≠ .bool b)
    (hstep : StepsGP P val ops a0 I F Q 0 ops)
    (hend : ∀ a w L, a.tmps.size = a0.tmps.size → a.defers = a0.defers → (∀ t, farSlot ops t = true → a.tmps[t]? = a0.tmps[t]?) → (∀ j, j < ops.length → L j = true) → I L w → (∀ j o, ops[j]? = some o → F j (slotOf a o) w) → Q .normal a w) :
    ∀ (fuel : Nat) (listed : Array Bool) (a : Act) (w : World), listed.size = ops.length → listed.toList.countP (!·) ≤ fuel → PInv ops a0 I F listed a w → wpAny P .any ops.toArray Q fuel listed a w := by
  intro fuel
  have fin : ∀ (listed : Array Bool) (a : Act) (w : World), listed.size = ops.length → PInv ops a0 I F listed a w → Region.ready .any ops.toArray listed = [] → Q .normal a w := by
    intro listed a w hs h hr
    exact hend a w _ h.size h.defers h.far (all_listedG hp hs hr) h.inv fun j o hj => h.facts j o hj (all_listedG hp hs hr j (List.getElem?_eq_some_iff.1 hj).1)
  induction fuel with
  | zero =>
    intro listed a w hs hc h
    have hall : ∀ b ∈ listed.toList, b = true := by
      intro b hb
      cases b with
      | true => rfl
      | false => have : 0 < listed.toList.countP (!·) := List.countP_pos_iff.2 ⟨false, hb, rfl⟩; omega
    have hr : Region.ready .any ops.toArray listed = [] := by
      cases hrr : Region.ready .any ops.toArray listed with
      | nil => rfl
      | cons x xs =>
        exfalso
        have hx : x ∈ Region.ready .any ops.toArray listed := by rw [hrr]; exact List.mem_cons_self ..
        obtain ⟨h1, o, h2, _⟩ := mem_ready.1 hx
        have hx2 : x < listed.size := by rw [hs]; simpa using (Array.getElem?_eq_some_iff.1 h2).1
        have := hall listed[x] (by simp)
        simp [Array.getD_eq_getD_getElem?, hx2, this] at h1
    exact ⟨hr, fin listed a w hs h hr⟩
  | succ fuel ih =>
    intro listed a w hs hc h
    refine ⟨fin listed a w hs h, fun i hi => ?_⟩
    obtain ⟨h1, o, h2, h3⟩ := mem_ready.1 hi
    have hil : i < ops.length := by simpa using (Array.getElem?_eq_some_iff.1 h2).1
    have hils : i < listed.size := by omega
    have ho : ops[i]? = some o := by simpa using h2
    have hom : o ∈ ops := List.mem_of_getElem? ho
    have h1f : listed.getD i false = false := by
      simp [Array.getD_eq_getD_getElem?, hils] at h1 ⊢
      exact h1
    have hclosed : Closed ops (fun j => (listed.setIfInBounds i true).getD j false) := by
      rw [getD_set_fun hils]
      intro j oj hj hl e he hb
      have hl : (if j = i then true else listed.getD j false) = true := hl
      show (if e.on = i then true else listed.getD e.on false) = true
      by_cases hei : e.on = i
      · rw [if_pos hei]
      · rw [if_neg hei]
        by_cases hji : j = i
        · subst hji
          have : oj = o := by rw [hj] at ho; exact Option.some.inj ho
          subst this
          exact h3 e (by simpa using he) hb
        · rw [if_neg hji] at hl
          exact h.closed j oj hj hl e he hb
    have hup : ∀ j, reachB ops 20 i j = true → (j == i) = false → listed.getD j false = true := by
      intro j hr hne
      have h9 : (listed.setIfInBounds i true).getD j false = true := hclosed.up 20 i j hr (getD_set_same hils _ _)
      have hj : ¬ j = i := by simpa using hne
      rwa [getD_set_other (Ne.symm hj)] at h9
    have hno : ∀ j, reachB ops 20 j i = true → listed.getD j false = false := by
      intro j hr
      cases hl : listed.getD j false with
      | false => rfl
      | true => have := h.closed.up 20 j i hr hl; rw [h1f] at this; cases this
    have hpi := hp
    unfold guardOps at hpi
    rw [List.all_eq_true] at hpi
    have hpo := hpi i (List.mem_range.2 hil)
    simp only [ho, Bool.and_eq_true] at hpo
    have hstep' := stepsGP_get ops 0 hstep i o ho
    rw [Nat.zero_add] at hstep'
    have hnext : ∀ (v : Value) (w' : World), I (fun j => if j = i then true else listed.getD j false) w' → F i (if o.dst.isSome then v else undef) w' → (∀ j, j ≠ i → listed.getD j false = true → ∀ u, F j u w → F j u w') → wpAny P .any ops.toArray Q fuel (listed.setIfInBounds i true) (a.put o.dst v) w' := by
      intro v w' hI hF hkeep
      refine ih _ _ _ (by simpa using hs) ?_ ⟨?_, ?_, ?_, ?_, hclosed, ?_⟩
      · have hlf : listed[i] = false := by simpa [Array.getD_eq_getD_getElem?, hils] using h1
        have hpos : 0 < listed.toList.countP (!·) := List.countP_pos_iff.2 ⟨false, by rw [← hlf]; simp, rfl⟩
        rw [Array.toList_setIfInBounds, List.countP_set (by simpa using hils)]
        simp only [Array.getElem_toList, hlf]
        have e : ∀ n : Nat, n - (if (!false) = true then 1 else 0) + (if (!true) = true then 1 else 0) ≤ fuel ↔ n - 1 ≤ fuel := fun n => by simp
        rw [e]
        omega
      · have : (a.put o.dst v).tmps.size = a.tmps.size := by unfold Act.put; cases o.dst <;> simp
        rw [this]; exact h.size
      · have : (a.put o.dst v).defers = a.defers := by unfold Act.put; cases o.dst <;> simp
        rw [this]; exact h.defers
      · intro t ht
        rw [← h.far t ht]
        unfold farSlot at ht
        rw [List.all_eq_true] at ht
        have := ht o hom
        unfold Act.put
        cases hdd : o.dst with
        | none => rfl
        | some t' =>
          have hne : t' ≠ t := by intro e; subst e; simp [hdd] at this
          simp [Array.getElem?_setIfInBounds_ne hne]
      · rw [getD_set_fun hils]; exact hI
      · intro j oj hj hl
        by_cases hji : j = i
        · subst hji
          have : oj = o := by rw [hj] at ho; exact Option.some.inj ho
          subst this
          rw [slot_put_same (fun t ht => by rw [h.size]; exact hd _ hom t ht)]
          exact hF
        · rw [getD_set_other (Ne.symm hji)] at hl
          have hjl : j < ops.length := (List.getElem?_eq_some_iff.1 hj).1
          have hdist := hpo.2
          rw [List.all_eq_true] at hdist
          have hdj := hdist j (List.mem_range.2 hjl)
          simp only [hj] at hdj
          rw [slot_put_other (by
            have hij : ¬ (i == j) = true := by simp; exact fun e => hji e.symm
            cases hdd : o.dst with
            | none => exact .inl rfl
            | some t => right; intro e; simp [hij, hdd] at hdj; exact hdj e)]
          exact hkeep j hji hl _ (h.facts j oj hj hl)
    have hw : Region.wanted o (yielded ops.toArray a.tmps) = wantedBy val o := by
      unfold Region.wanted wantedBy
      cases hgd : o.guard with
      | none => rfl
      | some gb =>
        obtain ⟨g, b⟩ := gb
        have hgo := hpo.1.1
        simp only [hgd, Bool.and_eq_true] at hgo
        obtain ⟨he, hdst⟩ := hgo
        simp only [Array.any_eq_true'] at he
        obtain ⟨e, hem, heq⟩ := he
        simp only [Bool.and_eq_true, beq_iff_eq] at heq
        obtain ⟨heg, hbd⟩ := heq
        cases hog : ops[g]? with
        | none => simp [hog] at hdst
        | some og =>
          simp only [hog] at hdst
          obtain ⟨t, ht⟩ := Option.isSome_iff_exists.1 hdst
          have hlist := h3 e (by simpa using hem) hbd
          rw [heg] at hlist
          have hF := h.facts g og hog hlist
          have hts := hd og (List.mem_of_getElem? hog) t ht
          show (yielded ops.toArray a.tmps g == some b) = (val g == some b)
          rw [yields_val hog ht (by rw [h.size]; exact hts) (fun b hb => hval g b hb _ _ hF) (fun hn => hval2 g og o b hog hom hgd hn _ _ hF)]
    refine wpOp_step h2 fun K' hK => ?_
    rw [hw]
    unfold StepGP at hstep'
    by_cases hwb : wantedBy val o = true
    · rw [if_pos hwb]
      rw [if_pos hwb] at hstep'
      exact hstep' a w _ h.size h.defers h.far h.inv hno hup (fun j hr hne oe hoe => h.facts j oe hoe (hup j hr hne)) K' (fun v w' h1 h2 h3 => hK _ _ (hnext v w' h1 h2 h3))
    · rw [if_neg hwb]
      rw [if_neg hwb] at hstep'
      have hu := hstep' _ w h.inv
      exact hK _ _ (hnext undef w hu.1 (by have := hu.2; cases o.dst <;> simpa using this) (fun j _ _ u hf => hf))

theorem wp_region_factsP {P : Program} {ops : List Oper} {id : Nat} {a0 : Act} {w0 : World} {Q : Exit → Act → World → Prop} (val : Nat → Option Bool) (I : (Nat → Bool) → World → Prop) (F : Nat → Value → World → Prop)
    (hm : P.follows .mixedOrders = true) (hp : guardOps ops = true) (hd : (ops.all fun o => match o.dst with | some t => decide (t < a0.tmps.size) | none => true) = true) (hI : I (fun _ => false) w0.drew)
    (hval : ∀ g b, val g = some b → ∀ u w, F g u w → u = .bool b) (hgv : (ops.all fun o => match o.guard with | some (g, _) => (val g).isSome | none => true) = true)
    (hstep : StepsGP P val ops a0 I F Q 0 ops)
    (hend : ∀ a w L, a.tmps.size = a0.tmps.size → a.defers = a0.defers → (∀ t, farSlot ops t = true → a.tmps[t]? = a0.tmps[t]?) → (∀ j, j < ops.length → L j = true) → I L w → (∀ j o, ops[j]? = some o → F j (slotOf a o) w) → Q .normal a w) :
    (Code.region id ops.toArray true).wp P Q a0 w0 := by
  refine wp_region_any hm (wp_any_factsP (I := I) (F := F) (val := val) hp ?_ hval ?_ hstep hend _ _ _ _ (by simp) ?_ ⟨rfl, rfl, fun _ _ => rfl, ?_, ?_, ?_⟩)
  · intro o ho t ht
    rw [List.all_eq_true] at hd
    have := hd o ho
    simpa [ht] using this
  · intro g o o' b _ hom hg hn
    rw [List.all_eq_true] at hgv
    have := hgv o' hom
    simp [hg, hn] at this
  · have := List.countP_le_length (p := fun b : Bool => !b) (l := (Array.replicate ops.toArray.size false).toList)
    simpa using this
  · have e : (fun j => (Array.replicate ops.toArray.size false).getD j false) = fun _ => false := by
      funext j
      by_cases hj : j < ops.length <;> simp [Array.getD_eq_getD_getElem?, hj]
    rw [e]; exact hI
  · intro j o hj hl
    have hjl : j < ops.length := (List.getElem?_eq_some_iff.1 hj).1
    simp [Array.getD_eq_getD_getElem?, hjl] at hl
  · intro j o hj hl
    have hjl : j < ops.length := (List.getElem?_eq_some_iff.1 hj).1
    simp [Array.getD_eq_getD_getElem?, hjl] at hl
/-- the frame behind the region: each operation's value in its place -/
def putVals : List Oper → List Value → Array Value → Array Value
  | o :: ops, v :: vs, m => putVals ops vs (match o.dst with | some t => m.setIfInBounds t v | none => m)
  | _, _, m => m
theorem putVals_eq (a : Act) : ∀ (ops : List Oper) (m : Array Value), m.size = a.tmps.size → (∀ t, farSlot ops t = true → a.tmps[t]? = m[t]?) → (∀ o ∈ ops, ∀ t, o.dst = some t → t < a.tmps.size) → a.tmps = putVals ops (ops.map (slotOf a)) m := by
  intro ops
  induction ops with
  | nil => intro m hs hf _; exact Array.ext_getElem? fun i => hf i rfl
  | cons o ops ih =>
    intro m hs hf hd
    rw [List.map_cons, putVals]
    refine ih _ ?_ ?_ (fun o' ho' => hd o' (List.mem_cons_of_mem _ ho'))
    · cases o.dst <;> simp [hs]
    · intro t ht
      cases hdd : o.dst with
      | none =>
        simp only []
        refine hf t ?_
        unfold farSlot at ht ⊢
        simpa [hdd] using ht
      | some t' =>
        have hlt := hd o (List.mem_cons_self ..) t' hdd
        by_cases e : t' = t
        · subst e
          have e1 : slotOf a o = a.tmps[t'] := by unfold slotOf; rw [hdd]; simp [Array.getD_eq_getD_getElem?, hlt]
          simp only [e1]
          rw [Array.getElem?_setIfInBounds_self_of_lt (by rw [hs]; exact hlt)]
          simp [hlt]
        · simp only []
          rw [Array.getElem?_setIfInBounds_ne e]
          refine hf t ?_
          unfold farSlot at ht ⊢
          rw [List.all_cons, Bool.and_eq_true]
          refine ⟨?_, ht⟩
          rw [hdd]
          simp [e]
theorem wp_region_factsQ {P : Program} {ops : List Oper} {id : Nat} {a0 : Act} {w0 : World} {Q : Exit → Act → World → Prop} (val : Nat → Option Bool) (I : (Nat → Bool) → World → Prop) (F : Nat → Value → World → Prop)
    (hm : P.follows .mixedOrders = true) (hp : guardOps ops = true) (hd : (ops.all fun o => match o.dst with | some t => decide (t < a0.tmps.size) | none => true) = true) (hI : I (fun _ => false) w0.drew)
    (hval : ∀ g b, val g = some b → ∀ u w, F g u w → u = .bool b) (hgv : (ops.all fun o => match o.guard with | some (g, _) => (val g).isSome | none => true) = true)
    (hstep : StepsGP P val ops a0 I F Q 0 ops)
    (hend : ∀ vs w L, vs.length = ops.length → (∀ j, j < ops.length → L j = true) → I L w → (∀ j, j < ops.length → F j (vs.getD j undef) w) → Q .normal ⟨putVals ops vs a0.tmps, a0.defers⟩ w) :
    (Code.region id ops.toArray true).wp P Q a0 w0 := by
  refine wp_region_factsP val I F hm hp hd hI hval hgv hstep fun a w L hs hdf hfar hall hI hF => ?_
  have he := putVals_eq a ops a0.tmps hs.symm hfar (by
    intro o ho t ht
    rw [List.all_eq_true] at hd
    have := hd o ho
    rw [hs]
    simpa [ht] using this)
  have h := hend (ops.map (slotOf a)) w L (by simp) hall hI (fun j hj => by
    have := hF j _ (List.getElem?_eq_getElem hj)
    simpa [List.getD_eq_getElem?_getD, hj] using this)
  rw [← he, ← hdf] at h
  exact h
theorem list_open {α : Type} {n : Nat} {l : List α} (h : l.length = n + 1) : ∃ v t, l = v :: t ∧ t.length = n := by
  cases l with
  | nil => simp at h
  | cons v t => exact ⟨v, t, rfl, by simpa using h⟩
/-- the world's state by how many of the writing operations ws have come up -/
def phN (ws : List Nat) (A : Nat → World → Prop) (L : Nat → Bool) (w : World) : Prop := A (ws.countP L) w
theorem phN_keep {ws : List Nat} {A : Nat → World → Prop} {L : Nat → Bool} {w : World} {i : Nat} (hi : ws.contains i = false) (h : phN ws A L w) : phN ws A (fun j => if j = i then true else L j) w := by
  unfold phN at *
  rw [List.countP_congr (q := L)]
  · exact h
  · intro x hx
    have : x ≠ i := by intro e; subst e; simp at hi; exact hi hx
    simp [this]
theorem phN_get {ws : List Nat} {A : Nat → World → Prop} {L : Nat → Bool} {w : World} (k : Nat) (hk : ws.countP L = k) (h : phN ws A L w) : A k w := by
  unfold phN at h; rw [hk] at h; exact h
theorem phN_put {ws : List Nat} {A : Nat → World → Prop} {L : Nat → Bool} {w : World} (k : Nat) (hk : ws.countP L = k) (h : A k w) : phN ws A L w := by
  unfold phN; rw [hk]; exact h
theorem tmp_get {a : Act} {t : Tmp} {v : Value} (h : a.eval (.tmp t) = v) (ht : t < a.tmps.size) : a.tmps[t] = v := by
  rw [← h]; simp [Act.eval, ht]
end Go.Proofs.Ytbkjhfjjkihebaa
