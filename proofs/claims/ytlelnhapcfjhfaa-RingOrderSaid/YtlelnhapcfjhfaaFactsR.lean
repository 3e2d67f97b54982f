/- A region that draws its order, by facts that may turn as the region goes on. No statement is proved here. -/
import Derived.Test.YtlelnhapcfjhfaaFactsP
namespace Go.Proofs.Ytlelnhapcfjhfaa
open Go.ChangeShapes Go.WideShapes Go.ChangeAt Go.RowKit
set_option linter.unusedVariables false
set_option linter.unusedSimpArgs false

/-- what is asked of operation number i -/
def StepPhR (P : Program) (ops : List Oper) (a0 : Act) (I : (Nat → Bool) → World → Prop) (F : (Nat → Bool) → Nat → Value → World → Prop) (Q : Exit → Act → World → Prop) (i : Nat) (o : Oper) : Prop :=
  ∀ (a : Act) (w : World) (L : Nat → Bool), a.tmps.size = a0.tmps.size → a.defers = a0.defers → (∀ t, farSlot ops t = true → a.tmps[t]? = a0.tmps[t]?) → (∀ j oj t, ops[j]? = some oj → oj.dst = some t → L j = false → a.tmps[t]? = a0.tmps[t]?) → I L w →
    (∀ j, reachB ops 20 j i = true → L j = false) →
    (∀ j, reachB ops 20 i j = true → (j == i) = false → L j = true) →
    (∀ j, reachB ops 20 i j = true → (j == i) = false → ∀ oe, ops[j]? = some oe → F L j (slotOf a oe) w) →
    ∀ K : Act → World → Prop, (∀ v w', I (fun j => if j = i then true else L j) w' → F (fun j => if j = i then true else L j) i (if o.dst.isSome then v else undef) w' → (∀ j oj, ops[j]? = some oj → j ≠ i → L j = true → F L j (slotOf a oj) w → F (fun j => if j = i then true else L j) j (slotOf a oj) w') → K (a.put o.dst v) w') → o.wp P a w K Q
def StepGPR (P : Program) (val : Nat → Option Bool) (ops : List Oper) (a0 : Act) (I : (Nat → Bool) → World → Prop) (F : (Nat → Bool) → Nat → Value → World → Prop) (Q : Exit → Act → World → Prop) (i : Nat) (o : Oper) : Prop :=
  if wantedBy val o = true then StepPhR P ops a0 I F Q i o else ∀ L w, I L w → I (fun j => if j = i then true else L j) w ∧ F (fun j => if j = i then true else L j) i undef w ∧ ∀ j u, j ≠ i → L j = true → F L j u w → F (fun j => if j = i then true else L j) j u w
def StepsGPR (P : Program) (val : Nat → Option Bool) (ops : List Oper) (a0 : Act) (I : (Nat → Bool) → World → Prop) (F : (Nat → Bool) → Nat → Value → World → Prop) (Q : Exit → Act → World → Prop) : Nat → List Oper → Prop
  | _, [] => True
  | k, o :: l => StepGPR P val ops a0 I F Q k o ∧ StepsGPR P val ops a0 I F Q (k + 1) l
theorem stepsGPR_get {P : Program} {val : Nat → Option Bool} {ops : List Oper} {a0 : Act} {I : (Nat → Bool) → World → Prop} {F : (Nat → Bool) → Nat → Value → World → Prop} {Q : Exit → Act → World → Prop} :
    ∀ (l : List Oper) (k : Nat), StepsGPR P val ops a0 I F Q k l → ∀ i o, l[i]? = some o → StepGPR P val ops a0 I F Q (k + i) o := by
  intro l
  induction l with
  | nil => intro k _ i o h; simp at h
  | cons x l ih =>
    intro k h i o hi
    cases i with
    | zero => simp at hi; subst hi; exact h.1
    | succ i => have := ih (k + 1) h.2 i o (by simpa using hi); rw [show k + (i + 1) = k + 1 + i by omega]; exact this
structure RPInv (ops : List Oper) (a0 : Act) (I : (Nat → Bool) → World → Prop) (F : (Nat → Bool) → Nat → Value → World → Prop) (listed : Array Bool) (a : Act) (w : World) : Prop where
  size : a.tmps.size = a0.tmps.size
  defers : a.defers = a0.defers
  far : ∀ t, farSlot ops t = true → a.tmps[t]? = a0.tmps[t]?
  old : ∀ j oj t, ops[j]? = some oj → oj.dst = some t → listed.getD j false = false → a.tmps[t]? = a0.tmps[t]?
  inv : I (fun j => listed.getD j false) w
  closed : Closed ops (fun j => listed.getD j false)
  facts : ∀ j o, ops[j]? = some o → listed.getD j false = true → F (fun j => listed.getD j false) j (slotOf a o) w
theorem wp_any_factsR {P : Program} {val : Nat → Option Bool} {ops : List Oper} {a0 : Act} {I : (Nat → Bool) → World → Prop} {F : (Nat → Bool) → Nat → Value → World → Prop} {Q : Exit → Act → World → Prop}
    (hp : guardOps ops = true) (hd : ∀ o ∈ ops, ∀ t, o.dst = some t → t < a0.tmps.size)
    (hval : ∀ g b, val g = some b → ∀ L u w, F L g u w → u = .bool b) (hval2 : ∀ g o o' b, ops[g]? = some o → o' ∈ ops → o'.guard = some (g, b) → val g = none → ∀ L u w, F L g u w → ∀ b, u ≠ .bool b)
    (hstep : StepsGPR P val ops a0 I F Q 0 ops)
    (hend : ∀ a w L, a.tmps.size = a0.tmps.size → a.defers = a0.defers → (∀ t, farSlot ops t = true → a.tmps[t]? = a0.tmps[t]?) → (∀ j, j < ops.length → L j = true) → I L w → (∀ j o, ops[j]? = some o → F L j (slotOf a o) w) → Q .normal a w) :
    ∀ (fuel : Nat) (listed : Array Bool) (a : Act) (w : World), listed.size = ops.length → listed.toList.countP (!·) ≤ fuel → RPInv ops a0 I F listed a w → wpAny P .any ops.toArray Q fuel listed a w := by
  intro fuel
  have fin : ∀ (listed : Array Bool) (a : Act) (w : World), listed.size = ops.length → RPInv ops a0 I F listed a w → Region.ready .any ops.toArray listed = [] → Q .normal a w := by
    intro listed a w hs h hr
    exact hend a w _ h.size h.defers h.far (all_listedG hp hs hr) h.inv fun j o hj => h.facts j o hj (all_listedG hp hs hr j (List.getElem?_eq_some_iff.1 hj).1)
  induction fuel with
  | zero =>
    intro listed a w hs hc h
    have hall : ∀ b ∈ listed.toList, b = true := by
      intro b hb
      cases b with
      | true => rfl
      | false => have : 0 < listed.toList.countP (!·) := List.countP_pos_iff.2 ⟨false, hb, rfl⟩; omega
    have hr : Region.ready .any ops.toArray listed = [] := by
      cases hrr : Region.ready .any ops.toArray listed with
      | nil => rfl
      | cons x xs =>
        exfalso
        have hx : x ∈ Region.ready .any ops.toArray listed := by rw [hrr]; exact List.mem_cons_self ..
        obtain ⟨h1, o, h2, _⟩ := mem_ready.1 hx
        have hx2 : x < listed.size := by rw [hs]; simpa using (Array.getElem?_eq_some_iff.1 h2).1
        have := hall listed[x] (by simp)
        simp [Array.getD_eq_getD_getElem?, hx2, this] at h1
    exact ⟨hr, fin listed a w hs h hr⟩
  | succ fuel ih =>
    intro listed a w hs hc h
    refine ⟨fin listed a w hs h, fun i hi => ?_⟩
    obtain ⟨h1, o, h2, h3⟩ := mem_ready.1 hi
    have hil : i < ops.length := by simpa using (Array.getElem?_eq_some_iff.1 h2).1
    have hils : i < listed.size := by omega
    have ho : ops[i]? = some o := by simpa using h2
    have hom : o ∈ ops := List.mem_of_getElem? ho
    have h1f : listed.getD i false = false := by
      simp [Array.getD_eq_getD_getElem?, hils] at h1 ⊢
      exact h1
    have hclosed : Closed ops (fun j => (listed.setIfInBounds i true).getD j false) := by
      rw [getD_set_fun hils]
      intro j oj hj hl e he hb
      have hl : (if j = i then true else listed.getD j false) = true := hl
      show (if e.on = i then true else listed.getD e.on false) = true
      by_cases hei : e.on = i
      · rw [if_pos hei]
      · rw [if_neg hei]
        by_cases hji : j = i
        · subst hji
          have : oj = o := by rw [hj] at ho; exact Option.some.inj ho
          subst this
          exact h3 e (by simpa using he) hb
        · rw [if_neg hji] at hl
          exact h.closed j oj hj hl e he hb
    have hup : ∀ j, reachB ops 20 i j = true → (j == i) = false → listed.getD j false = true := by
      intro j hr hne
      have h9 : (listed.setIfInBounds i true).getD j false = true := hclosed.up 20 i j hr (getD_set_same hils _ _)
      have hj : ¬ j = i := by simpa using hne
      rwa [getD_set_other (Ne.symm hj)] at h9
    have hno : ∀ j, reachB ops 20 j i = true → listed.getD j false = false := by
      intro j hr
      cases hl : listed.getD j false with
      | false => rfl
      | true => have := h.closed.up 20 j i hr hl; rw [h1f] at this; cases this
    have hpi := hp
    unfold guardOps at hpi
    rw [List.all_eq_true] at hpi
    have hpo := hpi i (List.mem_range.2 hil)
    simp only [ho, Bool.and_eq_true] at hpo
    have hstep' := stepsGPR_get ops 0 hstep i o ho
    rw [Nat.zero_add] at hstep'
    have hnext : ∀ (v : Value) (w' : World), I (fun j => if j = i then true else listed.getD j false) w' → F (fun j => if j = i then true else listed.getD j false) i (if o.dst.isSome then v else undef) w' → (∀ j oj, ops[j]? = some oj → j ≠ i → listed.getD j false = true → F (fun j => listed.getD j false) j (slotOf a oj) w → F (fun j => if j = i then true else listed.getD j false) j (slotOf a oj) w') → wpAny P .any ops.toArray Q fuel (listed.setIfInBounds i true) (a.put o.dst v) w' := by
      intro v w' hI hF hkeep
      refine ih _ _ _ (by simpa using hs) ?_ ⟨?_, ?_, ?_, ?_, ?_, hclosed, ?_⟩
      · have hlf : listed[i] = false := by simpa [Array.getD_eq_getD_getElem?, hils] using h1
        have hpos : 0 < listed.toList.countP (!·) := List.countP_pos_iff.2 ⟨false, by rw [← hlf]; simp, rfl⟩
        rw [Array.toList_setIfInBounds, List.countP_set (by simpa using hils)]
        simp only [Array.getElem_toList, hlf]
        have e : ∀ n : Nat, n - (if (!false) = true then 1 else 0) + (if (!true) = true then 1 else 0) ≤ fuel ↔ n - 1 ≤ fuel := fun n => by simp
        rw [e]
        omega
      · have : (a.put o.dst v).tmps.size = a.tmps.size := by unfold Act.put; cases o.dst <;> simp
        rw [this]; exact h.size
      · have : (a.put o.dst v).defers = a.defers := by unfold Act.put; cases o.dst <;> simp
        rw [this]; exact h.defers
      · intro t ht
        rw [← h.far t ht]
        unfold farSlot at ht
        rw [List.all_eq_true] at ht
        have := ht o hom
        unfold Act.put
        cases hdd : o.dst with
        | none => rfl
        | some t' =>
          have hne : t' ≠ t := by intro e; subst e; simp [hdd] at this
          simp [Array.getElem?_setIfInBounds_ne hne]
      · intro j oj t hj hjd hl
        have hji : j ≠ i := by
          intro e; subst e
          rw [getD_set_same hils] at hl; cases hl
        rw [getD_set_other (Ne.symm hji)] at hl
        rw [← h.old j oj t hj hjd hl]
        have hjl : j < ops.length := (List.getElem?_eq_some_iff.1 hj).1
        have hdist := hpo.2
        rw [List.all_eq_true] at hdist
        have hdj := hdist j (List.mem_range.2 hjl)
        simp only [hj] at hdj
        unfold Act.put
        cases hdd : o.dst with
        | none => rfl
        | some t' =>
          have hne : t' ≠ t := by
            intro e
            have hij : ¬ (i == j) = true := by simp; exact fun e => hji e.symm
            simp [hij, hdd, hjd] at hdj
            exact hdj e
          simp [Array.getElem?_setIfInBounds_ne hne]
      · rw [getD_set_fun hils]; exact hI
      · rw [getD_set_fun hils]
        intro j oj hj hl
        by_cases hji : j = i
        · subst hji
          have : oj = o := by rw [hj] at ho; exact Option.some.inj ho
          subst this
          rw [slot_put_same (fun t ht => by rw [h.size]; exact hd _ hom t ht)]
          exact hF
        · rw [getD_set_other (Ne.symm hji)] at hl
          have hjl : j < ops.length := (List.getElem?_eq_some_iff.1 hj).1
          have hdist := hpo.2
          rw [List.all_eq_true] at hdist
          have hdj := hdist j (List.mem_range.2 hjl)
          simp only [hj] at hdj
          rw [slot_put_other (by
            have hij : ¬ (i == j) = true := by simp; exact fun e => hji e.symm
            cases hdd : o.dst with
            | none => exact .inl rfl
            | some t => right; intro e; simp [hij, hdd] at hdj; exact hdj e)]
          exact hkeep j oj hj hji hl (h.facts j oj hj hl)
    have hw : Region.wanted o (yielded ops.toArray a.tmps) = wantedBy val o := by
      unfold Region.wanted wantedBy
      cases hgd : o.guard with
      | none => rfl
      | some gb =>
        obtain ⟨g, b⟩ := gb
        have hgo := hpo.1.1
        simp only [hgd, Bool.and_eq_true] at hgo
        obtain ⟨he, hdst⟩ := hgo
        simp only [Array.any_eq_true'] at he
        obtain ⟨e, hem, heq⟩ := he
        simp only [Bool.and_eq_true, beq_iff_eq] at heq
        obtain ⟨heg, hbd⟩ := heq
        cases hog : ops[g]? with
        | none => simp [hog] at hdst
        | some og =>
          simp only [hog] at hdst
          obtain ⟨t, ht⟩ := Option.isSome_iff_exists.1 hdst
          have hlist := h3 e (by simpa using hem) hbd
          rw [heg] at hlist
          have hF := h.facts g og hog hlist
          have hts := hd og (List.mem_of_getElem? hog) t ht
          show (yielded ops.toArray a.tmps g == some b) = (val g == some b)
          rw [yields_val hog ht (by rw [h.size]; exact hts) (fun b hb => hval g b hb _ _ _ hF) (fun hn => hval2 g og o b hog hom hgd hn _ _ _ hF)]
    refine wpOp_step h2 fun K' hK => ?_
    rw [hw]
    unfold StepGPR at hstep'
    by_cases hwb : wantedBy val o = true
    · rw [if_pos hwb]
      rw [if_pos hwb] at hstep'
      exact hstep' a w _ h.size h.defers h.far h.old h.inv hno hup (fun j hr hne oe hoe => h.facts j oe hoe (hup j hr hne)) K' (fun v w' h1 h2 h3 => hK _ _ (hnext v w' h1 h2 h3))
    · rw [if_neg hwb]
      rw [if_neg hwb] at hstep'
      have hu := hstep' _ w h.inv
      exact hK _ _ (hnext undef w hu.1 (by have := hu.2.1; cases o.dst <;> simpa using this) (fun j oj _ hji hl hf => hu.2.2 j _ hji hl hf))

theorem wp_region_factsRP {P : Program} {ops : List Oper} {id : Nat} {a0 : Act} {w0 : World} {Q : Exit → Act → World → Prop} (val : Nat → Option Bool) (I : (Nat → Bool) → World → Prop) (F : (Nat → Bool) → Nat → Value → World → Prop)
    (hm : P.follows .mixedOrders = true) (hp : guardOps ops = true) (hd : (ops.all fun o => match o.dst with | some t => decide (t < a0.tmps.size) | none => true) = true) (hI : I (fun _ => false) w0.drew)
    (hval : ∀ g b, val g = some b → ∀ L u w, F L g u w → u = .bool b) (hgv : (ops.all fun o => match o.guard with | some (g, _) => (val g).isSome | none => true) = true)
    (hstep : StepsGPR P val ops a0 I F Q 0 ops)
    (hend : ∀ a w L, a.tmps.size = a0.tmps.size → a.defers = a0.defers → (∀ t, farSlot ops t = true → a.tmps[t]? = a0.tmps[t]?) → (∀ j, j < ops.length → L j = true) → I L w → (∀ j o, ops[j]? = some o → F L j (slotOf a o) w) → Q .normal a w) :
    (Code.region id ops.toArray true).wp P Q a0 w0 := by
  refine wp_region_any hm (wp_any_factsR (I := I) (F := F) (val := val) hp ?_ hval ?_ hstep hend _ _ _ _ (by simp) ?_ ⟨rfl, rfl, fun _ _ => rfl, fun _ _ _ _ _ _ => rfl, ?_, ?_, ?_⟩)
  · intro o ho t ht
    rw [List.all_eq_true] at hd
    have := hd o ho
    simpa [ht] using this
  · intro g o o' b _ hom hg hn
    rw [List.all_eq_true] at hgv
    have := hgv o' hom
    simp [hg, hn] at this
  · have := List.countP_le_length (p := fun b : Bool => !b) (l := (Array.replicate ops.toArray.size false).toList)
    simpa using this
  · have e : (fun j => (Array.replicate ops.toArray.size false).getD j false) = fun _ => false := by
      funext j
      by_cases hj : j < ops.length <;> simp [Array.getD_eq_getD_getElem?, hj]
    rw [e]; exact hI
  · intro j o hj hl
    have hjl : j < ops.length := (List.getElem?_eq_some_iff.1 hj).1
    simp [Array.getD_eq_getD_getElem?, hjl] at hl
  · intro j o hj hl
    have hjl : j < ops.length := (List.getElem?_eq_some_iff.1 hj).1
    simp [Array.getD_eq_getD_getElem?, hjl] at hl
theorem wp_region_factsR {P : Program} {ops : List Oper} {id : Nat} {a0 : Act} {w0 : World} {Q : Exit → Act → World → Prop} (val : Nat → Option Bool) (I : (Nat → Bool) → World → Prop) (F : (Nat → Bool) → Nat → Value → World → Prop)
    (hm : P.follows .mixedOrders = true) (hp : guardOps ops = true) (hd : (ops.all fun o => match o.dst with | some t => decide (t < a0.tmps.size) | none => true) = true) (hI : I (fun _ => false) w0.drew)
    (hval : ∀ g b, val g = some b → ∀ L u w, F L g u w → u = .bool b) (hgv : (ops.all fun o => match o.guard with | some (g, _) => (val g).isSome | none => true) = true)
    (hstep : StepsGPR P val ops a0 I F Q 0 ops)
    (hend : ∀ vs w L, vs.length = ops.length → (∀ j, j < ops.length → L j = true) → I L w → (∀ j, j < ops.length → F L j (vs.getD j undef) w) → Q .normal ⟨putVals ops vs a0.tmps, a0.defers⟩ w) :
    (Code.region id ops.toArray true).wp P Q a0 w0 := by
  refine wp_region_factsRP val I F hm hp hd hI hval hgv hstep fun a w L hs hdf hfar hall hI hF => ?_
  have he := putVals_eq a ops a0.tmps hs.symm hfar (by
    intro o ho t ht
    rw [List.all_eq_true] at hd
    have := hd o ho
    rw [hs]
    simpa [ht] using this)
  have h := hend (ops.map (slotOf a)) w L (by simp) hall hI (fun j hj => by
    have := hF j _ (List.getElem?_eq_getElem hj)
    simpa [List.getD_eq_getElem?_getD, hj] using this)
  rw [← he, ← hdf] at h
  exact h
end Go.Proofs.Ytlelnhapcfjhfaa
