/- A region that draws its order, by facts, with guards whose values are known. No statement is proved here. -/
import Derived.Test.YtbkjhfjjkihebaaFacts
namespace Go.Proofs.Ytbkjhfjjkihebaa
open Go.ChangeShapes Go.WideShapes Go.ChangeAt Go.RowKit
set_option linter.unusedVariables false
set_option linter.unusedSimpArgs false

/-- is the operation wanted, if number g yields val g -/
def wantedBy (val : Nat → Option Bool) (o : Oper) : Bool := match o.guard with
  | none => true
  | some (g, b) => val g == some b
/-- the operations write into places of their own, and wait for elder ones alone, for their guards too -/
def guardOps (ops : List Oper) : Bool :=
  (List.range ops.length).all fun i => match ops[i]? with
    | none => true
    | some o => ((match o.guard with
        | none => true
        | some (g, _) => (o.after.any fun e => e.on == g && Region.binds .any e) && (match ops[g]? with | some og => og.dst.isSome | none => false)) && (o.after.all fun e => !Region.binds .any e || decide (e.on < i))) && (List.range ops.length).all fun j => match ops[j]? with
      | none => true
      | some o' => i == j || o.dst.isNone || !(o.dst == o'.dst)
/-- what is asked of operation number i -/
def StepG (P : Program) (val : Nat → Option Bool) (ops : List Oper) (a0 : Act) (I : World → Prop) (F : Nat → Value → World → Prop) (Q : Exit → Act → World → Prop) (i : Nat) (o : Oper) : Prop :=
  if wantedBy val o = true then StepAt P ops a0 I F Q i o else ∀ w, I w → F i undef w
def StepsG (P : Program) (val : Nat → Option Bool) (ops : List Oper) (a0 : Act) (I : World → Prop) (F : Nat → Value → World → Prop) (Q : Exit → Act → World → Prop) : Nat → List Oper → Prop
  | _, [] => True
  | k, o :: l => StepG P val ops a0 I F Q k o ∧ StepsG P val ops a0 I F Q (k + 1) l
theorem stepsG_get {P : Program} {val : Nat → Option Bool} {ops : List Oper} {a0 : Act} {I : World → Prop} {F : Nat → Value → World → Prop} {Q : Exit → Act → World → Prop} :
    ∀ (l : List Oper) (k : Nat), StepsG P val ops a0 I F Q k l → ∀ i o, l[i]? = some o → StepG P val ops a0 I F Q (k + i) o := by
  intro l
  induction l with
  | nil => intro k _ i o h; simp at h
  | cons x l ih =>
    intro k h i o hi
    cases i with
    | zero => simp at hi; subst hi; exact h.1
    | succ i => have := ih (k + 1) h.2 i o (by simpa using hi); rw [show k + (i + 1) = k + 1 + i by omega]; exact this
theorem yields_val {ops : List Oper} {a : Act} {val : Option Bool} {g : Nat} {og : Oper} {t : Tmp} (hg : ops[g]? = some og) (ht : og.dst = some t) (hts : t < a.tmps.size)
    (h1 : ∀ b, val = some b → slotOf a og = .bool b) (h2 : val = none → ∀ b, slotOf a og ≠ .bool b) : yielded ops.toArray a.tmps g = val := by
  have hs : a.tmps[t]? = some (slotOf a og) := by unfold slotOf; rw [ht]; simp [Array.getD_eq_getD_getElem?, hts]
  unfold yielded
  rw [List.getElem?_toArray, hg]
  simp only [Option.bind_some, ht, hs]
  cases val with
  | some b => rw [h1 b rfl]
  | none =>
    have := h2 rfl
    split
    · rename_i b hb; simp only [Option.some.injEq] at hb; exact absurd hb (this b)
    · rfl
theorem all_listedG {ops : List Oper} (hp : guardOps ops = true) {listed : Array Bool} (hs : listed.size = ops.length) (hr : Region.ready .any ops.toArray listed = []) : ∀ j, j < ops.length → listed.getD j false = true := by
  intro j
  induction j using Nat.strongRecOn with
  | ind j ih =>
    intro hj
    cases hl : listed.getD j false with
    | true => rfl
    | false =>
      exfalso
      have : j ∈ Region.ready .any ops.toArray listed := by
        rw [mem_ready]
        refine ⟨?_, ops[j], by simp [hj], fun e he hb => ?_⟩
        · have : j < listed.size := by omega
          simp [Array.getD_eq_getD_getElem?, this] at hl ⊢
          exact hl
        · unfold guardOps at hp
          rw [List.all_eq_true] at hp
          have h1 := hp j (List.mem_range.2 hj)
          simp only [List.getElem?_eq_getElem hj, Bool.and_eq_true] at h1
          have h2 := h1.1.2
          rw [Array.all_eq_true_iff_forall_mem] at h2
          have h3 := h2 e he
          simp [hb] at h3
          exact ih e.on h3 (by omega)
      rw [hr] at this
      cases this

theorem wp_any_factsG {P : Program} {val : Nat → Option Bool} {ops : List Oper} {a0 : Act} {I : World → Prop} {F : Nat → Value → World → Prop} {Q : Exit → Act → World → Prop}
    (hp : guardOps ops = true) (hd : ∀ o ∈ ops, ∀ t, o.dst = some t → t < a0.tmps.size)
    (hval : ∀ g b, val g = some b → ∀ u w, F g u w → u = .bool b) (hval2 : ∀ g o o' b, ops[g]? = some o → o' ∈ ops → o'.guard = some (g, b) → val g = none → ∀ u w, F g u w → ∀ b, u ≠ .bool b)
    (hstep : StepsG P val ops a0 I F Q 0 ops)
    (hend : ∀ a w, a.tmps.size = a0.tmps.size → a.defers = a0.defers → (∀ t, farSlot ops t = true → a.tmps[t]? = a0.tmps[t]?) → I w → (∀ j o, ops[j]? = some o → F j (slotOf a o) w) → Q .normal a w) :
    ∀ (fuel : Nat) (listed : Array Bool) (a : Act) (w : World), listed.size = ops.length → listed.toList.countP (!·) ≤ fuel → RInv ops a0 I F listed a w → wpAny P .any ops.toArray Q fuel listed a w := by
  intro fuel
  have fin : ∀ (listed : Array Bool) (a : Act) (w : World), listed.size = ops.length → RInv ops a0 I F listed a w → Region.ready .any ops.toArray listed = [] → Q .normal a w := by
    intro listed a w hs h hr
    exact hend a w h.size h.defers h.far h.inv fun j o hj => h.facts j o hj (all_listedG hp hs hr j (List.getElem?_eq_some_iff.1 hj).1)
  induction fuel with
  | zero =>
    intro listed a w hs hc h
    have hall : ∀ b ∈ listed.toList, b = true := by
      intro b hb
      cases b with
      | true => rfl
      | false => have : 0 < listed.toList.countP (!·) := List.countP_pos_iff.2 ⟨false, hb, rfl⟩; omega
    have hr : Region.ready .any ops.toArray listed = [] := by
      cases hrr : Region.ready .any ops.toArray listed with
      | nil => rfl
      | cons x xs =>
        exfalso
        have hx : x ∈ Region.ready .any ops.toArray listed := by rw [hrr]; exact List.mem_cons_self ..
        obtain ⟨h1, o, h2, _⟩ := mem_ready.1 hx
        have hx2 : x < listed.size := by rw [hs]; simpa using (Array.getElem?_eq_some_iff.1 h2).1
        have := hall listed[x] (by simp)
        simp [Array.getD_eq_getD_getElem?, hx2, this] at h1
    exact ⟨hr, fin listed a w hs h hr⟩
  | succ fuel ih =>
    intro listed a w hs hc h
    refine ⟨fin listed a w hs h, fun i hi => ?_⟩
    obtain ⟨h1, o, h2, h3⟩ := mem_ready.1 hi
    have hil : i < ops.length := by simpa using (Array.getElem?_eq_some_iff.1 h2).1
    have hils : i < listed.size := by omega
    have ho : ops[i]? = some o := by simpa using h2
    have hom : o ∈ ops := List.mem_of_getElem? ho
    have hpi := hp
    unfold guardOps at hpi
    rw [List.all_eq_true] at hpi
    have hpo := hpi i (List.mem_range.2 hil)
    simp only [ho, Bool.and_eq_true] at hpo
    have hstep' := stepsG_get ops 0 hstep i o ho
    rw [Nat.zero_add] at hstep'
    have hnext : ∀ (v : Value) (w' : World), I w' → F i (if o.dst.isSome then v else undef) w' → (∀ j, j ≠ i → ∀ u, F j u w → F j u w') → wpAny P .any ops.toArray Q fuel (listed.setIfInBounds i true) (a.put o.dst v) w' := by
      intro v w' hI hF hkeep
      refine ih _ _ _ (by simpa using hs) ?_ ⟨?_, ?_, ?_, hI, ?_⟩
      · have hlf : listed[i] = false := by simpa [Array.getD_eq_getD_getElem?, hils] using h1
        have hpos : 0 < listed.toList.countP (!·) := List.countP_pos_iff.2 ⟨false, by rw [← hlf]; simp, rfl⟩
        rw [Array.toList_setIfInBounds, List.countP_set (by simpa using hils)]
        simp only [Array.getElem_toList, hlf]
        have e : ∀ n : Nat, n - (if (!false) = true then 1 else 0) + (if (!true) = true then 1 else 0) ≤ fuel ↔ n - 1 ≤ fuel := fun n => by simp
        rw [e]
        omega
      · have : (a.put o.dst v).tmps.size = a.tmps.size := by unfold Act.put; cases o.dst <;> simp
        rw [this]; exact h.size
      · have : (a.put o.dst v).defers = a.defers := by unfold Act.put; cases o.dst <;> simp
        rw [this]; exact h.defers
      · intro t ht
        rw [← h.far t ht]
        unfold farSlot at ht
        rw [List.all_eq_true] at ht
        have := ht o hom
        unfold Act.put
        cases hdd : o.dst with
        | none => rfl
        | some t' =>
          have hne : t' ≠ t := by intro e; subst e; simp [hdd] at this
          simp [Array.getElem?_setIfInBounds_ne hne]
      · intro j oj hj hl
        by_cases hji : j = i
        · subst hji
          have : oj = o := by rw [hj] at ho; exact Option.some.inj ho
          subst this
          rw [slot_put_same (fun t ht => by rw [h.size]; exact hd _ hom t ht)]
          exact hF
        · rw [getD_set_other (Ne.symm hji)] at hl
          have hjl : j < ops.length := (List.getElem?_eq_some_iff.1 hj).1
          have hdist := hpo.2
          rw [List.all_eq_true] at hdist
          have hdj := hdist j (List.mem_range.2 hjl)
          simp only [hj] at hdj
          rw [slot_put_other (by
            have hij : ¬ (i == j) = true := by simp; exact fun e => hji e.symm
            cases hdd : o.dst with
            | none => exact .inl rfl
            | some t => right; intro e; simp [hij, hdd] at hdj; exact hdj e)]
          exact hkeep j hji _ (h.facts j oj hj hl)
    have hw : Region.wanted o (yielded ops.toArray a.tmps) = wantedBy val o := by
      unfold Region.wanted wantedBy
      cases hgd : o.guard with
      | none => rfl
      | some gb =>
        obtain ⟨g, b⟩ := gb
        have hgo := hpo.1.1
        simp only [hgd, Bool.and_eq_true] at hgo
        obtain ⟨he, hdst⟩ := hgo
        simp only [Array.any_eq_true'] at he
        obtain ⟨e, hem, heq⟩ := he
        simp only [Bool.and_eq_true, beq_iff_eq] at heq
        obtain ⟨heg, hbd⟩ := heq
        cases hog : ops[g]? with
        | none => simp [hog] at hdst
        | some og =>
          simp only [hog] at hdst
          obtain ⟨t, ht⟩ := Option.isSome_iff_exists.1 hdst
          have hlist := h3 e (by simpa using hem) hbd
          rw [heg] at hlist
          have hF := h.facts g og hog hlist
          have hts := hd og (List.mem_of_getElem? hog) t ht
          show (yielded ops.toArray a.tmps g == some b) = (val g == some b)
          rw [yields_val hog ht (by rw [h.size]; exact hts) (fun b hb => hval g b hb _ _ hF) (fun hn => hval2 g og o b hog hom hgd hn _ _ hF)]
    refine wpOp_step h2 fun K' hK => ?_
    rw [hw]
    unfold StepG at hstep'
    by_cases hwb : wantedBy val o = true
    · rw [if_pos hwb]
      rw [if_pos hwb] at hstep'
      exact hstep' a w h.size h.defers h.far h.inv (fun e he hb oe hoe => h.facts e.on oe hoe (h3 e (by simpa using he) hb)) K' (fun v w' h1 h2 h3 => hK _ _ (hnext v w' h1 h2 h3))
    · rw [if_neg hwb]
      rw [if_neg hwb] at hstep'
      exact hK _ _ (hnext undef w h.inv (by have := hstep' w h.inv; cases o.dst <;> simpa using this) (fun j _ u hf => hf))

theorem wp_region_factsG {P : Program} {ops : List Oper} {id : Nat} {a0 : Act} {w0 : World} {Q : Exit → Act → World → Prop} (val : Nat → Option Bool) (I : World → Prop) (F : Nat → Value → World → Prop)
    (hm : P.follows .mixedOrders = true) (hp : guardOps ops = true) (hd : (ops.all fun o => match o.dst with | some t => decide (t < a0.tmps.size) | none => true) = true) (hI : I w0.drew)
    (hval : ∀ g b, val g = some b → ∀ u w, F g u w → u = .bool b) (hval2 : ∀ g o o' b, ops[g]? = some o → o' ∈ ops → o'.guard = some (g, b) → val g = none → ∀ u w, F g u w → ∀ b, u ≠ .bool b)
    (hstep : StepsG P val ops a0 I F Q 0 ops)
    (hend : ∀ a w, a.tmps.size = a0.tmps.size → a.defers = a0.defers → (∀ t, farSlot ops t = true → a.tmps[t]? = a0.tmps[t]?) → I w → (∀ j o, ops[j]? = some o → F j (slotOf a o) w) → Q .normal a w) :
    (Code.region id ops.toArray true).wp P Q a0 w0 := by
  refine wp_region_any hm (wp_any_factsG (I := I) (F := F) (val := val) hp ?_ hval hval2 hstep hend _ _ _ _ (by simp) ?_ ⟨rfl, rfl, fun _ _ => rfl, hI, ?_⟩)
  · intro o ho t ht
    rw [List.all_eq_true] at hd
    have := hd o ho
    simpa [ht] using this
  · have := List.countP_le_length (p := fun b : Bool => !b) (l := (Array.replicate ops.toArray.size false).toList)
    simpa using this
  · intro j o hj hl
    have hjl : j < ops.length := (List.getElem?_eq_some_iff.1 hj).1
    simp [Array.getD_eq_getD_getElem?, hjl] at hl

end Go.Proofs.Ytbkjhfjjkihebaa
