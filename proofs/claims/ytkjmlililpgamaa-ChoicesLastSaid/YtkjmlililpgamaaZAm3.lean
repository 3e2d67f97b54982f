/- A memory told by names: the theorem of a region. No statement is proved here. -/
import Derived.Test.YtkjmlililpgamaaZAm2
namespace Go.Proofs.Ytkjmlililpgamaa
open Go.ChangeShapes Go.WideShapes Go.ChangeAt Go.RowKit
open Bool renaming and_eq_true → kb1, not_true → kl7, or_false → kl8
open List renaming all_eq_true → kf1, getElem?_eq_getElem → kb3, getElem?_map → ke5, getElem?_zipWith → kf8, length_nil → kb6, mem_of_getElem? → kd9, zipWith → kk3
open Nat renaming le_of_ble_eq_true → ka3, lt_or_gt_of_ne → kg8, zero_add → ke6
set_option linter.unusedVariables false
set_option linter.unusedSimpArgs false
theorem aK {os : List Oper} {ts : List OT} {j : Nat} {wr : List (Nat × PV)} (h : (u4 os ts)[j]? = some wr) : ∃ o t, os[j]? = some o ∧ ts[j]? = some t ∧ wr = v6 o t.u := by
  unfold u4 at h
  rw [kf8] at h
  cases ho : os[j]? with
  | none => simp [ho] at h
  | some o =>
    cases ht : ts[j]? with
    | none => simp [ho, ht] at h
    | some t => simp [ho, ht] at h; exact ⟨o, t, rfl, rfl, h.symm⟩
theorem fB {ts : List OT} {j : Nat} {wr : List (Nat × Option Bk)} (h : (ts.map (·.wr))[j]? = some wr) : ∃ t, ts[j]? = some t ∧ wr = t.wr := by
  rw [ke5] at h
  cases ht : ts[j]? with
  | none => simp [ht] at h
  | some t => simp [ht] at h; exact ⟨t, rfl, h.symm⟩
theorem yV {x y : List Nat} {b : Nat} (h1 : b ∈ x) (h2 : b ∈ y) : yI x y = true := List.any_eq_true.2 ⟨b, h1, List.any_eq_true.2 ⟨b, h2, by simp⟩⟩
theorem z9 {ops : List Oper} {ts : List OT} {nx nx' : Nat} (hc : bH ops ts nx nx' = true) (hlen : ops.length = ts.length) {L : Nat → Bool} {i : Nat} {o : Oper} {t : OT} (ho : ops[i]? = some o) (ht : ts[i]? = some t) (hLi : L i = false)
    (hcl : yS ops L) (hcl' : yS ops (fun j => if j = i then true else L j)) {j : Nat} {oj : Oper} {tj : OT} (hoj : ops[j]? = some oj) (htj : ts[j]? = some tj) (hji : j ≠ i) :
    ((yD (yR ops oj tj) (yR ops o t) = true ∧ j < i) ∨ (yD (yR ops o t) (yR ops oj tj) = true ∧ i < j) → L j = decide (j < i)) ∧ yI (yR ops oj tj).n (yR ops o t).n = false ∨ False := by
  unfold bH at hc
  rw [kb1, kb1] at hc
  have hall := hc.2.1
  have hfp : ∀ (k : Nat) (ok : Oper) (tk : OT), ops[k]? = some ok → ts[k]? = some tk → (kk3 (yR ops) ops ts)[k]? = some (yR ops ok tk) := by
    intro k ok tk h1 h2; rw [kf8, h1, h2]
  have hget := fun x y p q (h : p < q) hx hy => eH (bA ops []) (kk3 (yR ops) ops ts) [] hall (by rw [mS, List.length_zipWith, ← hlen]; simp) p q x y h (by simpa using hx) (by simpa using hy) (by simp)
  left
  refine ⟨?_, ?_⟩
  · rintro (⟨hx, hlt⟩ | ⟨hx, hlt⟩)
    · have h1 := hget _ _ j i hlt (hfp j oj tj hoj htj) (hfp i o t ho ht)
      unfold aL at h1
      simp only [hx, kl7, kl8, kb1, kb6, Nat.sub_zero] at h1
      have h2 := tM hcl' h1.1 (by simp)
      simp only [hji, if_false] at h2
      simp [h2, hlt]
    · have h1 := hget _ _ i j hlt (hfp i o t ho ht) (hfp j oj tj hoj htj)
      unfold aL at h1
      simp only [hx, kl7, kl8, kb1, kb6, Nat.sub_zero] at h1
      cases hLj : L j with
      | false => simp; omega
      | true => have := tM hcl h1.1 hLj; rw [hLi] at this; cases this
  · rcases kg8 hji with hlt | hlt
    · have h1 := hget _ _ j i hlt (hfp j oj tj hoj htj) (hfp i o t ho ht)
      unfold aL at h1
      rw [kb1] at h1
      simpa using h1.2
    · have h1 := hget _ _ i j hlt (hfp i o t ho ht) (hfp j oj tj hoj htj)
      unfold aL at h1
      rw [kb1] at h1
      have h2 : yI (yR ops o t).n (yR ops oj tj).n = false := by simpa using h1.2
      cases h3 : yI (yR ops oj tj).n (yR ops o t).n with
      | false => rfl
      | true =>
        unfold yI at h3
        obtain ⟨b, h4, h5⟩ := List.any_eq_true.1 h3
        obtain ⟨c, h6, h7⟩ := List.any_eq_true.1 h5
        have h7 : b = c := by simpa using h7
        subst h7
        exact absurd h4 (iH h2 h6)
theorem n6 {x y : Fp} {b : Nat} (h1 : b ∈ x.d) (h2 : b ∈ y.r) : yD x y = true := by unfold yD; rw [yV h1 h2]; rfl
theorem nZ {x y : Fp} {b : Nat} (h1 : b ∈ x.r) (h2 : b ∈ y.d) : yD x y = true := by unfold yD; rw [yV h2 h1]; simp
theorem n7 {x y : Fp} {b : Nat} (h1 : b ∈ x.d) (h2 : b ∈ y.d) : yD x y = true := by unfold yD; rw [yV h1 h2]; simp
theorem n4 {x y : Fp} {b : Nat} (h1 : b ∈ x.k) (h2 : b ∈ y.f) : yD x y = true := by unfold yD; rw [yV h1 h2]; simp
theorem n5 {x y : Fp} {b : Nat} (h1 : b ∈ x.f) (h2 : b ∈ y.k) : yD x y = true := by unfold yD; rw [yV h2 h1]; simp
theorem n3 {x y : Fp} {b : Nat} (h1 : b ∈ x.k) (h2 : b ∈ y.k) : yD x y = true := by unfold yD; rw [yV h1 h2]; simp
theorem oW {p : Nat → Prop} {ρ : Rh} {w : World} {v : Value} {b : Bool} (h : RepPV p ρ w (.e (.c (.d (.lit (.bool b))))) v) : v = .bool b := by
  cases h with
  | d h => cases h; rfl
theorem iN {cx : Cx} {n nx nx' : Nat} {ops : List Oper} {ts : List OT} {l lf : List (Nat × PV)} {g gf : List (Nat × Option Bk)} (hs : Steps cx ops ops ts l g lf gf) (hc : bH ops ts nx nx' = true) (hd : ∀ o ∈ ops, ∀ t, o.dst = some t → t < n)
    {L : Nat → Bool} {i : Nat} {o : Oper} (ho : ops[i]? = some o) (hLi : L i = false) (hcl : yS ops L) (hcl' : yS ops (fun j => if j = i then true else L j)) {a : Act} {w : World} (hI : InvR cx n nx' ops ts (S l) (S g) L a w)
    {Q : Exit → Act → World → Prop} {K : Act → World → Prop} (hK : ∀ a' w', InvR cx n nx' ops ts (S l) (S g) (fun j => if j = i then true else L j) a' w' → K a' w') : wpOp Try.prog ops.toArray Q i K a w := by
  have hlen := hs.len
  have hil : i < ops.length := (List.getElem?_eq_some_iff.1 ho).1
  obtain ⟨t, ht⟩ : ∃ t, ts[i]? = some t := ⟨ts[i], kb3 (by omega)⟩
  obtain ⟨l', g', hstep, hl', hg'⟩ := hs.get 0 i o t ho ht
  rw [ke6] at hl' hg'
  obtain ⟨ρ, hKept, hH, hS, hsz, hdf, hnews, hfar, hρ0⟩ := hI
  have hom : o ∈ ops := kd9 ho
  have hdt : ∀ x, o.dst = some x → x < a.tmps.size := fun x hx => by rw [hsz]; exact hd o hom x hx
  have hrel := fun j oj tj h1 h2 h3 => (z9 hc hlen ho ht hLi hcl hcl' (j := j) (oj := oj) (tj := tj) h1 h2 h3).resolve_right id
  have hread : ∀ x, x ∈ aT ops o → qH L 0 (u4 ops ts) (S l) x = S l' x := by
    intro x hx
    rw [hl']
    refine q6 _ 0 _ _ rfl ?_
    intro j wr hj hk
    rw [ke6]
    obtain ⟨oj, tj, h1, h2, rfl⟩ := aK hj
    rw [f0] at hk
    by_cases hji : j = i
    · subst hji; simp [hLi]
    · have hxd : x ∈ (yR ops oj tj).d := by simp [yR, hk]
      have hxr : x ∈ (yR ops o t).r := hx
      refine (hrel j oj tj h1 h2 hji).1 ?_
      rcases kg8 hji with hlt | hlt
      · exact .inl ⟨n6 hxd hxr, hlt⟩
      · exact .inr ⟨nZ hxr hxd, hlt⟩
  have hfoot : ∀ b, b ∈ t.foot → qH L 0 (ts.map (·.wr)) (S g) b = S g' b := by
    intro b hb
    rw [hg']
    refine q6 _ 0 _ _ rfl ?_
    intro j wr hj hk
    rw [ke6]
    obtain ⟨tj, h2, rfl⟩ := fB hj
    obtain ⟨oj, h1⟩ : ∃ oj, ops[j]? = some oj := ⟨ops[j]'(by have := (List.getElem?_eq_some_iff.1 h2).1; omega), kb3 _⟩
    by_cases hji : j = i
    · subst hji; simp [hLi]
    · have hxd : b ∈ (yR ops oj tj).k := fZ hk
      have hxr : b ∈ (yR ops o t).f := hb
      refine (hrel j oj tj h1 h2 hji).1 ?_
      rcases kg8 hji with hlt | hlt
      · exact .inl ⟨n4 hxd hxr, hlt⟩
      · exact .inr ⟨n5 hxr hxd, hlt⟩
  have hnext : ∀ (u : PV) (v : Value) (w' : World) (ρ' : Rh), u = t.u → Goes cx.p ρ ρ' w w' → (∀ b, b ∉ t.news → ρ b = none → ρ' b = none) → HRep cx ρ' w' (fun b => (t.wr.lookup b).getD (qH L 0 (ts.map (·.wr)) (S g) b)) → Kept cx.W cx.may w' → RepPV cx.p ρ' w' u v → K (a.put o.dst v) w' := by
    intro u v w' ρ' hu hgo hno hh hk hv
    subst hu
    refine hK _ _ ⟨ρ', hk, ?_, ?_, by rw [oZ]; exact hsz, by rw [jV]; exact hdf, ?_, ?_, fun b m h => hgo.ext _ _ (hρ0 b m h)⟩
    · have e : qH (fun j => if j = i then true else L j) 0 (ts.map (·.wr)) (S g) = fun b => (t.wr.lookup b).getD (qH L 0 (ts.map (·.wr)) (S g) b) := by
        funext b
        cases hlk : t.wr.lookup b with
        | none =>
          refine q6 _ 0 _ _ rfl ?_
          intro j wr hj hk
          rw [ke6]
          obtain ⟨tj, h2, rfl⟩ := fB hj
          by_cases hji : j = i
          · subst hji; rw [ht] at h2; cases h2; unfold yB at hk; rw [hlk] at hk; cases hk
          · simp [hji]
        | some x =>
          refine aM _ 0 _ i t.wr (by rw [ke5, ht]; rfl) hlk (by simp) ?_
          intro j wr hij hj hk
          rw [ke6]
          obtain ⟨tj, h2, rfl⟩ := fB hj
          obtain ⟨oj, h1⟩ : ∃ oj, ops[j]? = some oj := ⟨ops[j]'(by have := (List.getElem?_eq_some_iff.1 h2).1; omega), kb3 _⟩
          have hji : j ≠ i := by omega
          have := (hrel j oj tj h1 h2 hji).1 (.inr ⟨n3 (fZ (show yB t.wr b = true by unfold yB; rw [hlk]; rfl)) (fZ hk), hij⟩)
          simp only [hji, if_false, this]
          simp; omega
      rw [e]; exact hh
    · intro x
      rw [wG hdt]
      by_cases hx : o.dst = some x
      · rw [if_pos hx, aM (u4 ops ts) 0 (S l) i (v6 o t.u) (x := t.u) (by unfold u4; rw [kf8, ho, ht]) (by rw [bU, if_pos hx]) (by simp)]
        · exact hv
        · intro j wr hij hj hk
          rw [ke6]
          obtain ⟨oj, tj, h1, h2, rfl⟩ := aK hj
          rw [f0] at hk
          have hji : j ≠ i := by omega
          have := (hrel j oj tj h1 h2 hji).1 (.inr ⟨n7 (b := x) (by simp [yR, hx]) (by simp [yR, hk]), hij⟩)
          simp only [hji, if_false, this]
          simp; omega
      · rw [if_neg hx]
        rw [q6 (L' := L) (f' := S l) (u4 ops ts) 0 _ rfl]
        · exact (hS x).mono hgo
        · intro j wr hj hk
          obtain ⟨oj, tj, h1, h2, rfl⟩ := aK hj
          rw [f0] at hk
          rw [ke6]
          by_cases hji : j = i
          · subst hji; rw [ho] at h1; cases h1; exact absurd hk hx
          · simp [hji]
    · intro j tj h2 hL b hb
      by_cases hji : j = i
      · subst hji; simp at hL
      · simp only [hji, if_false] at hL
        obtain ⟨oj, h1⟩ : ∃ oj, ops[j]? = some oj := ⟨ops[j]'(by have := (List.getElem?_eq_some_iff.1 h2).1; omega), kb3 _⟩
        have hm := (hrel j oj tj h1 h2 hji).2
        exact hno b (iH (x := tj.news) (y := t.news) hm hb) (hnews j tj h2 hL b hb)
    · intro b hb
      refine hno b (fun hbn => ?_) (hfar b hb)
      unfold bH j4 at hc
      simp only [kb1, kf1] at hc
      have := (hc.2.2.1 t (kd9 ht) b hbn).2
      have : b < nx' := ka3 this
      omega
  have hdo : OpOK cx o (S l') (S g') t → o.wp Try.prog a w K Q := by
    intro hop
    refine hop Q ρ a w _ ⟨fun x hx => ?_, cx.glo hKept⟩ hfoot (fun b hb => hnews i t ht hLi b hb) hH hKept hdf K (fun v w' ρ' h1 h2 h3 h4 h5 => hnext t.u v w' ρ' rfl h1 h2 h3 h4 h5)
    rw [← hread x (by unfold aT; exact List.mem_append_left _ hx)]
    exact hS x
  unfold wpOp
  rw [List.getElem?_toArray, ho]
  simp only
  unfold StepO at hstep
  cases hgd : o.guard with
  | none =>
    rw [hgd] at hstep
    rw [if_pos (by unfold Region.wanted; rw [hgd])]
    exact .inl (hdo hstep)
  | some gb =>
    obtain ⟨gi, b⟩ := gb
    rw [hgd] at hstep
    obtain ⟨dg, og, hog, hodg, hcase⟩ := hstep
    have hx : dg ∈ aT ops o := by unfold aT; rw [hgd]; simp [hog, hodg]
    have hr := hS dg
    have hskip : t.u = .tup [] ∧ t.wr = [] ∧ t.news = [] → K (a.put o.dst undef) w := by
      intro hif
      refine hnext (.tup []) undef w ρ hif.1.symm (Goes.refl _ _ _) (fun _ _ h => h) ?_ hKept ⟨[], rfl, trivial⟩
      rw [hif.2.1]
      exact hH
    rcases hcase with ⟨b', hval, hif⟩ | ⟨hval, hif⟩
    · rw [hread dg hx, hval] at hr
      have hr' : a.tmps.getD dg undef = .bool b' := oW hr
      have hy : yielded ops.toArray a.tmps gi = some b' := by
        refine cF hog hodg (by rw [hsz]; exact hd og (kd9 hog) dg hodg) (fun c hc => ?_) (fun h => by cases h)
        cases hc
        unfold vG; rw [hodg]; exact hr'
      have hw : Region.wanted o (yielded ops.toArray a.tmps) = (b' == b) := by
        unfold Region.wanted; rw [hgd]; simp only [hy]; rfl
      rw [hw]
      by_cases hbb : b' = b
      · rw [if_pos hbb] at hif
        rw [if_pos (by simp [hbb])]
        exact .inl (hdo hif)
      · rw [if_neg hbb] at hif
        rw [if_neg (by simp [hbb])]
        exact hskip hif
    · rw [hread dg hx, hval] at hr
      have hr' : a.tmps.getD dg undef = undef := by
        obtain ⟨us, h1, h2⟩ := hr
        cases us with
        | nil => exact h1
        | cons _ _ => cases h2
      have hy : yielded ops.toArray a.tmps gi = none := by
        refine cF hog hodg (by rw [hsz]; exact hd og (kd9 hog) dg hodg) (fun c hc => by cases hc) (fun _ c h => ?_)
        unfold vG at h; rw [hodg] at h
        have h : a.tmps.getD dg undef = .bool c := h
        rw [hr'] at h
        cases h
      have hw : Region.wanted o (yielded ops.toArray a.tmps) = false := by
        unfold Region.wanted; rw [hgd]; simp only [hy]; rfl
      rw [hw, if_neg (by simp)]
      exact hskip hif
def Mod (cx : Cx) (n : Nat) (l : List (Nat × PV)) (g : List (Nat × Option Bk)) (nx : Nat) (a : Act) (w : World) : Prop :=
  ∃ ρ : Rh, Kept cx.W cx.may w ∧ HRep cx ρ w (S g) ∧ (∀ t, RepPV cx.p ρ w (S l t) (a.tmps.getD t undef)) ∧ a.tmps.size = n ∧ a.defers = [] ∧ (∀ b, nx ≤ b → ρ b = none) ∧ (∀ b m, cx.ρ0 b = some m → ρ b = some m)
theorem Mod.inv {cx : Cx} {n nx nx' : Nat} {ops : List Oper} {ts : List OT} {l : List (Nat × PV)} {g : List (Nat × Option Bk)} (hc : bH ops ts nx nx' = true) {a : Act} {w : World} (h : Mod cx n l g nx a w) : InvR cx n nx' ops ts (S l) (S g) (fun _ => false) a w := by
  obtain ⟨ρ, h1, h2, h3, h4, h5, h6, h9⟩ := h
  have e1 : ∀ {X : Type} (k : Nat) (l : List (List (Nat × X))) (f : Nat → X), qH (fun _ => false) k l f = f := fun k l f => y5 l k f (fun _ _ => rfl)
  unfold bH j4 at hc
  simp only [kb1, kf1] at hc
  have hle : nx ≤ nx' := ka3 hc.2.2.2
  refine ⟨ρ, h1, by rw [e1]; exact h2, fun t => by rw [e1]; exact h3 t, h4, h5, fun i t ht _ b hb => h6 b (ka3 (hc.2.2.1 t (kd9 ht) b hb).1), fun b hb => h6 b (by omega), h9⟩
theorem Mod.drew {cx : Cx} {n nx : Nat} {l : List (Nat × PV)} {g : List (Nat × Option Bk)} {a : Act} {w : World} (h : Mod cx n l g nx a w) : Mod cx n l g nx a w.drew := by
  obtain ⟨ρ, h1, h2, h3, h4, h5, h6, h9⟩ := h
  have hgo : Goes cx.p ρ ρ w w.drew := ⟨fun _ _ h => h, fun _ h => h, Nat.le_refl _, fun _ _ _ => rfl⟩
  exact ⟨ρ, ⟨h1.os, h1.tape, h1.output, h1.size, h1.block⟩, h2.step hgo (fun b T cs hb => .inl ⟨hb, fun _ _ _ => rfl⟩), fun t => (h3 t).mono hgo, h4, h5, h6, h9⟩
theorem InvR.mod {cx : Cx} {n nx' : Nat} {ops : List Oper} {ts : List OT} {l lf : List (Nat × PV)} {g gf : List (Nat × Option Bk)} (hs : Steps cx ops ops ts l g lf gf) {L : Nat → Bool} (hL : ∀ j, j < ops.length → L j = true) {a : Act} {w : World} (h : InvR cx n nx' ops ts (S l) (S g) L a w) : Mod cx n lf gf nx' a w := by
  obtain ⟨ρ, h1, h2, h3, h4, h5, h6, h7, h9⟩ := h
  obtain ⟨e1, e2⟩ := hs.final 0 L (fun j _ h => hL j (by omega))
  exact ⟨ρ, h1, by rw [e2]; exact h2, fun t => by rw [e1]; exact h3 t, h4, h5, h7, h9⟩
theorem w5 {cx : Cx} {n nx nx' : Nat} {ops : List Oper} {ts : List OT} {l lf : List (Nat × PV)} {g gf : List (Nat × Option Bk)} (hs : Steps cx ops ops ts l g lf gf) (hc : bH ops ts nx nx' = true) (hd : ∀ o ∈ ops, ∀ t, o.dst = some t → t < n)
    {Q : Exit → Act → World → Prop} (hend : ∀ a w, Mod cx n lf gf nx' a w → Q .normal a w) :
    ∀ (fuel : Nat) (listed : Array Bool) (a : Act) (w : World), listed.size = ops.length → listed.toList.countP (!·) ≤ fuel → yS ops (fun j => listed.getD j false) → InvR cx n nx' ops ts (S l) (S g) (fun j => listed.getD j false) a w → wpAny Try.prog .any ops.toArray Q fuel listed a w := by
  have hp : yW ops = true := by unfold bH at hc; rw [kb1] at hc; exact hc.1
  intro fuel
  have fin : ∀ (listed : Array Bool) (a : Act) (w : World), listed.size = ops.length → InvR cx n nx' ops ts (S l) (S g) (fun j => listed.getD j false) a w → Region.ready .any ops.toArray listed = [] → Q .normal a w :=
    fun listed a w hs' h hr => hend a w (h.mod hs (jB hp hs' hr))
  induction fuel with
  | zero =>
    intro listed a w hs' hcn hcl h
    have hall : ∀ b ∈ listed.toList, b = true := by
      intro b hb
      cases b with
      | true => rfl
      | false => have : 0 < listed.toList.countP (!·) := List.countP_pos_iff.2 ⟨false, hb, rfl⟩; omega
    have hr : Region.ready .any ops.toArray listed = [] := by
      cases hrr : Region.ready .any ops.toArray listed with
      | nil => rfl
      | cons x xs =>
        exfalso
        have hx : x ∈ Region.ready .any ops.toArray listed := by rw [hrr]; exact List.mem_cons_self ..
        obtain ⟨h1, o, h2, _⟩ := mem_ready.1 hx
        have hx2 : x < listed.size := by rw [hs']; simpa using (Array.getElem?_eq_some_iff.1 h2).1
        have := hall listed[x] (by simp)
        simp [Array.getD_eq_getD_getElem?, hx2, this] at h1
    exact ⟨hr, fin listed a w hs' h hr⟩
  | succ fuel ih =>
    intro listed a w hs' hcn hcl h
    refine ⟨fin listed a w hs' h, fun i hi => ?_⟩
    obtain ⟨h1, o, h2, h3⟩ := mem_ready.1 hi
    have hil : i < ops.length := by simpa using (Array.getElem?_eq_some_iff.1 h2).1
    have hils : i < listed.size := by omega
    have ho : ops[i]? = some o := by simpa using h2
    have h1f : listed.getD i false = false := by
      simp [Array.getD_eq_getD_getElem?, hils] at h1 ⊢
      exact h1
    have hcl' : yS ops (fun j => if j = i then true else listed.getD j false) := by
      intro j oj hj hl e he hb
      by_cases hei : e.on = i
      · simp only [hei, if_true]
      · simp only [hei, if_false]
        by_cases hji : j = i
        · subst hji
          have : oj = o := by rw [hj] at ho; exact Option.some.inj ho
          subst this
          exact h3 e (by simpa using he) hb
        · simp only [hji, if_false] at hl
          exact hcl j oj hj hl e he hb
    refine iN hs hc hd ho h1f hcl hcl' h (fun a' w' h' => ?_)
    refine ih _ a' w' (by simpa using hs') ?_ (by rw [aX hils]; exact hcl') (by rw [aX hils]; exact h')
    have hlf : listed[i] = false := by simpa [Array.getD_eq_getD_getElem?, hils] using h1
    have hpos : 0 < listed.toList.countP (!·) := List.countP_pos_iff.2 ⟨false, by rw [← hlf]; simp, rfl⟩
    rw [Array.toList_setIfInBounds, List.countP_set (by simpa using hils)]
    simp only [Array.getElem_toList, hlf]
    have e : ∀ n : Nat, n - (if (!false) = true then 1 else 0) + (if (!true) = true then 1 else 0) ≤ fuel ↔ n - 1 ≤ fuel := fun n => by simp
    rw [e]
    omega
theorem w4 {cx : Cx} {n nx nx' : Nat} {ops : List Oper} {ts : List OT} {l lf : List (Nat × PV)} {g gf : List (Nat × Option Bk)} (hs : Steps cx ops ops ts l g lf gf) (hc : bH ops ts nx nx' = true) (hd : ∀ o ∈ ops, ∀ t, o.dst = some t → t < n)
    {Q : Exit → Act → World → Prop} (hend : ∀ a w, Mod cx n lf gf nx' a w → Q .normal a w) :
    ∀ (k i : Nat) (a : Act) (w : World), i + k = ops.length → InvR cx n nx' ops ts (S l) (S g) (fun j => decide (j < i)) a w → wpOps Try.prog ops.toArray Q (List.range' i k) a w := by
  have hp : yW ops = true := by unfold bH at hc; rw [kb1] at hc; exact hc.1
  have hord : ∀ j o, ops[j]? = some o → ∀ e ∈ o.after, Region.binds .any e = true → e.on < j := by
    intro j o hj e he hb
    have hjl : j < ops.length := (List.getElem?_eq_some_iff.1 hj).1
    unfold yW at hp
    rw [kf1] at hp
    have h1 := hp j (List.mem_range.2 hjl)
    simp only [hj, kb1] at h1
    have h2 := h1.1.2
    rw [Array.all_eq_true_iff_forall_mem] at h2
    have h3 := h2 e he
    simpa [hb] using h3
  have hcl : ∀ i, yS ops (fun j => decide (j < i)) := by
    intro i j o hj hl e he hb
    have := hord j o hj e he hb
    simp at hl ⊢
    omega
  intro k
  induction k with
  | zero =>
    intro i a w hik h
    exact hend a w (h.mod hs (fun j hj => by simp; omega))
  | succ k ih =>
    intro i a w hik h
    rw [List.range'_succ, wpOps_cons]
    have e : (fun j => if j = i then true else decide (j < i)) = fun j => decide (j < i + 1) := by
      funext j
      by_cases hji : j = i
      · subst hji; simp
      · simp [hji]; omega
    refine iN hs hc hd (o := ops[i]) (kb3 (by omega)) (by simp) (hcl i) (by rw [e]; exact hcl (i + 1)) h (fun a' w' h' => ?_)
    rw [e] at h'
    exact ih (i + 1) a' w' (by omega) h'
def gK (ops : List Oper) (n : Nat) : Bool := ops.all fun o => match o.dst with
  | some t => Nat.blt t n
  | none => true
theorem eB {cx : Cx} {n nx nx' : Nat} {ops : List Oper} {id : Nat} {draw : Bool} {ts : List OT} {l lf : List (Nat × PV)} {g gf : List (Nat × Option Bk)} (hm : Try.prog.follows .mixedOrders = true) (hd : gK ops n = true) (hs : Steps cx ops ops ts l g lf gf) (hc : bH ops ts nx nx' = true)
    {Q : Exit → Act → World → Prop} (hend : ∀ a w, Mod cx n lf gf nx' a w → Q .normal a w) {a : Act} {w : World} (h : Mod cx n l g nx a w) : (Code.region id ops.toArray draw).wp Try.prog Q a w := by
  have hd' : ∀ o ∈ ops, ∀ t, o.dst = some t → t < n := by
    intro o ho t ht
    unfold gK at hd
    rw [kf1] at hd
    have := hd o ho
    rw [ht] at this
    exact ka3 this
  cases draw with
  | true =>
    refine wp_region_any hm (w5 hs hc hd' hend _ _ _ _ (by simp) ?_ ?_ ?_)
    · have := List.countP_le_length (p := fun b : Bool => !b) (l := (Array.replicate ops.toArray.size false).toList)
      simpa using this
    · intro j o hj hl
      have hjl : j < ops.length := (List.getElem?_eq_some_iff.1 hj).1
      simp [Array.getD_eq_getD_getElem?, hjl] at hl
    · have e : (fun j => (Array.replicate ops.toArray.size false).getD j false) = fun _ => false := by
        funext j
        by_cases hj : j < ops.length <;> simp [Array.getD_eq_getD_getElem?, hj]
      rw [e]
      exact h.drew.inv hc
  | false =>
    refine wp_region ?_
    have := w4 hs hc hd' hend ops.length 0 a w (by omega) (by have e : (fun j => decide (j < 0)) = fun _ : Nat => false := by (funext j; simp)
                                                              rw [e]; exact h.inv hc)
    rw [List.range_eq_range']
    simpa using this
end Go.Proofs.Ytkjmlililpgamaa
