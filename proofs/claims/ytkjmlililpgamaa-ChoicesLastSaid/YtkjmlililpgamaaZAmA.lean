/- A memory told by names: the call. No statement is proved here. -/
import Derived.Test.YtkjmlililpgamaaZAm9
namespace Go.Proofs.Ytkjmlililpgamaa
open Go.ChangeShapes Go.WideShapes Go.ChangeAt Go.RowKit
open Bool renaming and_eq_true → kb1
open List renaming all_eq_true → kf1, append_nil → kg4, append_toArray → kg1, getD_eq_getElem?_getD → ka9, getElem?_eq_getElem → kb3, getElem?_map → ke5, getElem_mem → ki1, lookup_cons → kc2, map_cons → kd5, map_toArray → ke0, nil_append → kh6
open Option renaming getD_none → kg9, getD_some → kh0
set_option linter.unusedVariables false
set_option linter.unusedSimpArgs false
def a5 (l : List Nat) : Bool := match l with
  | [] => true
  | a :: l => !l.contains a && a5 l
theorem y8 : ∀ {l : List Nat}, a5 l = true → ∀ i j, i < l.length → j < l.length → l.getD i 0 = l.getD j 0 → i = j
  | [], _, i, _, h, _, _ => by simp at h
  | a :: l, hd, i, j, hi, hj, he => by
    unfold a5 at hd
    rw [kb1] at hd
    have hmem : ∀ k, k < l.length → l.getD k 0 ∈ l := by intro k hk; rw [ka9, kb3 hk]; exact ki1 _
    have hna : a ∉ l := by simpa using hd.1
    cases i with
    | zero =>
      cases j with
      | zero => rfl
      | succ j => exfalso; simp at he hj; exact hna (by rw [he]; simpa [ka9] using hmem j hj)
    | succ i =>
      cases j with
      | zero => exfalso; simp at he hi; exact hna (by rw [← he]; simpa [ka9] using hmem i hi)
      | succ j => simp at hi hj; rw [y8 hd.2 i j hi hj (by simpa using he)]
theorem uW {ps : List Nat} {nx b : Nat} (h : b < ps.length) : nm ps nx b = ps.getD b 0 := by unfold nm; rw [if_pos h]
theorem mC {ps : List Nat} {nx b : Nat} (h : ps.length ≤ b) : nm ps nx b = nx + (b - ps.length) := by unfold nm; rw [if_neg (by omega)]
theorem aY {l : List Nat} {k : Nat} (hk : k < l.length) : l.getD k 0 ∈ l := by rw [ka9, kb3 hk]; exact ki1 _
theorem aD {σ : Nat → Nat} {b : Nat} : ∀ (g : List (Nat × Option Bk)), (∀ y ∈ g, σ y.1 = σ b → y.1 = b) → (g.map fun x => (σ x.1, aB σ x.2)).lookup (σ b) = (g.lookup b).map (aB σ)
  | [], _ => rfl
  | (k, x) :: g, h => by
    rw [kd5, kc2, kc2]
    by_cases hk : k = b
    · subst hk; simp
    · have h1 : (σ b == σ k) = false := by
        have : ¬ σ b = σ k := fun e => hk (h (k, x) (List.mem_cons_self ..) e.symm)
        simpa using this
      have h2 : (b == k) = false := by simpa using Ne.symm hk
      simp only [h1, h2]
      exact aD g (fun y hy => h y (List.mem_cons_of_mem _ hy))
theorem wZ {l : List (Nat × Option Bk)} {b : Nat} (h : b ∈ l.map (·.1)) : ∃ x, l.lookup b = some x := by
  induction l with
  | nil => simp at h
  | cons y l ih =>
    rw [kc2]
    by_cases hx : b == y.1
    · exact ⟨y.2, by simp [hx]⟩
    · simp only [hx]
      refine ih ?_
      rw [kd5] at h
      rcases List.mem_cons.1 h with h | h
      · simp [h] at hx
      · exact h
def l7 (ps : List Nat) (gout : List (Nat × Option Bk)) (nout : Nat) : Bool := (gout.all fun x => Nat.blt x.1 nout) && ((List.range ps.length).all (fun b => (gout.map (·.1)).contains b) && (Nat.ble ps.length nout && a5 ps))
section
variable {cx : Cx} {o : Oper} {l : List (Nat × PV)} {g : List (Nat × Option Bk)}
theorem k2f {ps foot : List Nat} {nx : Nat} {snap : Bool} {ρ ρc : Rh} {w : World} {hL : Hp} {p' : Nat → Prop} (hh : HRep cx ρ w hL) (hf : ∀ b ∈ foot, hL b = S g b) (hρ : ∀ b, b < ps.length → ρc b = ρ (nm ps nx b)) (hp : ∀ k, pz cx.p ρ k → p' k) (hp2 : snap = true → ∀ b m, hL b ≠ none → b ∉ ps → ρ b = some m → m.nl = false → p' m.g)
    {c c' : C} (h : PassC g ps nx snap foot c c') {v : Value} (hc : RepC cx.p ρ w c v) : RepC p' ρc w c' v := by
  cases h with
  | same hl hm => subst hm; exact RepC.unmap hρ (fun k h => .inl (hp k h)) hl hc
  | @own b off len s wh T cs ds hs hb hnp hfb hd hl =>
    have hb' : hL b = some (T, cs) := by rw [hf b (by simpa using hfb), hb.S]
    have hbp : b ∉ ps := by simpa using hnp
    by_cases h0 : len = 0
    · subst h0
      have : ds = [] := List.eq_nil_of_length_eq_zero (by rw [hl]; simp)
      subst this
      obtain ⟨a, cap, rfl, h1, h2, h3⟩ := uN (v := v) (show RepPV cx.p ρ w (.e (.c (.own b off 0 s wh))) v from hc)
      exact .d (.nil a cap h2 h3)
    · obtain ⟨m, cap, hm, hnl, rfl, h1, h2, h3⟩ := uY (by omega) (v := v) (show RepPV cx.p ρ w (.e (.c (.own b off len s wh))) v from hc)
      obtain ⟨⟨vs, rest, r1, r2, r3⟩, r4⟩ := hh.at hb' hm hnl
      have h4 := (r3.drop off).take (len * s)
      rw [hd] at h4
      have hlen : ((vs.drop off).take (len * s)).length = ds.length := by rw [← h4.len]; simp
      refine .d (.sl ds ((vs.drop off).take (len * s)) m.g off len cap hlen ?_ ?_ (.inl (hp2 hs b m (by rw [hb']; simp) hbp hm hnl)) r1.lt h1 h2)
      · intro i u hu
        rw [List.getElem?_take] at hu
        split at hu
        · rw [List.getElem?_drop] at hu
          exact BlkM.cell (vs := vs ++ rest) r1 (off + i) (by rw [List.getElem?_append_left (List.getElem?_eq_some_iff.1 hu).1]; exact hu)
        · cases hu
      · intro i d u hd' hu
        have := h4.get i (.d d) u (by rw [ke5, hd']; rfl) hu
        cases this with
        | d h => exact h.mono (fun k hk => .inl (hp k hk)) (Nat.le_refl _) (fun _ _ _ => rfl)
  | nil => cases hc with | d h => cases h; exact .d (.nil none 0 (by simp [maxLen]) (fun _ => rfl))
theorem qD {α β γ : Type} {R : α → β → Prop} {T : α → γ → Prop} {U : β → γ → Prop} (h : ∀ a b c, R a b → T a c → U b c) : ∀ {xs : List α} {ys : List β} {zs : List γ}, All2 R xs ys → All2 T xs zs → All2 U ys zs
  | [], [], [], _, _ => trivial
  | _ :: _, _ :: _, _ :: _, h1, h2 => ⟨h _ _ _ h1.1 h2.1, qD h h1.2 h2.2⟩
theorem All2.ptrs {p : Nat → Prop} {ρ : Rh} {w : World} : ∀ {qs : List (Nat × Nat)} {vs : List Value}, All2 (tV ρ) qs vs → All2 (RepE p ρ w) (qs.map fun q => .c (.ptr q.1 q.2)) vs
  | [], [], _ => trivial
  | _ :: _, _ :: _, ⟨⟨m, h1, h2, h3⟩, ht⟩ => ⟨by subst h3; exact RepC.ptr _ _ m h1 h2, All2.ptrs ht⟩
theorem m8 {f : FuncId} {args : Array Operand} {ts : Array TypeId} {us : List E1} {ρ : Rh} {a : Act} {w : World} (ho : o.op = .call { callee := .value (.func f), args := args, argTypes := ts }) (hent : ∀ (ar : Array Value) (w : World), (callFunc f ar).run Try.prog w = .ok (.enter f ar) w) (hargs : EvA l args.toList us) (hs : uP cx.p ρ w l o.op.operands a) :
    ∃ av : List Value, (execOp a.eval o).run Try.prog w = .ok (.enter f av.toArray) w ∧ All2 (RepE cx.p ρ w) us av := by
  have hav := hargs.rep hs (by intro x hx; rw [ho]; simp only [Op.operands, Call.operands]; simp at hx ⊢; exact .inr hx)
  refine ⟨_, ?_, hav⟩
  unfold execOp
  simp only [ho, resolve, Act.eval, Deferred.ofValue, Sem.run_bind, Sem.run_pure, Result.andThen_ok, invoke, ke0, Array.empty_append, kg1, kh6, kg4, hent]
  rw [show (args.toList.map a.eval).toArray = args.map a.eval by apply Array.ext'; simp]
  simp
theorem m9 {f : FuncId} {qs : List (Nat × Nat)} {x : Operand} {args : Array Operand} {ts : Array TypeId} {us : List E1} {ρ : Rh} {a : Act} {w : World} (hlo : Nat.blt f d3 = false) (ho : o.op = .call { callee := .value x, args := args, argTypes := ts }) (hent : ∀ (ar : Array Value) (w : World), (callFunc (zI f) ar).run Try.prog w = .ok (.enter (zI f) ar) w) (hx : Ev l x (.e (.c (.fn f qs)))) (hargs : EvA l args.toList us) (hs : uP cx.p ρ w l o.op.operands a) :
    ∃ av : List Value, (execOp a.eval o).run Try.prog w = .ok (.enter (zI f) av.toArray) w ∧ All2 (RepE cx.p ρ w) ((qs.map fun q => .c (.ptr q.1 q.2)) ++ us) av := by
  have hav := hargs.rep hs (by intro x hx; rw [ho]; simp only [Op.operands, Call.operands]; simp at hx ⊢; exact .inr hx)
  obtain ⟨cs, hc, hq⟩ := oU (hx.rep hs (by rw [ho]; simp [Op.operands, Call.operands]))
  rw [xA hlo] at hc
  refine ⟨cs ++ args.toList.map a.eval, ?_, hq.ptrs.app hav⟩
  unfold execOp
  simp only [ho, resolve, hc, Deferred.ofValue, Sem.run_bind, Sem.run_pure, Result.andThen_ok, invoke, ke0, Array.empty_append, Array.append_empty, kg1, kh6, kg4, hent]
  rw [show (cs ++ args.toList.map a.eval).toArray = cs.toArray ++ args.map a.eval by apply Array.ext'; simp]
theorem m7 {f : FuncId} {qs : List (Nat × Nat)} {x : Operand} {args : Array Operand} {ts : Array TypeId} {us : List E1} {ρ : Rh} {a : Act} {w : World} (hlo : Nat.blt f d3 = true) (ho : o.op = .call { callee := .value x, args := args, argTypes := ts }) (hent : ∀ (ar : Array Value) (w : World), (callFunc f ar).run Try.prog w = .ok (.enter f ar) w) (hx : Ev l x (.e (.c (.fn f qs)))) (hargs : EvA l args.toList us) (hs : uP cx.p ρ w l o.op.operands a) :
    ∃ av : List Value, (execOp a.eval o).run Try.prog w = .ok (.enter f av.toArray) w ∧ All2 (RepE cx.p ρ w) (us ++ qs.map fun q => .c (.ptr q.1 q.2)) av := by
  have hav := hargs.rep hs (by intro x hx; rw [ho]; simp only [Op.operands, Call.operands]; simp at hx ⊢; exact .inr hx)
  obtain ⟨cs, hc, hq⟩ := oU (hx.rep hs (by rw [ho]; simp [Op.operands, Call.operands]))
  rw [j8 hlo] at hc
  refine ⟨args.toList.map a.eval ++ cs, ?_, hav.app hq.ptrs⟩
  unfold execOp
  simp only [ho, resolve, hc, Deferred.ofValue, Sem.run_bind, Sem.run_pure, Result.andThen_ok, invoke, ke0, Array.empty_append, kg1, kh6, kg4, hent]
  rw [show (args.toList.map a.eval ++ cs).toArray = args.map a.eval ++ cs.toArray by apply Array.ext'; simp]
theorem pG {f nx nout : Nat} {ps foot : List Nat} {snap : Bool} {us xs : List E1} {gin gout : List (Nat × Option Bk)} {y : PV}
    (hrun : ∀ ρ a w, uP cx.p ρ w l o.op.operands a → ∃ av : List Value, (execOp a.eval o).run Try.prog w = .ok (.enter f av.toArray) w ∧ All2 (RepE cx.p ρ w) us av) (hpass : All2 (PassE g ps nx snap foot) us xs) (hF : Fun f xs gin ps.length y gout nout)
    (hgin : ∀ x ∈ gin, ∀ T cs, x.2 = some (T, cs) → cs.all (vJ ps.length) = true ∧ x.1 < ps.length ∧ Look g (nm ps nx x.1) (some (T, cs.map (uO (nm ps nx))))) (hps : ∀ b ∈ ps, foot.contains b = true ∧ ∃ x : Bk, Look g b (some x)) (hout : l7 ps gout nout = true) (hsn : snap = false ∨ (c6 y && eI gout) = true) :
    OpOK cx o (S l) (S g) ⟨aV (nm ps nx) y, gout.map (fun x => (nm ps nx x.1, aB (nm ps nx) x.2)), (List.range (nout - ps.length)).map (nx + ·), foot⟩ := by
  intro Q ρ a w hL hs hf hnews hh hk hdf K hK
  unfold l7 at hout
  simp only [kb1, kf1] at hout
  obtain ⟨ho1, ho2, ho3, ho4⟩ := hout
  have ho1 : ∀ x ∈ gout, x.1 < nout := fun x hx => Nat.le_of_ble_eq_true (ho1 x hx)
  have ho3 : ps.length ≤ nout := Nat.le_of_ble_eq_true ho3
  have hnew : ∀ b, nx ≤ b → b < nx + (nout - ps.length) → ρ b = none := fun b h1 h2 => hnews b (List.mem_map.2 ⟨b - nx, List.mem_range.2 (by omega), by omega⟩)
  have hlive : ∀ b ∈ ps, ∃ T cs m, hL b = some (T, cs) ∧ ρ b = some m := by
    intro b hb
    obtain ⟨h1, ⟨T, cs⟩, h2⟩ := hps b hb
    have h3 : hL b = some (T, cs) := by rw [hf b (by simpa using h1), h2.S]
    obtain ⟨m, h4, _⟩ := hh.row b T cs h3
    exact ⟨T, cs, m, h3, h4⟩
  have hrow : ∀ b m, hL b ≠ none → ρ b = some m → m.nl = false → m.g < w.heap.size ∧ cx.may m.g := by
    intro b m h1 h2 h3
    obtain ⟨⟨T, cs⟩, h4⟩ := Option.ne_none_iff_exists'.1 h1
    exact ⟨(hh.at h4 h2 h3).1.lt, (hh.at h4 h2 h3).2⟩
  have hlivep : ∀ b ∈ ps, hL b ≠ none := fun b hb => by obtain ⟨T, cs, m, h1, _⟩ := hlive b hb; rw [h1]; simp
  let cx' : Cx :=
    { p := fun k => pz cx.p ρ k ∨ (snap = true ∧ ∃ b m, hL b ≠ none ∧ b ∉ ps ∧ ρ b = some m ∧ m.nl = false ∧ m.g = k)
      W := w
      may := fun k => w.heap.size ≤ k ∨ ∃ b m, b ∈ ps ∧ ρ b = some m ∧ m.nl = false ∧ m.g = k
      pm := by
        rintro k ((h | h) | ⟨_, b, m, h1, h2, h3, h4, rfl⟩) (h' | ⟨b', m', h1', h2', h3', h4'⟩)
        · have := cx.pW k h; have := hk.size; omega
        · exact cx.pm k h (h4' ▸ (hrow b' m' (hlivep b' h1') h2' h3').2)
        · have := hh.zl k h; omega
        · exact hh.zf b' m' (hlivep b' h1') h2' h3' (h4' ▸ h)
        · have := (hrow b m h1 h3 h4).1; omega
        · exact h2 (hh.inj b b' m m' h1 (hlivep b' h1') h3 h2' h4 h3' h4'.symm ▸ h1')
      mayNew := fun k h => .inl h
      pW := by
        rintro k ((h | h) | ⟨_, b, m, h1, h2, h3, h4, rfl⟩)
        · have := cx.pW k h; have := hk.size; omega
        · exact hh.zl k h
        · exact (hrow b m h1 h3 h4).1
      ρ0 := ⟨fun b => if b < ps.length then ρ (ps.getD b 0) else none, fun _ => False⟩
      n0 := ps.length
      hn0 := by intro b m h; by_cases hb : b < ps.length <;> simp [hb] at h ⊢
      gl := (cx.glo hk).mono (fun k h => .inl (.inl h)) (Nat.le_refl _) (fun _ _ _ => rfl) }
  have hρc : ∀ b, b < ps.length → cx'.ρ0 b = ρ (nm ps nx b) := fun b hb => by show (if b < ps.length then ρ (ps.getD b 0) else none) = _; rw [if_pos hb, uW hb]
  have hpp : ∀ k, pz cx.p ρ k → cx'.p k := fun k h => .inl h
  have hginS : ∀ b T cs, S gin b = some (T, cs) → (b, some (T, cs)) ∈ gin := by
    intro b T cs hb
    unfold Proofs.Ytkjmlililpgamaa.S at hb
    cases hl : gin.lookup b with
    | none => rw [hl] at hb; cases hb
    | some x => rw [hl] at hb; simp at hb; subst hb; exact qI hl
  have hgl : ∀ b T cs, S gin b = some (T, cs) → cs.all (vJ ps.length) = true ∧ b < ps.length ∧ hL (nm ps nx b) = some (T, cs.map (uO (nm ps nx))) := by
    intro b T cs hb
    obtain ⟨h1, h2, h3⟩ := hgin _ (hginS b T cs hb) T cs rfl
    refine ⟨h1, h2, ?_⟩
    rw [hf _ (by have := (hps (nm ps nx b) (by rw [uW h2]; exact aY h2)).1; simpa using this), h3.S]
  have hhc : HRep cx' cx'.ρ0 w (S gin) := by
    refine ⟨?_, ?_, fun _ _ _ _ _ h => h, fun k h => False.elim h, fun k h => False.elim h⟩
    · intro b T cs hb
      obtain ⟨h1, h2, h3⟩ := hgl b T cs hb
      obtain ⟨m, k1, k2⟩ := hh.row _ T _ h3
      refine ⟨m, by rw [hρc b h2]; exact k1, ?_⟩
      rcases k2 with ⟨k2, k3⟩ | ⟨k2, ⟨vs, rest, r1, r2, r3⟩, k4⟩
      · exact .inl ⟨k2, by simpa using k3⟩
      · exact .inr ⟨k2, ⟨vs, rest, r1, r2, r3.unmapL _ (vJ ps.length) (fun _ _ hq hc => RepC.unmap hρc (fun k h => .inl (hpp k h)) hq hc) h1⟩, .inr ⟨nm ps nx b, m, by rw [uW h2]; exact aY h2, k1, k2, rfl⟩⟩
    · intro b b' m m' hb hb' hm hm' hnl hnl' he
      obtain ⟨⟨T, cs⟩, e1⟩ := Option.ne_none_iff_exists'.1 hb
      obtain ⟨⟨T', cs'⟩, e2⟩ := Option.ne_none_iff_exists'.1 hb'
      obtain ⟨_, q2, q3⟩ := hgl b T cs e1
      obtain ⟨_, q2', q3'⟩ := hgl b' T' cs' e2
      rw [hρc b q2] at hm
      rw [hρc b' q2'] at hm'
      have := hh.inj _ _ m m' (by rw [q3]; simp) (by rw [q3']; simp) hm hm' hnl hnl' he
      rw [uW q2, uW q2'] at this
      exact y8 ho4 b b' q2 q2' this
  obtain ⟨av, hrn, hav⟩ := hrun ρ a w hs
  have hxv : All2 (RepE cx'.p cx'.ρ0 w) xs av := by
    refine qD (fun u x v hp hr => ?_) hpass hav
    have hpc : ∀ {c c' : C} {v : Value}, PassC g ps nx snap foot c c' → RepC cx.p ρ w c v → RepC cx'.p cx'.ρ0 w c' v := fun h hc => k2f hh hf hρc hpp (fun hsn' b m h1 h2 h3 h4 => .inr ⟨hsn', b, m, h1, h2, h3, h4, rfl⟩) h hc
    cases hp with
    | c h => exact hpc h hr
    | agg h => obtain ⟨us', e, h2⟩ := hr; exact ⟨us', e, qD (R := PassC g ps nx snap foot) (T := RepC cx.p ρ w) (U := RepC cx'.p cx'.ρ0 w) (fun _ _ _ h3 h4 => hpc h3 h4) h h2⟩
  have hcall := hF cx' av rfl hhc hxv
  unfold Oper.wp
  rw [hrn]
  simp only [Oper.upon]
  refine hcall.mono ?_
  rintro e w' ⟨v, ρ1, rfl, hext, hfar, hH1, hK1, hy1⟩
  have hsame : ∀ b, b < ps.length → ρ1 b = ρ (ps.getD b 0) := by
    intro b hb
    obtain ⟨T, cs, m, h1, h2⟩ := hlive _ (aY hb)
    rw [h2]
    exact hext b m (by show (if b < ps.length then ρ (ps.getD b 0) else none) = _; rw [if_pos hb]; exact h2)
  obtain ⟨ρ2, hρ2⟩ : ∃ ρ2 : Rh, ρ2 = ⟨fun b => if nx ≤ b ∧ b < nx + (nout - ps.length) then ρ1 (b - nx + ps.length) else ρ b, fun k => ρ.z k ∨ ρ1.z k⟩ := ⟨_, rfl⟩
  have hz2 : ∀ k, ρ2.z k ↔ (ρ.z k ∨ ρ1.z k) := fun k => by rw [hρ2]
  have hpz : snap = false → ∀ k, pz cx'.p ρ1 k → pz cx.p ρ2 k := by
    rintro hs0 k ((h | ⟨h, _⟩) | h)
    · exact h.imp id (fun h => (hz2 k).2 (.inl h))
    · rw [hs0] at h; cases h
    · exact .inr ((hz2 k).2 (.inr h))
  have hpn : ∀ k, pz (fun _ => False) ρ1 k → pz cx.p ρ2 k := fun k h => h.elim False.elim (fun h => .inr ((hz2 k).2 (.inr h)))
  have hout2 : ∀ b, ¬ (nx ≤ b ∧ b < nx + (nout - ps.length)) → ρ2 b = ρ b := fun b hb => by rw [hρ2]; simp only [hb, if_false]
  have hkeep : ∀ b m, ρ b = some m → ρ2 b = some m := by
    intro b m hb
    rw [hout2 b (fun h => by rw [hnew b h.1 h.2] at hb; cases hb)]; exact hb
  have hσ : ∀ b m, ρ1 b = some m → ρ2 (nm ps nx b) = some m := by
    intro b m hb
    by_cases h1 : b < ps.length
    · rw [uW h1]; rw [hsame b h1] at hb; exact hkeep _ _ hb
    · have h2 : b < nout := by
        rcases Nat.lt_or_ge b nout with h | h
        · exact h
        · rw [hfar b h] at hb; cases hb
      rw [mC (by omega), hρ2]
      have h3 : nx ≤ nx + (b - ps.length) ∧ nx + (b - ps.length) < nx + (nout - ps.length) := by omega
      simp only [h3, and_self, if_true]
      rw [show nx + (b - ps.length) - nx + ps.length = b by omega]; exact hb
  have hinj : ∀ b b', b < nout → b' < nout → nm ps nx b = nm ps nx b' → b = b' := by
    have hpn : ∀ b, b < ps.length → ∀ c, c < nout → ps.length ≤ c → nm ps nx b ≠ nm ps nx c := by
      intro b hb c hc hc2 he
      obtain ⟨T, cs, m, h1, h2⟩ := hlive _ (aY hb)
      rw [uW hb, mC hc2] at he
      rw [he, hnew _ (by omega) (by omega)] at h2
      cases h2
    intro b b' hb hb' he
    by_cases h1 : b < ps.length
    · by_cases h2 : b' < ps.length
      · rw [uW h1, uW h2] at he; exact y8 ho4 b b' h1 h2 he
      · exact absurd he (hpn b h1 b' hb' (by omega))
    · by_cases h2 : b' < ps.length
      · exact absurd he.symm (hpn b' h2 b hb (by omega))
      · rw [mC (by omega), mC (by omega)] at he; omega
  obtain ⟨wr, hwr⟩ : ∃ wr, wr = gout.map (fun x => (nm ps nx x.1, aB (nm ps nx) x.2)) := ⟨_, rfl⟩
  have hlk : ∀ b, b < nout → wr.lookup (nm ps nx b) = (gout.lookup b).map (aB (nm ps nx)) := by
    intro b hb
    rw [hwr]
    exact aD gout (fun y hy he => hinj _ _ (ho1 y hy) hb he)
  have himg : ∀ x z, wr.lookup x = some z → ∃ b, b < nout ∧ x = nm ps nx b ∧ ∃ ob, gout.lookup b = some ob ∧ z = aB (nm ps nx) ob := by
    intro x z hx
    have hm := qI hx
    rw [hwr] at hm
    obtain ⟨y, hy, he⟩ := List.mem_map.1 hm
    simp at he
    obtain ⟨he1, he2⟩ := he
    have hb := ho1 y hy
    refine ⟨y.1, hb, he1.symm, ?_⟩
    rw [← he1, hlk y.1 hb] at hx
    obtain ⟨ob, h1, h2⟩ := Option.map_eq_some_iff.1 hx
    exact ⟨ob, h1, h2.symm⟩
  have hpsl : ∀ b ∈ ps, ∃ z, wr.lookup b = some z := by
    intro b hb
    obtain ⟨i, hi⟩ := List.mem_iff_getElem?.1 hb
    have hil := (List.getElem?_eq_some_iff.1 hi).1
    have hbi : nm ps nx i = b := by rw [uW hil, ka9, hi]; rfl
    have h1 := ho2 i (List.mem_range.2 hil)
    obtain ⟨ob, h2⟩ := wZ (l := gout) (b := i) (by simpa using h1)
    exact ⟨_, by rw [← hbi, hlk i (by omega), h2]; rfl⟩
  have hgo : Goes cx.p ρ ρ2 w w' := ⟨hkeep, fun k h => (hz2 k).2 (.inl h), hK1.size, fun k hp hlt => hK1.block k hlt (cx'.pm k (hpp k hp))⟩
  have hconv : ∀ {x : C} {v : Value}, (snap = false ∨ aU x = true) → RepC cx'.p ρ1 w' x v → RepC cx.p ρ2 w' (uO (nm ps nx) x) v := by
    intro x v h hc
    rcases h with h | h
    · exact RepC.map hσ (hpz h) hc
    · exact RepC.map hσ hpn (hc.nosl h)
  have hsnG : ∀ b T cs, gout.lookup b = some (some (T, cs)) → ∀ c ∈ cs, snap = false ∨ aU c = true := by
    intro b T cs hb c hc
    rcases hsn with h | h
    · exact .inl h
    · rw [kb1] at h
      have h2 := h.2
      unfold eI at h2
      rw [kf1] at h2
      have h3 := h2 _ (qI hb)
      exact .inr (List.all_eq_true.1 h3 c hc)
  have hrow2 : ∀ b T cs m, gout.lookup b = some (some (T, cs)) → Row cx'.p ρ1 w' m T cs → Row cx.p ρ2 w' m T (cs.map (uO (nm ps nx))) := by
    rintro b T cs m hb ⟨vs, rest, r1, r2, r3⟩
    refine ⟨vs, rest, r1, r2, ?_⟩
    refine All2.mk (by rw [List.length_map]; exact r3.len) ?_
    intro i c u hc hu
    rw [ke5] at hc
    obtain ⟨c0, hc0, rfl⟩ := Option.map_eq_some_iff.1 hc
    exact hconv (hsnG b T cs hb c0 (List.mem_of_getElem? hc0)) (r3.get i c0 u hc0 hu)
  have hmay2 : ∀ k, cx'.may k → cx.may k := by
    rintro k (h | ⟨b, m, h1, h2, h3, rfl⟩)
    · exact cx.mayNew k (Nat.le_trans hk.size h)
    · exact (hrow b m (hlivep b h1) h2 h3).2
  have hHn : HRep cx ρ2 w' (fun b => (wr.lookup b).getD (hL b)) := by
    have hold2 : ∀ x m, (hL x) ≠ none → wr.lookup x = none → ρ x = some m → m.nl = false → ¬ cx'.may m.g := by
      intro x m hx hlx hm hnl
      rintro (h | ⟨b, m', h1, h2, h3, h4⟩)
      · have := (hrow x m hx hm hnl).1; have h : w.heap.size ≤ m.g := h; omega
      · have := hh.inj x b m m' hx (hlivep b h1) hm h2 hnl h3 h4.symm
        subst this
        obtain ⟨z, hz⟩ := hpsl x h1
        rw [hz] at hlx; cases hlx
    have hznew : ∀ k, ρ2.z k → ρ.z k ∨ (cx.may k ∧ k < w'.heap.size ∧ ∀ b m, (wr.lookup b).getD (hL b) ≠ none → ρ2 b = some m → m.nl = false → m.g ≠ k) := by
      intro k hk2
      rcases (hz2 k).1 hk2 with h | h
      · exact .inl h
      · refine .inr ⟨hmay2 k (hH1.zm k h), hH1.zl k h, ?_⟩
        intro x m hx hm hnl he
        subst he
        cases hlx : wr.lookup x with
        | none =>
          simp only [hlx, kg9] at hx
          obtain ⟨⟨T3, cs3⟩, h3⟩ := Option.ne_none_iff_exists'.1 hx
          obtain ⟨m3, q1, _⟩ := hh.row x T3 cs3 h3
          have := hkeep x m3 q1
          rw [hm] at this; cases this
          exact hold2 x m hx hlx q1 hnl (hH1.zm _ h)
        | some z =>
          obtain ⟨b, hb, rfl, ob, hob, hz⟩ := himg x _ hlx
          simp only [hlx, kh0] at hx
          cases ob with
          | none => rw [hz] at hx; exact hx rfl
          | some tb =>
            have hS : S gout b = some (tb.1, tb.2) := by unfold Proofs.Ytkjmlililpgamaa.S; rw [hob]; rfl
            obtain ⟨m2, q1, _⟩ := hH1.row b _ _ hS
            have := hσ b m2 q1
            rw [hm] at this; cases this
            exact hH1.zf b m (by rw [hS]; simp) q1 hnl h
    refine hh.step hgo ?_ hznew
    intro x T cs hx
    cases hlx : wr.lookup x with
    | none =>
      simp only [hlx, kg9] at hx
      refine .inl ⟨hx, fun m hm hnl => ?_⟩
      refine hK1.block _ (hrow x m (by rw [hx]; simp) hm hnl).1 ?_
      rintro (h | ⟨b, m', h1, h2, h3, h4⟩)
      · have := (hrow x m (by rw [hx]; simp) hm hnl).1; have h : w.heap.size ≤ m.g := h; omega
      · have := hh.inj x b m m' (by rw [hx]; simp) (hlivep b h1) hm h2 hnl h3 h4.symm
        subst this
        obtain ⟨z, hz⟩ := hpsl x h1
        rw [hz] at hlx; cases hlx
    | some z =>
      simp only [hlx, kh0] at hx
      subst hx
      obtain ⟨b, hb, rfl, ob, hob, hz⟩ := himg x _ hlx
      cases ob with
      | none => cases hz
      | some tb =>
        obtain ⟨T1, cs1⟩ := tb
        simp [aB] at hz
        obtain ⟨rfl, rfl⟩ := hz
        have hS : S gout b = some (T, cs1) := by unfold Proofs.Ytkjmlililpgamaa.S; rw [hob]; rfl
        obtain ⟨m, k1, k2⟩ := hH1.row b T cs1 hS
        right
        refine ⟨m, hσ b m k1, ?_⟩
        rcases k2 with ⟨k2, k3⟩ | ⟨k2, k3, k4⟩
        · exact .inl ⟨k2, by rw [k3]; rfl⟩
        · refine .inr ⟨k2, hrow2 b T cs1 m hob k3, hmay2 _ k4, ?_, ?_⟩
          · intro hz
            rcases k4 with h | ⟨b4, m4, h1, h2, h5, h6⟩
            · have := hh.zl _ hz; have h : w.heap.size ≤ m.g := h; omega
            · exact hh.zf b4 m4 (hlivep b4 h1) h2 h5 (h6 ▸ hz)
          intro b' m' hne h' hm' hnl' he
          cases hlb : wr.lookup b' with
          | some z' =>
            obtain ⟨b2, hb2, rfl, ob2, hob2, hz2⟩ := himg b' _ hlb
            simp only [hlb, kh0] at h'
            cases ob2 with
            | none => rw [hz2] at h'; exact h' rfl
            | some tb2 =>
              have hS2 : S gout b2 = some (tb2.1, tb2.2) := by unfold Proofs.Ytkjmlililpgamaa.S; rw [hob2]; rfl
              obtain ⟨m2, q1, _⟩ := hH1.row b2 _ _ hS2
              have := hσ b2 m2 q1
              rw [hm'] at this; cases this
              exact hne (by rw [hH1.inj b2 b m' m (by rw [hS2]; simp) (by rw [hS]; simp) q1 k1 hnl' k2 he])
          | none =>
            simp only [hlb, kg9] at h'
            have hbp : b' ∉ ps := fun h => by obtain ⟨z, hz⟩ := hpsl b' h; rw [hz] at hlb; cases hlb
            obtain ⟨⟨T3, cs3⟩, h3⟩ := Option.ne_none_iff_exists'.1 h'
            obtain ⟨m3, q1, _⟩ := hh.row b' T3 cs3 h3
            have := hkeep b' m3 q1
            rw [hm'] at this; cases this
            have hlt := (hrow b' m' h' q1 hnl').1
            rcases k4 with h | ⟨b4, m4, h1, h2, h5, h6⟩
            · have h : w.heap.size ≤ m.g := h; omega
            · exact hbp (hh.inj b' b4 m' m4 h' (hlivep b4 h1) q1 h2 hnl' h5 (by rw [he, h6]) ▸ h1)
  have hKn : Kept cx.W cx.may w' := by
    refine hk.below hK1.os hK1.tape hK1.output hK1.size (fun k hk' hnm => hK1.block k (Nat.lt_of_lt_of_le hk' hk.size) (fun h => hnm (hmay2 k h)))
  refine hK v w' ρ2 hgo ?_ (by rw [← hwr]; exact hHn) hKn ?_
  · intro b hb hn
    rw [hout2 b (fun h => hb (List.mem_map.2 ⟨b - nx, List.mem_range.2 (by omega), by omega⟩))]
    exact hn
  · rcases hsn with h | h
    · exact RepPV.map hσ (hpz h) hy1
    · rw [kb1] at h
      exact RepPV.map hσ hpn (RepPV.nosl h.1 hy1)
theorem iA {x : Operand} {b off : Nat} (ho : o.op = .nilCheck x) (hx : Ev l x (.e (.c (.ptr b off)))) : OpOK cx o (S l) (S g) ⟨.e (.c (.ptr b off)), [], [], []⟩ :=
  kJ fun ρ a w hs => by
    have hr := hx.rep hs (by rw [ho]; simp [Op.operands])
    obtain ⟨m, hm, hn, e⟩ := yH hr
    exact ⟨_, by unfold execOp; simp [ho, e], e ▸ hr⟩
end
end Go.Proofs.Ytkjmlililpgamaa
