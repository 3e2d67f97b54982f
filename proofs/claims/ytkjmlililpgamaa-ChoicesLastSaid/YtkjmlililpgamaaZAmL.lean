/- A memory told by names: shifts, bits, structs that are compared. No statement is proved here. -/
import Derived.Test.YtkjmlililpgamaaZAmF
import Derived.Laws.StructEq
namespace Go.Proofs.Ytkjmlililpgamaa
open Go.ChangeShapes Go.WideShapes Go.ChangeAt Go.RowKit
open Bool renaming and_eq_true → kb1
open List renaming length_drop → kc0, length_take → kb8, mem_cons_of_mem → kb9, mem_cons_self → ka7
open Nat renaming min_eq_left → kh8
set_option linter.unusedVariables false
set_option linter.unusedSimpArgs false
def xH (op : BinOp) (h : H) : Value → Value → Option (List Prop × Value)
 | .int k a, .int _ b => match op, h with
  | .shl, .n s => some ([b = (s : Int), s ≤ k.bits, oH k (a * ((2 ^ s : Nat) : Int))], .int k (a * ((2 ^ s : Nat) : Int)))
  | .shl, .n2 s _ => some ([b = (s : Int), s ≤ k.bits], .int k (k.wrap (a * ((2 ^ s : Nat) : Int))))
  | .shr, .n s => some ([b = (s : Int), s ≤ k.bits], .int k (a / ((2 ^ s : Nat) : Int)))
  | _, _ => none
 | _, _ => none
theorem hG (s : Nat) : ((2 ^ s : Nat) : Int) = (2 : Int) ^ s := by simp
theorem xG {op : BinOp} {h : H} {a b : Value} {ps : List Prop} {v : Value} {xt : TypeId} (e : xH op h a b = some (ps, v)) (hp : AllP ps) (x y : Operand) : dR op xt x y a b v ∧ v.oneCell' = true := by
 unfold xH at e
 split at e
 ·rename_i k a yk b
  split at e
  ·rename_i s
   cases e
   obtain ⟨h1, h2, h3⟩ := hp
   have h3 : oH k _ := h3
   have h4 := b3 h3
   rw [hG] at h4
   have hneg : ¬ ((s : Int) < 0) := by omega
   subst h1
   refine ⟨fun w => ?_, rfl⟩
   simp [eqGuard, binOp, Op.shift, kh8 h2, hneg, h4]
  ·rename_i s r
   cases e
   obtain ⟨h1, h2⟩ := hp
   have h2 : _ ≤ _ := h2
   have hneg : ¬ ((s : Int) < 0) := by omega
   subst h1
   refine ⟨fun w => ?_, rfl⟩
   simp [eqGuard, binOp, Op.shift, kh8 h2, hneg]
  ·rename_i s
   cases e
   obtain ⟨h1, h2⟩ := hp
   have h2 : _ ≤ _ := h2
   have hneg : ¬ ((s : Int) < 0) := by omega
   have h4 : a.fdiv ((2 : Int) ^ s) = a / (2 : Int) ^ s := by rw [← hG, Int.fdiv_eq_ediv_of_nonneg _ (Int.natCast_nonneg _)]
   subst h1
   refine ⟨fun w => ?_, rfl⟩
   simp [eqGuard, binOp, Op.shift, kh8 h2, hneg, h4]
  ·cases e
 ·cases e
def nS (op : BinOp) (h : H) : Value → Value → Option (List Prop × Value)
 | .int k a, .int k' b => if k = k' then match op, h with
   | .and, .i r => some ([dK .and k a b = r], .int k r)
   | .or, .i r => some ([dK .or k a b = r], .int k r)
   | .xor, .i r => some ([dK .xor k a b = r], .int k r)
   | .andNot, .i r => some ([dK .andNot k a b = r], .int k r)
   | _, _ => none
  else none
 | _, _ => none
theorem xP {op : BinOp} {h : H} {a b : Value} {ps : List Prop} {v : Value} {xt : TypeId} (e : nS op h a b = some (ps, v)) (hp : AllP ps) (x y : Operand) : dR op xt x y a b v ∧ v.oneCell' = true := by
 unfold nS at e
 split at e
 ·split at e
  ·rename_i hk
   subst hk
   split at e
   all_goals first | (cases e; have hp : _ = _ := hp; subst hp; refine ⟨fun w => ?_, rfl⟩; simp [eqGuard, binOp, Op.intBits, dK]; done) | cases e
  ·cases e
 ·cases e
/-! structs of numbers -/
def nW (P : Program) (cs ds : List C) : List Field → Option (List Prop)
 | [] => some []
 | f :: fs => match f.name == "_", P.plainKey f.type, P.underlying f.type with
  | false, true, some (.int _) => match cs[f.offset]?, ds[f.offset]? with
   | some (.d (.lit (.int k a))), some (.d (.lit (.int k' b))) => if k = k' then match nW P cs ds fs with
     | some r => some ((a = b) :: r)
     | none => none
    else none
   | _, _ => none
  | false, true, some .bool => match cs[f.offset]?, ds[f.offset]? with
   | some (.d (.lit (.bool a))), some (.d (.lit (.bool b))) => match nW P cs ds fs with
     | some r => some ((a = b) :: r)
     | none => none
   | _, _ => none
  | _, _, _ => none
theorem bB {p : Nat → Prop} {ρ : Rh} {w : World} {cs : List C} {us : List Value} (h : All2 (RepC p ρ w) cs us) {i : Nat} {v : Value} (hc : cs[i]? = some (.d (.lit v))) : us.toArray[i]? = some v := by
 have hi : i < us.length := by have := (List.getElem?_eq_some_iff.1 hc).1; rw [← h.len]; exact this
 have := h.get i _ us[i] hc (List.getElem?_eq_getElem hi)
 have e : us[i] = v := by
  generalize us[i] = q at this
  cases this with | d h => cases h; rfl
 simp [hi, e]
theorem a3 {p : Nat → Prop} {ρ : Rh} {w : World} {cs ds : List C} {us vs : List Value} (hu : All2 (RepC p ρ w) cs us) (hv : All2 (RepC p ρ w) ds vs) (d : Nat) : ∀ (fs : List Field) (ps : List Prop), nW Try.prog cs ds fs = some ps → ∃ b : Bool, (Op.eqFields (d + 1) us.toArray vs.toArray fs).run Try.prog w = .ok b w ∧ (b = true ↔ ∀ q ∈ ps, q)
 | [], ps, h => by cases h; exact ⟨true, rfl, by simp⟩
 | f :: fs, ps, h => by
  unfold nW at h
  split at h
  ·rename_i kk hn hk ht
   split at h
   ·rename_i k a k' b hc hd
    split at h
    ·rename_i hkk
     subst hkk
     split at h
     ·rename_i r hr
      cases h
      obtain ⟨bb, h1, h2⟩ := a3 hu hv d fs r hr
      have hne : ¬ f.name = "_" := by intro e; rw [e] at hn; simp at hn
      have p1 := run_part_plain (P := Try.prog) (w := w) hk (bB hu hc)
      have p2 := run_part_plain (P := Try.prog) (w := w) hk (bB hv hd)
      have p3 := run_equalIn_int (P := Try.prog) w d f.type k kk a b ht
      refine ⟨(a == b) && bb, ?_, ?_⟩
      ·unfold Op.eqFields
       rw [if_pos hne, Sem.run_bind, p1]
       simp only [Result.andThen_ok]
       rw [Sem.run_bind, p2]
       simp only [Result.andThen_ok]
       rw [Sem.run_bind, p3]
       simp only [Result.andThen_ok]
       cases hab : a == b with
       | true => simpa using h1
       | false => rfl
      ·rw [kb1, h2]
       constructor
       ·rintro ⟨h3, h4⟩ q hq
        rcases List.mem_cons.1 hq with rfl | hq
        ·exact eq_of_beq h3
        ·exact h4 q hq
       ·intro h3
        exact ⟨beq_iff_eq.2 (h3 _ (ka7 ..)), fun q hq => h3 q (kb9 _ hq)⟩
     ·cases h
    ·cases h
   ·cases h
  ·rename_i hn hk ht
   split at h
   ·rename_i a b hc hd
    split at h
    ·rename_i r hr
     cases h
     obtain ⟨bb, h1, h2⟩ := a3 hu hv d fs r hr
     have hne : ¬ f.name = "_" := by intro e; rw [e] at hn; simp at hn
     have p1 := run_part_plain (P := Try.prog) (w := w) hk (bB hu hc)
     have p2 := run_part_plain (P := Try.prog) (w := w) hk (bB hv hd)
     have p3 := run_equalIn_bool' (P := Try.prog) w d f.type a b ht
     refine ⟨(a == b) && bb, ?_, ?_⟩
     ·unfold Op.eqFields
      rw [if_pos hne, Sem.run_bind, p1]
      simp only [Result.andThen_ok]
      rw [Sem.run_bind, p2]
      simp only [Result.andThen_ok]
      rw [Sem.run_bind, p3]
      simp only [Result.andThen_ok]
      cases hab : a == b with
      | true => simpa using h1
      | false => rfl
     ·rw [kb1, h2]
      constructor
      ·rintro ⟨h3, h4⟩ q hq
       rcases List.mem_cons.1 hq with rfl | hq
       ·exact eq_of_beq h3
       ·exact h4 q hq
      ·intro h3
       exact ⟨beq_iff_eq.2 (h3 _ (ka7 ..)), fun q hq => h3 q (kb9 _ hq)⟩
    ·cases h
   ·cases h
  ·cases h
theorem jC {α β : Type} {R : α → β → Prop} {cs : List α} {us : List β} (h : All2 R cs us) (a n : Nat) : All2 R ((cs.drop a).take n) ((us.drop a).take n) := All2.mk (by rw [kb8, kb8, kc0, kc0, h.len]) fun j c u hj hu => by
 rw [List.getElem?_take] at hj hu
 split at hj
 ·rename_i hlt
  rw [if_pos hlt] at hu
  rw [List.getElem?_drop] at hj hu
  exact h.get _ c u hj hu
 ·cases hj
theorem aE {P : Program} {w : World} {d : Nat} {us vs : Array Value} {f : Field} {fs : List Field} {b : Bool} (h : (Op.eqFields d us vs [f]).run P w = .ok b w) : (Op.eqFields d us vs (f :: fs)).run P w = if b = true then (Op.eqFields d us vs fs).run P w else .ok false w := by
 by_cases hn : f.name ≠ "_"
 ·simp only [Op.eqFields, if_pos hn, Sem.run_bind, Sem.run_ite] at h ⊢
  generalize (part f.type us f.offset).run P w = r1 at h ⊢
  cases r1 with
  | ok a w1 =>
   simp only [Result.andThen_ok] at h ⊢
   generalize (part f.type vs f.offset).run P w1 = r2 at h ⊢
   cases r2 with
   | ok b2 w2 =>
    simp only [Result.andThen_ok] at h ⊢
    generalize (Op.equalIn d f.type a b2).run P w2 = r3 at h ⊢
    cases r3 with
    | ok r w3 =>
     cases r
     ·simp [Result.andThen] at h ⊢
      obtain ⟨rfl, rfl⟩ := h
      simp
     ·simp [Result.andThen] at h ⊢
      obtain ⟨rfl, rfl⟩ := h
      simp
    | halt x w3 => simp [Result.andThen] at h
   | halt x w2 => simp [Result.andThen] at h
  | halt x w1 => simp [Result.andThen] at h
 ·simp only [Op.eqFields, if_neg hn] at h ⊢
  have : b = true := by simp at h; exact h
  rw [if_pos this]
def iY (P : Program) (cs ds : List C) : List Field → Option (List Prop)
 | [] => some []
 | f :: fs => match f.name == "_", P.underlying f.type, qM P f.type with
  | false, some (.struct sub), some (true, n) => match P.stoodInHeld f.type, nW P ((cs.drop f.offset).take n) ((ds.drop f.offset).take n) sub.toList, iY P cs ds fs with
   | false, some ps, some r => some (ps ++ r)
   | _, _, _ => none
  | _, _, _ => match nW P cs ds [f], iY P cs ds fs with
   | some ps, some r => some (ps ++ r)
   | _, _ => none
theorem tL {b c : Bool} {ps r : List Prop} (h1 : b = true ↔ ∀ q ∈ ps, q) (h2 : c = true ↔ ∀ q ∈ r, q) : (b && c) = true ↔ ∀ q ∈ ps ++ r, q := by
 rw [kb1, h1, h2]
 constructor
 ·rintro ⟨h3, h4⟩ q hq
  rcases List.mem_append.1 hq with hq | hq
  ·exact h3 q hq
  ·exact h4 q hq
 ·intro h3
  exact ⟨fun q hq => h3 q (List.mem_append_left _ hq), fun q hq => h3 q (List.mem_append_right _ hq)⟩
theorem bM {p : Nat → Prop} {ρ : Rh} {w : World} {cs ds : List C} {us vs : List Value} (hu : All2 (RepC p ρ w) cs us) (hv : All2 (RepC p ρ w) ds vs) (d : Nat) : ∀ (fs : List Field) (ps : List Prop), iY Try.prog cs ds fs = some ps → ∃ b : Bool, (Op.eqFields (d + 1 + 1) us.toArray vs.toArray fs).run Try.prog w = .ok b w ∧ (b = true ↔ ∀ q ∈ ps, q)
 | [], ps, h => by cases h; exact ⟨true, rfl, by simp⟩
 | f :: fs, ps, h => by
  unfold iY at h
  split at h
  ·rename_i sub n hn ht hty
   split at h
   ·rename_i qs r hst hq hr
    cases h
    obtain ⟨c, h1, h2⟩ := bM hu hv d fs r hr
    obtain ⟨b, h3, h4⟩ := a3 (jC hu f.offset n) (jC hv f.offset n) d _ _ hq
    have hne : ¬ f.name = "_" := by intro e; rw [e] at hn; simp at hn
    have hf : Try.prog.fieldsOf f.type = sub := by unfold Program.fieldsOf; rw [ht]
    have pt : ∀ xs : List Value, (part f.type xs.toArray f.offset).run Try.prog w = .ok (.agg ((xs.drop f.offset).take n).toArray) w := fun xs => by
     unfold part
     rw [Sem.run_bind, yU hty w]
     simp only [Result.andThen_ok, if_true, Sem.run_bind, k9 hty w, Sem.run_pure]
     rw [show xs.toArray.extract f.offset (f.offset + n) = ((xs.drop f.offset).take n).toArray by rw [List.extract_toArray, List.extract_eq_take_drop, Nat.add_sub_cancel_left]]
    have r3 := run_equalIn_agg (P := Try.prog) w (d + 1) f.type ((us.drop f.offset).take n).toArray ((vs.drop f.offset).take n).toArray (by rw [hf]; exact ht) hst
    rw [hf, h3] at r3
    refine ⟨b && c, ?_, tL h4 h2⟩
    have one : (Op.eqFields (d + 1 + 1) us.toArray vs.toArray [f]).run Try.prog w = .ok b w := by
     simp only [Op.eqFields, ne_eq, hne, not_false_eq_true, if_true]
     rw [Sem.run_bind, pt us]
     simp only [Result.andThen_ok]
     rw [Sem.run_bind, pt vs]
     simp only [Result.andThen_ok]
     rw [Sem.run_bind, r3]
     cases b <;> rfl
    rw [aE one, h1]
    cases b <;> rfl
   ·cases h
  ·split at h
   ·rename_i qs r hq hr
    cases h
    obtain ⟨c, h1, h2⟩ := bM hu hv d fs r hr
    obtain ⟨b, h3, h4⟩ := a3 hu hv (d + 1) [f] qs hq
    refine ⟨b && c, ?_, tL h4 h2⟩
    rw [aE h3, h1]
    cases b <;> rfl
   ·cases h
def tQ (P : Program) (xt : TypeId) (cs ds : List C) : Option (List Prop) := match P.underlying xt, P.stoodInHeld xt, P.eqGuardType P.depth xt with
 | some (.struct fs), false, false => iY P cs ds fs.toList
 | _, _, _ => none
def s8 (P : Program) (op : BinOp) (h : H) (xt : TypeId) (cs ds : List C) : R := match tQ P xt cs ds with
 | some ps => match op, h with
  | .eql, .b true => dO [AllP ps] (LV (.bool true))
  | .eql, .b false => dO [¬ AllP ps] (LV (.bool false))
  | .neq, .b true => dO [¬ AllP ps] (LV (.bool true))
  | .neq, .b false => dO [AllP ps] (LV (.bool false))
  | _, _ => none
 | none => none
section
variable {cx : Cx} {o : Oper} {l : List (Nat × PV)} {g : EH}
theorem s7 {op : BinOp} {h : H} {xt yt : TypeId} {x y : Operand} (ho : o.op = .binOp op xt x y yt) {cs ds : List C} (hx : Ev l x (.e (.agg cs))) (hy : Ev l y (.e (.agg ds))) : OKR cx o l g (s8 Try.prog op h xt cs ds) := by
 unfold s8
 split
 ·rename_i ps hps
  have key : ∀ (ρ : Rh) (a : Act) (w : World), uP cx.p ρ w l o.op.operands a → ∃ b : Bool, (b = true ↔ AllP ps) ∧ (op = .eql → (execOp a.eval o).run Try.prog w = .ok (.value (.bool b)) w) ∧ (op = .neq → (execOp a.eval o).run Try.prog w = .ok (.value (.bool (!b))) w) := by
   intro ρ a w hs
   obtain ⟨us, e1, h1⟩ := hx.rep hs (by rw [ho]; simp [Op.operands])
   obtain ⟨vs, e2, h2⟩ := hy.rep hs (by rw [ho]; simp [Op.operands])
   unfold tQ at hps
   split at hps
   ·rename_i fs hfs hst hgt
    obtain ⟨b, r1, r2⟩ := bM h1 h2 9997 _ _ hps
    have hf : Try.prog.fieldsOf xt = fs := by unfold Program.fieldsOf; rw [hfs]
    have r3 := run_equalIn_struct (P := Try.prog) w 9999 xt us.toArray vs.toArray (by rw [hf]; exact hfs) hst
    rw [hf, r1] at r3
    refine ⟨b, r2.trans (kN ps).symm, ?_, ?_⟩
    ·rintro rfl
     unfold execOp
     simp only [ho, e1, e2]
     rw [Sem.run_bind, Sem.run_bind, run_eqGuard_agg (P := Try.prog) w .eql xt x y us.toArray vs.toArray hgt]
     simp only [Result.andThen_ok]
     rw [run_eql_struct, r3]; rfl
    ·rintro rfl
     unfold execOp
     simp only [ho, e1, e2]
     rw [Sem.run_bind, Sem.run_bind, run_eqGuard_agg (P := Try.prog) w .neq xt x y us.toArray vs.toArray hgt]
     simp only [Result.andThen_ok]
     rw [run_neq_struct, r3]; rfl
   ·cases hps
  split
  ·refine OKR.some fun hp => kJ fun ρ a w hs => ?_
   obtain ⟨b, h1, h2, h3⟩ := key ρ a w hs
   have hb : b = true := h1.2 hp
   subst hb
   exact ⟨_, h2 rfl, qC rfl⟩
  ·refine OKR.some fun hp => kJ fun ρ a w hs => ?_
   obtain ⟨b, h1, h2, h3⟩ := key ρ a w hs
   have hb : b = false := by cases b with | false => rfl | true => exact absurd (h1.1 rfl) hp
   subst hb
   exact ⟨_, h2 rfl, qC rfl⟩
  ·refine OKR.some fun hp => kJ fun ρ a w hs => ?_
   obtain ⟨b, h1, h2, h3⟩ := key ρ a w hs
   have hb : b = false := by cases b with | false => rfl | true => exact absurd (h1.1 rfl) hp
   subst hb
   exact ⟨_, h3 rfl, qC rfl⟩
  ·refine OKR.some fun hp => kJ fun ρ a w hs => ?_
   obtain ⟨b, h1, h2, h3⟩ := key ρ a w hs
   have hb : b = true := h1.2 hp
   subst hb
   exact ⟨_, h3 rfl, qC rfl⟩
  ·exact OKR.none
 ·exact OKR.none
def lL (P : Program) (op : BinOp) (h : H) (xt : TypeId) (u v : PV) : R := match op, u, v with
 | .shl, .e (.c (.d (.lit a))), .e (.c (.d (.lit b))) => match xH .shl h a b with
  | some (ps, v) => dO ps (LV v)
  | none => none
 | .shr, .e (.c (.d (.lit a))), .e (.c (.d (.lit b))) => match xH .shr h a b with
  | some (ps, v) => dO ps (LV v)
  | none => none
 | .and, .e (.c (.d (.lit a))), .e (.c (.d (.lit b))) => match nS .and h a b with
  | some (ps, v) => dO ps (LV v)
  | none => none
 | .or, .e (.c (.d (.lit a))), .e (.c (.d (.lit b))) => match nS .or h a b with
  | some (ps, v) => dO ps (LV v)
  | none => none
 | .xor, .e (.c (.d (.lit a))), .e (.c (.d (.lit b))) => match nS .xor h a b with
  | some (ps, v) => dO ps (LV v)
  | none => none
 | .andNot, .e (.c (.d (.lit a))), .e (.c (.d (.lit b))) => match nS .andNot h a b with
  | some (ps, v) => dO ps (LV v)
  | none => none
 | op, .e (.agg cs), .e (.agg ds) => s8 P op h xt cs ds
 | op, u, v => sX P op h xt u v
theorem nT {op : BinOp} {h : H} {xt yt : TypeId} {x y : Operand} (ho : o.op = .binOp op xt x y yt) {u v : PV} (hu : Ev l x u) (hv : Ev l y v) : OKR cx o l g (lL Try.prog op h xt u v) := by
 unfold lL
 split
 iterate 2
  ·split
   ·rename_i he
    refine OKR.some fun hp => ?_
    obtain ⟨h1, h2⟩ := xG (xt := xt) he hp x y
    exact j2 ho hu hv h1 h2
   ·exact OKR.none
 iterate 4
  ·split
   ·rename_i he
    refine OKR.some fun hp => ?_
    obtain ⟨h1, h2⟩ := xP (xt := xt) he hp x y
    exact j2 ho hu hv h1 h2
   ·exact OKR.none
 ·exact s7 ho hu hv
 ·exact sW ho hu hv
end
end Go.Proofs.Ytkjmlililpgamaa
