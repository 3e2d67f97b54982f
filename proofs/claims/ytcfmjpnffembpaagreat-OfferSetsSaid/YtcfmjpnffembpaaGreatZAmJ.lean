/- Merged texts. -/
import Derived.Test.YtcfmjpnffembpaaGreatZAmF
import Derived.Laws.StructEq
import Derived.Test.YtcfmjpnffembpaaGreatZAmS
import Derived.Laws.Strings3
import Derived.Laws.IdiomStrings
import Derived.Lib.Builder
import Derived.Lib.UnsafeStr
import Derived.Lib.AppendStr
import Derived.Test.YtcfmjpnffembpaaGreatZAmI
namespace Go.Proofs.YtcfmjpnffembpaaGreat
open Go.ChangeShapes Go.WideShapes Go.ChangeAt Go.RowKit
set_option linter.unusedVariables false
set_option linter.unusedSimpArgs false
def k8p (op : BinOp) (h : H) : Value → Value → Option (List Prop × Value)
 | .int k a, .int _ b => match op, h with
  | .shl, .n s => some ([b = (s : Int), s ≤ k.bits, inK k (a * ((2 ^ s : Nat) : Int))], .int k (a * ((2 ^ s : Nat) : Int)))
  | .shl, .n2 s _ => some ([b = (s : Int), s ≤ k.bits], .int k (k.wrap (a * ((2 ^ s : Nat) : Int))))
  | .shr, .n s => some ([b = (s : Int), s ≤ k.bits], .int k (a / ((2 ^ s : Nat) : Int)))
  | _, _ => none
 | _, _ => none
theorem tM (s : Nat) : ((2 ^ s : Nat) : Int) = (2 : Int) ^ s := by simp
theorem k8o {op : BinOp} {h : H} {a b : Value} {ps : List Prop} {v : Value} {xt : TypeId} (e : k8p op h a b = some (ps, v)) (hp : AllP ps) (x y : Operand) : nP op xt x y a b v ∧ v.oneCell' = true := by
 unfold k8p at e
 split at e
 ·rename_i k a yk b
  split at e
  ·rename_i s
   cases e
   obtain ⟨h1, h2, h3⟩ := hp
   have h3 : inK k _ := h3
   have h4 := lL h3
   rw [tM] at h4
   have hneg : ¬ ((s : Int) < 0) := by omega
   subst h1
   refine ⟨fun w => ?_, rfl⟩
   simp [eqGuard, binOp, Op.shift, Nat.min_eq_left h2, hneg, h4]
  ·rename_i s r
   cases e
   obtain ⟨h1, h2⟩ := hp
   have h2 : _ ≤ _ := h2
   have hneg : ¬ ((s : Int) < 0) := by omega
   subst h1
   refine ⟨fun w => ?_, rfl⟩
   simp [eqGuard, binOp, Op.shift, Nat.min_eq_left h2, hneg]
  ·rename_i s
   cases e
   obtain ⟨h1, h2⟩ := hp
   have h2 : _ ≤ _ := h2
   have hneg : ¬ ((s : Int) < 0) := by omega
   have h4 : a.fdiv ((2 : Int) ^ s) = a / (2 : Int) ^ s := by rw [← tM, Int.fdiv_eq_ediv_of_nonneg _ (Int.natCast_nonneg _)]
   subst h1
   refine ⟨fun w => ?_, rfl⟩
   simp [eqGuard, binOp, Op.shift, Nat.min_eq_left h2, hneg, h4]
  ·cases e
 ·cases e
def k2f (op : BinOp) (h : H) : Value → Value → Option (List Prop × Value)
 | .int k a, .int k' b => if k = k' then match op, h with
   | .and, .i r => some ([qI .and k a b = r], .int k r)
   | .or, .i r => some ([qI .or k a b = r], .int k r)
   | .xor, .i r => some ([qI .xor k a b = r], .int k r)
   | .andNot, .i r => some ([qI .andNot k a b = r], .int k r)
   | _, _ => none
  else none
 | _, _ => none
theorem k8x {op : BinOp} {h : H} {a b : Value} {ps : List Prop} {v : Value} {xt : TypeId} (e : k2f op h a b = some (ps, v)) (hp : AllP ps) (x y : Operand) : nP op xt x y a b v ∧ v.oneCell' = true := by
 unfold k2f at e
 split at e
 ·split at e
  ·rename_i hk
   subst hk
   split at e
   all_goals first | (cases e; have hp : _ = _ := hp; subst hp; refine ⟨fun w => ?_, rfl⟩; simp [eqGuard, binOp, Op.intBits, qI]; done) | cases e
  ·cases e
 ·cases e
/-! structs of numbers -/
def k2h (P : Program) (cs ds : List C) : List Field → Option (List Prop)
 | [] => some []
 | f :: fs => match f.name == "_", P.plainKey f.type, P.underlying f.type with
  | false, true, some (.int _) => match cs[f.offset]?, ds[f.offset]? with
   | some (.d (.lit (.int k a))), some (.d (.lit (.int k' b))) => if k = k' then match k2h P cs ds fs with
     | some r => some ((a = b) :: r)
     | none => none
    else none
   | _, _ => none
  | false, true, some .bool => match cs[f.offset]?, ds[f.offset]? with
   | some (.d (.lit (.bool a))), some (.d (.lit (.bool b))) => match k2h P cs ds fs with
     | some r => some ((a = b) :: r)
     | none => none
   | _, _ => none
  | _, _, _ => none
theorem iX {p : Nat → Prop} {ρ : Rh} {w : World} {cs : List C} {us : List Value} (h : All2 (RepC p ρ w) cs us) {i : Nat} {v : Value} (hc : cs[i]? = some (.d (.lit v))) : us.toArray[i]? = some v := by
 have hi : i < us.length := by have := (List.getElem?_eq_some_iff.1 hc).1; rw [← h.len]; exact this
 have := h.get i _ us[i] hc (List.getElem?_eq_getElem hi)
 have e : us[i] = v := by
  generalize us[i] = q at this
  cases this with | d h => cases h; rfl
 simp [hi, e]
theorem iP {p : Nat → Prop} {ρ : Rh} {w : World} {cs ds : List C} {us vs : List Value} (hu : All2 (RepC p ρ w) cs us) (hv : All2 (RepC p ρ w) ds vs) (d : Nat) : ∀ (fs : List Field) (ps : List Prop), k2h Tryz.prog cs ds fs = some ps → ∃ b : Bool, (Op.eqFields (d + 1) us.toArray vs.toArray fs).run Tryz.prog w = .ok b w ∧ (b = true ↔ ∀ q ∈ ps, q)
 | [], ps, h => by cases h; exact ⟨true, rfl, by simp⟩
 | f :: fs, ps, h => by
  unfold k2h at h
  split at h
  ·rename_i kk hn hk ht
   split at h
   ·rename_i k a k' b hc hd
    split at h
    ·rename_i hkk
     subst hkk
     split at h
     ·rename_i r hr
      cases h
      obtain ⟨bb, h1, h2⟩ := iP hu hv d fs r hr
      have hne : ¬ f.name = "_" := by intro e; rw [e] at hn; simp at hn
      have p1 := run_part_plain (P := Tryz.prog) (w := w) hk (iX hu hc)
      have p2 := run_part_plain (P := Tryz.prog) (w := w) hk (iX hv hd)
      have p3 := run_equalIn_int (P := Tryz.prog) w d f.type k kk a b ht
      refine ⟨(a == b) && bb, ?_, ?_⟩
      ·unfold Op.eqFields
       rw [if_pos hne, Sem.run_bind, p1]
       simp only [Result.andThen_ok]
       rw [Sem.run_bind, p2]
       simp only [Result.andThen_ok]
       rw [Sem.run_bind, p3]
       simp only [Result.andThen_ok]
       cases hab : a == b with
       | true => simpa using h1
       | false => rfl
      ·rw [Bool.and_eq_true, h2]
       constructor
       ·rintro ⟨h3, h4⟩ q hq
        rcases List.mem_cons.1 hq with rfl | hq
        ·exact eq_of_beq h3
        ·exact h4 q hq
       ·intro h3
        exact ⟨beq_iff_eq.2 (h3 _ (List.mem_cons_self ..)), fun q hq => h3 q (List.mem_cons_of_mem _ hq)⟩
     ·cases h
    ·cases h
   ·cases h
  ·rename_i hn hk ht
   split at h
   ·rename_i a b hc hd
    split at h
    ·rename_i r hr
     cases h
     obtain ⟨bb, h1, h2⟩ := iP hu hv d fs r hr
     have hne : ¬ f.name = "_" := by intro e; rw [e] at hn; simp at hn
     have p1 := run_part_plain (P := Tryz.prog) (w := w) hk (iX hu hc)
     have p2 := run_part_plain (P := Tryz.prog) (w := w) hk (iX hv hd)
     have p3 := run_equalIn_bool' (P := Tryz.prog) w d f.type a b ht
     refine ⟨(a == b) && bb, ?_, ?_⟩
     ·unfold Op.eqFields
      rw [if_pos hne, Sem.run_bind, p1]
      simp only [Result.andThen_ok]
      rw [Sem.run_bind, p2]
      simp only [Result.andThen_ok]
      rw [Sem.run_bind, p3]
      simp only [Result.andThen_ok]
      cases hab : a == b with
      | true => simpa using h1
      | false => rfl
     ·rw [Bool.and_eq_true, h2]
      constructor
      ·rintro ⟨h3, h4⟩ q hq
       rcases List.mem_cons.1 hq with rfl | hq
       ·exact eq_of_beq h3
       ·exact h4 q hq
      ·intro h3
       exact ⟨beq_iff_eq.2 (h3 _ (List.mem_cons_self ..)), fun q hq => h3 q (List.mem_cons_of_mem _ hq)⟩
    ·cases h
   ·cases h
  ·cases h
theorem wU {α β : Type} {R : α → β → Prop} {cs : List α} {us : List β} (h : All2 R cs us) (a n : Nat) : All2 R ((cs.drop a).take n) ((us.drop a).take n) := All2.mk (by rw [List.length_take, List.length_take, List.length_drop, List.length_drop, h.len]) fun j c u hj hu => by
 rw [List.getElem?_take] at hj hu
 split at hj
 ·rename_i hlt
  rw [if_pos hlt] at hu
  rw [List.getElem?_drop] at hj hu
  exact h.get _ c u hj hu
 ·cases hj
theorem gJ {P : Program} {w : World} {d : Nat} {us vs : Array Value} {f : Field} {fs : List Field} {b : Bool} (h : (Op.eqFields d us vs [f]).run P w = .ok b w) : (Op.eqFields d us vs (f :: fs)).run P w = if b = true then (Op.eqFields d us vs fs).run P w else .ok false w := by
 by_cases hn : f.name ≠ "_"
 ·simp only [Op.eqFields, if_pos hn, Sem.run_bind, Sem.run_ite] at h ⊢
  generalize (part f.type us f.offset).run P w = r1 at h ⊢
  cases r1 with
  | ok a w1 =>
   simp only [Result.andThen_ok] at h ⊢
   generalize (part f.type vs f.offset).run P w1 = r2 at h ⊢
   cases r2 with
   | ok b2 w2 =>
    simp only [Result.andThen_ok] at h ⊢
    generalize (Op.equalIn d f.type a b2).run P w2 = r3 at h ⊢
    cases r3 with
    | ok r w3 =>
     cases r
     ·simp [Result.andThen] at h ⊢
      obtain ⟨rfl, rfl⟩ := h
      simp
     ·simp [Result.andThen] at h ⊢
      obtain ⟨rfl, rfl⟩ := h
      simp
    | halt x w3 => simp [Result.andThen] at h
   | halt x w2 => simp [Result.andThen] at h
  | halt x w1 => simp [Result.andThen] at h
 ·simp only [Op.eqFields, if_neg hn] at h ⊢
  have : b = true := by simp at h; exact h
  rw [if_pos this]
def wM (P : Program) (cs ds : List C) : List Field → Option (List Prop)
 | [] => some []
 | f :: fs => match f.name == "_", P.underlying f.type, vD P f.type with
  | false, some (.struct sub), some (true, n) => match P.stoodInHeld f.type, k2h P ((cs.drop f.offset).take n) ((ds.drop f.offset).take n) sub.toList, wM P cs ds fs with
   | false, some ps, some r => some (ps ++ r)
   | _, _, _ => none
  | _, _, _ => match k2h P cs ds [f], wM P cs ds fs with
   | some ps, some r => some (ps ++ r)
   | _, _ => none
theorem k6r {b c : Bool} {ps r : List Prop} (h1 : b = true ↔ ∀ q ∈ ps, q) (h2 : c = true ↔ ∀ q ∈ r, q) : (b && c) = true ↔ ∀ q ∈ ps ++ r, q := by
 rw [Bool.and_eq_true, h1, h2]
 constructor
 ·rintro ⟨h3, h4⟩ q hq
  rcases List.mem_append.1 hq with hq | hq
  ·exact h3 q hq
  ·exact h4 q hq
 ·intro h3
  exact ⟨fun q hq => h3 q (List.mem_append_left _ hq), fun q hq => h3 q (List.mem_append_right _ hq)⟩
theorem jW {p : Nat → Prop} {ρ : Rh} {w : World} {cs ds : List C} {us vs : List Value} (hu : All2 (RepC p ρ w) cs us) (hv : All2 (RepC p ρ w) ds vs) (d : Nat) : ∀ (fs : List Field) (ps : List Prop), wM Tryz.prog cs ds fs = some ps → ∃ b : Bool, (Op.eqFields (d + 1 + 1) us.toArray vs.toArray fs).run Tryz.prog w = .ok b w ∧ (b = true ↔ ∀ q ∈ ps, q)
 | [], ps, h => by cases h; exact ⟨true, rfl, by simp⟩
 | f :: fs, ps, h => by
  unfold wM at h
  split at h
  ·rename_i sub n hn ht hty
   split at h
   ·rename_i qs r hst hq hr
    cases h
    obtain ⟨c, h1, h2⟩ := jW hu hv d fs r hr
    obtain ⟨b, h3, h4⟩ := iP (wU hu f.offset n) (wU hv f.offset n) d _ _ hq
    have hne : ¬ f.name = "_" := by intro e; rw [e] at hn; simp at hn
    have hf : Tryz.prog.fieldsOf f.type = sub := by unfold Program.fieldsOf; rw [ht]
    have pt : ∀ xs : List Value, (part f.type xs.toArray f.offset).run Tryz.prog w = .ok (.agg ((xs.drop f.offset).take n).toArray) w := fun xs => by
     unfold part
     rw [Sem.run_bind, dD hty w]
     simp only [Result.andThen_ok, if_true, Sem.run_bind, u0 hty w, Sem.run_pure]
     rw [show xs.toArray.extract f.offset (f.offset + n) = ((xs.drop f.offset).take n).toArray by rw [List.extract_toArray, List.extract_eq_take_drop, Nat.add_sub_cancel_left]]
    have r3 := run_equalIn_agg (P := Tryz.prog) w (d + 1) f.type ((us.drop f.offset).take n).toArray ((vs.drop f.offset).take n).toArray (by rw [hf]; exact ht) hst
    rw [hf, h3] at r3
    refine ⟨b && c, ?_, k6r h4 h2⟩
    have one : (Op.eqFields (d + 1 + 1) us.toArray vs.toArray [f]).run Tryz.prog w = .ok b w := by
     simp only [Op.eqFields, ne_eq, hne, not_false_eq_true, if_true]
     rw [Sem.run_bind, pt us]
     simp only [Result.andThen_ok]
     rw [Sem.run_bind, pt vs]
     simp only [Result.andThen_ok]
     rw [Sem.run_bind, r3]
     cases b <;> rfl
    rw [gJ one, h1]
    cases b <;> rfl
   ·cases h
  ·split at h
   ·rename_i qs r hq hr
    cases h
    obtain ⟨c, h1, h2⟩ := jW hu hv d fs r hr
    obtain ⟨b, h3, h4⟩ := iP hu hv (d + 1) [f] qs hq
    refine ⟨b && c, ?_, k6r h4 h2⟩
    rw [gJ h3, h1]
    cases b <;> rfl
   ·cases h
def k6v (P : Program) (xt : TypeId) (cs ds : List C) : Option (List Prop) := match P.underlying xt, P.stoodInHeld xt, P.eqGuardType P.depth xt with
 | some (.struct fs), false, false => wM P cs ds fs.toList
 | _, _, _ => none
def k6c (P : Program) (op : BinOp) (h : H) (xt : TypeId) (cs ds : List C) : R := match k6v P xt cs ds with
 | some ps => match op, h with
  | .eql, .b true => oF [AllP ps] (LV (.bool true))
  | .eql, .b false => oF [¬ AllP ps] (LV (.bool false))
  | .neq, .b true => oF [¬ AllP ps] (LV (.bool true))
  | .neq, .b false => oF [AllP ps] (LV (.bool false))
  | _, _ => none
 | none => none
section
variable {cx : Cx} {o : Oper} {l : List (Nat × PV)} {g : EH}
theorem k6b {op : BinOp} {h : H} {xt yt : TypeId} {x y : Operand} (ho : o.op = .binOp op xt x y yt) {cs ds : List C} (hx : Ev l x (.e (.agg cs))) (hy : Ev l y (.e (.agg ds))) : OKR cx o l g (k6c Tryz.prog op h xt cs ds) := by
 unfold k6c
 split
 ·rename_i ps hps
  have key : ∀ (ρ : Rh) (a : Act) (w : World), bL cx.p ρ w l o.op.operands a → ∃ b : Bool, (b = true ↔ AllP ps) ∧ (op = .eql → (execOp a.eval o).run Tryz.prog w = .ok (.value (.bool b)) w) ∧ (op = .neq → (execOp a.eval o).run Tryz.prog w = .ok (.value (.bool (!b))) w) := by
   intro ρ a w hs
   obtain ⟨us, e1, h1⟩ := hx.rep hs (by rw [ho]; simp [Op.operands])
   obtain ⟨vs, e2, h2⟩ := hy.rep hs (by rw [ho]; simp [Op.operands])
   unfold k6v at hps
   split at hps
   ·rename_i fs hfs hst hgt
    obtain ⟨b, r1, r2⟩ := jW h1 h2 9997 _ _ hps
    have hf : Tryz.prog.fieldsOf xt = fs := by unfold Program.fieldsOf; rw [hfs]
    have r3 := run_equalIn_struct (P := Tryz.prog) w 9999 xt us.toArray vs.toArray (by rw [hf]; exact hfs) hst
    rw [hf, r1] at r3
    refine ⟨b, r2.trans (uH ps).symm, ?_, ?_⟩
    ·rintro rfl
     unfold execOp
     simp only [ho, e1, e2]
     rw [Sem.run_bind, Sem.run_bind, run_eqGuard_agg (P := Tryz.prog) w .eql xt x y us.toArray vs.toArray hgt]
     simp only [Result.andThen_ok]
     rw [run_eql_struct, r3]; rfl
    ·rintro rfl
     unfold execOp
     simp only [ho, e1, e2]
     rw [Sem.run_bind, Sem.run_bind, run_eqGuard_agg (P := Tryz.prog) w .neq xt x y us.toArray vs.toArray hgt]
     simp only [Result.andThen_ok]
     rw [run_neq_struct, r3]; rfl
   ·cases hps
  split
  ·refine OKR.some fun hp => qX fun ρ a w hs => ?_
   obtain ⟨b, h1, h2, h3⟩ := key ρ a w hs
   have hb : b = true := h1.2 hp
   subst hb
   exact ⟨_, h2 rfl, v8 rfl⟩
  ·refine OKR.some fun hp => qX fun ρ a w hs => ?_
   obtain ⟨b, h1, h2, h3⟩ := key ρ a w hs
   have hb : b = false := by cases b with | false => rfl | true => exact absurd (h1.1 rfl) hp
   subst hb
   exact ⟨_, h2 rfl, v8 rfl⟩
  ·refine OKR.some fun hp => qX fun ρ a w hs => ?_
   obtain ⟨b, h1, h2, h3⟩ := key ρ a w hs
   have hb : b = false := by cases b with | false => rfl | true => exact absurd (h1.1 rfl) hp
   subst hb
   exact ⟨_, h3 rfl, v8 rfl⟩
  ·refine OKR.some fun hp => qX fun ρ a w hs => ?_
   obtain ⟨b, h1, h2, h3⟩ := key ρ a w hs
   have hb : b = true := h1.2 hp
   subst hb
   exact ⟨_, h3 rfl, v8 rfl⟩
  ·exact OKR.none
 ·exact OKR.none
def zW (P : Program) (op : BinOp) (h : H) (xt : TypeId) (u v : PV) : R := match op, u, v with
 | .shl, .e (.c (.d (.lit a))), .e (.c (.d (.lit b))) => match k8p .shl h a b with
  | some (ps, v) => oF ps (LV v)
  | none => none
 | .shr, .e (.c (.d (.lit a))), .e (.c (.d (.lit b))) => match k8p .shr h a b with
  | some (ps, v) => oF ps (LV v)
  | none => none
 | .and, .e (.c (.d (.lit a))), .e (.c (.d (.lit b))) => match k2f .and h a b with
  | some (ps, v) => oF ps (LV v)
  | none => none
 | .or, .e (.c (.d (.lit a))), .e (.c (.d (.lit b))) => match k2f .or h a b with
  | some (ps, v) => oF ps (LV v)
  | none => none
 | .xor, .e (.c (.d (.lit a))), .e (.c (.d (.lit b))) => match k2f .xor h a b with
  | some (ps, v) => oF ps (LV v)
  | none => none
 | .andNot, .e (.c (.d (.lit a))), .e (.c (.d (.lit b))) => match k2f .andNot h a b with
  | some (ps, v) => oF ps (LV v)
  | none => none
 | op, .e (.agg cs), .e (.agg ds) => k6c P op h xt cs ds
 | op, u, v => k65 P op h xt u v
theorem k2g {op : BinOp} {h : H} {xt yt : TypeId} {x y : Operand} (ho : o.op = .binOp op xt x y yt) {u v : PV} (hu : Ev l x u) (hv : Ev l y v) : OKR cx o l g (zW Tryz.prog op h xt u v) := by
 unfold zW
 split
 iterate 2
  ·split
   ·rename_i he
    refine OKR.some fun hp => ?_
    obtain ⟨h1, h2⟩ := k8o (xt := xt) he hp x y
    exact zB ho hu hv h1 h2
   ·exact OKR.none
 iterate 4
  ·split
   ·rename_i he
    refine OKR.some fun hp => ?_
    obtain ⟨h1, h2⟩ := k8x (xt := xt) he hp x y
    exact zB ho hu hv h1 h2
   ·exact OKR.none
 ·exact k6b ho hu hv
 ·exact k64 ho hu hv
end
end Go.Proofs.YtcfmjpnffembpaaGreat
namespace Go.Proofs.YtcfmjpnffembpaaGreat
open Go.ChangeShapes Go.WideShapes Go.ChangeAt Go.RowKit
set_option linter.unusedVariables false
set_option linter.unusedSimpArgs false
theorem lF (w : World) (d : Nat) (t e : TypeId) (a : Option Addr) (n c n' c' : Nat) (h : Tryz.prog.underlying t = some (.slice e)) : (Op.equalIn (d + 1) t (.slice a n c) (.slice none n' c')).run Tryz.prog w = .ok a.isNone w := by
 cases a with
 | none => simp [Op.equalIn, run_underlying h]
 | some a => simp [Op.equalIn, run_underlying h]
theorem gF (w : World) (t e : TypeId) (a : Option Addr) (n c n' c' : Nat) (h : Tryz.prog.underlying t = some (.slice e)) : (Op.equal t (.slice a n c) (.slice none n' c')).run Tryz.prog w = .ok a.isNone w := lF w 9999 t e a n c n' c' h
theorem u1s {xt e : TypeId} {x y : Operand} {a : Option Addr} {n c n' c' : Nat} (h : Tryz.prog.underlying xt = some (.slice e)) : nP .eql xt x y (.slice a n c) (.slice none n' c') (.bool a.isNone) := by
 intro w; simp [eqGuard, binOp, gF (h := h)]
theorem u1r {xt e : TypeId} {x y : Operand} {a : Option Addr} {n c n' c' : Nat} (h : Tryz.prog.underlying xt = some (.slice e)) : nP .neq xt x y (.slice a n c) (.slice none n' c') (.bool (!a.isNone)) := by
 intro w; simp [eqGuard, binOp, gF (h := h)]
section
variable {cx : Cx} {o : Oper} {l : List (Nat × PV)} {g : EH}
theorem k0l {g : List (Nat × Option Bk)} {xt yt e : TypeId} {x y : Operand} {op : BinOp} {u : PV} {b r : Bool} (ho : o.op = .binOp op xt x y yt) (hu : Tryz.prog.underlying xt = some (.slice e)) (hx : Ev l x u) (hy : Ev l y (LV d5))
  (hn : ∀ p ρ w v, RepPV p ρ w u v → ∃ a n c, v = .slice a n c ∧ a.isNone = b) (hop : (op = .eql ∧ r = b) ∨ (op = .neq ∧ r = !b)) : OpOK cx o (S l) (S g) ⟨LV (.bool r), [], [], []⟩ :=
 qX fun ρ a w hs => ⟨.bool r, by
  obtain ⟨ad, n, c, e1, e3⟩ := hn _ _ _ _ (hx.rep hs (by rw [ho]; simp [Op.operands]))
  have e2 := uK (hy.rep hs (by rw [ho]; simp [Op.operands]))
  unfold execOp
  rcases hop with ⟨rfl, rfl⟩ | ⟨rfl, rfl⟩
  ·simp only [ho, e1, e2]
   rw [Sem.run_bind, u1s (h := hu) w, e3]; rfl
  ·simp only [ho, e1, e2]
   rw [Sem.run_bind, u1r (h := hu) w, e3]; rfl, v8 rfl⟩
def wC (P : Program) (t : TypeId) : Option TypeId := match P.underlying t with
 | some (.slice e) => some e
 | _ => none
theorem iL {t e : TypeId} (h : wC Tryz.prog t = some e) : Tryz.prog.underlying t = some (.slice e) := by
 unfold wC at h
 split at h
 ·rename_i h1; cases h; exact h1
 ·cases h
def k46 : PV → Option (List Prop × Bool)
 | .e (.c (.d (.sl _ n))) => some ([1 ≤ n], false)
 | .e (.c (.own _ _ n _ _)) => some ([1 ≤ n], false)
 | .e (.c (.d (.lit (.slice none _ _)))) => some ([], true)
 | .e (.c (.d (.lit (.slice (some _) _ _)))) => some ([], false)
 | _ => none
theorem tW {u : PV} {ps : List Prop} {b : Bool} (h : k46 u = some (ps, b)) (hp : AllP ps) : ∀ p ρ w v, RepPV p ρ w u v → ∃ a n c, v = .slice a n c ∧ a.isNone = b := by
 unfold k46 at h
 intro p ρ w v hr
 split at h
 ·rename_i ds n
  cases h
  have hn : 1 ≤ n := hp
  obtain ⟨a, cap, e, h1, _, h2, h3⟩ := p6 hr
  rcases h3 with ⟨_, h3⟩ | ⟨us, b', off, h3, _⟩
  ·omega
  ·exact ⟨a, n, cap, e, by rw [h3]; rfl⟩
 ·rename_i b' off n s wh
  cases h
  have hn : 1 ≤ n := hp
  obtain ⟨m, cap, _, _, e, _⟩ := fN (by omega) hr
  exact ⟨_, n, cap, e, rfl⟩
 ·cases h; exact ⟨_, _, _, uK hr, rfl⟩
 ·cases h; exact ⟨_, _, _, uK hr, rfl⟩
 ·cases h
def zK : PV → Bool
 | .e (.c (.d (.lit (.slice none 0 0)))) => true
 | _ => false
theorem oX {u : PV} (h : zK u = true) : u = LV d5 := by
 unfold zK at h
 split at h
 ·rfl
 ·cases h
def k59 (P : Program) (op : BinOp) (xt : TypeId) (u v : PV) : R := match wC P xt, zK v, k46 u, op with
 | some _, true, some (ps, b), .eql => oF ps (LV (.bool b))
 | some _, true, some (ps, b), .neq => oF ps (LV (.bool (!b)))
 | _, _, _, _ => none
theorem k58 {op : BinOp} {xt yt : TypeId} {x y : Operand} (ho : o.op = .binOp op xt x y yt) {u v : PV} (hu : Ev l x u) (hv : Ev l y v) : OKR cx o l g (k59 Tryz.prog op xt u v) := by
 unfold k59
 split
 ·rename_i h1 h2 h3
  obtain rfl := oX h2
  exact OKR.some fun hp => k0l ho (iL h1) hu hv (tW h3 hp) (.inl ⟨rfl, rfl⟩)
 ·rename_i h1 h2 h3
  obtain rfl := oX h2
  exact OKR.some fun hp => k0l ho (iL h1) hu hv (tW h3 hp) (.inr ⟨rfl, rfl⟩)
 ·exact OKR.none
theorem mK {t e : TypeId} {bb : Bool} {s : Nat} (hu : Tryz.prog.underlying t = some (.slice e)) (he : vD Tryz.prog e = some (bb, s)) (w : World) (b off n cap H : Nat) (k : IntKind) (h2 : H ≤ n) (h3 : n ≤ cap) :
  (Instr.sliceAt t (.slice (some ⟨b, off, none⟩) n cap) none (some (.int k (H : Int))) none).run Tryz.prog w = .ok (.slice (some ⟨b, off, none⟩) H cap) w := by
 have h4 : Tryz.prog.underlying t = some (.slice (Tryz.prog.elem t)) := by rw [bA hu]; exact hu
 rw [run_sliceAt_slice (h := h4), run_slice_h (ht := h4) (h0 := by omega) (h2 := by omega), bA hu, u0 he]
 simp [sliced, Result.andThen, Addr.add]
theorem x8 {g : List (Nat × Option Bk)} {t e : TypeId} {bb : Bool} {x y : Operand} {b n s H : Nat} {T : TypeId} {cs cs' : List C} {k : IntKind} {i : Int} (ho : o.op = .slice t x none (some y) none) (hu : Tryz.prog.underlying t = some (.slice e)) (he : vD Tryz.prog e = some (bb, s)) (hx : Ev l x (.e (.c (.own b 0 n s true)))) (hy : Ev l y (LV (.int k i))) (hi : i = (H : Int)) (hb : Look g b (some (T, cs))) (h2 : H ≤ n) (hc : cs.take (H * s) = cs') :
  OpOK cx o (S l) (S g) ⟨.e (.c (.own b 0 H s true)), [(b, some (T, cs'))], [], [b]⟩ := by
 intro Q ρ a w hL hs hfoot _ hh hk hdf K hK
 have hrep := hx.rep hs (by rw [ho]; simp [Op.operands])
 obtain ⟨vx, ev⟩ : ∃ vx, a.eval x = vx := ⟨_, rfl⟩
 rw [ev] at hrep
 have hrep' : RepC cx.p ρ w (.own b 0 n s true) vx := hrep
 cases hrep' with
 | ownn _ _ m hm hnl =>
  have hb' : hL b = some (T, cs) := by rw [hfoot b (by simp), hb.S]
  have hH : H = 0 := by omega
  subst hH
  have hcs0 : cs = [] := by
   obtain ⟨m2, k1, k2 | ⟨k2, _⟩⟩ := hh.row b T cs hb'
   ·exact k2.2
   ·rw [hm] at k1; cases k1; rw [hnl] at k2; cases k2
  subst hcs0
  have hc' : cs' = [] := by rw [← hc]; simp
  subst hc'
  obtain ⟨M, q1, q2, q3, q4⟩ := d4 ho hu he (.no) (.yes hy hi) (.no) (Nat.le_refl 0) (Nat.le_refl 0) hs ev (Nat.le_refl 0)
  have hM : M = 0 := by omega
  subst hM
  have hL' : (fun x => (([(b, some (T, ([] : List C)))] : List (Nat × Option Bk)).lookup x).getD (hL x)) = hL := by
   funext x'
   by_cases e : x' = b
   ·subst e; simp [hb']
   ·simp [List.lookup_cons, show (x' == b) = false by simpa using e]
  refine l9 _ q4 (hK _ _ ρ (Goes.refl _ _ _) (fun _ _ h => h) (by rw [hL']; exact hh) hk (.ownn b s m hm hnl))
 | own _ _ _ _ _ m cap hm hnl h3 h4 h5 =>
  have ey := uK (hy.rep hs (by rw [ho]; simp [Op.operands]))
  have hb' : hL b = some (T, cs) := by rw [hfoot b (by simp), hb.S]
  obtain ⟨vs, rest, q1, q2, q3⟩ := (hh.at hb' hm hnl).1
  have hcl : cs.length = vs.length := q3.len
  have hrow : Row cx.p ρ w m T cs' := by
   refine ⟨vs.take (H * s), vs.drop (H * s) ++ rest, by rw [← List.append_assoc, List.take_append_drop]; exact q1, by rw [← List.append_assoc, List.take_append_drop]; exact q2, ?_⟩
   rw [← hc]
   exact All2.mk (by rw [List.length_take, List.length_take, hcl]) fun j c u hj hu' => by
    rw [List.getElem?_take] at hj hu'
    split at hj
    ·rename_i hlt
     rw [if_pos hlt] at hu'
     exact q3.get j c u hj hu'
    ·cases hj
  obtain ⟨p1, p2, p3⟩ := HRep.write hh hk hb' hm hnl (Only.refl m.g w) (cs' := cs') hrow
  have hr := mK hu he w m.g 0 n cap H k h2 h3
  unfold Oper.wp execOp
  simp only [ho, ev, ey, hi, Option.map_none, Option.map_some, Sem.run_bind, hr, Result.andThen_ok, Sem.run_pure, Oper.upon_value]
  exact hK _ _ ρ p1 (fun _ _ h => h) p2 p3 (.own b 0 H s true m cap hm hnl (by omega) h4 h5)
def k53 (P : Program) (h : H) (l : List (Nat × PV)) (g : EH) (t : TypeId) (lo hi mx : Option Operand) : PV → R
 | .e (.c (.own b 0 n s true)) => match wC P t, h, lo, hi, mx with
  | some e, .mk H _ r, none, some y, none => match vD P e, bC l y, g.lookup b with
   | some (_, s'), some (.e (.c (.d (.lit (.int _ i))))), some (some (T, .ds ds)) => match Nat.beq s' s with
    | true => some ([i = (H : Int), H ≤ n, ds.take (H * s) = r], ⟨.e (.c (.own b 0 H s true)), [(b, some (T, .ds r))], [], [b]⟩)
    | false => none
   | _, _, _ => none
  | _, _, _, _, _ => none
 | _ => none
theorem k52 {h : H} {t : TypeId} {x : Operand} {lo hi mx : Option Operand} (ho : o.op = .slice t x lo hi mx) {u : PV} (hu : Ev l x u) : OKR cx o l g (k53 Tryz.prog h l g t lo hi mx u) := by
 unfold k53
 split
 ·split
  ·rename_i h1
   split
   ·rename_i he hy hg
    split
    ·rename_i hs
     have hs := Nat.eq_of_beq_eq_true hs
     subst hs
     refine OKR.some fun hp => ?_
     obtain ⟨p1, p3, p4⟩ := hp
     have p4 := congrArg (List.map C.d) (show List.take _ _ = _ from p4)
     rw [List.map_take] at p4
     exact x8 ho (iL h1) he hu (jU hy) p1 (uS hg) p3 p4
    ·exact OKR.none
   ·exact OKR.none
  ·exact OKR.none
 ·exact OKR.none
def u0i (P : Program) (st : TypeId) (u : PV) : R := none
theorem k60 {x : Operand} {st : TypeId} (ho : o.op = .call { callee := .builtin .cap, args := #[x], argTypes := #[st] }) {u : PV} (hu : Ev l x u) : OKR cx o l g (u0i Tryz.prog st u) := OKR.none
def k67 (P : Program) (nx : Nat) (t : TypeId) (n : Nat) (parts : Array (Nat × Operand)) : R := match wC P t, n, parts.toList with
 | some e, 0, [] => match vD P e with
  | some (_, s) => some ([], ⟨.e (.c (.own nx 0 0 s true)), [(nx, some (e, .ds []))], [nx], []⟩)
  | none => none
 | _, _, _ => none
theorem k66 {nx : Nat} {t : TypeId} {n : Nat} {parts : Array (Nat × Operand)} (ho : o.op = .buildSlice t n parts) : OKR cx o l g (k67 Tryz.prog nx t n parts) := by
 unfold k67
 split
 ·rename_i e h1 h2
  have hp : parts = #[] := by simpa using h2
  subst hp
  split
  ·rename_i bb s he
   have h1 := iL h1
   refine OKR.some fun _ => ?_
   refine oM (xs := []) fun ρ a w hs => ⟨[], [], 0, ?_, trivial, Nat.le_refl 0, by simp [maxLen], by simp⟩
   unfold execOp
   simp [ho, Instr.buildSlice, run_underlying h1, u0 he, Instr.fill, newRow]
   rw [show Array.map (fun _ : Nat => (default : Value)) (Array.range 0) = #[] from Array.ext' (by simp)]
  ·exact OKR.none
 ·exact OKR.none
def u08 (P : Program) (h : H) (nx : Nat) (t tn : TypeId) : PV → PV → R := fun _ _ => none
theorem k4y {h : H} {nx : Nat} {x y : Operand} {t tn : TypeId} (ho : o.op = .call { callee := .builtin .append, args := #[x, y], argTypes := #[t, tn] }) {u v : PV} (hu : Ev l x u) (hv : Ev l y v) : OKR cx o l g (u08 Tryz.prog h nx t tn u v) := OKR.none
end
end Go.Proofs.YtcfmjpnffembpaaGreat
namespace Go.Proofs.YtcfmjpnffembpaaGreat
open Go.ChangeShapes Go.WideShapes Go.ChangeAt Go.RowKit
set_option linter.unusedVariables false
set_option linter.unusedSimpArgs false
section
variable {cx : Cx} {o : Oper} {l : List (Nat × PV)} {g : EH}
def k5n (P : Program) (h : H) (st : TypeId) : PV → R := fun _ => none
theorem k2b {h : H} {x : Operand} {st : TypeId} (ho : o.op = .call { callee := .builtin .len, args := #[x], argTypes := #[st] }) {u : PV} (hu : Ev l x u) : OKR cx o l g (k5n Tryz.prog h st u) := OKR.none
def u0b (P : Program) (h : H) (l : List (Nat × PV)) (t : TypeId) (lo hi mx : Option Operand) : PV → R := fun _ => none
theorem k54 {h : H} {t : TypeId} {x : Operand} {lo hi mx : Option Operand} (ho : o.op = .slice t x lo hi mx) {u : PV} (hu : Ev l x u) : OKR cx o l g (u0b Tryz.prog h l t lo hi mx u) := OKR.none
def u0h (P : Program) (op : BinOp) (h : H) : PV → PV → R := fun _ _ => none
theorem k5z {op : BinOp} {h : H} {xt yt : TypeId} {x y : Operand} (ho : o.op = .binOp op xt x y yt) {u v : PV} (hu : Ev l x u) (hv : Ev l y v) : OKR cx o l g (u0h Tryz.prog op h u v) := OKR.none
def u0j (P : Program) (h : H) (nx : Nat) (src dst : TypeId) (u : PV) : R := none
theorem k61 {h : H} {nx : Nat} {src dst : TypeId} {x : Operand} (ho : o.op = .convert src dst x) {u : PV} (hu : Ev l x u) : OKR cx o l g (u0j Tryz.prog h nx src dst u) := OKR.none
def k5i (P : Program) (g : EH) (src dst : TypeId) (u : PV) : R := none
theorem k29 {src dst : TypeId} {x : Operand} (ho : o.op = .convert src dst x) {u : PV} (hu : Ev l x u) : OKR cx o l g (k5i Tryz.prog g src dst u) := OKR.none
end
end Go.Proofs.YtcfmjpnffembpaaGreat
namespace Go.Proofs.YtcfmjpnffembpaaGreat
open Go.ChangeShapes Go.WideShapes Go.ChangeAt Go.RowKit
set_option linter.unusedVariables false
set_option linter.unusedSimpArgs false
theorem xU {P : Program} {b : Frame} {a : Act} {k : List Item} {cs : List Frame} {w : World} {c : Code} :
  stepT P (lone (b.at a (.code (.loop c) :: k)) cs w) = (.next (lone (b.at a (.code c :: .inLoop c :: k)) cs w), #[]) := by
 rw [stepT, move_lone]
 simp [runT, lone, Array.swapAt!, stepG, stepG.exec, Frame.at, MemOp.ofEvents]
 intro h
 exact absurd rfl h
theorem cC {P : Program} {m m1 m2 : Machine} (h1 : step P m = .next m1) (h : Go.Steps P m m2) (hne : m ≠ m2) : Go.Steps P m1 m2 := by
 obtain ⟨n, hn⟩ := h
 cases n with
 | zero => simp [runN] at hn; exact absurd hn hne
 | succ n => simp only [runN, h1] at hn; exact ⟨n, hn⟩
theorem k6q {b : Frame} {a a' : Act} {k k' : List Item} {cs : List Frame} {w w' : World} (h : k ≠ k') : lone (b.at a k) cs w ≠ lone (b.at a' k') cs w' := by
 intro e
 simp only [lone, Machine.mk.injEq, Array.mk.injEq, List.cons.injEq, Goroutine.mk.injEq, Frame.at, Frame.mk.injEq] at e
 exact h e.2.1.1.1.2.2.1
theorem m7 : ∀ {id : Nat} {k k' : List Item}, exitTo id k = some k' → k'.length < k.length
 | id, [], k', h => by cases h
 | id, x :: k, k', h => by
  have ih : ∀ k', exitTo id k = some k' → k'.length < k.length := fun _ h => m7 h
  cases x with
  | inBlock id' =>
   simp only [exitTo] at h
   split at h
   ·cases h; simp
   ·have := ih _ h; simp; omega
  | _ => simp only [exitTo] at h; have := ih _ h; simp; omega
theorem rW {c : Code} : ∀ (x : Code) {l : Nat} {r : Code}, findLabel x l = some r → r ≠ .loop c := by
 intro x
 induction x with
 | seq a b iha ihb =>
  intro l r h
  simp only [findLabel] at h
  split at h
  ·cases h; intro e; cases e
  ·exact ihb h
 | label l' =>
  intro l r h
  simp only [findLabel] at h
  split at h
  ·cases h; intro e; cases e
  ·cases h
 | _ => intro l r h; simp [findLabel] at h
theorem o2 {l : Nat} {c : Code} : ∀ {k k' : List Item}, gotoIn l k = some k' → ∀ y, k' ≠ .code (.loop c) :: y
 | [], k', h => by cases h
 | x :: k, k', h => by
  have ih : ∀ k', gotoIn l k = some k' → ∀ y, k' ≠ .code (.loop c) :: y := fun _ h => o2 h
  cases x with
  | inScope body =>
   simp only [gotoIn] at h
   split at h
   ·rename_i hf
    cases h
    intro y e
    simp only [List.cons.injEq, Item.code.injEq] at e
    exact rW _ hf e.1
   ·exact ih _ h
  | _ => simp only [gotoIn] at h; exact ih _ h
theorem n7 {P : Program} {m m1 : Machine} (h1 : stepT P m = (.next m1, #[])) (h : Outgrown P m) : Outgrown P m1 := by
 obtain ⟨n, o, ho, h2, h3⟩ := h
 cases n with
 | zero => simp [runNT] at ho
 | succ n =>
  simp only [runNT, h1] at ho
  exact ⟨n, o, by simpa using ho, h2, h3⟩
theorem pN {P : Program} {Q : Exit → Act → World → Prop} {a : Act} {w : World} {c : Code} (h : c.wp P (Exit.then ((Code.loop c).wp P Q) Q) a w) : (Code.loop c).wp P Q a w := by
 intro b k cs
 obtain ⟨e, a₁, w₁, hq, harr⟩ := h b (.inLoop c :: k) cs
 cases e with
 | normal =>
  obtain ⟨e₂, a₂, w₂, hq₂, harr₂⟩ := hq b k cs
  refine ⟨e₂, a₂, w₂, hq₂, .of_steps (.one step_loop) ?_⟩
  have h2 : Arrives P (lone (b.at a₁ (.code c :: .inLoop c :: k)) cs w₁) b k cs e₂ a₂ w₂ := by
   cases e₂ with
   | normal => exact cC step_loop harr₂ (k6q (fun e => by have := congrArg List.length e; simp at this))
   | exit id => exact fun k' hk => cC step_loop (harr₂ k' hk) (k6q (fun e => by have := congrArg List.length e; have := m7 hk; simp at *; omega))
   | goto l => exact fun k' hk => cC step_loop (harr₂ k' hk) (k6q (fun e => o2 hk _ e.symm))
   | ret =>
    obtain ⟨todo, hs⟩ := harr₂
    exact ⟨todo, cC step_loop hs (by intro e; simp [lone, Frame.at] at e)⟩
   | panic ch =>
    obtain ⟨todo, hs⟩ := harr₂
    exact ⟨todo, cC step_loop hs (by intro e; simp [lone, Frame.at] at e)⟩
   | outgrown => exact harr₂.imp id (n7 xU)
  exact .of_steps (Steps.trans harr (.one step_inLoop)) h2
 | exit id => exact ⟨_, a₁, w₁, hq, .of_steps (.one step_loop) (.pass (x := .inLoop c) rfl (fun _ _ => .inl (by simp)) harr)⟩
 | goto l => exact ⟨_, a₁, w₁, hq, .of_steps (.one step_loop) (.pass (x := .inLoop c) rfl (fun _ _ => .inl (by simp)) harr)⟩
 | ret => exact ⟨_, a₁, w₁, hq, .of_steps (.one step_loop) (.pass (x := .inLoop c) rfl (fun _ _ => .inl (by simp)) harr)⟩
 | panic ch => exact ⟨_, a₁, w₁, hq, .of_steps (.one step_loop) (.pass (x := .inLoop c) rfl (fun _ _ => .inl (by simp)) harr)⟩
 | outgrown => exact ⟨_, a₁, w₁, hq, .of_steps (.one step_loop) (.pass (x := .inLoop c) rfl (fun _ _ => .inl (by simp)) harr)⟩
section
variable {cx : Cx} {o : Oper} {l : List (Nat × PV)} {g : EH}
def u0g (P : Program) (op : BinOp) (xt : TypeId) (u v : PV) : R := none
theorem k5y {op : BinOp} {xt yt : TypeId} {x y : Operand} (ho : o.op = .binOp op xt x y yt) {u v : PV} (hu : Ev l x u) (hv : Ev l y v) : OKR cx o l g (u0g Tryz.prog op xt u v) := OKR.none
def u09 (P : Program) (g : EH) (src dst : TypeId) (u : PV) : R := none
theorem k4z {src dst : TypeId} {x : Operand} (ho : o.op = .convert src dst x) {u : PV} (hu : Ev l x u) : OKR cx o l g (u09 Tryz.prog g src dst u) := OKR.none
def k5w (P : Program) (h : H) (f : FuncId) (us : Option (List E1)) : R := none
def u0k (P : Program) (h : H) (g : EH) (nx : Nat) (t tn : TypeId) : PV → PV → R := fun _ _ => none
theorem k6a {h : H} {nx : Nat} {t tn : TypeId} {x y : Operand} (ho : o.op = .call { callee := .builtin .append, args := #[x, y], argTypes := #[t, tn] }) {u v : PV} (hu : Ev l x u) (hv : Ev l y v) : OKR cx o l g (u0k Tryz.prog h g nx t tn u v) := OKR.none
def u5z : PV → R := fun _ => none
theorem k8q {x : Operand} {st : TypeId} (ho : o.op = .call { callee := .builtin .unsafeSliceData, args := #[x], argTypes := #[st] }) {u : PV} (hu : Ev l x u) : OKR cx o l g (u5z u) := OKR.none
def u5y (P : Program) (h : H) (g : EH) (pt : TypeId) (u v : PV) : R := none
theorem k8m {h : H} {pt it : TypeId} {x y : Operand} (ho : o.op = .call { callee := .builtin .unsafeString, args := #[x, y], argTypes := #[pt, it] }) {u v : PV} (hu : Ev l x u) (hv : Ev l y v) : OKR cx o l g (u5y Tryz.prog h g pt u v) := OKR.none
def AWp (cx : Cx) (n : Nat) (c : Code) (Q : y6) : Nat → St → Prop
 | 0, s => AW cx n (.loop c) Q s
 | k + 1, s => AW cx n c (hG (AWp cx n c Q k) Q) s
theorem AWp.s {cx : Cx} {n : Nat} {c : Code} {Q : y6} {k : Nat} {s : St} (h : AW cx n c (hG (AWp cx n c Q k) Q) s) : AWp cx n c Q (k + 1) s := h
theorem AWp.z {cx : Cx} {n : Nat} {c : Code} {Q : y6} {s : St} (h : AW cx n (.loop c) Q s) : AWp cx n c Q 0 s := h
theorem AWp.ok {cx : Cx} {n : Nat} {c : Code} {Q : y6} : ∀ {k : Nat} {s : St}, AWp cx n c Q k s → AW cx n (.loop c) Q s
 | 0, _, h => h
 | k + 1, s, h => fun a w hm => by
  refine pN (wp_mono (h a w hm) ?_)
  rintro e a' w' ⟨s', h1, h2⟩
  cases e with
  | normal => exact AWp.ok (k := k) h1 a' w' h2
  | _ => exact ⟨s', h1, h2⟩
theorem sZ {cx : Cx} {n : Nat} {c : Code} {Q : y6} {s : St} (k : Nat) (h : AWp cx n c Q k s) : AW cx n (.loop c) Q s := h.ok
end
end Go.Proofs.YtcfmjpnffembpaaGreat
namespace Go.Proofs.YtcfmjpnffembpaaGreat
open Go.ChangeShapes Go.WideShapes Go.ChangeAt Go.RowKit
set_option linter.unusedVariables false
set_option linter.unusedSimpArgs false
abbrev FnT := FuncId → List E1 → List (Nat × Option Bk) → Nat → PV → List (Nat × Option Bk) → Nat → Prop
def u2v (P : Program) (h : H) (l : List (Nat × PV)) (g : EH) (nx : Nat) (b : Builtin) (args : List Operand) (ts : List TypeId) : R := match b, args, ts with
 | .len, [x], [st] => bo (bC l x) fun u => nT (k5o P st u) (k5n P h st u)
 | .min, [x, y], _ => bo (bC l x) fun u => bo (bC l y) fun v => k5e h u v
 | .max, [x, y], _ => bo (bC l x) fun u => bo (bC l y) fun v => k5h h u v
 | .max, [x, y, z], _ => bo (bC l x) fun u => bo (bC l y) fun v => bo (bC l z) fun w => k5g h u v w
 | .append, [x, y], [t, t'] => match Nat.beq t t' with
  | true => bo (bC l x) fun u => bo (bC l y) fun v => u2w P h g nx t u v
  | false => bo (bC l x) fun u => bo (bC l y) fun v => nT (u0k P h g nx t t' u v) (nT (u08 P h nx t t' u v) (u5x P h g nx t t' u v))
 | .copy, [x, y], [t, _] => bo (bC l x) fun u => bo (bC l y) fun v => u61 P h g t u v
 | .cap, [x], [st] => bo (bC l x) (u0i P st)
 | .unsafeSliceData, [x], [_] => bo (bC l x) u5z
 | .unsafeString, [x, y], [pt, _] => bo (bC l x) fun u => bo (bC l y) fun v => u5y P h g pt u v
 | _, _, _ => none
def k5u (P : Program) (h : H) (f : FuncId) (us : Option (List E1)) : R := none
theorem k2c {cx : Cx} {o : Oper} {l : List (Nat × PV)} {g : EH} {h : H} {f : FuncId} {args : Array Operand} {ts : Array TypeId} (ho : o.op = .call { callee := .value (.func f), args := args, argTypes := ts }) : OKR cx o l g (k5u Tryz.prog h f (jV l args.toList)) := OKR.none
theorem zR {cx : Cx} {o : Oper} {l : List (Nat × PV)} {g : EH} {h : H} {f : FuncId} {args : Array Operand} {ts : Array TypeId} (ho : o.op = .call { callee := .value (.func f), args := args, argTypes := ts }) : OKR cx o l g (k5w Tryz.prog h f (jV l args.toList)) := OKR.none
def evC (P : Program) (Fn : FnT) (h : H) (l : List (Nat × PV)) (g : EH) (nx : Nat) (c : Call) : R := match c with
 | ⟨.builtin b, args, ts⟩ => u2v P h l g nx b args.toList ts.toList
 | ⟨.value (.func f), args, _⟩ => nT (k5w P h f (jV l args.toList)) (nT (k5u P h f (jV l args.toList)) (fF P Fn h g nx f (jV l args.toList)))
 | ⟨.value x, args, _⟩ => bo (bC l x) fun u => match u2j u with
  | some (f, qs) => match Nat.blt f n6 with
   | true => fF P Fn h g nx f (k69 l args.toList qs)
   | false => fF P Fn h g nx (fnU f) (k68 l args.toList qs)
  | none => none
 | _ => none
def k14 (P : Program) (Fn : FnT) (h : H) (l : List (Nat × PV)) (g : EH) (nx : Nat) : Op → R
 | .move x => bo (bC l x) pv
 | .assign x => bo (bC l x) pv
 | .nilCheck x => bo (bC l x) fun u => match u with
  | .e (.c (.ptr b off)) => pv (.e (.c (.ptr b off)))
  | _ => none
 | .unOp .not _ x => bo (bC l x) (k57 h)
 | .unOp .neg _ x => bo (bC l x) (k5b h)
 | .pick c x y => bo (bC l c) fun u => zP h u (bC l x) (bC l y)
 | .binOp op xt x y _ => bo (bC l x) fun u => bo (bC l y) fun v => nT (k59 P op xt u v) (nT (u0g P op xt u v) (nT (zW P op h xt u v) (u0h P op h u v)))
 | .convert s d x => bo (bC l x) fun u => nT (u0a P h g s d u) (nT (u0j P h nx s d u) (nT (k5i P g s d u) (nT (u09 P g s d u) (zS P h s d u))))
 | .extract x i => bo (bC l x) (k5x i)
 | .fieldAddr t x i => bo (bC l x) (u2s P t i)
 | .field t x i => bo (bC l x) (k5t P t i)
 | .load ty x => bo (bC l x) (zQ P h g ty)
 | .store ty x y => bo (bC l x) fun u => bo (bC l y) fun v => rZ P h g ty u v
 | .alloc T => r9 P nx T
 | .box T x => bo (bC l x) (k63 nx T)
 | .build t ps => nT (r8 P l t ps) (wK P l t ps)
 | .buildSlice t n ps => nT (k67 P nx t n ps) (u2u P l nx t n ps)
 | .makeSlice t x y => bo (bC l x) fun u => bo (bC l y) fun v => u60 P h nx t u v
 | .indexAddr t x y => bo (bC l x) fun u => bo (bC l y) fun v => nT (u0d P h t u v) (u2q P h t u v)
 | .index t x y => bo (bC l x) fun u => bo (bC l y) fun v => nT (u0f P h t u v) (u0e P h t u v)
 | .slice t x lo hi mx => bo (bC l x) fun u => nT (u0c P t lo hi mx u) <| nT (k53 P h l g t lo hi mx u) (nT (u2m P h l t lo hi mx u) (u0b P h l t lo hi mx u))
 | .call c => evC P Fn h l g nx c
 | .makeFunc (.func f) first caps => match first.toList with
  | [] => u2p l f caps.toList
  | _ => match caps.toList with
   | [] => k5k l f first.toList
   | _ => none
 | _ => none
section
variable {cx : Cx} {o : Oper} {l : List (Nat × PV)} {g : EH}
theorem g7 {α : Type} {a : Array α} {l : List α} (h : a.toList = l) : a = l.toArray := by subst h; simp
theorem k8z {h : H} {nx : Nat} {b : Builtin} {args : Array Operand} {ts : Array TypeId} (ho : o.op = .call { callee := .builtin b, args := args, argTypes := ts }) : OKR cx o l g (u2v Tryz.prog h l g nx b args.toList ts.toList) := by
 unfold u2v
 split
 ·rename_i h1 h2
  rw [g7 h1, g7 h2] at ho
  exact OKR.bo fun u hu => OKR.or (k5m ho hu) (k2b ho hu)
 ·rename_i h1
  rw [g7 h1] at ho
  exact OKR.bo fun u hu => OKR.bo fun v hv => k5d ho hu hv
 ·rename_i h1
  rw [g7 h1] at ho
  exact OKR.bo fun u hu => OKR.bo fun v hv => k5f ho hu hv
 ·rename_i h1
  rw [g7 h1] at ho
  exact OKR.bo fun u hu => OKR.bo fun v hv => OKR.bo fun w hw => k28 ho hu hv hw
 ·rename_i h1 h2
  rw [g7 h1, g7 h2] at ho
  split
  ·rename_i ht
   have ht := Nat.eq_of_beq_eq_true ht
   subst ht
   exact OKR.bo fun u hu => OKR.bo fun v hv => k90 ho hu hv
  ·exact OKR.bo fun u hu => OKR.bo fun v hv => OKR.or (k6a ho hu hv) (OKR.or (k4y ho hu hv) (k8l ho hu hv))
 ·rename_i h1 h2
  rw [g7 h1, g7 h2] at ho
  exact OKR.bo fun u hu => OKR.bo fun v hv => k8w ho hu hv
 ·rename_i h1 h2
  rw [g7 h1, g7 h2] at ho
  exact OKR.bo fun u hu => k60 ho hu
 ·rename_i h1 h2
  rw [g7 h1, g7 h2] at ho
  exact OKR.bo fun u hu => k8q ho hu
 ·rename_i h1 h2
  rw [g7 h1, g7 h2] at ho
  exact OKR.bo fun u hu => OKR.bo fun v hv => k8m ho hu hv
 ·exact OKR.none
theorem wI {h : H} {nx : Nat} {op : Op} (ho : o.op = op) : OKR cx o l g (k14 Tryz.prog Fun h l g nx op) := by
 unfold k14
 split
 ·exact OKR.bo fun u hu => OKR.some fun _ => k7t ho hu
 ·exact OKR.bo fun u hu => OKR.some fun _ => k20 ho hu
 ·refine OKR.bo fun u hu => ?_
  split
  ·exact OKR.some fun _ => tS ho hu
  ·exact OKR.none
 ·exact OKR.bo fun u hu => k56 ho hu
 ·exact OKR.bo fun u hu => k5a ho hu
 ·exact OKR.bo fun u hu => k27 ho hu
 ·exact OKR.bo fun u hu => OKR.bo fun v hv => OKR.or (k58 ho hu hv) (OKR.or (k5y ho hu hv) (OKR.or (k2g ho hu hv) (k5z ho hu hv)))
 ·exact OKR.bo fun u hu => OKR.or (k50 ho hu) (OKR.or (k61 ho hu) (OKR.or (k29 ho hu) (OKR.or (k4z ho hu) (k2d ho hu))))
 ·exact OKR.bo fun u hu => k5v ho hu
 ·exact OKR.bo fun u hu => k8v ho hu
 ·exact OKR.bo fun u hu => k5s ho hu
 ·exact OKR.bo fun u hu => k2a ho hu
 ·exact OKR.bo fun u hu => OKR.bo fun v hv => zO ho hu hv
 ·exact zX ho
 ·exact OKR.bo fun u hu => k62 ho hu
 ·exact OKR.or (zV ho) (wJ ho)
 ·exact OKR.or (k66 ho) (k8y ho)
 ·exact OKR.bo fun u hu => OKR.bo fun v hv => k8s ho hu hv
 ·exact OKR.bo fun u hu => OKR.bo fun v hv => OKR.or (k5p ho hu hv) (k8u ho hu hv)
 ·exact OKR.bo fun u hu => OKR.bo fun v hv => OKR.or (k5r ho hu hv) (k5q ho hu hv)
 ·exact OKR.bo fun u hu => OKR.or (k55 ho hu) <| OKR.or (k52 ho hu) (OKR.or (k8n ho hu) (k54 ho hu))
 ·unfold evC
  split
  ·exact k8z ho
  ·exact OKR.or (zR ho) (OKR.or (k2c ho) (k2e ho))
  ·refine OKR.bo fun u hu => ?_
   split
   ·rename_i hf
    have := k8i hf
    subst this
    split
    ·rename_i hlo; exact zT ho hu hlo
    ·rename_i hlo; exact zU ho hu hlo
   ·exact OKR.none
  ·exact OKR.none
 ·split
  ·rename_i h0; exact k8t ho h0
  ·split
   ·rename_i h1; exact k5j ho h1
   ·exact OKR.none
 ·exact OKR.none
theorem w4 {ds : List D} {T : TypeId} {n s nx : Nat} {wr : List (Nat × Option Bk)} {news foot : List Nat} {h0 : Hp} {τ : Nat → PV} (hnx : wr.lookup nx = none) (hl : ds.length = n * s) (h : OpOK cx o τ h0 ⟨.e (.c (.own nx 0 n s true)), wr ++ [(nx, some (T, ds.map .d))], news, foot⟩) :
  OpOK cx o τ h0 ⟨.e (.c (.d (.sl ds n))), wr ++ [(nx, none)], news, foot⟩ := by
 intro Q ρ a w hL hs hf hn hh hk hd K hK
 refine h Q ρ a w hL hs hf hn hh hk hd K ?_
 intro v w' ρ' g1 g2 g3 g4 g5
 have hx : ((wr ++ [(nx, some (T, ds.map C.d))]).lookup nx).getD (hL nx) = some (T, ds.map C.d) := by rw [vZ, hnx]; simp
 have hx' : ((wr ++ [(nx, none)]).lookup nx).getD (hL nx) = none := by rw [vZ, hnx]; simp
 have hne : ∀ x, x ≠ nx → ((wr ++ [(nx, none)]).lookup x).getD (hL x) = ((wr ++ [(nx, some (T, ds.map C.d))]).lookup x).getD (hL x) := by
  intro x hxn
  rw [vZ, vZ]
  simp only [List.lookup_cons, show (x == nx) = false by simpa using hxn, List.lookup_nil]
 have hsub : ∀ x, ((wr ++ [(nx, none)]).lookup x).getD (hL x) ≠ none → x ≠ nx ∧ ((wr ++ [(nx, some (T, ds.map C.d))]).lookup x).getD (hL x) ≠ none := by
  intro x hq
  have : x ≠ nx := fun e => hq (by rw [e]; exact hx')
  exact ⟨this, by rw [← hne x this]; exact hq⟩
 have hsub2 : ∀ x T' cs, ((wr ++ [(nx, none)]).lookup x).getD (hL x) = some (T', cs) → x ≠ nx ∧ ((wr ++ [(nx, some (T, ds.map C.d))]).lookup x).getD (hL x) = some (T', cs) := by
  intro x T' cs hq
  have hq2 := hsub x (by rw [hq]; simp)
  exact ⟨hq2.1, by rw [← hne x hq2.1]; exact hq⟩
 obtain ⟨m, k1, k2⟩ := g3.row nx T _ hx
 rcases k2 with ⟨k2, k3⟩ | ⟨k2, ⟨vs, rest, r1, r2, r3⟩, k4⟩
 ·have hds : ds = [] := List.map_eq_nil_iff.1 k3
  subst hds
  refine hK v w' ρ' g1 g2 ⟨fun b T' cs hb => g3.row b T' cs (hsub2 b T' cs hb).2, fun b b' m m' hb hb' => g3.inj b b' m m' (hsub b hb).2 (hsub b' hb').2, fun b m hb => g3.zf b m (hsub b hb).2, g3.zm, g3.zl⟩ g4 ?_
  have g5' : RepC cx.p ρ' w' (.own nx 0 n s true) v := g5
  cases g5' with
  | own _ _ _ _ _ m2 cap hm hn' => rw [k1] at hm; cases hm; rw [k2] at hn'; cases hn'
  | ownn => exact .d (.nil none 0 (Nat.zero_le _) (fun _ => rfl))
 ·have hgo : Goes cx.p ρ' ⟨ρ'.f, fun k => ρ'.z k ∨ k = m.g⟩ w' w' := ⟨fun _ _ h => h, fun _ h => .inl h, Nat.le_refl _, fun _ _ _ => rfl⟩
  have hg1 : Goes cx.p ρ ⟨ρ'.f, fun k => ρ'.z k ∨ k = m.g⟩ w w' := ⟨g1.ext, fun k hz => .inl (g1.zext k hz), g1.size, g1.old⟩
  refine hK v w' ⟨ρ'.f, fun k => ρ'.z k ∨ k = m.g⟩ hg1 g2 ⟨?_, fun b b' m m' hb hb' => g3.inj b b' m m' (hsub b hb).2 (hsub b' hb').2, ?_, ?_, ?_⟩ g4 ?_
  ·intro b T' cs hb
   obtain ⟨m', p1, p2⟩ := g3.row b T' cs (hsub2 b T' cs hb).2
   exact ⟨m', p1, p2.imp id fun p => ⟨p.1, p.2.1.mono hgo rfl, p.2.2⟩⟩
  ·intro b m1 hb hm1 hn1 hz
   rcases hz with hz | hz
   ·exact g3.zf b m1 (hsub b hb).2 hm1 hn1 hz
   ·exact (hsub b hb).1 (g3.inj b nx m1 m (hsub b hb).2 (by rw [hx]; simp) hm1 k1 hn1 k2 hz)
  ·intro k hz
   rcases hz with hz | hz
   ·exact g3.zm k hz
   ·exact hz ▸ k4
  ·intro k hz
   rcases hz with hz | hz
   ·exact g3.zl k hz
   ·exact hz ▸ r1.lt
  ·have g5' : RepC cx.p ρ' w' (.own nx 0 n s true) v := g5
   cases g5' with
   | own _ _ _ _ _ m2 cap hm hn' h1 h2 h3 =>
    rw [k1] at hm; cases hm
    have hvl : vs.length = ds.length := by have := r3.len; simpa using this.symm
    refine .d (.sl ds vs m.g 0 n cap hvl ?_ ?_ (.inr (.inr rfl)) r1.lt h1 h2)
    ·intro i u hu
     rw [Nat.zero_add]
     exact BlkM.cell (vs := vs ++ rest) r1 i (by rw [List.getElem?_append_left (List.getElem?_eq_some_iff.1 hu).1]; exact hu)
    ·intro i d u hd' hu
     have := (r3.imp fun _ _ => RepC.mono hgo).get i (.d d) u (by rw [List.getElem?_map, hd']; rfl) hu
     cases this with
     | d h => exact h
   | ownn _ _ m2 hm hn' => rw [k1] at hm; cases hm; rw [k2] at hn'; cases hn'
def fzR : R → R
 | some (ps, ⟨.e (.c (.own b 0 n s true)), wr, news, foot⟩) => match wr with
  | [(b', some (T, .ds ds))] => match Nat.beq b' b with
   | true => some (ps ++ [ds.length = n * s], ⟨.e (.c (.d (.sl ds n))), [(b, none)], news, foot⟩)
   | false => none
  | [(b0, none), (b', some (T, .ds ds))] => match Nat.beq b' b, Nat.beq b b0 with
   | true, false => some (ps ++ [ds.length = n * s], ⟨.e (.c (.d (.sl ds n))), [(b0, none), (b, none)], news, foot⟩)
   | _, _ => none
  | _ => none
 | _ => none
theorem u2h {r : R} (h : OKR cx o l g r) : OKR cx o l g (fzR r) := by
 unfold fzR
 split
 ·rename_i ps b n s wr news foot
  split
  ·split
   ·rename_i hb
    refine OKR.some fun hp => ?_
    have hp := (uH _).1 hp
    have hl : _ = _ := hp _ (List.mem_append_right _ (List.mem_cons_self ..))
    obtain rfl := Nat.eq_of_beq_eq_true hb
    exact w4 (wr := []) rfl hl (h _ _ rfl ((uH _).2 fun p hpp => hp p (List.mem_append_left _ hpp)))
   ·exact OKR.none
  ·split
   ·rename_i hb hb0
    refine OKR.some fun hp => ?_
    have hp := (uH _).1 hp
    have hl : _ = _ := hp _ (List.mem_append_right _ (List.mem_cons_self ..))
    obtain rfl := Nat.eq_of_beq_eq_true hb
    refine w4 (wr := [(_, none)]) ?_ hl (h _ _ rfl ((uH _).2 fun p hpp => hp p (List.mem_append_left _ hpp)))
    have hne := Nat.ne_of_beq_eq_false hb0
    have e9 := beq_eq_false_iff_ne.2 hne
    rw [List.lookup_cons, e9]; rfl
   ·exact OKR.none
  ·exact OKR.none
 ·exact OKR.none
def u2o (P : Program) (Fn : FnT) (h : H) (l : List (Nat × PV)) (g : EH) (nx : Nat) (op : Op) : R := match h with
 | .fz h' => fzR (k14 P Fn h' l g nx op)
 | h => k14 P Fn h l g nx op
theorem k8r {h : H} {nx : Nat} {op : Op} (ho : o.op = op) : OKR cx o l g (u2o Tryz.prog Fun h l g nx op) := by
 unfold u2o
 split
 ·exact u2h (wI ho)
 ·exact wI ho
end
def stepG (ops : List Oper) (l : List (Nat × PV)) (o : Oper) : Option Bool := match o.guard with
 | none => some true
 | some (gi, b) => match ops[gi]? with
  | some og => match og.dst with
   | some dg => match l.lookup dg with
    | some (.e (.c (.d (.lit (.bool b'))))) => some (b' == b)
    | some (.tup []) => some false
    | _ => none
   | none => none
  | none => none
theorem mV {X : Type} [Inhabited X] {l : List (Nat × X)} {t : Nat} {u : X} (h : l.lookup t = some u) : S l t = u := (vA h).S
theorem k1s {cx : Cx} {ops : List Oper} {l : List (Nat × PV)} {g : List (Nat × Option Bk)} {o : Oper} {t : OT} (h : stepG ops l o = some true) (hok : OpOK cx o (S l) (S g) t) : StepO cx ops o l g t := by
 unfold stepG at h
 unfold StepO
 split at h
 ·rename_i hg; rw [hg]; exact hok
 ·rename_i gi b hg
  rw [hg]
  split at h
  ·rename_i og hog
   split at h
   ·rename_i dg hdg
    split at h
    ·rename_i b' hl
     refine ⟨dg, og, hog, hdg, .inl ⟨b', mV hl, ?_⟩⟩
     have : b' = b := by simpa using h
     rw [if_pos this]; exact hok
    ·cases h
    ·cases h
   ·cases h
  ·cases h
theorem k39 {cx : Cx} {ops : List Oper} {l : List (Nat × PV)} {g : List (Nat × Option Bk)} {o : Oper} (h : stepG ops l o = some false) : StepO cx ops o l g ⟨.tup [], [], [], []⟩ := by
 unfold stepG at h
 unfold StepO
 split at h
 ·cases h
 ·rename_i gi b hg
  rw [hg]
  split at h
  ·rename_i og hog
   split at h
   ·rename_i dg hdg
    split at h
    ·rename_i b' hl
     refine ⟨dg, og, hog, hdg, .inl ⟨b', mV hl, ?_⟩⟩
     have : ¬ b' = b := by simpa using h
     rw [if_neg this]; exact ⟨rfl, rfl, rfl⟩
    ·rename_i hl
     exact ⟨dg, og, hog, hdg, .inr ⟨mV hl, rfl, rfl, rfl⟩⟩
    ·cases h
   ·cases h
  ·cases h
def mM (P : Program) (Fn : FnT) (ops : List Oper) : List Oper → List H → List (Nat × PV) → EH → Nat → Option (List Prop × List OTe × List (Nat × PV) × EH × Nat)
 | [], _, l, g, nx => some ([], [], l, g, nx)
 | o :: os, hs, l, g, nx => match stepG ops l o with
  | some true => match hs with
   | h :: hs => match u2o P Fn h l g nx o.op with
    | some (ps, t) => match mM P Fn ops os hs (gB o t.u ++ l) (t.wr ++ g) (nx + t.news.length) with
     | some (ps', ts, r) => some (ps ++ ps', t :: ts, r)
     | none => none
    | none => none
   | [] => none
  | some false => match mM P Fn ops os hs (gB o (.tup []) ++ l) g nx with
   | some (ps', ts, r) => some (ps', ⟨.tup [], [], [], []⟩ :: ts, r)
   | none => none
  | none => none
theorem jM {cx : Cx} {ops : List Oper} : ∀ {os : List Oper} {hs : List H} {l lf : List (Nat × PV)} {g gf : EH} {nx nf : Nat} {ps : List Prop} {ts : List OTe}, mM Tryz.prog Fun ops os hs l g nx = some (ps, ts, lf, gf, nf) → (∀ p ∈ ps, p) → Steps cx ops os (ts.map OTe.to) l (kE g) lf (kE gf)
 | [], _, _, _, _, _, _, _, _, _, h, _ => by cases h; exact .nil _ _
 | o :: os, hs, l, lf, g, gf, nx, nf, ps, ts, h, hp => by
  unfold mM at h
  split at h
  ·rename_i hg
   split at h
   ·split at h
    ·rename_i he
     split at h
     ·rename_i hr
      cases h
      rw [List.map_cons]
      refine .cons (k1s hg (k8r rfl _ _ he ((uH _).2 fun p h => hp p (List.mem_append_left _ h)))) ?_
      have := jM (cx := cx) hr (fun p h => hp p (List.mem_append_right _ h))
      rw [k02] at this
      exact this
     ·cases h
    ·cases h
   ·cases h
  ·rename_i hg
   split at h
   ·rename_i hr
    cases h
    rw [List.map_cons]
    exact .cons (k39 hg) (jM (cx := cx) hr hp)
   ·cases h
  ·cases h
def k3g (lf : List (Nat × PV)) : List Nat → List (Nat × PV)
 | [] => []
 | t :: ts => match lf.lookup t with
  | some u => (t, u) :: k3g lf ts
  | none => k3g lf ts
theorem pY {lf : List (Nat × PV)} {t : Nat} {u : PV} : ∀ {ts : List Nat}, (k3g lf ts).lookup t = some u → lf.lookup t = some u
 | [], h => by cases h
 | a :: ts, h => by
  unfold k3g at h
  split at h
  ·rename_i v hv
   rw [List.lookup_cons] at h
   split at h
   ·rename_i hb; simp at hb; subst hb; cases h; exact hv
   ·exact pY h
  ·exact pY h
def k3h (gf : EH) : List Nat → EH
 | [] => []
 | t :: ts => match gf.lookup t with
  | some (some u) => (t, some u) :: k3h gf ts
  | _ => k3h gf ts
theorem pZ {gf : EH} {t : Nat} {u : EBk} : ∀ {ts : List Nat}, (k3h gf ts).lookup t = some (some u) → gf.lookup t = some (some u)
 | [], h => by cases h
 | a :: ts, h => by
  unfold k3h at h
  split at h
  ·rename_i v hv
   rw [List.lookup_cons] at h
   split at h
   ·rename_i hb; simp at hb; subst hb; cases h; exact hv
   ·exact pZ h
  ·exact pZ h
theorem Mod.weak {cx : Cx} {n nx : Nat} {l l' : List (Nat × PV)} {g g' : EH} (hl : ∀ t u, l'.lookup t = some u → l.lookup t = some u) (hg : ∀ t u, g'.lookup t = some (some u) → g.lookup t = some (some u)) {a : Act} {w : World} (h : Mod cx n l (kE g) nx a w) : Mod cx n l' (kE g') nx a w := by
 obtain ⟨ρ, h1, h2, h3, h4, h5, h6, h9⟩ := h
 have hgg : ∀ b x, S (kE g') b = some x → S (kE g) b = some x := by
  intro b x hx
  unfold Proofs.YtcfmjpnffembpaaGreat.S at hx ⊢
  rw [gN] at hx ⊢
  cases hb : g'.lookup b with
  | none => rw [hb] at hx; cases hx
  | some o =>
   cases o with
   | none => rw [hb] at hx; cases hx
   | some v => rw [hg b v hb]; rw [hb] at hx; exact hx
 refine ⟨ρ, h1, ⟨fun b T cs hb => h2.row b T cs (hgg b _ hb), fun b b' m m' hb hb' => h2.inj b b' m m' ?_ ?_, fun b m hb => h2.zf b m ?_, h2.zm, h2.zl⟩, ?_, h4, h5, h6, h9⟩
 ·obtain ⟨x, hx⟩ := Option.ne_none_iff_exists'.1 hb; rw [hgg b x hx]; simp
 ·obtain ⟨x, hx⟩ := Option.ne_none_iff_exists'.1 hb'; rw [hgg b' x hx]; simp
 ·obtain ⟨x, hx⟩ := Option.ne_none_iff_exists'.1 hb; rw [hgg b x hx]; simp
 ·intro t
  unfold Proofs.YtcfmjpnffembpaaGreat.S
  cases hb : l'.lookup t with
  | none => exact trivial
  | some u => have := h3 t; rw [mV (hl t u hb)] at this; exact this
def mL (P : Program) (Fn : FnT) (n : Nat) (ops : List Oper) (hs : List H) (l : List (Nat × PV)) (g : EH) (nx : Nat) (live kb : List Nat) : Option (Prop × List (Nat × PV) × EH × Nat) := match sC ops n with
 | true => match mM P Fn ops ops hs l g nx with
  | some (ps, ts, lf, gf, nf) => match jO ops (ts.map OTe.to) nx nf with
   | true => some (AllP ps, k3g lf live, k3h gf kb, nf)
   | false => none
  | none => none
 | false => none
theorem AW.rg {cx : Cx} {n id nx nx' : Nat} {draw : Bool} {ops : List Oper} {Q : y6} {l l' : List (Nat × PV)} {g g' : EH} (hs : List H) (live kb : List Nat) {P : Prop} (h : mL Tryz.prog Fun n ops hs l g nx live kb = some (P, l', g', nx')) (hP : P) (hQ : Q .normal ⟨l', kE g', nx'⟩) : AW cx n (.region id ops.toArray draw) Q ⟨l, kE g, nx⟩ := by
 unfold mL at h
 split at h
 ·rename_i hd
  split at h
  ·rename_i hr
   split at h
   ·rename_i hc
    cases h
    intro a w hm
    exact oD (by kernel_rfl) hd (jM (cx := cx) hr ((uH _).1 hP)) hc (fun a' w' h => ⟨_, hQ, h.weak (fun t u => pY) (fun t u => pZ)⟩) hm
   ·cases h
  ·cases h
 ·cases h
theorem sY {cx : Cx} {n id nx nx' : Nat} {draw : Bool} {ops : List Oper} {Q : y6} {c : Code} {l l' : List (Nat × PV)} {g g' : EH} (hs : List H) (live kb : List Nat) {P : Prop} (h : mL Tryz.prog Fun n ops hs l g nx live kb = some (P, l', g', nx')) (hP : P) (hQ : AW cx n c Q ⟨l', kE g', nx'⟩) : AW cx n (.seq (.region id ops.toArray draw) c) Q ⟨l, kE g, nx⟩ :=
 AW.seq (AW.rg hs live kb h hP hQ)
/-! what is the same -/
def eqB (σ : Nat → Nat) : BC → BC → Option (List Prop)
 | .ds x, .ds y => some [x = y]
 | .cs x, .cs y => eqL σ x y
 | _, _ => none
theorem u2z {σ : Nat → Nat} {v v' : BC} {ps : List Prop} (h : eqB σ v v' = some ps) (hp : ∀ p ∈ ps, p) : v.to.map (bK σ) = v'.to := by
 unfold eqB at h
 split at h
 ·cases h
  have e := hp (_ = _) (List.mem_cons_self ..)
  subst e
  show List.map _ (List.map C.d _) = List.map C.d _
  rw [List.map_map]; rfl
 ·exact zY h hp
 ·cases h
def sg (m : List (Nat × Nat)) (b : Nat) : Nat := match m.lookup b with
 | some c => c
 | none => b
def k0a (σ : Nat → Nat) (nx2 : Nat) (l : List (Nat × PV)) : List (Nat × PV) → Option (List Prop)
 | [] => some []
 | (t, u) :: l2 => match l.lookup t, oU nx2 u with
  | some v, true => wO (k91 σ u v) (k0a σ nx2 l l2)
  | _, _ => none
theorem tJ {σ : Nat → Nat} {nx2 : Nat} {l : List (Nat × PV)} : ∀ {l2 : List (Nat × PV)} {ps : List Prop}, k0a σ nx2 l l2 = some ps → (∀ p ∈ ps, p) → RenS σ nx2 l l2
 | [], _, _, _ => trivial
 | (t, u) :: l2, _, h, hp => by
  unfold k0a at h
  split at h
  ·rename_i h1 h2
   obtain ⟨p, q, e1, e2, e3, e4⟩ := f0 h hp
   exact ⟨⟨h2, _, vA h1, k15 e1 e3⟩, tJ e2 e4⟩
  ·cases h
def u58 (n : Nat) : BC → Bool
 | .ds _ => true
 | .cs l => l.all (fC n)
theorem k82 {n : Nat} {b : BC} (h : u58 n b = true) : b.to.all (fC n) = true := by
 cases b with
 | ds l => show (List.map C.d l).all _ = true; rw [List.all_map]; exact List.all_eq_true.2 fun _ _ => rfl
 | cs l => exact h
def mJ (σ : Nat → Nat) (nx2 : Nat) (g : EH) : EH → Option (List Prop)
 | [] => some []
 | (b, some (T, bc)) :: g2 => match Nat.blt b nx2 && (u58 nx2 bc && g2.all fun y => !(σ y.1 == σ b)), g.lookup (σ b) with
  | true, some (some (T', bc')) => match Nat.beq T T' with
   | true => wO (eqB σ bc bc') (mJ σ nx2 g g2)
   | false => none
  | _, _ => none
 | (b, none) :: g2 => match g2.all fun y => !(σ y.1 == σ b) with
  | true => mJ σ nx2 g g2
  | false => none
theorem RenG.gone {n0 : Nat} {σ : Nat → Nat} {g g2 : List (Nat × Option Bk)} {nx2 b : Nat} (h : RenG n0 σ g g2 nx2) (hi : (g2.all fun y => !(σ y.1 == σ b)) = true) : RenG n0 σ g ((b, none) :: g2) nx2 := by
 rw [List.all_eq_true] at hi
 refine ⟨?_, ?_, h.fix, h.low⟩
 ·intro x hx T' cs' he
  rcases List.mem_cons.1 hx with rfl | hx
  ·cases he
  ·exact h.blk x hx T' cs' he
 ·intro x hx y hy he
  rcases List.mem_cons.1 hx with rfl | hx
  ·rcases List.mem_cons.1 hy with rfl | hy
   ·rfl
   ·have := hi y hy; simp [he] at this
  ·rcases List.mem_cons.1 hy with rfl | hy
   ·have := hi x hx; simp [he] at this
   ·exact h.inj x hx y hy he
theorem pO (p : Nat → Bool) : ∀ g : EH, ((kE g).all fun y => p y.1) = g.all fun y => p y.1
 | [] => rfl
 | x :: g => by show ((x.1, tG x.2) :: kE g).all _ = _; rw [List.all_cons, List.all_cons, pO p g]
theorem hZ {n0 : Nat} {σ : Nat → Nat} {nx2 : Nat} {g : EH} (hf : ∀ b, b < n0 → σ b = b) (hl : n0 ≤ nx2) : ∀ {g2 : EH} {ps : List Prop}, mJ σ nx2 g g2 = some ps → (∀ p ∈ ps, p) → RenG n0 σ (kE g) (kE g2) nx2
 | [], _, _, _ => .base hf hl
 | (b, some (T, bc)) :: g2, _, h, hp => by
  unfold mJ at h
  split at h
  ·rename_i h1 h2
   simp only [Bool.and_eq_true] at h1
   obtain ⟨c1, c2, c3⟩ := h1
   split at h
   ·rename_i hT
    have hT := Nat.eq_of_beq_eq_true hT
    subst hT
    obtain ⟨p, q, e1, e2, e3, e4⟩ := f0 h hp
    exact .cons (hZ hf hl e2 e4) c1 rfl (uS h2) (u2z e1 e3) (k82 c2) (by rw [pO (fun y => !(σ y == σ b))]; exact c3)
   ·cases h
  ·cases h
 | (b, none) :: g2, _, h, hp => by
  unfold mJ at h
  split at h
  ·rename_i h1
   exact (hZ hf hl h hp).gone (by rw [pO (fun y => !(σ y == σ b))]; exact h1)
  ·cases h
structure ES where
 l : List (Nat × PV)
 g : EH
 nx : Nat
def ES.st (s : ES) : St := ⟨s.l, kE s.g, s.nx⟩
def k8k (n0 : Nat) (m : List (Nat × Nat)) : Bool := m.all fun x => Nat.ble n0 x.1
theorem rU {n0 : Nat} : ∀ {m : List (Nat × Nat)}, k8k n0 m = true → ∀ b, b < n0 → sg m b = b
 | [], _, _, _ => rfl
 | (k, c) :: m, h, b, hb => by
  unfold k8k at h
  rw [List.all_cons, Bool.and_eq_true] at h
  have h1 : n0 ≤ k := Nat.le_of_ble_eq_true h.1
  unfold sg
  rw [List.lookup_cons, show (b == k) = false by simp; omega]
  exact rU (m := m) h.2 b hb
def k0b (n0 : Nat) (m : List (Nat × Nat)) (l : List (Nat × PV)) (g : EH) (s : ES) : Option Prop := match k8k n0 m && Nat.ble n0 s.nx with
 | true => match wO (k0a (sg m) s.nx l s.l) (mJ (sg m) s.nx g s.g) with
  | some ps => some (AllP ps)
  | none => none
 | false => none
theorem tK {n0 : Nat} {m : List (Nat × Nat)} {l : List (Nat × PV)} {g : EH} {nx : Nat} {s : ES} {P : Prop} (h : k0b n0 m l g s = some P) (hP : P) : k76 n0 ⟨l, kE g, nx⟩ s.st := by
 unfold k0b at h
 split at h
 ·rename_i hc
  rw [Bool.and_eq_true] at hc
  split at h
  ·rename_i hb
   cases h
   obtain ⟨p, q, e1, e2, e3, e4⟩ := f0 hb ((uH _).1 hP)
   exact ⟨sg m, tJ e1 e3, hZ (rU hc.1) (Nat.le_of_ble_eq_true hc.2) e2 e4⟩
  ·cases h
 ·cases h
def Rd {α : Type} (n0 : Nat) (I : α → ES) (dec : α → Prop) (s : St) : Prop := ∃ y, k76 n0 s (I y).st ∧ dec y
theorem kU {α : Type} {cx : Cx} {n nx : Nat} {c : Code} {Q : y6} {l : List (Nat × PV)} {g : EH} (n0 : Nat) (hn : cx.n0 = n0) (I : α → ES) (μ : α → Nat) (x0 : α) (m : List (Nat × Nat)) {P : Prop} (h0 : k0b n0 m l g (I x0) = some P) (hP : P) (round : ∀ x, AW cx n c (hG (Rd n0 I (fun y => μ y < μ x)) Q) (I x).st) : AW cx n (.loop c) Q ⟨l, kE g, nx⟩ :=
 AW.loop n0 hn (fun x => (I x).st) μ x0 (tK h0 hP) (fun x => (round x).mono fun e s' h => by
  cases e with
  | normal => exact h
  | _ => exact h)
theorem kX {α : Type} {n0 nx : Nat} {I : α → ES} {dec : α → Prop} {l : List (Nat × PV)} {g : EH} (y : α) (m : List (Nat × Nat)) {P : Prop} (h : k0b n0 m l g (I y) = some P) (hP : P) (hd : dec y) : Rd n0 I dec ⟨l, kE g, nx⟩ := ⟨y, tK h hP, hd⟩
/-! results -/
def u1o (P : Program) (l : List (Nat × PV)) (g : EH) : ResultVar → Option E1
 | .tmp t => match l.lookup t with
  | some (.e e) => some e
  | _ => none
 | .cell a ty => match l.lookup a, vD P ty with
  | some (.e (.c (.ptr b off))), some (false, 1) => match g.lookup b with
   | some (some (_, bc)) => match bc.to[off]? with
    | some c => some (.c c)
    | none => none
   | _ => none
  | some (.e (.c (.ptr b off))), some (true, n) => match g.lookup b with
   | some (some (_, bc)) => match Nat.beq ((bc.to.drop off).take n).length n with
    | true => some (.agg ((bc.to.drop off).take n))
    | false => none
   | _ => none
  | _, _ => none
theorem k7p {l : List (Nat × PV)} {g : EH} {r : ResultVar} {e : E1} (h : u1o Tryz.prog l g r = some e) : ResE l (kE g) r e := by
 unfold u1o at h
 split at h
 ·split at h
  ·rename_i hl; cases h; exact .tmp (vA hl)
  ·cases h
 ·split at h
  ·rename_i hl ht
   split at h
   ·rename_i hb
    split at h
    ·rename_i hc; cases h; exact .cell (vA hl) ht (uS hb) hc
    ·cases h
   ·cases h
  ·rename_i hl ht
   split at h
   ·rename_i hb
    split at h
    ·rename_i hc; cases h; exact .agg (vA hl) ht (uS hb) rfl (Nat.eq_of_beq_eq_true hc)
    ·cases h
   ·cases h
  ·cases h
def k7o (P : Program) (l : List (Nat × PV)) (g : EH) : List ResultVar → Option (List E1)
 | [] => some []
 | r :: rs => match u1o P l g r, k7o P l g rs with
  | some e, some es => some (e :: es)
  | _, _ => none
theorem k0c {l : List (Nat × PV)} {g : EH} : ∀ {rs : List ResultVar} {es : List E1}, k7o Tryz.prog l g rs = some es → ResL l (kE g) rs es
 | [], _, h => by cases h; exact .nil
 | r :: rs, _, h => by
  unfold k7o at h
  split at h
  ·rename_i h1 h2; cases h; exact .cons (k7p h1) (k0c h2)
  ·cases h
def u40 (P : Program) (n0 : Nat) (m : List (Nat × Nat)) (rs : List ResultVar) (l : List (Nat × PV)) (g : EH) (y : PV) (g1 : EH) (nx1 : Nat) : Option Prop := match k7o P l g rs, k8k n0 m && (Nat.ble n0 nx1 && oU nx1 y) with
 | some es, true => match wO (k91 (sg m) y (u1v es)) (mJ (sg m) nx1 g g1) with
  | some ps => some (AllP ps)
  | none => none
 | _, _ => none
theorem kC {n0 nx nx1 : Nat} {e : Exit} (he : e = .normal ∨ e = .ret) {rs : List ResultVar} {l : List (Nat × PV)} {g g1 : EH} {y : PV} (m : List (Nat × Nat)) {P : Prop} (h : u40 Tryz.prog n0 m rs l g y g1 nx1 = some P) (hP : P) : EndP n0 rs y (kE g1) nx1 e ⟨l, kE g, nx⟩ := by
 unfold u40 at h
 split at h
 ·rename_i h1 hc
  simp only [Bool.and_eq_true] at hc
  obtain ⟨c1, c2, c3⟩ := hc
  split at h
  ·rename_i hb
   cases h
   obtain ⟨p, q, e1, e2, e3, e4⟩ := f0 hb ((uH _).1 hP)
   exact ⟨he, _, sg m, k0c h1, k15 e1 e3, c3, hZ (rU c1) (Nat.le_of_ble_eq_true c2) e2 e4⟩
  ·cases h
 ·cases h
end Go.Proofs.YtcfmjpnffembpaaGreat
