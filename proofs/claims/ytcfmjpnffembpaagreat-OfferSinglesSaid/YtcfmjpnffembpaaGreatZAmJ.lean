/- Merged texts. -/
import Derived.Test.YtcfmjpnffembpaaGreatZAmS
import Derived.Laws.Strings3
import Derived.Laws.IdiomStrings
import Derived.Lib.Builder
import Derived.Lib.UnsafeStr
import Derived.Lib.AppendStr
import Derived.Test.YtcfmjpnffembpaaGreatZAmF
import Derived.Laws.StructEq
import Derived.Test.YtcfmjpnffembpaaGreatZAmI
namespace Go.Proofs.YtcfmjpnffembpaaGreat
open Go.ChangeShapes Go.WideShapes Go.ChangeAt Go.RowKit
set_option linter.unusedVariables false
set_option linter.unusedSimpArgs false
theorem run_equalIn_nil (w : World) (d : Nat) (t e : TypeId) (a : Option Addr) (n c n' c' : Nat) (h : Tryz.prog.underlying t = some (.slice e)) : (Op.equalIn (d + 1) t (.slice a n c) (.slice none n' c')).run Tryz.prog w = .ok a.isNone w := by
 cases a with
 | none => simp [Op.equalIn, run_underlying h]
 | some a => simp [Op.equalIn, run_underlying h]
theorem run_equal_nil (w : World) (t e : TypeId) (a : Option Addr) (n c n' c' : Nat) (h : Tryz.prog.underlying t = some (.slice e)) : (Op.equal t (.slice a n c) (.slice none n' c')).run Tryz.prog w = .ok a.isNone w := run_equalIn_nil w 9999 t e a n c n' c' h
theorem r_enil {xt e : TypeId} {x y : Operand} {a : Option Addr} {n c n' c' : Nat} (h : Tryz.prog.underlying xt = some (.slice e)) : Bin .eql xt x y (.slice a n c) (.slice none n' c') (.bool a.isNone) := by
 intro w; simp [eqGuard, binOp, run_equal_nil (h := h)]
theorem r_nnil {xt e : TypeId} {x y : Operand} {a : Option Addr} {n c n' c' : Nat} (h : Tryz.prog.underlying xt = some (.slice e)) : Bin .neq xt x y (.slice a n c) (.slice none n' c') (.bool (!a.isNone)) := by
 intro w; simp [eqGuard, binOp, run_equal_nil (h := h)]
section
variable {cx : Cx} {o : Oper} {l : List (Nat × PV)} {g : EH}
theorem ok_enil {g : List (Nat × Option Bk)} {xt yt e : TypeId} {x y : Operand} {op : BinOp} {u : PV} {b r : Bool} (ho : o.op = .binOp op xt x y yt) (hu : Tryz.prog.underlying xt = some (.slice e)) (hx : Ev l x u) (hy : Ev l y (LV nilS))
  (hn : ∀ p ρ w v, RepPV p ρ w u v → ∃ a n c, v = .slice a n c ∧ a.isNone = b) (hop : (op = .eql ∧ r = b) ∨ (op = .neq ∧ r = !b)) : OpOK cx o (S l) (S g) ⟨LV (.bool r), [], [], []⟩ :=
 ok_pure fun ρ a w hs => ⟨.bool r, by
  obtain ⟨ad, n, c, e1, e3⟩ := hn _ _ _ _ (hx.rep hs (by rw [ho]; simp [Op.operands]))
  have e2 := rep_lit (hy.rep hs (by rw [ho]; simp [Op.operands]))
  unfold execOp
  rcases hop with ⟨rfl, rfl⟩ | ⟨rfl, rfl⟩
  ·simp only [ho, e1, e2]
   rw [Sem.run_bind, r_enil (h := hu) w, e3]; rfl
  ·simp only [ho, e1, e2]
   rw [Sem.run_bind, r_nnil (h := hu) w, e3]; rfl, lit_rep rfl⟩
def isSlT (P : Program) (t : TypeId) : Option TypeId := match P.underlying t with
 | some (.slice e) => some e
 | _ => none
theorem isSlT_ok {t e : TypeId} (h : isSlT Tryz.prog t = some e) : Tryz.prog.underlying t = some (.slice e) := by
 unfold isSlT at h
 split at h
 ·rename_i h1; cases h; exact h1
 ·cases h
def nilOf : PV → Option (List Prop × Bool)
 | .e (.c (.d (.sl _ n))) => some ([1 ≤ n], false)
 | .e (.c (.own _ _ n _ _)) => some ([1 ≤ n], false)
 | .e (.c (.d (.lit (.slice none _ _)))) => some ([], true)
 | .e (.c (.d (.lit (.slice (some _) _ _)))) => some ([], false)
 | _ => none
theorem nilOf_ok {u : PV} {ps : List Prop} {b : Bool} (h : nilOf u = some (ps, b)) (hp : AllP ps) : ∀ p ρ w v, RepPV p ρ w u v → ∃ a n c, v = .slice a n c ∧ a.isNone = b := by
 unfold nilOf at h
 intro p ρ w v hr
 split at h
 ·rename_i ds n
  cases h
  have hn : 1 ≤ n := hp
  obtain ⟨a, cap, e, h1, _, h2, h3⟩ := rep_sl hr
  rcases h3 with ⟨_, h3⟩ | ⟨us, b', off, h3, _⟩
  ·omega
  ·exact ⟨a, n, cap, e, by rw [h3]; rfl⟩
 ·rename_i b' off n s wh
  cases h
  have hn : 1 ≤ n := hp
  obtain ⟨m, cap, _, _, e, _⟩ := rep_own (by omega) hr
  exact ⟨_, n, cap, e, rfl⟩
 ·cases h; exact ⟨_, _, _, rep_lit hr, rfl⟩
 ·cases h; exact ⟨_, _, _, rep_lit hr, rfl⟩
 ·cases h
def isNilP : PV → Bool
 | .e (.c (.d (.lit (.slice none 0 0)))) => true
 | _ => false
theorem isNilP_ok {u : PV} (h : isNilP u = true) : u = LV nilS := by
 unfold isNilP at h
 split at h
 ·rfl
 ·cases h
def evNil (P : Program) (op : BinOp) (xt : TypeId) (u v : PV) : R := match isSlT P xt, isNilP v, nilOf u, op with
 | some _, true, some (ps, b), .eql => pvc ps (LV (.bool b))
 | some _, true, some (ps, b), .neq => pvc ps (LV (.bool (!b)))
 | _, _, _, _ => none
theorem evNil_ok {op : BinOp} {xt yt : TypeId} {x y : Operand} (ho : o.op = .binOp op xt x y yt) {u v : PV} (hu : Ev l x u) (hv : Ev l y v) : OKR cx o l g (evNil Tryz.prog op xt u v) := by
 unfold evNil
 split
 ·rename_i h1 h2 h3
  obtain rfl := isNilP_ok h2
  exact OKR.some fun hp => ok_enil ho (isSlT_ok h1) hu hv (nilOf_ok h3 hp) (.inl ⟨rfl, rfl⟩)
 ·rename_i h1 h2 h3
  obtain rfl := isNilP_ok h2
  exact OKR.some fun hp => ok_enil ho (isSlT_ok h1) hu hv (nilOf_ok h3 hp) (.inr ⟨rfl, rfl⟩)
 ·exact OKR.none
theorem run_slice_head {t e : TypeId} {bb : Bool} {s : Nat} (hu : Tryz.prog.underlying t = some (.slice e)) (he : tyOf Tryz.prog e = some (bb, s)) (w : World) (b off n cap H : Nat) (k : IntKind) (h2 : H ≤ n) (h3 : n ≤ cap) :
  (Instr.sliceAt t (.slice (some ⟨b, off, none⟩) n cap) none (some (.int k (H : Int))) none).run Tryz.prog w = .ok (.slice (some ⟨b, off, none⟩) H cap) w := by
 have h4 : Tryz.prog.underlying t = some (.slice (Tryz.prog.elem t)) := by rw [elem_of hu]; exact hu
 rw [run_sliceAt_slice (h := h4), run_slice_h (ht := h4) (h0 := by omega) (h2 := by omega), elem_of hu, tyOf_size he]
 simp [sliced, Result.andThen, Addr.add]
theorem ok_slice_t {g : List (Nat × Option Bk)} {t e : TypeId} {bb : Bool} {x y : Operand} {b n s H : Nat} {T : TypeId} {cs cs' : List C} {k : IntKind} {i : Int} (ho : o.op = .slice t x none (some y) none) (hu : Tryz.prog.underlying t = some (.slice e)) (he : tyOf Tryz.prog e = some (bb, s)) (hx : Ev l x (.e (.c (.own b 0 n s true)))) (hy : Ev l y (LV (.int k i))) (hi : i = (H : Int)) (hb : Look g b (some (T, cs))) (h2 : H ≤ n) (hc : cs.take (H * s) = cs') :
  OpOK cx o (S l) (S g) ⟨.e (.c (.own b 0 H s true)), [(b, some (T, cs'))], [], [b]⟩ := by
 intro Q ρ a w hL hs hfoot _ hh hk hdf K hK
 have hrep := hx.rep hs (by rw [ho]; simp [Op.operands])
 obtain ⟨vx, ev⟩ : ∃ vx, a.eval x = vx := ⟨_, rfl⟩
 rw [ev] at hrep
 have hrep' : RepC cx.p ρ w (.own b 0 n s true) vx := hrep
 cases hrep' with
 | ownn _ _ m hm hnl =>
  have hb' : hL b = some (T, cs) := by rw [hfoot b (by simp), hb.S]
  have hH : H = 0 := by omega
  subst hH
  have hcs0 : cs = [] := by
   obtain ⟨m2, k1, k2 | ⟨k2, _⟩⟩ := hh.row b T cs hb'
   ·exact k2.2
   ·rw [hm] at k1; cases k1; rw [hnl] at k2; cases k2
  subst hcs0
  have hc' : cs' = [] := by rw [← hc]; simp
  subst hc'
  obtain ⟨M, q1, q2, q3, q4⟩ := slice_vals ho hu he (.no) (.yes hy hi) (.no) (Nat.le_refl 0) (Nat.le_refl 0) hs ev (Nat.le_refl 0)
  have hM : M = 0 := by omega
  subst hM
  have hL' : (fun x => (([(b, some (T, ([] : List C)))] : List (Nat × Option Bk)).lookup x).getD (hL x)) = hL := by
   funext x'
   by_cases e : x' = b
   ·subst e; simp [hb']
   ·simp [List.lookup_cons, show (x' == b) = false by simpa using e]
  refine wp_value _ q4 (hK _ _ ρ (Goes.refl _ _ _) (fun _ _ h => h) (by rw [hL']; exact hh) hk (.ownn b s m hm hnl))
 | own _ _ _ _ _ m cap hm hnl h3 h4 h5 =>
  have ey := rep_lit (hy.rep hs (by rw [ho]; simp [Op.operands]))
  have hb' : hL b = some (T, cs) := by rw [hfoot b (by simp), hb.S]
  obtain ⟨vs, rest, q1, q2, q3⟩ := (hh.at hb' hm hnl).1
  have hcl : cs.length = vs.length := q3.len
  have hrow : Row cx.p ρ w m T cs' := by
   refine ⟨vs.take (H * s), vs.drop (H * s) ++ rest, by rw [← List.append_assoc, List.take_append_drop]; exact q1, by rw [← List.append_assoc, List.take_append_drop]; exact q2, ?_⟩
   rw [← hc]
   exact All2.mk (by rw [List.length_take, List.length_take, hcl]) fun j c u hj hu' => by
    rw [List.getElem?_take] at hj hu'
    split at hj
    ·rename_i hlt
     rw [if_pos hlt] at hu'
     exact q3.get j c u hj hu'
    ·cases hj
  obtain ⟨p1, p2, p3⟩ := HRep.write hh hk hb' hm hnl (Only.refl m.g w) (cs' := cs') hrow
  have hr := run_slice_head hu he w m.g 0 n cap H k h2 h3
  unfold Oper.wp execOp
  simp only [ho, ev, ey, hi, Option.map_none, Option.map_some, Sem.run_bind, hr, Result.andThen_ok, Sem.run_pure, Oper.upon_value]
  exact hK _ _ ρ p1 (fun _ _ h => h) p2 p3 (.own b 0 H s true m cap hm hnl (by omega) h4 h5)
def evSlT (P : Program) (h : H) (l : List (Nat × PV)) (g : EH) (t : TypeId) (lo hi mx : Option Operand) : PV → R
 | .e (.c (.own b 0 n s true)) => match isSlT P t, h, lo, hi, mx with
  | some e, .mk H _ r, none, some y, none => match tyOf P e, evO l y, g.lookup b with
   | some (_, s'), some (.e (.c (.d (.lit (.int _ i))))), some (some (T, .ds ds)) => match Nat.beq s' s with
    | true => some ([i = (H : Int), H ≤ n, ds.take (H * s) = r], ⟨.e (.c (.own b 0 H s true)), [(b, some (T, .ds r))], [], [b]⟩)
    | false => none
   | _, _, _ => none
  | _, _, _, _, _ => none
 | _ => none
theorem evSlT_ok {h : H} {t : TypeId} {x : Operand} {lo hi mx : Option Operand} (ho : o.op = .slice t x lo hi mx) {u : PV} (hu : Ev l x u) : OKR cx o l g (evSlT Tryz.prog h l g t lo hi mx u) := by
 unfold evSlT
 split
 ·split
  ·rename_i h1
   split
   ·rename_i he hy hg
    split
    ·rename_i hs
     have hs := Nat.eq_of_beq_eq_true hs
     subst hs
     refine OKR.some fun hp => ?_
     obtain ⟨p1, p3, p4⟩ := hp
     have p4 := congrArg (List.map C.d) (show List.take _ _ = _ from p4)
     rw [List.map_take] at p4
     exact ok_slice_t ho (isSlT_ok h1) he hu (evO_ok hy) p1 (toG_look hg) p3 p4
    ·exact OKR.none
   ·exact OKR.none
  ·exact OKR.none
 ·exact OKR.none
def evCap (P : Program) (st : TypeId) (u : PV) : R := none
theorem evCap_ok {x : Operand} {st : TypeId} (ho : o.op = .call { callee := .builtin .cap, args := #[x], argTypes := #[st] }) {u : PV} (hu : Ev l x u) : OKR cx o l g (evCap Tryz.prog st u) := OKR.none
def evBS0 (P : Program) (nx : Nat) (t : TypeId) (n : Nat) (parts : Array (Nat × Operand)) : R := match isSlT P t, n, parts.toList with
 | some e, 0, [] => match tyOf P e with
  | some (_, s) => some ([], ⟨.e (.c (.own nx 0 0 s true)), [(nx, some (e, .ds []))], [nx], []⟩)
  | none => none
 | _, _, _ => none
theorem evBS0_ok {nx : Nat} {t : TypeId} {n : Nat} {parts : Array (Nat × Operand)} (ho : o.op = .buildSlice t n parts) : OKR cx o l g (evBS0 Tryz.prog nx t n parts) := by
 unfold evBS0
 split
 ·rename_i e h1 h2
  have hp : parts = #[] := by simpa using h2
  subst hp
  split
  ·rename_i bb s he
   have h1 := isSlT_ok h1
   refine OKR.some fun _ => ?_
   refine ok_newRow (xs := []) fun ρ a w hs => ⟨[], [], 0, ?_, trivial, Nat.le_refl 0, by simp [maxLen], by simp⟩
   unfold execOp
   simp [ho, Instr.buildSlice, run_underlying h1, tyOf_size he, Instr.fill, newRow]
   rw [show Array.map (fun _ : Nat => (default : Value)) (Array.range 0) = #[] from Array.ext' (by simp)]
  ·exact OKR.none
 ·exact OKR.none
def evZs0 (P : Program) (h : H) (nx : Nat) (t tn : TypeId) : PV → PV → R := fun _ _ => none
theorem evZs0_ok {h : H} {nx : Nat} {x y : Operand} {t tn : TypeId} (ho : o.op = .call { callee := .builtin .append, args := #[x, y], argTypes := #[t, tn] }) {u v : PV} (hu : Ev l x u) (hv : Ev l y v) : OKR cx o l g (evZs0 Tryz.prog h nx t tn u v) := OKR.none
end
end Go.Proofs.YtcfmjpnffembpaaGreat
namespace Go.Proofs.YtcfmjpnffembpaaGreat
open Go.ChangeShapes Go.WideShapes Go.ChangeAt Go.RowKit
set_option linter.unusedVariables false
set_option linter.unusedSimpArgs false
section
variable {cx : Cx} {o : Oper} {l : List (Nat × PV)} {g : EH}
def evLenS (P : Program) (h : H) (st : TypeId) : PV → R := fun _ => none
theorem evLenS_ok {h : H} {x : Operand} {st : TypeId} (ho : o.op = .call { callee := .builtin .len, args := #[x], argTypes := #[st] }) {u : PV} (hu : Ev l x u) : OKR cx o l g (evLenS Tryz.prog h st u) := OKR.none
def evSlS (P : Program) (h : H) (l : List (Nat × PV)) (t : TypeId) (lo hi mx : Option Operand) : PV → R := fun _ => none
theorem evSlS_ok {h : H} {t : TypeId} {x : Operand} {lo hi mx : Option Operand} (ho : o.op = .slice t x lo hi mx) {u : PV} (hu : Ev l x u) : OKR cx o l g (evSlS Tryz.prog h l t lo hi mx u) := OKR.none
def evCat (P : Program) (op : BinOp) (h : H) : PV → PV → R := fun _ _ => none
theorem evCat_ok {op : BinOp} {h : H} {xt yt : TypeId} {x y : Operand} (ho : o.op = .binOp op xt x y yt) {u v : PV} (hu : Ev l x u) (hv : Ev l y v) : OKR cx o l g (evCat Tryz.prog op h u v) := OKR.none
def evByt (P : Program) (h : H) (nx : Nat) (src dst : TypeId) (u : PV) : R := none
theorem evByt_ok {h : H} {nx : Nat} {src dst : TypeId} {x : Operand} (ho : o.op = .convert src dst x) {u : PV} (hu : Ev l x u) : OKR cx o l g (evByt Tryz.prog h nx src dst u) := OKR.none
def evMark (P : Program) (g : EH) (src dst : TypeId) (u : PV) : R := none
theorem evMark_ok {src dst : TypeId} {x : Operand} (ho : o.op = .convert src dst x) {u : PV} (hu : Ev l x u) : OKR cx o l g (evMark Tryz.prog g src dst u) := OKR.none
end
end Go.Proofs.YtcfmjpnffembpaaGreat
namespace Go.Proofs.YtcfmjpnffembpaaGreat
open Go.ChangeShapes Go.WideShapes Go.ChangeAt Go.RowKit
set_option linter.unusedVariables false
set_option linter.unusedSimpArgs false
theorem stepT_loop {P : Program} {b : Frame} {a : Act} {k : List Item} {cs : List Frame} {w : World} {c : Code} :
  stepT P (lone (b.at a (.code (.loop c) :: k)) cs w) = (.next (lone (b.at a (.code c :: .inLoop c :: k)) cs w), #[]) := by
 rw [stepT, move_lone]
 simp [runT, lone, Array.swapAt!, stepG, stepG.exec, Frame.at, MemOp.ofEvents]
 intro h
 exact absurd rfl h
theorem steps_tail {P : Program} {m m1 m2 : Machine} (h1 : step P m = .next m1) (h : Go.Steps P m m2) (hne : m ≠ m2) : Go.Steps P m1 m2 := by
 obtain ⟨n, hn⟩ := h
 cases n with
 | zero => simp [runN] at hn; exact absurd hn hne
 | succ n => simp only [runN, h1] at hn; exact ⟨n, hn⟩
theorem at_ne {b : Frame} {a a' : Act} {k k' : List Item} {cs : List Frame} {w w' : World} (h : k ≠ k') : lone (b.at a k) cs w ≠ lone (b.at a' k') cs w' := by
 intro e
 simp only [lone, Machine.mk.injEq, Array.mk.injEq, List.cons.injEq, Goroutine.mk.injEq, Frame.at, Frame.mk.injEq] at e
 exact h e.2.1.1.1.2.2.1
theorem exitTo_len : ∀ {id : Nat} {k k' : List Item}, exitTo id k = some k' → k'.length < k.length
 | id, [], k', h => by cases h
 | id, x :: k, k', h => by
  have ih : ∀ k', exitTo id k = some k' → k'.length < k.length := fun _ h => exitTo_len h
  cases x with
  | inBlock id' =>
   simp only [exitTo] at h
   split at h
   ·cases h; simp
   ·have := ih _ h; simp; omega
  | _ => simp only [exitTo] at h; have := ih _ h; simp; omega
theorem findLabel_ne {c : Code} : ∀ (x : Code) {l : Nat} {r : Code}, findLabel x l = some r → r ≠ .loop c := by
 intro x
 induction x with
 | seq a b iha ihb =>
  intro l r h
  simp only [findLabel] at h
  split at h
  ·cases h; intro e; cases e
  ·exact ihb h
 | label l' =>
  intro l r h
  simp only [findLabel] at h
  split at h
  ·cases h; intro e; cases e
  ·cases h
 | _ => intro l r h; simp [findLabel] at h
theorem gotoIn_ne {l : Nat} {c : Code} : ∀ {k k' : List Item}, gotoIn l k = some k' → ∀ y, k' ≠ .code (.loop c) :: y
 | [], k', h => by cases h
 | x :: k, k', h => by
  have ih : ∀ k', gotoIn l k = some k' → ∀ y, k' ≠ .code (.loop c) :: y := fun _ h => gotoIn_ne h
  cases x with
  | inScope body =>
   simp only [gotoIn] at h
   split at h
   ·rename_i hf
    cases h
    intro y e
    simp only [List.cons.injEq, Item.code.injEq] at e
    exact findLabel_ne _ hf e.1
   ·exact ih _ h
  | _ => simp only [gotoIn] at h; exact ih _ h
theorem Outgrown.tail {P : Program} {m m1 : Machine} (h1 : stepT P m = (.next m1, #[])) (h : Outgrown P m) : Outgrown P m1 := by
 obtain ⟨n, o, ho, h2, h3⟩ := h
 cases n with
 | zero => simp [runNT] at ho
 | succ n =>
  simp only [runNT, h1] at ho
  exact ⟨n, o, by simpa using ho, h2, h3⟩
theorem wp_loop_turn {P : Program} {Q : Exit → Act → World → Prop} {a : Act} {w : World} {c : Code} (h : c.wp P (Exit.then ((Code.loop c).wp P Q) Q) a w) : (Code.loop c).wp P Q a w := by
 intro b k cs
 obtain ⟨e, a₁, w₁, hq, harr⟩ := h b (.inLoop c :: k) cs
 cases e with
 | normal =>
  obtain ⟨e₂, a₂, w₂, hq₂, harr₂⟩ := hq b k cs
  refine ⟨e₂, a₂, w₂, hq₂, .of_steps (.one step_loop) ?_⟩
  have h2 : Arrives P (lone (b.at a₁ (.code c :: .inLoop c :: k)) cs w₁) b k cs e₂ a₂ w₂ := by
   cases e₂ with
   | normal => exact steps_tail step_loop harr₂ (at_ne (fun e => by have := congrArg List.length e; simp at this))
   | exit id => exact fun k' hk => steps_tail step_loop (harr₂ k' hk) (at_ne (fun e => by have := congrArg List.length e; have := exitTo_len hk; simp at *; omega))
   | goto l => exact fun k' hk => steps_tail step_loop (harr₂ k' hk) (at_ne (fun e => gotoIn_ne hk _ e.symm))
   | ret =>
    obtain ⟨todo, hs⟩ := harr₂
    exact ⟨todo, steps_tail step_loop hs (by intro e; simp [lone, Frame.at] at e)⟩
   | panic ch =>
    obtain ⟨todo, hs⟩ := harr₂
    exact ⟨todo, steps_tail step_loop hs (by intro e; simp [lone, Frame.at] at e)⟩
   | outgrown => exact harr₂.imp id (Outgrown.tail stepT_loop)
  exact .of_steps (Steps.trans harr (.one step_inLoop)) h2
 | exit id => exact ⟨_, a₁, w₁, hq, .of_steps (.one step_loop) (.pass (x := .inLoop c) rfl (fun _ _ => .inl (by simp)) harr)⟩
 | goto l => exact ⟨_, a₁, w₁, hq, .of_steps (.one step_loop) (.pass (x := .inLoop c) rfl (fun _ _ => .inl (by simp)) harr)⟩
 | ret => exact ⟨_, a₁, w₁, hq, .of_steps (.one step_loop) (.pass (x := .inLoop c) rfl (fun _ _ => .inl (by simp)) harr)⟩
 | panic ch => exact ⟨_, a₁, w₁, hq, .of_steps (.one step_loop) (.pass (x := .inLoop c) rfl (fun _ _ => .inl (by simp)) harr)⟩
 | outgrown => exact ⟨_, a₁, w₁, hq, .of_steps (.one step_loop) (.pass (x := .inLoop c) rfl (fun _ _ => .inl (by simp)) harr)⟩
section
variable {cx : Cx} {o : Oper} {l : List (Nat × PV)} {g : EH}
def evEqP (P : Program) (op : BinOp) (xt : TypeId) (u v : PV) : R := none
theorem evEqP_ok {op : BinOp} {xt yt : TypeId} {x y : Operand} (ho : o.op = .binOp op xt x y yt) {u v : PV} (hu : Ev l x u) (hv : Ev l y v) : OKR cx o l g (evEqP Tryz.prog op xt u v) := OKR.none
def evUns (P : Program) (g : EH) (src dst : TypeId) (u : PV) : R := none
theorem evUns_ok {src dst : TypeId} {x : Operand} (ho : o.op = .convert src dst x) {u : PV} (hu : Ev l x u) : OKR cx o l g (evUns Tryz.prog g src dst u) := OKR.none
def evExtP (P : Program) (h : H) (f : FuncId) (us : Option (List E1)) : R := none
def evApS (P : Program) (h : H) (g : EH) (nx : Nat) (t tn : TypeId) : PV → PV → R := fun _ _ => none
theorem evApS_ok {h : H} {nx : Nat} {t tn : TypeId} {x y : Operand} (ho : o.op = .call { callee := .builtin .append, args := #[x, y], argTypes := #[t, tn] }) {u v : PV} (hu : Ev l x u) (hv : Ev l y v) : OKR cx o l g (evApS Tryz.prog h g nx t tn u v) := OKR.none
def evSD : PV → R := fun _ => none
theorem evSD_ok {x : Operand} {st : TypeId} (ho : o.op = .call { callee := .builtin .unsafeSliceData, args := #[x], argTypes := #[st] }) {u : PV} (hu : Ev l x u) : OKR cx o l g (evSD u) := OKR.none
def evUS (P : Program) (h : H) (g : EH) (pt : TypeId) (u v : PV) : R := none
theorem evUS_ok {h : H} {pt it : TypeId} {x y : Operand} (ho : o.op = .call { callee := .builtin .unsafeString, args := #[x, y], argTypes := #[pt, it] }) {u v : PV} (hu : Ev l x u) (hv : Ev l y v) : OKR cx o l g (evUS Tryz.prog h g pt u v) := OKR.none
def AWp (cx : Cx) (n : Nat) (c : Code) (Q : Post) : Nat → St → Prop
 | 0, s => AW cx n (.loop c) Q s
 | k + 1, s => AW cx n c (thenP (AWp cx n c Q k) Q) s
theorem AWp.s {cx : Cx} {n : Nat} {c : Code} {Q : Post} {k : Nat} {s : St} (h : AW cx n c (thenP (AWp cx n c Q k) Q) s) : AWp cx n c Q (k + 1) s := h
theorem AWp.z {cx : Cx} {n : Nat} {c : Code} {Q : Post} {s : St} (h : AW cx n (.loop c) Q s) : AWp cx n c Q 0 s := h
theorem AWp.ok {cx : Cx} {n : Nat} {c : Code} {Q : Post} : ∀ {k : Nat} {s : St}, AWp cx n c Q k s → AW cx n (.loop c) Q s
 | 0, _, h => h
 | k + 1, s, h => fun a w hm => by
  refine wp_loop_turn (wp_mono (h a w hm) ?_)
  rintro e a' w' ⟨s', h1, h2⟩
  cases e with
  | normal => exact AWp.ok (k := k) h1 a' w' h2
  | _ => exact ⟨s', h1, h2⟩
theorem AW.peel {cx : Cx} {n : Nat} {c : Code} {Q : Post} {s : St} (k : Nat) (h : AWp cx n c Q k s) : AW cx n (.loop c) Q s := h.ok
end
end Go.Proofs.YtcfmjpnffembpaaGreat
namespace Go.Proofs.YtcfmjpnffembpaaGreat
open Go.ChangeShapes Go.WideShapes Go.ChangeAt Go.RowKit
set_option linter.unusedVariables false
set_option linter.unusedSimpArgs false
def evSh (op : BinOp) (h : H) : Value → Value → Option (List Prop × Value)
 | .int k a, .int _ b => match op, h with
  | .shl, .n s => some ([b = (s : Int), s ≤ k.bits, inK k (a * ((2 ^ s : Nat) : Int))], .int k (a * ((2 ^ s : Nat) : Int)))
  | .shl, .n2 s _ => some ([b = (s : Int), s ≤ k.bits], .int k (k.wrap (a * ((2 ^ s : Nat) : Int))))
  | .shr, .n s => some ([b = (s : Int), s ≤ k.bits], .int k (a / ((2 ^ s : Nat) : Int)))
  | _, _ => none
 | _, _ => none
theorem pow_cast (s : Nat) : ((2 ^ s : Nat) : Int) = (2 : Int) ^ s := by simp
theorem evSh_ok {op : BinOp} {h : H} {a b : Value} {ps : List Prop} {v : Value} {xt : TypeId} (e : evSh op h a b = some (ps, v)) (hp : AllP ps) (x y : Operand) : Bin op xt x y a b v ∧ v.oneCell' = true := by
 unfold evSh at e
 split at e
 ·rename_i k a yk b
  split at e
  ·rename_i s
   cases e
   obtain ⟨h1, h2, h3⟩ := hp
   have h3 : inK k _ := h3
   have h4 := wrap_in h3
   rw [pow_cast] at h4
   have hneg : ¬ ((s : Int) < 0) := by omega
   subst h1
   refine ⟨fun w => ?_, rfl⟩
   simp [eqGuard, binOp, Op.shift, Nat.min_eq_left h2, hneg, h4]
  ·rename_i s r
   cases e
   obtain ⟨h1, h2⟩ := hp
   have h2 : _ ≤ _ := h2
   have hneg : ¬ ((s : Int) < 0) := by omega
   subst h1
   refine ⟨fun w => ?_, rfl⟩
   simp [eqGuard, binOp, Op.shift, Nat.min_eq_left h2, hneg]
  ·rename_i s
   cases e
   obtain ⟨h1, h2⟩ := hp
   have h2 : _ ≤ _ := h2
   have hneg : ¬ ((s : Int) < 0) := by omega
   have h4 : a.fdiv ((2 : Int) ^ s) = a / (2 : Int) ^ s := by rw [← pow_cast, Int.fdiv_eq_ediv_of_nonneg _ (Int.natCast_nonneg _)]
   subst h1
   refine ⟨fun w => ?_, rfl⟩
   simp [eqGuard, binOp, Op.shift, Nat.min_eq_left h2, hneg, h4]
  ·cases e
 ·cases e
def evBt (op : BinOp) (h : H) : Value → Value → Option (List Prop × Value)
 | .int k a, .int k' b => if k = k' then match op, h with
   | .and, .i r => some ([bitsI .and k a b = r], .int k r)
   | .or, .i r => some ([bitsI .or k a b = r], .int k r)
   | .xor, .i r => some ([bitsI .xor k a b = r], .int k r)
   | .andNot, .i r => some ([bitsI .andNot k a b = r], .int k r)
   | _, _ => none
  else none
 | _, _ => none
theorem evBt_ok {op : BinOp} {h : H} {a b : Value} {ps : List Prop} {v : Value} {xt : TypeId} (e : evBt op h a b = some (ps, v)) (hp : AllP ps) (x y : Operand) : Bin op xt x y a b v ∧ v.oneCell' = true := by
 unfold evBt at e
 split at e
 ·split at e
  ·rename_i hk
   subst hk
   split at e
   all_goals first | (cases e; have hp : _ = _ := hp; subst hp; refine ⟨fun w => ?_, rfl⟩; simp [eqGuard, binOp, Op.intBits, bitsI]; done) | cases e
  ·cases e
 ·cases e
def evAgg (P : Program) (op : BinOp) (h : H) (xt : TypeId) (cs ds : List C) : R := none
section
variable {cx : Cx} {o : Oper} {l : List (Nat × PV)} {g : EH}
theorem evAgg_ok {op : BinOp} {h : H} {xt yt : TypeId} {x y : Operand} (ho : o.op = .binOp op xt x y yt) {cs ds : List C} (hx : Ev l x (.e (.agg cs))) (hy : Ev l y (.e (.agg ds))) : OKR cx o l g (evAgg Tryz.prog op h xt cs ds) := OKR.none
def evBin2 (P : Program) (op : BinOp) (h : H) (xt : TypeId) (u v : PV) : R := match op, u, v with
 | .shl, .e (.c (.d (.lit a))), .e (.c (.d (.lit b))) => match evSh .shl h a b with
  | some (ps, v) => pvc ps (LV v)
  | none => none
 | .shr, .e (.c (.d (.lit a))), .e (.c (.d (.lit b))) => match evSh .shr h a b with
  | some (ps, v) => pvc ps (LV v)
  | none => none
 | .and, .e (.c (.d (.lit a))), .e (.c (.d (.lit b))) => match evBt .and h a b with
  | some (ps, v) => pvc ps (LV v)
  | none => none
 | .or, .e (.c (.d (.lit a))), .e (.c (.d (.lit b))) => match evBt .or h a b with
  | some (ps, v) => pvc ps (LV v)
  | none => none
 | .xor, .e (.c (.d (.lit a))), .e (.c (.d (.lit b))) => match evBt .xor h a b with
  | some (ps, v) => pvc ps (LV v)
  | none => none
 | .andNot, .e (.c (.d (.lit a))), .e (.c (.d (.lit b))) => match evBt .andNot h a b with
  | some (ps, v) => pvc ps (LV v)
  | none => none
 | op, .e (.agg cs), .e (.agg ds) => evAgg P op h xt cs ds
 | op, u, v => evBin P op h xt u v
theorem evBin2_ok {op : BinOp} {h : H} {xt yt : TypeId} {x y : Operand} (ho : o.op = .binOp op xt x y yt) {u v : PV} (hu : Ev l x u) (hv : Ev l y v) : OKR cx o l g (evBin2 Tryz.prog op h xt u v) := by
 unfold evBin2
 split
 iterate 2
  ·split
   ·rename_i he
    refine OKR.some fun hp => ?_
    obtain ⟨h1, h2⟩ := evSh_ok (xt := xt) he hp x y
    exact ok_bin ho hu hv h1 h2
   ·exact OKR.none
 iterate 4
  ·split
   ·rename_i he
    refine OKR.some fun hp => ?_
    obtain ⟨h1, h2⟩ := evBt_ok (xt := xt) he hp x y
    exact ok_bin ho hu hv h1 h2
   ·exact OKR.none
 ·exact evAgg_ok ho hu hv
 ·exact evBin_ok ho hu hv
end
end Go.Proofs.YtcfmjpnffembpaaGreat
namespace Go.Proofs.YtcfmjpnffembpaaGreat
open Go.ChangeShapes Go.WideShapes Go.ChangeAt Go.RowKit
set_option linter.unusedVariables false
set_option linter.unusedSimpArgs false
abbrev FnT := FuncId → List E1 → List (Nat × Option Bk) → Nat → PV → List (Nat × Option Bk) → Nat → Prop
def evB1 (P : Program) (h : H) (l : List (Nat × PV)) (g : EH) (nx : Nat) (b : Builtin) (args : List Operand) (ts : List TypeId) : R := match b, args, ts with
 | .len, [x], [st] => bo (evO l x) fun u => orR (evLen P st u) (evLenS P h st u)
 | .min, [x, y], _ => bo (evO l x) fun u => bo (evO l y) fun v => evMin h u v
 | .max, [x, y], _ => bo (evO l x) fun u => bo (evO l y) fun v => evMax h u v
 | .max, [x, y, z], _ => bo (evO l x) fun u => bo (evO l y) fun v => bo (evO l z) fun w => evMax3 h u v w
 | .append, [x, y], [t, t'] => match Nat.beq t t' with
  | true => bo (evO l x) fun u => bo (evO l y) fun v => evAp P h g nx t u v
  | false => bo (evO l x) fun u => bo (evO l y) fun v => orR (evApS P h g nx t t' u v) (orR (evZs0 P h nx t t' u v) (evZs P h g nx t t' u v))
 | .copy, [x, y], [t, _] => bo (evO l x) fun u => bo (evO l y) fun v => evCp P h g t u v
 | .cap, [x], [st] => bo (evO l x) (evCap P st)
 | .unsafeSliceData, [x], [_] => bo (evO l x) evSD
 | .unsafeString, [x, y], [pt, _] => bo (evO l x) fun u => bo (evO l y) fun v => evUS P h g pt u v
 | _, _, _ => none
def evExtn (P : Program) (h : H) (f : FuncId) (us : Option (List E1)) : R := none
theorem evExtn_ok {cx : Cx} {o : Oper} {l : List (Nat × PV)} {g : EH} {h : H} {f : FuncId} {args : Array Operand} {ts : Array TypeId} (ho : o.op = .call { callee := .value (.func f), args := args, argTypes := ts }) : OKR cx o l g (evExtn Tryz.prog h f (evAs l args.toList)) := OKR.none
theorem evExtP_ok2 {cx : Cx} {o : Oper} {l : List (Nat × PV)} {g : EH} {h : H} {f : FuncId} {args : Array Operand} {ts : Array TypeId} (ho : o.op = .call { callee := .value (.func f), args := args, argTypes := ts }) : OKR cx o l g (evExtP Tryz.prog h f (evAs l args.toList)) := OKR.none
def evC (P : Program) (Fn : FnT) (h : H) (l : List (Nat × PV)) (g : EH) (nx : Nat) (c : Call) : R := match c with
 | ⟨.builtin b, args, ts⟩ => evB1 P h l g nx b args.toList ts.toList
 | ⟨.value (.func f), args, _⟩ => orR (evExtP P h f (evAs l args.toList)) (orR (evExtn P h f (evAs l args.toList)) (evCall P Fn h g nx f (evAs l args.toList)))
 | ⟨.value x, args, _⟩ => bo (evO l x) fun u => match fnOf u with
  | some (f, qs) => match Nat.blt f fnK with
   | true => evCall P Fn h g nx f (evAs2 l args.toList qs)
   | false => evCall P Fn h g nx (fnU f) (evAs3 l args.toList qs)
  | none => none
 | _ => none
def evOp0 (P : Program) (Fn : FnT) (h : H) (l : List (Nat × PV)) (g : EH) (nx : Nat) : Op → R
 | .move x => bo (evO l x) pv
 | .assign x => bo (evO l x) pv
 | .nilCheck x => bo (evO l x) fun u => match u with
  | .e (.c (.ptr b off)) => pv (.e (.c (.ptr b off)))
  | _ => none
 | .unOp .not _ x => bo (evO l x) (evNot h)
 | .unOp .neg _ x => bo (evO l x) (evNeg h)
 | .pick c x y => bo (evO l c) fun u => evPick h u (evO l x) (evO l y)
 | .binOp op xt x y _ => bo (evO l x) fun u => bo (evO l y) fun v => orR (evNil P op xt u v) (orR (evEqP P op xt u v) (orR (evBin2 P op h xt u v) (evCat P op h u v)))
 | .convert s d x => bo (evO l x) fun u => orR (evStr P h g s d u) (orR (evByt P h nx s d u) (orR (evMark P g s d u) (orR (evUns P g s d u) (evConv P h s d u))))
 | .extract x i => bo (evO l x) (evExt i)
 | .fieldAddr t x i => bo (evO l x) (evFA P t i)
 | .field t x i => bo (evO l x) (evFld P t i)
 | .load ty x => bo (evO l x) (evLoad P h g ty)
 | .store ty x y => bo (evO l x) fun u => bo (evO l y) fun v => evStore P h g ty u v
 | .alloc T => evAlloc P nx T
 | .box T x => bo (evO l x) (evBox nx T)
 | .build t ps => orR (evBuild P l t ps) (evBuildA P l t ps)
 | .buildSlice t n ps => orR (evBS0 P nx t n ps) (evBS P l nx t n ps)
 | .makeSlice t x y => bo (evO l x) fun u => bo (evO l y) fun v => evMk P h nx t u v
 | .indexAddr t x y => bo (evO l x) fun u => bo (evO l y) fun v => orR (evIxA P h t u v) (evIx P h t u v)
 | .index t x y => bo (evO l x) fun u => bo (evO l y) fun v => orR (evIdA P h t u v) (evIdS P h t u v)
 | .slice t x lo hi mx => bo (evO l x) fun u => orR (evSlP P t lo hi mx u) <| orR (evSlT P h l g t lo hi mx u) (orR (evSl P h l t lo hi mx u) (evSlS P h l t lo hi mx u))
 | .call c => evC P Fn h l g nx c
 | .makeFunc (.func f) first caps => match first.toList with
  | [] => evMF l f caps.toList
  | _ => match caps.toList with
   | [] => evMFb l f first.toList
   | _ => none
 | _ => none
section
variable {cx : Cx} {o : Oper} {l : List (Nat × PV)} {g : EH}
theorem arr1 {α : Type} {a : Array α} {l : List α} (h : a.toList = l) : a = l.toArray := by subst h; simp
theorem evB1_ok {h : H} {nx : Nat} {b : Builtin} {args : Array Operand} {ts : Array TypeId} (ho : o.op = .call { callee := .builtin b, args := args, argTypes := ts }) : OKR cx o l g (evB1 Tryz.prog h l g nx b args.toList ts.toList) := by
 unfold evB1
 split
 ·rename_i h1 h2
  rw [arr1 h1, arr1 h2] at ho
  exact OKR.bo fun u hu => OKR.or (evLen_ok ho hu) (evLenS_ok ho hu)
 ·rename_i h1
  rw [arr1 h1] at ho
  exact OKR.bo fun u hu => OKR.bo fun v hv => evMin_ok ho hu hv
 ·rename_i h1
  rw [arr1 h1] at ho
  exact OKR.bo fun u hu => OKR.bo fun v hv => evMax_ok ho hu hv
 ·rename_i h1
  rw [arr1 h1] at ho
  exact OKR.bo fun u hu => OKR.bo fun v hv => OKR.bo fun w hw => evMax3_ok ho hu hv hw
 ·rename_i h1 h2
  rw [arr1 h1, arr1 h2] at ho
  split
  ·rename_i ht
   have ht := Nat.eq_of_beq_eq_true ht
   subst ht
   exact OKR.bo fun u hu => OKR.bo fun v hv => evAp_ok ho hu hv
  ·exact OKR.bo fun u hu => OKR.bo fun v hv => OKR.or (evApS_ok ho hu hv) (OKR.or (evZs0_ok ho hu hv) (evZs_ok ho hu hv))
 ·rename_i h1 h2
  rw [arr1 h1, arr1 h2] at ho
  exact OKR.bo fun u hu => OKR.bo fun v hv => evCp_ok ho hu hv
 ·rename_i h1 h2
  rw [arr1 h1, arr1 h2] at ho
  exact OKR.bo fun u hu => evCap_ok ho hu
 ·rename_i h1 h2
  rw [arr1 h1, arr1 h2] at ho
  exact OKR.bo fun u hu => evSD_ok ho hu
 ·rename_i h1 h2
  rw [arr1 h1, arr1 h2] at ho
  exact OKR.bo fun u hu => OKR.bo fun v hv => evUS_ok ho hu hv
 ·exact OKR.none
theorem evOp0_ok {h : H} {nx : Nat} {op : Op} (ho : o.op = op) : OKR cx o l g (evOp0 Tryz.prog Fun h l g nx op) := by
 unfold evOp0
 split
 ·exact OKR.bo fun u hu => OKR.some fun _ => ok_move ho hu
 ·exact OKR.bo fun u hu => OKR.some fun _ => ok_assign ho hu
 ·refine OKR.bo fun u hu => ?_
  split
  ·exact OKR.some fun _ => ok_nilCheck ho hu
  ·exact OKR.none
 ·exact OKR.bo fun u hu => evNot_ok ho hu
 ·exact OKR.bo fun u hu => evNeg_ok ho hu
 ·exact OKR.bo fun u hu => evPick_ok ho hu
 ·exact OKR.bo fun u hu => OKR.bo fun v hv => OKR.or (evNil_ok ho hu hv) (OKR.or (evEqP_ok ho hu hv) (OKR.or (evBin2_ok ho hu hv) (evCat_ok ho hu hv)))
 ·exact OKR.bo fun u hu => OKR.or (evStr_ok ho hu) (OKR.or (evByt_ok ho hu) (OKR.or (evMark_ok ho hu) (OKR.or (evUns_ok ho hu) (evConv_ok ho hu))))
 ·exact OKR.bo fun u hu => evExt_ok ho hu
 ·exact OKR.bo fun u hu => evFA_ok ho hu
 ·exact OKR.bo fun u hu => evFld_ok ho hu
 ·exact OKR.bo fun u hu => evLoad_ok ho hu
 ·exact OKR.bo fun u hu => OKR.bo fun v hv => evStore_ok ho hu hv
 ·exact evAlloc_ok ho
 ·exact OKR.bo fun u hu => evBox_ok ho hu
 ·exact OKR.or (evBuild_ok ho) (evBuildA_ok ho)
 ·exact OKR.or (evBS0_ok ho) (evBS_ok ho)
 ·exact OKR.bo fun u hu => OKR.bo fun v hv => evMk_ok ho hu hv
 ·exact OKR.bo fun u hu => OKR.bo fun v hv => OKR.or (evIxA_ok ho hu hv) (evIx_ok ho hu hv)
 ·exact OKR.bo fun u hu => OKR.bo fun v hv => OKR.or (evIdA_ok ho hu hv) (evIdS_ok ho hu hv)
 ·exact OKR.bo fun u hu => OKR.or (evSlP_ok ho hu) <| OKR.or (evSlT_ok ho hu) (OKR.or (evSl_ok ho hu) (evSlS_ok ho hu))
 ·unfold evC
  split
  ·exact evB1_ok ho
  ·exact OKR.or (evExtP_ok2 ho) (OKR.or (evExtn_ok ho) (evCall_ok ho))
  ·refine OKR.bo fun u hu => ?_
   split
   ·rename_i hf
    have := fnOf_ok hf
    subst this
    split
    ·rename_i hlo; exact evCallS_ok ho hu hlo
    ·rename_i hlo; exact evCallB_ok ho hu hlo
   ·exact OKR.none
  ·exact OKR.none
 ·split
  ·rename_i h0; exact evMF_ok ho h0
  ·split
   ·rename_i h1; exact evMFb_ok ho h1
   ·exact OKR.none
 ·exact OKR.none
theorem OpOK.frz {ds : List D} {T : TypeId} {n s nx : Nat} {wr : List (Nat × Option Bk)} {news foot : List Nat} {h0 : Hp} {τ : Nat → PV} (hnx : wr.lookup nx = none) (hl : ds.length = n * s) (h : OpOK cx o τ h0 ⟨.e (.c (.own nx 0 n s true)), wr ++ [(nx, some (T, ds.map .d))], news, foot⟩) :
  OpOK cx o τ h0 ⟨.e (.c (.d (.sl ds n))), wr ++ [(nx, none)], news, foot⟩ := by
 intro Q ρ a w hL hs hf hn hh hk hd K hK
 refine h Q ρ a w hL hs hf hn hh hk hd K ?_
 intro v w' ρ' g1 g2 g3 g4 g5
 have hx : ((wr ++ [(nx, some (T, ds.map C.d))]).lookup nx).getD (hL nx) = some (T, ds.map C.d) := by rw [lookup_app, hnx]; simp
 have hx' : ((wr ++ [(nx, none)]).lookup nx).getD (hL nx) = none := by rw [lookup_app, hnx]; simp
 have hne : ∀ x, x ≠ nx → ((wr ++ [(nx, none)]).lookup x).getD (hL x) = ((wr ++ [(nx, some (T, ds.map C.d))]).lookup x).getD (hL x) := by
  intro x hxn
  rw [lookup_app, lookup_app]
  simp only [List.lookup_cons, show (x == nx) = false by simpa using hxn, List.lookup_nil]
 have hsub : ∀ x, ((wr ++ [(nx, none)]).lookup x).getD (hL x) ≠ none → x ≠ nx ∧ ((wr ++ [(nx, some (T, ds.map C.d))]).lookup x).getD (hL x) ≠ none := by
  intro x hq
  have : x ≠ nx := fun e => hq (by rw [e]; exact hx')
  exact ⟨this, by rw [← hne x this]; exact hq⟩
 have hsub2 : ∀ x T' cs, ((wr ++ [(nx, none)]).lookup x).getD (hL x) = some (T', cs) → x ≠ nx ∧ ((wr ++ [(nx, some (T, ds.map C.d))]).lookup x).getD (hL x) = some (T', cs) := by
  intro x T' cs hq
  have hq2 := hsub x (by rw [hq]; simp)
  exact ⟨hq2.1, by rw [← hne x hq2.1]; exact hq⟩
 obtain ⟨m, k1, k2⟩ := g3.row nx T _ hx
 rcases k2 with ⟨k2, k3⟩ | ⟨k2, ⟨vs, rest, r1, r2, r3⟩, k4⟩
 ·have hds : ds = [] := List.map_eq_nil_iff.1 k3
  subst hds
  refine hK v w' ρ' g1 g2 ⟨fun b T' cs hb => g3.row b T' cs (hsub2 b T' cs hb).2, fun b b' m m' hb hb' => g3.inj b b' m m' (hsub b hb).2 (hsub b' hb').2, fun b m hb => g3.zf b m (hsub b hb).2, g3.zm, g3.zl⟩ g4 ?_
  have g5' : RepC cx.p ρ' w' (.own nx 0 n s true) v := g5
  cases g5' with
  | own _ _ _ _ _ m2 cap hm hn' => rw [k1] at hm; cases hm; rw [k2] at hn'; cases hn'
  | ownn => exact .d (.nil none 0 (Nat.zero_le _) (fun _ => rfl))
 ·have hgo : Goes cx.p ρ' ⟨ρ'.f, fun k => ρ'.z k ∨ k = m.g⟩ w' w' := ⟨fun _ _ h => h, fun _ h => .inl h, Nat.le_refl _, fun _ _ _ => rfl⟩
  have hg1 : Goes cx.p ρ ⟨ρ'.f, fun k => ρ'.z k ∨ k = m.g⟩ w w' := ⟨g1.ext, fun k hz => .inl (g1.zext k hz), g1.size, g1.old⟩
  refine hK v w' ⟨ρ'.f, fun k => ρ'.z k ∨ k = m.g⟩ hg1 g2 ⟨?_, fun b b' m m' hb hb' => g3.inj b b' m m' (hsub b hb).2 (hsub b' hb').2, ?_, ?_, ?_⟩ g4 ?_
  ·intro b T' cs hb
   obtain ⟨m', p1, p2⟩ := g3.row b T' cs (hsub2 b T' cs hb).2
   exact ⟨m', p1, p2.imp id fun p => ⟨p.1, p.2.1.mono hgo rfl, p.2.2⟩⟩
  ·intro b m1 hb hm1 hn1 hz
   rcases hz with hz | hz
   ·exact g3.zf b m1 (hsub b hb).2 hm1 hn1 hz
   ·exact (hsub b hb).1 (g3.inj b nx m1 m (hsub b hb).2 (by rw [hx]; simp) hm1 k1 hn1 k2 hz)
  ·intro k hz
   rcases hz with hz | hz
   ·exact g3.zm k hz
   ·exact hz ▸ k4
  ·intro k hz
   rcases hz with hz | hz
   ·exact g3.zl k hz
   ·exact hz ▸ r1.lt
  ·have g5' : RepC cx.p ρ' w' (.own nx 0 n s true) v := g5
   cases g5' with
   | own _ _ _ _ _ m2 cap hm hn' h1 h2 h3 =>
    rw [k1] at hm; cases hm
    have hvl : vs.length = ds.length := by have := r3.len; simpa using this.symm
    refine .d (.sl ds vs m.g 0 n cap hvl ?_ ?_ (.inr (.inr rfl)) r1.lt h1 h2)
    ·intro i u hu
     rw [Nat.zero_add]
     exact BlkM.cell (vs := vs ++ rest) r1 i (by rw [List.getElem?_append_left (List.getElem?_eq_some_iff.1 hu).1]; exact hu)
    ·intro i d u hd' hu
     have := (r3.imp fun _ _ => RepC.mono hgo).get i (.d d) u (by rw [List.getElem?_map, hd']; rfl) hu
     cases this with
     | d h => exact h
   | ownn _ _ m2 hm hn' => rw [k1] at hm; cases hm; rw [k2] at hn'; cases hn'
def fzR : R → R
 | some (ps, ⟨.e (.c (.own b 0 n s true)), wr, news, foot⟩) => match wr with
  | [(b', some (T, .ds ds))] => match Nat.beq b' b with
   | true => some (ps ++ [ds.length = n * s], ⟨.e (.c (.d (.sl ds n))), [(b, none)], news, foot⟩)
   | false => none
  | [(b0, none), (b', some (T, .ds ds))] => match Nat.beq b' b, Nat.beq b b0 with
   | true, false => some (ps ++ [ds.length = n * s], ⟨.e (.c (.d (.sl ds n))), [(b0, none), (b, none)], news, foot⟩)
   | _, _ => none
  | _ => none
 | _ => none
theorem fzR_ok {r : R} (h : OKR cx o l g r) : OKR cx o l g (fzR r) := by
 unfold fzR
 split
 ·rename_i ps b n s wr news foot
  split
  ·split
   ·rename_i hb
    refine OKR.some fun hp => ?_
    have hp := (AllP.iff _).1 hp
    have hl : _ = _ := hp _ (List.mem_append_right _ (List.mem_cons_self ..))
    obtain rfl := Nat.eq_of_beq_eq_true hb
    exact OpOK.frz (wr := []) rfl hl (h _ _ rfl ((AllP.iff _).2 fun p hpp => hp p (List.mem_append_left _ hpp)))
   ·exact OKR.none
  ·split
   ·rename_i hb hb0
    refine OKR.some fun hp => ?_
    have hp := (AllP.iff _).1 hp
    have hl : _ = _ := hp _ (List.mem_append_right _ (List.mem_cons_self ..))
    obtain rfl := Nat.eq_of_beq_eq_true hb
    refine OpOK.frz (wr := [(_, none)]) ?_ hl (h _ _ rfl ((AllP.iff _).2 fun p hpp => hp p (List.mem_append_left _ hpp)))
    have hne := Nat.ne_of_beq_eq_false hb0
    have e9 := beq_eq_false_iff_ne.2 hne
    rw [List.lookup_cons, e9]; rfl
   ·exact OKR.none
  ·exact OKR.none
 ·exact OKR.none
def evOp (P : Program) (Fn : FnT) (h : H) (l : List (Nat × PV)) (g : EH) (nx : Nat) (op : Op) : R := match h with
 | .fz h' => fzR (evOp0 P Fn h' l g nx op)
 | h => evOp0 P Fn h l g nx op
theorem evOp_ok {h : H} {nx : Nat} {op : Op} (ho : o.op = op) : OKR cx o l g (evOp Tryz.prog Fun h l g nx op) := by
 unfold evOp
 split
 ·exact fzR_ok (evOp0_ok ho)
 ·exact evOp0_ok ho
end
def stepG (ops : List Oper) (l : List (Nat × PV)) (o : Oper) : Option Bool := match o.guard with
 | none => some true
 | some (gi, b) => match ops[gi]? with
  | some og => match og.dst with
   | some dg => match l.lookup dg with
    | some (.e (.c (.d (.lit (.bool b'))))) => some (b' == b)
    | some (.tup []) => some false
    | _ => none
   | none => none
  | none => none
theorem look_S {X : Type} [Inhabited X] {l : List (Nat × X)} {t : Nat} {u : X} (h : l.lookup t = some u) : S l t = u := (Look.of h).S
theorem stepG_yes {cx : Cx} {ops : List Oper} {l : List (Nat × PV)} {g : List (Nat × Option Bk)} {o : Oper} {t : OT} (h : stepG ops l o = some true) (hok : OpOK cx o (S l) (S g) t) : StepO cx ops o l g t := by
 unfold stepG at h
 unfold StepO
 split at h
 ·rename_i hg; rw [hg]; exact hok
 ·rename_i gi b hg
  rw [hg]
  split at h
  ·rename_i og hog
   split at h
   ·rename_i dg hdg
    split at h
    ·rename_i b' hl
     refine ⟨dg, og, hog, hdg, .inl ⟨b', look_S hl, ?_⟩⟩
     have : b' = b := by simpa using h
     rw [if_pos this]; exact hok
    ·cases h
    ·cases h
   ·cases h
  ·cases h
theorem stepG_no {cx : Cx} {ops : List Oper} {l : List (Nat × PV)} {g : List (Nat × Option Bk)} {o : Oper} (h : stepG ops l o = some false) : StepO cx ops o l g ⟨.tup [], [], [], []⟩ := by
 unfold stepG at h
 unfold StepO
 split at h
 ·cases h
 ·rename_i gi b hg
  rw [hg]
  split at h
  ·rename_i og hog
   split at h
   ·rename_i dg hdg
    split at h
    ·rename_i b' hl
     refine ⟨dg, og, hog, hdg, .inl ⟨b', look_S hl, ?_⟩⟩
     have : ¬ b' = b := by simpa using h
     rw [if_neg this]; exact ⟨rfl, rfl, rfl⟩
    ·rename_i hl
     exact ⟨dg, og, hog, hdg, .inr ⟨look_S hl, rfl, rfl, rfl⟩⟩
    ·cases h
   ·cases h
  ·cases h
def runOps (P : Program) (Fn : FnT) (ops : List Oper) : List Oper → List H → List (Nat × PV) → EH → Nat → Option (List Prop × List OTe × List (Nat × PV) × EH × Nat)
 | [], _, l, g, nx => some ([], [], l, g, nx)
 | o :: os, hs, l, g, nx => match stepG ops l o with
  | some true => match hs with
   | h :: hs => match evOp P Fn h l g nx o.op with
    | some (ps, t) => match runOps P Fn ops os hs (dstw o t.u ++ l) (t.wr ++ g) (nx + t.news.length) with
     | some (ps', ts, r) => some (ps ++ ps', t :: ts, r)
     | none => none
    | none => none
   | [] => none
  | some false => match runOps P Fn ops os hs (dstw o (.tup []) ++ l) g nx with
   | some (ps', ts, r) => some (ps', ⟨.tup [], [], [], []⟩ :: ts, r)
   | none => none
  | none => none
theorem runOps_ok {cx : Cx} {ops : List Oper} : ∀ {os : List Oper} {hs : List H} {l lf : List (Nat × PV)} {g gf : EH} {nx nf : Nat} {ps : List Prop} {ts : List OTe}, runOps Tryz.prog Fun ops os hs l g nx = some (ps, ts, lf, gf, nf) → (∀ p ∈ ps, p) → Steps cx ops os (ts.map OTe.to) l (toG g) lf (toG gf)
 | [], _, _, _, _, _, _, _, _, _, h, _ => by cases h; exact .nil _ _
 | o :: os, hs, l, lf, g, gf, nx, nf, ps, ts, h, hp => by
  unfold runOps at h
  split at h
  ·rename_i hg
   split at h
   ·split at h
    ·rename_i he
     split at h
     ·rename_i hr
      cases h
      rw [List.map_cons]
      refine .cons (stepG_yes hg (evOp_ok rfl _ _ he ((AllP.iff _).2 fun p h => hp p (List.mem_append_left _ h)))) ?_
      have := runOps_ok (cx := cx) hr (fun p h => hp p (List.mem_append_right _ h))
      rw [toG_app] at this
      exact this
     ·cases h
    ·cases h
   ·cases h
  ·rename_i hg
   split at h
   ·rename_i hr
    cases h
    rw [List.map_cons]
    exact .cons (stepG_no hg) (runOps_ok (cx := cx) hr hp)
   ·cases h
  ·cases h
def selL (lf : List (Nat × PV)) : List Nat → List (Nat × PV)
 | [] => []
 | t :: ts => match lf.lookup t with
  | some u => (t, u) :: selL lf ts
  | none => selL lf ts
theorem selL_ok {lf : List (Nat × PV)} {t : Nat} {u : PV} : ∀ {ts : List Nat}, (selL lf ts).lookup t = some u → lf.lookup t = some u
 | [], h => by cases h
 | a :: ts, h => by
  unfold selL at h
  split at h
  ·rename_i v hv
   rw [List.lookup_cons] at h
   split at h
   ·rename_i hb; simp at hb; subst hb; cases h; exact hv
   ·exact selL_ok h
  ·exact selL_ok h
def selG (gf : EH) : List Nat → EH
 | [] => []
 | t :: ts => match gf.lookup t with
  | some (some u) => (t, some u) :: selG gf ts
  | _ => selG gf ts
theorem selG_ok {gf : EH} {t : Nat} {u : EBk} : ∀ {ts : List Nat}, (selG gf ts).lookup t = some (some u) → gf.lookup t = some (some u)
 | [], h => by cases h
 | a :: ts, h => by
  unfold selG at h
  split at h
  ·rename_i v hv
   rw [List.lookup_cons] at h
   split at h
   ·rename_i hb; simp at hb; subst hb; cases h; exact hv
   ·exact selG_ok h
  ·exact selG_ok h
theorem Mod.weak {cx : Cx} {n nx : Nat} {l l' : List (Nat × PV)} {g g' : EH} (hl : ∀ t u, l'.lookup t = some u → l.lookup t = some u) (hg : ∀ t u, g'.lookup t = some (some u) → g.lookup t = some (some u)) {a : Act} {w : World} (h : Mod cx n l (toG g) nx a w) : Mod cx n l' (toG g') nx a w := by
 obtain ⟨ρ, h1, h2, h3, h4, h5, h6, h9⟩ := h
 have hgg : ∀ b x, S (toG g') b = some x → S (toG g) b = some x := by
  intro b x hx
  unfold Proofs.YtcfmjpnffembpaaGreat.S at hx ⊢
  rw [toG_lookup] at hx ⊢
  cases hb : g'.lookup b with
  | none => rw [hb] at hx; cases hx
  | some o =>
   cases o with
   | none => rw [hb] at hx; cases hx
   | some v => rw [hg b v hb]; rw [hb] at hx; exact hx
 refine ⟨ρ, h1, ⟨fun b T cs hb => h2.row b T cs (hgg b _ hb), fun b b' m m' hb hb' => h2.inj b b' m m' ?_ ?_, fun b m hb => h2.zf b m ?_, h2.zm, h2.zl⟩, ?_, h4, h5, h6, h9⟩
 ·obtain ⟨x, hx⟩ := Option.ne_none_iff_exists'.1 hb; rw [hgg b x hx]; simp
 ·obtain ⟨x, hx⟩ := Option.ne_none_iff_exists'.1 hb'; rw [hgg b' x hx]; simp
 ·obtain ⟨x, hx⟩ := Option.ne_none_iff_exists'.1 hb; rw [hgg b x hx]; simp
 ·intro t
  unfold Proofs.YtcfmjpnffembpaaGreat.S
  cases hb : l'.lookup t with
  | none => exact trivial
  | some u => have := h3 t; rw [look_S (hl t u hb)] at this; exact this
def runR (P : Program) (Fn : FnT) (n : Nat) (ops : List Oper) (hs : List H) (l : List (Nat × PV)) (g : EH) (nx : Nat) (live kb : List Nat) : Option (Prop × List (Nat × PV) × EH × Nat) := match dstsOk ops n with
 | true => match runOps P Fn ops ops hs l g nx with
  | some (ps, ts, lf, gf, nf) => match okTr ops (ts.map OTe.to) nx nf with
   | true => some (AllP ps, selL lf live, selG gf kb, nf)
   | false => none
  | none => none
 | false => none
theorem AW.rg {cx : Cx} {n id nx nx' : Nat} {draw : Bool} {ops : List Oper} {Q : Post} {l l' : List (Nat × PV)} {g g' : EH} (hs : List H) (live kb : List Nat) {P : Prop} (h : runR Tryz.prog Fun n ops hs l g nx live kb = some (P, l', g', nx')) (hP : P) (hQ : Q .normal ⟨l', toG g', nx'⟩) : AW cx n (.region id ops.toArray draw) Q ⟨l, toG g, nx⟩ := by
 unfold runR at h
 split at h
 ·rename_i hd
  split at h
  ·rename_i hr
   split at h
   ·rename_i hc
    cases h
    intro a w hm
    exact region_ok (by kernel_rfl) hd (runOps_ok (cx := cx) hr ((AllP.iff _).1 hP)) hc (fun a' w' h => ⟨_, hQ, h.weak (fun t u => selL_ok) (fun t u => selG_ok)⟩) hm
   ·cases h
  ·cases h
 ·cases h
theorem AW.rgs {cx : Cx} {n id nx nx' : Nat} {draw : Bool} {ops : List Oper} {Q : Post} {c : Code} {l l' : List (Nat × PV)} {g g' : EH} (hs : List H) (live kb : List Nat) {P : Prop} (h : runR Tryz.prog Fun n ops hs l g nx live kb = some (P, l', g', nx')) (hP : P) (hQ : AW cx n c Q ⟨l', toG g', nx'⟩) : AW cx n (.seq (.region id ops.toArray draw) c) Q ⟨l, toG g, nx⟩ :=
 AW.seq (AW.rg hs live kb h hP hQ)
/-! what is the same -/
def eqB (σ : Nat → Nat) : BC → BC → Option (List Prop)
 | .ds x, .ds y => some [x = y]
 | .cs x, .cs y => eqL σ x y
 | _, _ => none
theorem eqB_ok {σ : Nat → Nat} {v v' : BC} {ps : List Prop} (h : eqB σ v v' = some ps) (hp : ∀ p ∈ ps, p) : v.to.map (mapC σ) = v'.to := by
 unfold eqB at h
 split at h
 ·cases h
  have e := hp (_ = _) (List.mem_cons_self ..)
  subst e
  show List.map _ (List.map C.d _) = List.map C.d _
  rw [List.map_map]; rfl
 ·exact eqL_ok h hp
 ·cases h
def sg (m : List (Nat × Nat)) (b : Nat) : Nat := match m.lookup b with
 | some c => c
 | none => b
def sameS (σ : Nat → Nat) (nx2 : Nat) (l : List (Nat × PV)) : List (Nat × PV) → Option (List Prop)
 | [] => some []
 | (t, u) :: l2 => match l.lookup t, lowPV nx2 u with
  | some v, true => both (eqPV σ u v) (sameS σ nx2 l l2)
  | _, _ => none
theorem sameS_ok {σ : Nat → Nat} {nx2 : Nat} {l : List (Nat × PV)} : ∀ {l2 : List (Nat × PV)} {ps : List Prop}, sameS σ nx2 l l2 = some ps → (∀ p ∈ ps, p) → RenS σ nx2 l l2
 | [], _, _, _ => trivial
 | (t, u) :: l2, _, h, hp => by
  unfold sameS at h
  split at h
  ·rename_i h1 h2
   obtain ⟨p, q, e1, e2, e3, e4⟩ := both_ok h hp
   exact ⟨⟨h2, _, Look.of h1, eqPV_ok e1 e3⟩, sameS_ok e2 e4⟩
  ·cases h
def lowB (n : Nat) : BC → Bool
 | .ds _ => true
 | .cs l => l.all (lowC n)
theorem lowB_ok {n : Nat} {b : BC} (h : lowB n b = true) : b.to.all (lowC n) = true := by
 cases b with
 | ds l => show (List.map C.d l).all _ = true; rw [List.all_map]; exact List.all_eq_true.2 fun _ _ => rfl
 | cs l => exact h
def sameG (σ : Nat → Nat) (nx2 : Nat) (g : EH) : EH → Option (List Prop)
 | [] => some []
 | (b, some (T, bc)) :: g2 => match Nat.blt b nx2 && (lowB nx2 bc && g2.all fun y => !(σ y.1 == σ b)), g.lookup (σ b) with
  | true, some (some (T', bc')) => match Nat.beq T T' with
   | true => both (eqB σ bc bc') (sameG σ nx2 g g2)
   | false => none
  | _, _ => none
 | (b, none) :: g2 => match g2.all fun y => !(σ y.1 == σ b) with
  | true => sameG σ nx2 g g2
  | false => none
theorem RenG.gone {n0 : Nat} {σ : Nat → Nat} {g g2 : List (Nat × Option Bk)} {nx2 b : Nat} (h : RenG n0 σ g g2 nx2) (hi : (g2.all fun y => !(σ y.1 == σ b)) = true) : RenG n0 σ g ((b, none) :: g2) nx2 := by
 rw [List.all_eq_true] at hi
 refine ⟨?_, ?_, h.fix, h.low⟩
 ·intro x hx T' cs' he
  rcases List.mem_cons.1 hx with rfl | hx
  ·cases he
  ·exact h.blk x hx T' cs' he
 ·intro x hx y hy he
  rcases List.mem_cons.1 hx with rfl | hx
  ·rcases List.mem_cons.1 hy with rfl | hy
   ·rfl
   ·have := hi y hy; simp [he] at this
  ·rcases List.mem_cons.1 hy with rfl | hy
   ·have := hi x hx; simp [he] at this
   ·exact h.inj x hx y hy he
theorem toG_all (p : Nat → Bool) : ∀ g : EH, ((toG g).all fun y => p y.1) = g.all fun y => p y.1
 | [] => rfl
 | x :: g => by show ((x.1, toBk x.2) :: toG g).all _ = _; rw [List.all_cons, List.all_cons, toG_all p g]
theorem sameG_ok {n0 : Nat} {σ : Nat → Nat} {nx2 : Nat} {g : EH} (hf : ∀ b, b < n0 → σ b = b) (hl : n0 ≤ nx2) : ∀ {g2 : EH} {ps : List Prop}, sameG σ nx2 g g2 = some ps → (∀ p ∈ ps, p) → RenG n0 σ (toG g) (toG g2) nx2
 | [], _, _, _ => .base hf hl
 | (b, some (T, bc)) :: g2, _, h, hp => by
  unfold sameG at h
  split at h
  ·rename_i h1 h2
   simp only [Bool.and_eq_true] at h1
   obtain ⟨c1, c2, c3⟩ := h1
   split at h
   ·rename_i hT
    have hT := Nat.eq_of_beq_eq_true hT
    subst hT
    obtain ⟨p, q, e1, e2, e3, e4⟩ := both_ok h hp
    exact .cons (sameG_ok hf hl e2 e4) c1 rfl (toG_look h2) (eqB_ok e1 e3) (lowB_ok c2) (by rw [toG_all (fun y => !(σ y == σ b))]; exact c3)
   ·cases h
  ·cases h
 | (b, none) :: g2, _, h, hp => by
  unfold sameG at h
  split at h
  ·rename_i h1
   exact (sameG_ok hf hl h hp).gone (by rw [toG_all (fun y => !(σ y == σ b))]; exact h1)
  ·cases h
structure ES where
 l : List (Nat × PV)
 g : EH
 nx : Nat
def ES.st (s : ES) : St := ⟨s.l, toG s.g, s.nx⟩
def fixM (n0 : Nat) (m : List (Nat × Nat)) : Bool := m.all fun x => Nat.ble n0 x.1
theorem fixM_ok {n0 : Nat} : ∀ {m : List (Nat × Nat)}, fixM n0 m = true → ∀ b, b < n0 → sg m b = b
 | [], _, _, _ => rfl
 | (k, c) :: m, h, b, hb => by
  unfold fixM at h
  rw [List.all_cons, Bool.and_eq_true] at h
  have h1 : n0 ≤ k := Nat.le_of_ble_eq_true h.1
  unfold sg
  rw [List.lookup_cons, show (b == k) = false by simp; omega]
  exact fixM_ok (m := m) h.2 b hb
def sameP (n0 : Nat) (m : List (Nat × Nat)) (l : List (Nat × PV)) (g : EH) (s : ES) : Option Prop := match fixM n0 m && Nat.ble n0 s.nx with
 | true => match both (sameS (sg m) s.nx l s.l) (sameG (sg m) s.nx g s.g) with
  | some ps => some (AllP ps)
  | none => none
 | false => none
theorem sameP_ok {n0 : Nat} {m : List (Nat × Nat)} {l : List (Nat × PV)} {g : EH} {nx : Nat} {s : ES} {P : Prop} (h : sameP n0 m l g s = some P) (hP : P) : Same n0 ⟨l, toG g, nx⟩ s.st := by
 unfold sameP at h
 split at h
 ·rename_i hc
  rw [Bool.and_eq_true] at hc
  split at h
  ·rename_i hb
   cases h
   obtain ⟨p, q, e1, e2, e3, e4⟩ := both_ok hb ((AllP.iff _).1 hP)
   exact ⟨sg m, sameS_ok e1 e3, sameG_ok (fixM_ok hc.1) (Nat.le_of_ble_eq_true hc.2) e2 e4⟩
  ·cases h
 ·cases h
def Rd {α : Type} (n0 : Nat) (I : α → ES) (dec : α → Prop) (s : St) : Prop := ∃ y, Same n0 s (I y).st ∧ dec y
theorem AW.loopE {α : Type} {cx : Cx} {n nx : Nat} {c : Code} {Q : Post} {l : List (Nat × PV)} {g : EH} (n0 : Nat) (hn : cx.n0 = n0) (I : α → ES) (μ : α → Nat) (x0 : α) (m : List (Nat × Nat)) {P : Prop} (h0 : sameP n0 m l g (I x0) = some P) (hP : P) (round : ∀ x, AW cx n c (thenP (Rd n0 I (fun y => μ y < μ x)) Q) (I x).st) : AW cx n (.loop c) Q ⟨l, toG g, nx⟩ :=
 AW.loop n0 hn (fun x => (I x).st) μ x0 (sameP_ok h0 hP) (fun x => (round x).mono fun e s' h => by
  cases e with
  | normal => exact h
  | _ => exact h)
theorem Rd.of {α : Type} {n0 nx : Nat} {I : α → ES} {dec : α → Prop} {l : List (Nat × PV)} {g : EH} (y : α) (m : List (Nat × Nat)) {P : Prop} (h : sameP n0 m l g (I y) = some P) (hP : P) (hd : dec y) : Rd n0 I dec ⟨l, toG g, nx⟩ := ⟨y, sameP_ok h hP, hd⟩
/-! results -/
def resE (P : Program) (l : List (Nat × PV)) (g : EH) : ResultVar → Option E1
 | .tmp t => match l.lookup t with
  | some (.e e) => some e
  | _ => none
 | .cell a ty => match l.lookup a, tyOf P ty with
  | some (.e (.c (.ptr b off))), some (false, 1) => match g.lookup b with
   | some (some (_, bc)) => match bc.to[off]? with
    | some c => some (.c c)
    | none => none
   | _ => none
  | some (.e (.c (.ptr b off))), some (true, n) => match g.lookup b with
   | some (some (_, bc)) => match Nat.beq ((bc.to.drop off).take n).length n with
    | true => some (.agg ((bc.to.drop off).take n))
    | false => none
   | _ => none
  | _, _ => none
theorem resE_ok {l : List (Nat × PV)} {g : EH} {r : ResultVar} {e : E1} (h : resE Tryz.prog l g r = some e) : ResE l (toG g) r e := by
 unfold resE at h
 split at h
 ·split at h
  ·rename_i hl; cases h; exact .tmp (Look.of hl)
  ·cases h
 ·split at h
  ·rename_i hl ht
   split at h
   ·rename_i hb
    split at h
    ·rename_i hc; cases h; exact .cell (Look.of hl) ht (toG_look hb) hc
    ·cases h
   ·cases h
  ·rename_i hl ht
   split at h
   ·rename_i hb
    split at h
    ·rename_i hc; cases h; exact .agg (Look.of hl) ht (toG_look hb) rfl (Nat.eq_of_beq_eq_true hc)
    ·cases h
   ·cases h
  ·cases h
def resL (P : Program) (l : List (Nat × PV)) (g : EH) : List ResultVar → Option (List E1)
 | [] => some []
 | r :: rs => match resE P l g r, resL P l g rs with
  | some e, some es => some (e :: es)
  | _, _ => none
theorem resL_ok {l : List (Nat × PV)} {g : EH} : ∀ {rs : List ResultVar} {es : List E1}, resL Tryz.prog l g rs = some es → ResL l (toG g) rs es
 | [], _, h => by cases h; exact .nil
 | r :: rs, _, h => by
  unfold resL at h
  split at h
  ·rename_i h1 h2; cases h; exact .cons (resE_ok h1) (resL_ok h2)
  ·cases h
def retP (P : Program) (n0 : Nat) (m : List (Nat × Nat)) (rs : List ResultVar) (l : List (Nat × PV)) (g : EH) (y : PV) (g1 : EH) (nx1 : Nat) : Option Prop := match resL P l g rs, fixM n0 m && (Nat.ble n0 nx1 && lowPV nx1 y) with
 | some es, true => match both (eqPV (sg m) y (pvOf es)) (sameG (sg m) nx1 g g1) with
  | some ps => some (AllP ps)
  | none => none
 | _, _ => none
theorem EndP.of {n0 nx nx1 : Nat} {e : Exit} (he : e = .normal ∨ e = .ret) {rs : List ResultVar} {l : List (Nat × PV)} {g g1 : EH} {y : PV} (m : List (Nat × Nat)) {P : Prop} (h : retP Tryz.prog n0 m rs l g y g1 nx1 = some P) (hP : P) : EndP n0 rs y (toG g1) nx1 e ⟨l, toG g, nx⟩ := by
 unfold retP at h
 split at h
 ·rename_i h1 hc
  simp only [Bool.and_eq_true] at hc
  obtain ⟨c1, c2, c3⟩ := hc
  split at h
  ·rename_i hb
   cases h
   obtain ⟨p, q, e1, e2, e3, e4⟩ := both_ok hb ((AllP.iff _).1 hP)
   exact ⟨he, _, sg m, resL_ok h1, eqPV_ok e1 e3, c3, sameG_ok (fixM_ok c1) (Nat.le_of_ble_eq_true c2) e2 e4⟩
  ·cases h
 ·cases h
end Go.Proofs.YtcfmjpnffembpaaGreat
