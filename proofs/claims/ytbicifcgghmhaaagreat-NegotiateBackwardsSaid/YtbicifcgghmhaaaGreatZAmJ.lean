/- Merged texts. -/
import Derived.Test.YtbicifcgghmhaaaGreatZAmS
import Derived.Laws.Strings3
import Derived.Laws.IdiomStrings
import Derived.Lib.Builder
import Derived.Lib.UnsafeStr
import Derived.Lib.AppendStr
import Derived.Test.YtbicifcgghmhaaaGreatZAmI
import Derived.Test.YtbicifcgghmhaaaGreatZAmL
namespace Go.Proofs.YtbicifcgghmhaaaGreat
open Go.ChangeShapes Go.WideShapes Go.ChangeAt Go.RowKit
set_option linter.unusedVariables false
set_option linter.unusedSimpArgs false
theorem j3 (w : World) (d : Nat) (t e : TypeId) (a : Option Addr) (n c n' c' : Nat) (h : Tryz.prog.underlying t = some (.slice e)) : (Op.equalIn (d + 1) t (.slice a n c) (.slice none n' c')).run Tryz.prog w = .ok a.isNone w := by
 cases a with
 | none => simp [Op.equalIn, run_underlying h]
 | some a => simp [Op.equalIn, run_underlying h]
theorem fU (w : World) (t e : TypeId) (a : Option Addr) (n c n' c' : Nat) (h : Tryz.prog.underlying t = some (.slice e)) : (Op.equal t (.slice a n c) (.slice none n' c')).run Tryz.prog w = .ok a.isNone w := j3 w 9999 t e a n c n' c' h
theorem u69 {xt e : TypeId} {x y : Operand} {a : Option Addr} {n c n' c' : Nat} (h : Tryz.prog.underlying xt = some (.slice e)) : nF .eql xt x y (.slice a n c) (.slice none n' c') (.bool a.isNone) := by
 intro w; simp [eqGuard, binOp, fU (h := h)]
theorem u68 {xt e : TypeId} {x y : Operand} {a : Option Addr} {n c n' c' : Nat} (h : Tryz.prog.underlying xt = some (.slice e)) : nF .neq xt x y (.slice a n c) (.slice none n' c') (.bool (!a.isNone)) := by
 intro w; simp [eqGuard, binOp, fU (h := h)]
section
variable {cx : Cx} {o : Oper} {l : List (Nat × PV)} {g : EH}
theorem k1h {g : List (Nat × Option Bk)} {xt yt e : TypeId} {x y : Operand} {op : BinOp} {u : PV} {b r : Bool} (ho : o.op = .binOp op xt x y yt) (hu : Tryz.prog.underlying xt = some (.slice e)) (hx : Ev l x u) (hy : Ev l y (LV dR))
  (hn : ∀ p ρ w v, RepPV p ρ w u v → ∃ a n c, v = .slice a n c ∧ a.isNone = b) (hop : (op = .eql ∧ r = b) ∨ (op = .neq ∧ r = !b)) : OpOK cx o (S l) (S g) ⟨LV (.bool r), [], [], []⟩ :=
 qT fun ρ a w hs => ⟨.bool r, by
  obtain ⟨ad, n, c, e1, e3⟩ := hn _ _ _ _ (hx.rep hs (by rw [ho]; simp [Op.operands]))
  have e2 := qZ (hy.rep hs (by rw [ho]; simp [Op.operands]))
  unfold execOp
  rcases hop with ⟨rfl, rfl⟩ | ⟨rfl, rfl⟩
  ·simp only [ho, e1, e2]
   rw [Sem.run_bind, u69 (h := hu) w, e3]; rfl
  ·simp only [ho, e1, e2]
   rw [Sem.run_bind, u68 (h := hu) w, e3]; rfl, vR rfl⟩
def wR (P : Program) (t : TypeId) : Option TypeId := match P.underlying t with
 | some (.slice e) => some e
 | _ => none
theorem g9 {t e : TypeId} (h : wR Tryz.prog t = some e) : Tryz.prog.underlying t = some (.slice e) := by
 unfold wR at h
 split at h
 ·rename_i h1; cases h; exact h1
 ·cases h
def k62 : PV → Option (List Prop × Bool)
 | .e (.c (.d (.sl _ n))) => some ([1 ≤ n], false)
 | .e (.c (.own _ _ n _ _)) => some ([1 ≤ n], false)
 | .e (.c (.d (.lit (.slice none _ _)))) => some ([], true)
 | .e (.c (.d (.lit (.slice (some _) _ _)))) => some ([], false)
 | _ => none
theorem wC {u : PV} {ps : List Prop} {b : Bool} (h : k62 u = some (ps, b)) (hp : AllP ps) : ∀ p ρ w v, RepPV p ρ w u v → ∃ a n c, v = .slice a n c ∧ a.isNone = b := by
 unfold k62 at h
 intro p ρ w v hr
 split at h
 ·rename_i ds n
  cases h
  have hn : 1 ≤ n := hp
  obtain ⟨a, cap, e, h1, _, h2, h3⟩ := pU hr
  rcases h3 with ⟨_, h3⟩ | ⟨us, b', off, h3, _⟩
  ·omega
  ·exact ⟨a, n, cap, e, by rw [h3]; rfl⟩
 ·rename_i b' off n s wh
  cases h
  have hn : 1 ≤ n := hp
  obtain ⟨m, cap, _, _, e, _⟩ := fB (by omega) hr
  exact ⟨_, n, cap, e, rfl⟩
 ·cases h; exact ⟨_, _, _, qZ hr, rfl⟩
 ·cases h; exact ⟨_, _, _, qZ hr, rfl⟩
 ·cases h
def k04 : PV → Bool
 | .e (.c (.d (.lit (.slice none 0 0)))) => true
 | _ => false
theorem oR {u : PV} (h : k04 u = true) : u = LV dR := by
 unfold k04 at h
 split at h
 ·rfl
 ·cases h
def k7o (P : Program) (op : BinOp) (xt : TypeId) (u v : PV) : R := match wR P xt, k04 v, k62 u, op with
 | some _, true, some (ps, b), .eql => oC ps (LV (.bool b))
 | some _, true, some (ps, b), .neq => oC ps (LV (.bool (!b)))
 | _, _, _, _ => none
theorem k7n {op : BinOp} {xt yt : TypeId} {x y : Operand} (ho : o.op = .binOp op xt x y yt) {u v : PV} (hu : Ev l x u) (hv : Ev l y v) : OKR cx o l g (k7o Tryz.prog op xt u v) := by
 unfold k7o
 split
 ·rename_i h1 h2 h3
  obtain rfl := oR h2
  exact OKR.some fun hp => k1h ho (g9 h1) hu hv (wC h3 hp) (.inl ⟨rfl, rfl⟩)
 ·rename_i h1 h2 h3
  obtain rfl := oR h2
  exact OKR.some fun hp => k1h ho (g9 h1) hu hv (wC h3 hp) (.inr ⟨rfl, rfl⟩)
 ·exact OKR.none
theorem mD {t e : TypeId} {bb : Bool} {s : Nat} (hu : Tryz.prog.underlying t = some (.slice e)) (he : yY Tryz.prog e = some (bb, s)) (w : World) (b off n cap H : Nat) (k : IntKind) (h2 : H ≤ n) (h3 : n ≤ cap) :
  (Instr.sliceAt t (.slice (some ⟨b, off, none⟩) n cap) none (some (.int k (H : Int))) none).run Tryz.prog w = .ok (.slice (some ⟨b, off, none⟩) H cap) w := by
 have h4 : Tryz.prog.underlying t = some (.slice (Tryz.prog.elem t)) := by rw [aT hu]; exact hu
 rw [run_sliceAt_slice (h := h4), run_slice_h (ht := h4) (h0 := by omega) (h2 := by omega), aT hu, uQ he]
 simp [sliced, Result.andThen, Addr.add]
theorem zY {g : List (Nat × Option Bk)} {t e : TypeId} {bb : Bool} {x y : Operand} {b n s H : Nat} {T : TypeId} {cs cs' : List C} {k : IntKind} {i : Int} (ho : o.op = .slice t x none (some y) none) (hu : Tryz.prog.underlying t = some (.slice e)) (he : yY Tryz.prog e = some (bb, s)) (hx : Ev l x (.e (.c (.own b 0 n s true)))) (hy : Ev l y (LV (.int k i))) (hi : i = (H : Int)) (hb : Look g b (some (T, cs))) (h2 : H ≤ n) (hc : cs.take (H * s) = cs') :
  OpOK cx o (S l) (S g) ⟨.e (.c (.own b 0 H s true)), [(b, some (T, cs'))], [], [b]⟩ := by
 intro Q ρ a w hL hs hfoot _ hh hk hdf K hK
 have hrep := hx.rep hs (by rw [ho]; simp [Op.operands])
 obtain ⟨vx, ev⟩ : ∃ vx, a.eval x = vx := ⟨_, rfl⟩
 rw [ev] at hrep
 have hrep' : RepC cx.p ρ w (.own b 0 n s true) vx := hrep
 cases hrep' with
 | ownn _ _ m hm hnl =>
  have hb' : hL b = some (T, cs) := by rw [hfoot b (by simp), hb.S]
  have hH : H = 0 := by omega
  subst hH
  have hcs0 : cs = [] := by
   obtain ⟨m2, k1, k2 | ⟨k2, _⟩⟩ := hh.row b T cs hb'
   ·exact k2.2
   ·rw [hm] at k1; cases k1; rw [hnl] at k2; cases k2
  subst hcs0
  have hc' : cs' = [] := by rw [← hc]; simp
  subst hc'
  obtain ⟨M, q1, q2, q3, q4⟩ := dQ ho hu he (.no) (.yes hy hi) (.no) (Nat.le_refl 0) (Nat.le_refl 0) hs ev (Nat.le_refl 0)
  have hM : M = 0 := by omega
  subst hM
  have hL' : (fun x => (([(b, some (T, ([] : List C)))] : List (Nat × Option Bk)).lookup x).getD (hL x)) = hL := by
   funext x'
   by_cases e : x' = b
   ·subst e; simp [hb']
   ·simp [List.lookup_cons, show (x' == b) = false by simpa using e]
  refine l3 _ q4 (hK _ _ ρ (Goes.refl _ _ _) (fun _ _ h => h) (by rw [hL']; exact hh) hk (.ownn b s m hm hnl))
 | own _ _ _ _ _ m cap hm hnl h3 h4 h5 =>
  have ey := qZ (hy.rep hs (by rw [ho]; simp [Op.operands]))
  have hb' : hL b = some (T, cs) := by rw [hfoot b (by simp), hb.S]
  obtain ⟨vs, rest, q1, q2, q3⟩ := (hh.at hb' hm hnl).1
  have hcl : cs.length = vs.length := q3.len
  have hrow : Row cx.p ρ w m T cs' := by
   refine ⟨vs.take (H * s), vs.drop (H * s) ++ rest, by rw [← List.append_assoc, List.take_append_drop]; exact q1, by rw [← List.append_assoc, List.take_append_drop]; exact q2, ?_⟩
   rw [← hc]
   exact All2.mk (by rw [List.length_take, List.length_take, hcl]) fun j c u hj hu' => by
    rw [List.getElem?_take] at hj hu'
    split at hj
    ·rename_i hlt
     rw [if_pos hlt] at hu'
     exact q3.get j c u hj hu'
    ·cases hj
  obtain ⟨p1, p2, p3⟩ := HRep.write hh hk hb' hm hnl (Only.refl m.g w) (cs' := cs') hrow
  have hr := mD hu he w m.g 0 n cap H k h2 h3
  unfold Oper.wp execOp
  simp only [ho, ev, ey, hi, Option.map_none, Option.map_some, Sem.run_bind, hr, Result.andThen_ok, Sem.run_pure, Oper.upon_value]
  exact hK _ _ ρ p1 (fun _ _ h => h) p2 p3 (.own b 0 H s true m cap hm hnl (by omega) h4 h5)
def k7i (P : Program) (h : H) (l : List (Nat × PV)) (g : EH) (t : TypeId) (lo hi mx : Option Operand) : PV → R
 | .e (.c (.own b 0 n s true)) => match wR P t, h, lo, hi, mx with
  | some e, .mk H _ r, none, some y, none => match yY P e, aX l y, g.lookup b with
   | some (_, s'), some (.e (.c (.d (.lit (.int _ i))))), some (some (T, .ds ds)) => match Nat.beq s' s with
    | true => some ([i = (H : Int), H ≤ n, ds.take (H * s) = r], ⟨.e (.c (.own b 0 H s true)), [(b, some (T, .ds r))], [], [b]⟩)
    | false => none
   | _, _, _ => none
  | _, _, _, _, _ => none
 | _ => none
theorem k7h {h : H} {t : TypeId} {x : Operand} {lo hi mx : Option Operand} (ho : o.op = .slice t x lo hi mx) {u : PV} (hu : Ev l x u) : OKR cx o l g (k7i Tryz.prog h l g t lo hi mx u) := by
 unfold k7i
 split
 ·split
  ·rename_i h1
   split
   ·rename_i he hy hg
    split
    ·rename_i hs
     have hs := Nat.eq_of_beq_eq_true hs
     subst hs
     refine OKR.some fun hp => ?_
     obtain ⟨p1, p3, p4⟩ := hp
     have p4 := congrArg (List.map C.d) (show List.take _ _ = _ from p4)
     rw [List.map_take] at p4
     exact zY ho (g9 h1) he hu (jG hy) p1 (uM hg) p3 p4
    ·exact OKR.none
   ·exact OKR.none
  ·exact OKR.none
 ·exact OKR.none
def u4c (P : Program) (st : TypeId) (u : PV) : R := none
theorem k8f {x : Operand} {st : TypeId} (ho : o.op = .call { callee := .builtin .cap, args := #[x], argTypes := #[st] }) {u : PV} (hu : Ev l x u) : OKR cx o l g (u4c Tryz.prog st u) := OKR.none
def k8m (P : Program) (nx : Nat) (t : TypeId) (n : Nat) (parts : Array (Nat × Operand)) : R := match wR P t, n, parts.toList with
 | some e, 0, [] => match yY P e with
  | some (_, s) => some ([], ⟨.e (.c (.own nx 0 0 s true)), [(nx, some (e, .ds []))], [nx], []⟩)
  | none => none
 | _, _, _ => none
theorem k8l {nx : Nat} {t : TypeId} {n : Nat} {parts : Array (Nat × Operand)} (ho : o.op = .buildSlice t n parts) : OKR cx o l g (k8m Tryz.prog nx t n parts) := by
 unfold k8m
 split
 ·rename_i e h1 h2
  have hp : parts = #[] := by simpa using h2
  subst hp
  split
  ·rename_i bb s he
   have h1 := g9 h1
   refine OKR.some fun _ => ?_
   refine fC (xs := []) fun ρ a w hs => ⟨[], [], 0, ?_, trivial, Nat.le_refl 0, by simp [maxLen], by simp⟩
   unfold execOp
   simp [ho, Instr.buildSlice, run_underlying h1, uQ he, Instr.fill, newRow]
   rw [show Array.map (fun _ : Nat => (default : Value)) (Array.range 0) = #[] from Array.ext' (by simp)]
  ·exact OKR.none
 ·exact OKR.none
def u42 (P : Program) (h : H) (nx : Nat) (t tn : TypeId) : PV → PV → R := fun _ _ => none
theorem k7d {h : H} {nx : Nat} {x y : Operand} {t tn : TypeId} (ho : o.op = .call { callee := .builtin .append, args := #[x, y], argTypes := #[t, tn] }) {u v : PV} (hu : Ev l x u) (hv : Ev l y v) : OKR cx o l g (u42 Tryz.prog h nx t tn u v) := OKR.none
end
end Go.Proofs.YtbicifcgghmhaaaGreat
namespace Go.Proofs.YtbicifcgghmhaaaGreat
open Go.ChangeShapes Go.WideShapes Go.ChangeAt Go.RowKit
set_option linter.unusedVariables false
set_option linter.unusedSimpArgs false
section
variable {cx : Cx} {o : Oper} {l : List (Nat × PV)} {g : EH}
def k82 (P : Program) (h : H) (st : TypeId) : PV → R := fun _ => none
theorem k3g {h : H} {x : Operand} {st : TypeId} (ho : o.op = .call { callee := .builtin .len, args := #[x], argTypes := #[st] }) {u : PV} (hu : Ev l x u) : OKR cx o l g (k82 Tryz.prog h st u) := OKR.none
def u45 (P : Program) (h : H) (l : List (Nat × PV)) (t : TypeId) (lo hi mx : Option Operand) : PV → R := fun _ => none
theorem k7j {h : H} {t : TypeId} {x : Operand} {lo hi mx : Option Operand} (ho : o.op = .slice t x lo hi mx) {u : PV} (hu : Ev l x u) : OKR cx o l g (u45 Tryz.prog h l t lo hi mx u) := OKR.none
def u4b (P : Program) (op : BinOp) (h : H) : PV → PV → R := fun _ _ => none
theorem k8e {op : BinOp} {h : H} {xt yt : TypeId} {x y : Operand} (ho : o.op = .binOp op xt x y yt) {u v : PV} (hu : Ev l x u) (hv : Ev l y v) : OKR cx o l g (u4b Tryz.prog op h u v) := OKR.none
def u4d (P : Program) (h : H) (nx : Nat) (src dst : TypeId) (u : PV) : R := none
theorem k8g {h : H} {nx : Nat} {src dst : TypeId} {x : Operand} (ho : o.op = .convert src dst x) {u : PV} (hu : Ev l x u) : OKR cx o l g (u4d Tryz.prog h nx src dst u) := OKR.none
def k7x (P : Program) (g : EH) (src dst : TypeId) (u : PV) : R := none
theorem k3e {src dst : TypeId} {x : Operand} (ho : o.op = .convert src dst x) {u : PV} (hu : Ev l x u) : OKR cx o l g (k7x Tryz.prog g src dst u) := OKR.none
end
end Go.Proofs.YtbicifcgghmhaaaGreat
namespace Go.Proofs.YtbicifcgghmhaaaGreat
open Go.ChangeShapes Go.WideShapes Go.ChangeAt Go.RowKit
set_option linter.unusedVariables false
set_option linter.unusedSimpArgs false
theorem zJ {P : Program} {b : Frame} {a : Act} {k : List Item} {cs : List Frame} {w : World} {c : Code} :
  stepT P (lone (b.at a (.code (.loop c) :: k)) cs w) = (.next (lone (b.at a (.code c :: .inLoop c :: k)) cs w), #[]) := by
 rw [stepT, move_lone]
 simp [runT, lone, Array.swapAt!, stepG, stepG.exec, Frame.at, MemOp.ofEvents]
 intro h
 exact absurd rfl h
theorem bZ {P : Program} {m m1 m2 : Machine} (h1 : step P m = .next m1) (h : Go.Steps P m m2) (hne : m ≠ m2) : Go.Steps P m1 m2 := by
 obtain ⟨n, hn⟩ := h
 cases n with
 | zero => simp [runN] at hn; exact absurd hn hne
 | succ n => simp only [runN, h1] at hn; exact ⟨n, hn⟩
theorem k9i {b : Frame} {a a' : Act} {k k' : List Item} {cs : List Frame} {w w' : World} (h : k ≠ k') : lone (b.at a k) cs w ≠ lone (b.at a' k') cs w' := by
 intro e
 simp only [lone, Machine.mk.injEq, Array.mk.injEq, List.cons.injEq, Goroutine.mk.injEq, Frame.at, Frame.mk.injEq] at e
 exact h e.2.1.1.1.2.2.1
theorem mY : ∀ {id : Nat} {k k' : List Item}, exitTo id k = some k' → k'.length < k.length
 | id, [], k', h => by cases h
 | id, x :: k, k', h => by
  have ih : ∀ k', exitTo id k = some k' → k'.length < k.length := fun _ h => mY h
  cases x with
  | inBlock id' =>
   simp only [exitTo] at h
   split at h
   ·cases h; simp
   ·have := ih _ h; simp; omega
  | _ => simp only [exitTo] at h; have := ih _ h; simp; omega
theorem r9 {c : Code} : ∀ (x : Code) {l : Nat} {r : Code}, findLabel x l = some r → r ≠ .loop c := by
 intro x
 induction x with
 | seq a b iha ihb =>
  intro l r h
  simp only [findLabel] at h
  split at h
  ·cases h; intro e; cases e
  ·exact ihb h
 | label l' =>
  intro l r h
  simp only [findLabel] at h
  split at h
  ·cases h; intro e; cases e
  ·cases h
 | _ => intro l r h; simp [findLabel] at h
theorem oW {l : Nat} {c : Code} : ∀ {k k' : List Item}, gotoIn l k = some k' → ∀ y, k' ≠ .code (.loop c) :: y
 | [], k', h => by cases h
 | x :: k, k', h => by
  have ih : ∀ k', gotoIn l k = some k' → ∀ y, k' ≠ .code (.loop c) :: y := fun _ h => oW h
  cases x with
  | inScope body =>
   simp only [gotoIn] at h
   split at h
   ·rename_i hf
    cases h
    intro y e
    simp only [List.cons.injEq, Item.code.injEq] at e
    exact r9 _ hf e.1
   ·exact ih _ h
  | _ => simp only [gotoIn] at h; exact ih _ h
theorem n5 {P : Program} {m m1 : Machine} (h1 : stepT P m = (.next m1, #[])) (h : Outgrown P m) : Outgrown P m1 := by
 obtain ⟨n, o, ho, h2, h3⟩ := h
 cases n with
 | zero => simp [runNT] at ho
 | succ n =>
  simp only [runNT, h1] at ho
  exact ⟨n, o, by simpa using ho, h2, h3⟩
theorem pK {P : Program} {Q : Exit → Act → World → Prop} {a : Act} {w : World} {c : Code} (h : c.wp P (Exit.then ((Code.loop c).wp P Q) Q) a w) : (Code.loop c).wp P Q a w := by
 intro b k cs
 obtain ⟨e, a₁, w₁, hq, harr⟩ := h b (.inLoop c :: k) cs
 cases e with
 | normal =>
  obtain ⟨e₂, a₂, w₂, hq₂, harr₂⟩ := hq b k cs
  refine ⟨e₂, a₂, w₂, hq₂, .of_steps (.one step_loop) ?_⟩
  have h2 : Arrives P (lone (b.at a₁ (.code c :: .inLoop c :: k)) cs w₁) b k cs e₂ a₂ w₂ := by
   cases e₂ with
   | normal => exact bZ step_loop harr₂ (k9i (fun e => by have := congrArg List.length e; simp at this))
   | exit id => exact fun k' hk => bZ step_loop (harr₂ k' hk) (k9i (fun e => by have := congrArg List.length e; have := mY hk; simp at *; omega))
   | goto l => exact fun k' hk => bZ step_loop (harr₂ k' hk) (k9i (fun e => oW hk _ e.symm))
   | ret =>
    obtain ⟨todo, hs⟩ := harr₂
    exact ⟨todo, bZ step_loop hs (by intro e; simp [lone, Frame.at] at e)⟩
   | panic ch =>
    obtain ⟨todo, hs⟩ := harr₂
    exact ⟨todo, bZ step_loop hs (by intro e; simp [lone, Frame.at] at e)⟩
   | outgrown => exact harr₂.imp id (n5 zJ)
  exact .of_steps (Steps.trans harr (.one step_inLoop)) h2
 | exit id => exact ⟨_, a₁, w₁, hq, .of_steps (.one step_loop) (.pass (x := .inLoop c) rfl (fun _ _ => .inl (by simp)) harr)⟩
 | goto l => exact ⟨_, a₁, w₁, hq, .of_steps (.one step_loop) (.pass (x := .inLoop c) rfl (fun _ _ => .inl (by simp)) harr)⟩
 | ret => exact ⟨_, a₁, w₁, hq, .of_steps (.one step_loop) (.pass (x := .inLoop c) rfl (fun _ _ => .inl (by simp)) harr)⟩
 | panic ch => exact ⟨_, a₁, w₁, hq, .of_steps (.one step_loop) (.pass (x := .inLoop c) rfl (fun _ _ => .inl (by simp)) harr)⟩
 | outgrown => exact ⟨_, a₁, w₁, hq, .of_steps (.one step_loop) (.pass (x := .inLoop c) rfl (fun _ _ => .inl (by simp)) harr)⟩
section
variable {cx : Cx} {o : Oper} {l : List (Nat × PV)} {g : EH}
def u4a (P : Program) (op : BinOp) (xt : TypeId) (u v : PV) : R := none
theorem k8d {op : BinOp} {xt yt : TypeId} {x y : Operand} (ho : o.op = .binOp op xt x y yt) {u v : PV} (hu : Ev l x u) (hv : Ev l y v) : OKR cx o l g (u4a Tryz.prog op xt u v) := OKR.none
def u43 (P : Program) (g : EH) (src dst : TypeId) (u : PV) : R := none
theorem k7e {src dst : TypeId} {x : Operand} (ho : o.op = .convert src dst x) {u : PV} (hu : Ev l x u) : OKR cx o l g (u43 Tryz.prog g src dst u) := OKR.none
def k8b (P : Program) (h : H) (f : FuncId) (us : Option (List E1)) : R := none
def u4e (P : Program) (h : H) (g : EH) (nx : Nat) (t tn : TypeId) : PV → PV → R := fun _ _ => none
theorem k8p {h : H} {nx : Nat} {t tn : TypeId} {x y : Operand} (ho : o.op = .call { callee := .builtin .append, args := #[x, y], argTypes := #[t, tn] }) {u v : PV} (hu : Ev l x u) (hv : Ev l y v) : OKR cx o l g (u4e Tryz.prog h g nx t tn u v) := OKR.none
def v1f : PV → R := fun _ => none
theorem u1u {x : Operand} {st : TypeId} (ho : o.op = .call { callee := .builtin .unsafeSliceData, args := #[x], argTypes := #[st] }) {u : PV} (hu : Ev l x u) : OKR cx o l g (v1f u) := OKR.none
def v1e (P : Program) (h : H) (g : EH) (pt : TypeId) (u v : PV) : R := none
theorem u1q {h : H} {pt it : TypeId} {x y : Operand} (ho : o.op = .call { callee := .builtin .unsafeString, args := #[x, y], argTypes := #[pt, it] }) {u v : PV} (hu : Ev l x u) (hv : Ev l y v) : OKR cx o l g (v1e Tryz.prog h g pt u v) := OKR.none
def AWp (cx : Cx) (n : Nat) (c : Code) (Q : yT) : Nat → St → Prop
 | 0, s => AW cx n (.loop c) Q s
 | k + 1, s => AW cx n c (gO (AWp cx n c Q k) Q) s
theorem AWp.s {cx : Cx} {n : Nat} {c : Code} {Q : yT} {k : Nat} {s : St} (h : AW cx n c (gO (AWp cx n c Q k) Q) s) : AWp cx n c Q (k + 1) s := h
theorem AWp.z {cx : Cx} {n : Nat} {c : Code} {Q : yT} {s : St} (h : AW cx n (.loop c) Q s) : AWp cx n c Q 0 s := h
theorem AWp.ok {cx : Cx} {n : Nat} {c : Code} {Q : yT} : ∀ {k : Nat} {s : St}, AWp cx n c Q k s → AW cx n (.loop c) Q s
 | 0, _, h => h
 | k + 1, s, h => fun a w hm => by
  refine pK (wp_mono (h a w hm) ?_)
  rintro e a' w' ⟨s', h1, h2⟩
  cases e with
  | normal => exact AWp.ok (k := k) h1 a' w' h2
  | _ => exact ⟨s', h1, h2⟩
theorem u31 {cx : Cx} {n : Nat} {c : Code} {Q : yT} {s : St} (k : Nat) (h : AWp cx n c Q k s) : AW cx n (.loop c) Q s := h.ok
end
end Go.Proofs.YtbicifcgghmhaaaGreat
namespace Go.Proofs.YtbicifcgghmhaaaGreat
open Go.ChangeShapes Go.WideShapes Go.ChangeAt Go.RowKit
set_option linter.unusedVariables false
set_option linter.unusedSimpArgs false
abbrev FnT := FuncId → List E1 → List (Nat × Option Bk) → Nat → PV → List (Nat × Option Bk) → Nat → Prop
def u7k (P : Program) (h : H) (l : List (Nat × PV)) (g : EH) (nx : Nat) (b : Builtin) (args : List Operand) (ts : List TypeId) : R := match b, args, ts with
 | .len, [x], [st] => bo (aX l x) fun u => nM (k83 P st u) (k82 P h st u)
 | .min, [x, y], _ => bo (aX l x) fun u => bo (aX l y) fun v => k7t h u v
 | .max, [x, y], _ => bo (aX l x) fun u => bo (aX l y) fun v => k7w h u v
 | .max, [x, y, z], _ => bo (aX l x) fun u => bo (aX l y) fun v => bo (aX l z) fun w => k7v h u v w
 | .append, [x, y], [t, t'] => match Nat.beq t t' with
  | true => bo (aX l x) fun u => bo (aX l y) fun v => u7l P h g nx t u v
  | false => bo (aX l x) fun u => bo (aX l y) fun v => nM (u4e P h g nx t t' u v) (nM (u42 P h nx t t' u v) (v1d P h g nx t t' u v))
 | .copy, [x, y], [t, _] => bo (aX l x) fun u => bo (aX l y) fun v => v1g P h g t u v
 | .cap, [x], [st] => bo (aX l x) (u4c P st)
 | .unsafeSliceData, [x], [_] => bo (aX l x) v1f
 | .unsafeString, [x, y], [pt, _] => bo (aX l x) fun u => bo (aX l y) fun v => v1e P h g pt u v
 | _, _, _ => none
def k89 (P : Program) (h : H) (f : FuncId) (us : Option (List E1)) : R := none
theorem k3h {cx : Cx} {o : Oper} {l : List (Nat × PV)} {g : EH} {h : H} {f : FuncId} {args : Array Operand} {ts : Array TypeId} (ho : o.op = .call { callee := .value (.func f), args := args, argTypes := ts }) : OKR cx o l g (k89 Tryz.prog h f (jH l args.toList)) := OKR.none
theorem k0c {cx : Cx} {o : Oper} {l : List (Nat × PV)} {g : EH} {h : H} {f : FuncId} {args : Array Operand} {ts : Array TypeId} (ho : o.op = .call { callee := .value (.func f), args := args, argTypes := ts }) : OKR cx o l g (k8b Tryz.prog h f (jH l args.toList)) := OKR.none
def evC (P : Program) (Fn : FnT) (h : H) (l : List (Nat × PV)) (g : EH) (nx : Nat) (c : Call) : R := match c with
 | ⟨.builtin b, args, ts⟩ => u7k P h l g nx b args.toList ts.toList
 | ⟨.value (.func f), args, _⟩ => nM (k8b P h f (jH l args.toList)) (nM (k89 P h f (jH l args.toList)) (eX P Fn h g nx f (jH l args.toList)))
 | ⟨.value x, args, _⟩ => bo (aX l x) fun u => match u77 u with
  | some (f, qs) => match Nat.blt f nU with
   | true => eX P Fn h g nx f (k8o l args.toList qs)
   | false => eX P Fn h g nx (fnU f) (k8n l args.toList qs)
  | none => none
 | _ => none
def k23 (P : Program) (Fn : FnT) (h : H) (l : List (Nat × PV)) (g : EH) (nx : Nat) : Op → R
 | .move x => bo (aX l x) pv
 | .assign x => bo (aX l x) pv
 | .nilCheck x => bo (aX l x) fun u => match u with
  | .e (.c (.ptr b off)) => pv (.e (.c (.ptr b off)))
  | _ => none
 | .unOp .not _ x => bo (aX l x) (k7m h)
 | .unOp .neg _ x => bo (aX l x) (k7q h)
 | .pick c x y => bo (aX l c) fun u => k0a h u (aX l x) (aX l y)
 | .binOp op xt x y _ => bo (aX l x) fun u => bo (aX l y) fun v => nM (k7o P op xt u v) (nM (u4a P op xt u v) (nM (k0h P op h xt u v) (u4b P op h u v)))
 | .convert s d x => bo (aX l x) fun u => nM (u44 P h g s d u) (nM (u4d P h nx s d u) (nM (k7x P g s d u) (nM (u43 P g s d u) (k0d P h s d u))))
 | .extract x i => bo (aX l x) (k8c i)
 | .fieldAddr t x i => bo (aX l x) (u7h P t i)
 | .field t x i => bo (aX l x) (k88 P t i)
 | .load ty x => bo (aX l x) (k0b P h g ty)
 | .store ty x y => bo (aX l x) fun u => bo (aX l y) fun v => sA P h g ty u v
 | .alloc T => sE P nx T
 | .box T x => bo (aX l x) (k8i nx T)
 | .build t ps => nM (sD P l t ps) (w9 P l t ps)
 | .buildSlice t n ps => nM (k8m P nx t n ps) (u7j P l nx t n ps)
 | .makeSlice t x y => bo (aX l x) fun u => bo (aX l y) fun v => u7d P h nx t u v
 | .indexAddr t x y => bo (aX l x) fun u => bo (aX l y) fun v => nM (u47 P h t u v) (u7f P h t u v)
 | .index t x y => bo (aX l x) fun u => bo (aX l y) fun v => nM (u49 P h t u v) (u48 P h t u v)
 | .slice t x lo hi mx => bo (aX l x) fun u => nM (u46 P t lo hi mx u) <| nM (k7i P h l g t lo hi mx u) (nM (u7a P h l t lo hi mx u) (u45 P h l t lo hi mx u))
 | .call c => evC P Fn h l g nx c
 | .makeFunc (.func f) first caps => match first.toList with
  | [] => u7e l f caps.toList
  | _ => match caps.toList with
   | [] => k7z l f first.toList
   | _ => none
 | _ => none
section
variable {cx : Cx} {o : Oper} {l : List (Nat × PV)} {g : EH}
theorem gL {α : Type} {a : Array α} {l : List α} (h : a.toList = l) : a = l.toArray := by subst h; simp
theorem u23 {h : H} {nx : Nat} {b : Builtin} {args : Array Operand} {ts : Array TypeId} (ho : o.op = .call { callee := .builtin b, args := args, argTypes := ts }) : OKR cx o l g (u7k Tryz.prog h l g nx b args.toList ts.toList) := by
 unfold u7k
 split
 ·rename_i h1 h2
  rw [gL h1, gL h2] at ho
  exact OKR.bo fun u hu => OKR.or (k81 ho hu) (k3g ho hu)
 ·rename_i h1
  rw [gL h1] at ho
  exact OKR.bo fun u hu => OKR.bo fun v hv => k7s ho hu hv
 ·rename_i h1
  rw [gL h1] at ho
  exact OKR.bo fun u hu => OKR.bo fun v hv => k7u ho hu hv
 ·rename_i h1
  rw [gL h1] at ho
  exact OKR.bo fun u hu => OKR.bo fun v hv => OKR.bo fun w hw => k3d ho hu hv hw
 ·rename_i h1 h2
  rw [gL h1, gL h2] at ho
  split
  ·rename_i ht
   have ht := Nat.eq_of_beq_eq_true ht
   subst ht
   exact OKR.bo fun u hu => OKR.bo fun v hv => u24 ho hu hv
  ·exact OKR.bo fun u hu => OKR.bo fun v hv => OKR.or (k8p ho hu hv) (OKR.or (k7d ho hu hv) (u1p ho hu hv))
 ·rename_i h1 h2
  rw [gL h1, gL h2] at ho
  exact OKR.bo fun u hu => OKR.bo fun v hv => u20 ho hu hv
 ·rename_i h1 h2
  rw [gL h1, gL h2] at ho
  exact OKR.bo fun u hu => k8f ho hu
 ·rename_i h1 h2
  rw [gL h1, gL h2] at ho
  exact OKR.bo fun u hu => u1u ho hu
 ·rename_i h1 h2
  rw [gL h1, gL h2] at ho
  exact OKR.bo fun u hu => OKR.bo fun v hv => u1q ho hu hv
 ·exact OKR.none
theorem w7 {h : H} {nx : Nat} {op : Op} (ho : o.op = op) : OKR cx o l g (k23 Tryz.prog Fun h l g nx op) := by
 unfold k23
 split
 ·exact OKR.bo fun u hu => OKR.some fun _ => u0s ho hu
 ·exact OKR.bo fun u hu => OKR.some fun _ => k36 ho hu
 ·refine OKR.bo fun u hu => ?_
  split
  ·exact OKR.some fun _ => t8 ho hu
  ·exact OKR.none
 ·exact OKR.bo fun u hu => k7l ho hu
 ·exact OKR.bo fun u hu => k7p ho hu
 ·exact OKR.bo fun u hu => k3c ho hu
 ·exact OKR.bo fun u hu => OKR.bo fun v hv => OKR.or (k7n ho hu hv) (OKR.or (k8d ho hu hv) (OKR.or (k3l ho hu hv) (k8e ho hu hv)))
 ·exact OKR.bo fun u hu => OKR.or (k7f ho hu) (OKR.or (k8g ho hu) (OKR.or (k3e ho hu) (OKR.or (k7e ho hu) (k3i ho hu))))
 ·exact OKR.bo fun u hu => k8a ho hu
 ·exact OKR.bo fun u hu => u1z ho hu
 ·exact OKR.bo fun u hu => k87 ho hu
 ·exact OKR.bo fun u hu => k3f ho hu
 ·exact OKR.bo fun u hu => OKR.bo fun v hv => k09 ho hu hv
 ·exact k0i ho
 ·exact OKR.bo fun u hu => k8h ho hu
 ·exact OKR.or (k0g ho) (w8 ho)
 ·exact OKR.or (k8l ho) (u22 ho)
 ·exact OKR.bo fun u hu => OKR.bo fun v hv => u1w ho hu hv
 ·exact OKR.bo fun u hu => OKR.bo fun v hv => OKR.or (k84 ho hu hv) (u1y ho hu hv)
 ·exact OKR.bo fun u hu => OKR.bo fun v hv => OKR.or (k86 ho hu hv) (k85 ho hu hv)
 ·exact OKR.bo fun u hu => OKR.or (k7k ho hu) <| OKR.or (k7h ho hu) (OKR.or (u1r ho hu) (k7j ho hu))
 ·unfold evC
  split
  ·exact u23 ho
  ·exact OKR.or (k0c ho) (OKR.or (k3h ho) (k3j ho))
  ·refine OKR.bo fun u hu => ?_
   split
   ·rename_i hf
    have := u1l hf
    subst this
    split
    ·rename_i hlo; exact k0e ho hu hlo
    ·rename_i hlo; exact k0f ho hu hlo
   ·exact OKR.none
  ·exact OKR.none
 ·split
  ·rename_i h0; exact u1x ho h0
  ·split
   ·rename_i h1; exact k7y ho h1
   ·exact OKR.none
 ·exact OKR.none
theorem xQ {ds : List D} {T : TypeId} {n s nx : Nat} {wr : List (Nat × Option Bk)} {news foot : List Nat} {h0 : Hp} {τ : Nat → PV} (hnx : wr.lookup nx = none) (hl : ds.length = n * s) (h : OpOK cx o τ h0 ⟨.e (.c (.own nx 0 n s true)), wr ++ [(nx, some (T, ds.map .d))], news, foot⟩) :
  OpOK cx o τ h0 ⟨.e (.c (.d (.sl ds n))), wr ++ [(nx, none)], news, foot⟩ := by
 intro Q ρ a w hL hs hf hn hh hk hd K hK
 refine h Q ρ a w hL hs hf hn hh hk hd K ?_
 intro v w' ρ' g1 g2 g3 g4 g5
 have hx : ((wr ++ [(nx, some (T, ds.map C.d))]).lookup nx).getD (hL nx) = some (T, ds.map C.d) := by rw [vM, hnx]; simp
 have hx' : ((wr ++ [(nx, none)]).lookup nx).getD (hL nx) = none := by rw [vM, hnx]; simp
 have hne : ∀ x, x ≠ nx → ((wr ++ [(nx, none)]).lookup x).getD (hL x) = ((wr ++ [(nx, some (T, ds.map C.d))]).lookup x).getD (hL x) := by
  intro x hxn
  rw [vM, vM]
  simp only [List.lookup_cons, show (x == nx) = false by simpa using hxn, List.lookup_nil]
 have hsub : ∀ x, ((wr ++ [(nx, none)]).lookup x).getD (hL x) ≠ none → x ≠ nx ∧ ((wr ++ [(nx, some (T, ds.map C.d))]).lookup x).getD (hL x) ≠ none := by
  intro x hq
  have : x ≠ nx := fun e => hq (by rw [e]; exact hx')
  exact ⟨this, by rw [← hne x this]; exact hq⟩
 have hsub2 : ∀ x T' cs, ((wr ++ [(nx, none)]).lookup x).getD (hL x) = some (T', cs) → x ≠ nx ∧ ((wr ++ [(nx, some (T, ds.map C.d))]).lookup x).getD (hL x) = some (T', cs) := by
  intro x T' cs hq
  have hq2 := hsub x (by rw [hq]; simp)
  exact ⟨hq2.1, by rw [← hne x hq2.1]; exact hq⟩
 obtain ⟨m, k1, k2⟩ := g3.row nx T _ hx
 rcases k2 with ⟨k2, k3⟩ | ⟨k2, ⟨vs, rest, r1, r2, r3⟩, k4⟩
 ·have hds : ds = [] := List.map_eq_nil_iff.1 k3
  subst hds
  refine hK v w' ρ' g1 g2 ⟨fun b T' cs hb => g3.row b T' cs (hsub2 b T' cs hb).2, fun b b' m m' hb hb' => g3.inj b b' m m' (hsub b hb).2 (hsub b' hb').2, fun b m hb => g3.zf b m (hsub b hb).2, g3.zm, g3.zl⟩ g4 ?_
  have g5' : RepC cx.p ρ' w' (.own nx 0 n s true) v := g5
  cases g5' with
  | own _ _ _ _ _ m2 cap hm hn' => rw [k1] at hm; cases hm; rw [k2] at hn'; cases hn'
  | ownn => exact .d (.nil none 0 (Nat.zero_le _) (fun _ => rfl))
 ·have hgo : Goes cx.p ρ' ⟨ρ'.f, fun k => ρ'.z k ∨ k = m.g⟩ w' w' := ⟨fun _ _ h => h, fun _ h => .inl h, Nat.le_refl _, fun _ _ _ => rfl⟩
  have hg1 : Goes cx.p ρ ⟨ρ'.f, fun k => ρ'.z k ∨ k = m.g⟩ w w' := ⟨g1.ext, fun k hz => .inl (g1.zext k hz), g1.size, g1.old⟩
  refine hK v w' ⟨ρ'.f, fun k => ρ'.z k ∨ k = m.g⟩ hg1 g2 ⟨?_, fun b b' m m' hb hb' => g3.inj b b' m m' (hsub b hb).2 (hsub b' hb').2, ?_, ?_, ?_⟩ g4 ?_
  ·intro b T' cs hb
   obtain ⟨m', p1, p2⟩ := g3.row b T' cs (hsub2 b T' cs hb).2
   exact ⟨m', p1, p2.imp id fun p => ⟨p.1, p.2.1.mono hgo rfl, p.2.2⟩⟩
  ·intro b m1 hb hm1 hn1 hz
   rcases hz with hz | hz
   ·exact g3.zf b m1 (hsub b hb).2 hm1 hn1 hz
   ·exact (hsub b hb).1 (g3.inj b nx m1 m (hsub b hb).2 (by rw [hx]; simp) hm1 k1 hn1 k2 hz)
  ·intro k hz
   rcases hz with hz | hz
   ·exact g3.zm k hz
   ·exact hz ▸ k4
  ·intro k hz
   rcases hz with hz | hz
   ·exact g3.zl k hz
   ·exact hz ▸ r1.lt
  ·have g5' : RepC cx.p ρ' w' (.own nx 0 n s true) v := g5
   cases g5' with
   | own _ _ _ _ _ m2 cap hm hn' h1 h2 h3 =>
    rw [k1] at hm; cases hm
    have hvl : vs.length = ds.length := by have := r3.len; simpa using this.symm
    refine .d (.sl ds vs m.g 0 n cap hvl ?_ ?_ (.inr (.inr rfl)) r1.lt h1 h2)
    ·intro i u hu
     rw [Nat.zero_add]
     exact BlkM.cell (vs := vs ++ rest) r1 i (by rw [List.getElem?_append_left (List.getElem?_eq_some_iff.1 hu).1]; exact hu)
    ·intro i d u hd' hu
     have := (r3.imp fun _ _ => RepC.mono hgo).get i (.d d) u (by rw [List.getElem?_map, hd']; rfl) hu
     cases this with
     | d h => exact h
   | ownn _ _ m2 hm hn' => rw [k1] at hm; cases hm; rw [k2] at hn'; cases hn'
def fzR : R → R
 | some (ps, ⟨.e (.c (.own b 0 n s true)), wr, news, foot⟩) => match wr with
  | [(b', some (T, .ds ds))] => match Nat.beq b' b with
   | true => some (ps ++ [ds.length = n * s], ⟨.e (.c (.d (.sl ds n))), [(b, none)], news, foot⟩)
   | false => none
  | [(b0, none), (b', some (T, .ds ds))] => match Nat.beq b' b, Nat.beq b b0 with
   | true, false => some (ps ++ [ds.length = n * s], ⟨.e (.c (.d (.sl ds n))), [(b0, none), (b, none)], news, foot⟩)
   | _, _ => none
  | _ => none
 | _ => none
theorem u71 {r : R} (h : OKR cx o l g r) : OKR cx o l g (fzR r) := by
 unfold fzR
 split
 ·rename_i ps b n s wr news foot
  split
  ·split
   ·rename_i hb
    refine OKR.some fun hp => ?_
    have hp := (q9 _).1 hp
    have hl : _ = _ := hp _ (List.mem_append_right _ (List.mem_cons_self ..))
    obtain rfl := Nat.eq_of_beq_eq_true hb
    exact xQ (wr := []) rfl hl (h _ _ rfl ((q9 _).2 fun p hpp => hp p (List.mem_append_left _ hpp)))
   ·exact OKR.none
  ·split
   ·rename_i hb hb0
    refine OKR.some fun hp => ?_
    have hp := (q9 _).1 hp
    have hl : _ = _ := hp _ (List.mem_append_right _ (List.mem_cons_self ..))
    obtain rfl := Nat.eq_of_beq_eq_true hb
    refine xQ (wr := [(_, none)]) ?_ hl (h _ _ rfl ((q9 _).2 fun p hpp => hp p (List.mem_append_left _ hpp)))
    have hne := Nat.ne_of_beq_eq_false hb0
    have e9 := beq_eq_false_iff_ne.2 hne
    rw [List.lookup_cons, e9]; rfl
   ·exact OKR.none
  ·exact OKR.none
 ·exact OKR.none
def u7c (P : Program) (Fn : FnT) (h : H) (l : List (Nat × PV)) (g : EH) (nx : Nat) (op : Op) : R := match h with
 | .fz h' => fzR (k23 P Fn h' l g nx op)
 | h => k23 P Fn h l g nx op
theorem u1v {h : H} {nx : Nat} {op : Op} (ho : o.op = op) : OKR cx o l g (u7c Tryz.prog Fun h l g nx op) := by
 unfold u7c
 split
 ·exact u71 (w7 ho)
 ·exact w7 ho
end
def stepG (ops : List Oper) (l : List (Nat × PV)) (o : Oper) : Option Bool := match o.guard with
 | none => some true
 | some (gi, b) => match ops[gi]? with
  | some og => match og.dst with
   | some dg => match l.lookup dg with
    | some (.e (.c (.d (.lit (.bool b'))))) => some (b' == b)
    | some (.tup []) => some false
    | _ => none
   | none => none
  | none => none
theorem mR {X : Type} [Inhabited X] {l : List (Nat × X)} {t : Nat} {u : X} (h : l.lookup t = some u) : S l t = u := (yW h).S
theorem k2y {cx : Cx} {ops : List Oper} {l : List (Nat × PV)} {g : List (Nat × Option Bk)} {o : Oper} {t : OT} (h : stepG ops l o = some true) (hok : OpOK cx o (S l) (S g) t) : StepO cx ops o l g t := by
 unfold stepG at h
 unfold StepO
 split at h
 ·rename_i hg; rw [hg]; exact hok
 ·rename_i gi b hg
  rw [hg]
  split at h
  ·rename_i og hog
   split at h
   ·rename_i dg hdg
    split at h
    ·rename_i b' hl
     refine ⟨dg, og, hog, hdg, .inl ⟨b', mR hl, ?_⟩⟩
     have : b' = b := by simpa using h
     rw [if_pos this]; exact hok
    ·cases h
    ·cases h
   ·cases h
  ·cases h
theorem k4o {cx : Cx} {ops : List Oper} {l : List (Nat × PV)} {g : List (Nat × Option Bk)} {o : Oper} (h : stepG ops l o = some false) : StepO cx ops o l g ⟨.tup [], [], [], []⟩ := by
 unfold stepG at h
 unfold StepO
 split at h
 ·cases h
 ·rename_i gi b hg
  rw [hg]
  split at h
  ·rename_i og hog
   split at h
   ·rename_i dg hdg
    split at h
    ·rename_i b' hl
     refine ⟨dg, og, hog, hdg, .inl ⟨b', mR hl, ?_⟩⟩
     have : ¬ b' = b := by simpa using h
     rw [if_neg this]; exact ⟨rfl, rfl, rfl⟩
    ·rename_i hl
     exact ⟨dg, og, hog, hdg, .inr ⟨mR hl, rfl, rfl, rfl⟩⟩
    ·cases h
   ·cases h
  ·cases h
def mF (P : Program) (Fn : FnT) (ops : List Oper) : List Oper → List H → List (Nat × PV) → EH → Nat → Option (List Prop × List OTe × List (Nat × PV) × EH × Nat)
 | [], _, l, g, nx => some ([], [], l, g, nx)
 | o :: os, hs, l, g, nx => match stepG ops l o with
  | some true => match hs with
   | h :: hs => match u7c P Fn h l g nx o.op with
    | some (ps, t) => match mF P Fn ops os hs (fR o t.u ++ l) (t.wr ++ g) (nx + t.news.length) with
     | some (ps', ts, r) => some (ps ++ ps', t :: ts, r)
     | none => none
    | none => none
   | [] => none
  | some false => match mF P Fn ops os hs (fR o (.tup []) ++ l) g nx with
   | some (ps', ts, r) => some (ps', ⟨.tup [], [], [], []⟩ :: ts, r)
   | none => none
  | none => none
theorem iZ {cx : Cx} {ops : List Oper} : ∀ {os : List Oper} {hs : List H} {l lf : List (Nat × PV)} {g gf : EH} {nx nf : Nat} {ps : List Prop} {ts : List OTe}, mF Tryz.prog Fun ops os hs l g nx = some (ps, ts, lf, gf, nf) → (∀ p ∈ ps, p) → Steps cx ops os (ts.map OTe.to) l (kF g) lf (kF gf)
 | [], _, _, _, _, _, _, _, _, _, h, _ => by cases h; exact .nil _ _
 | o :: os, hs, l, lf, g, gf, nx, nf, ps, ts, h, hp => by
  unfold mF at h
  split at h
  ·rename_i hg
   split at h
   ·split at h
    ·rename_i he
     split at h
     ·rename_i hr
      cases h
      rw [List.map_cons]
      refine .cons (k2y hg (u1v rfl _ _ he ((q9 _).2 fun p h => hp p (List.mem_append_left _ h)))) ?_
      have := iZ (cx := cx) hr (fun p h => hp p (List.mem_append_right _ h))
      rw [k0v] at this
      exact this
     ·cases h
    ·cases h
   ·cases h
  ·rename_i hg
   split at h
   ·rename_i hr
    cases h
    rw [List.map_cons]
    exact .cons (k4o hg) (iZ (cx := cx) hr hp)
   ·cases h
  ·cases h
def k4y (lf : List (Nat × PV)) : List Nat → List (Nat × PV)
 | [] => []
 | t :: ts => match lf.lookup t with
  | some u => (t, u) :: k4y lf ts
  | none => k4y lf ts
theorem pR {lf : List (Nat × PV)} {t : Nat} {u : PV} : ∀ {ts : List Nat}, (k4y lf ts).lookup t = some u → lf.lookup t = some u
 | [], h => by cases h
 | a :: ts, h => by
  unfold k4y at h
  split at h
  ·rename_i v hv
   rw [List.lookup_cons] at h
   split at h
   ·rename_i hb; simp at hb; subst hb; cases h; exact hv
   ·exact pR h
  ·exact pR h
def k4z (gf : EH) : List Nat → EH
 | [] => []
 | t :: ts => match gf.lookup t with
  | some (some u) => (t, some u) :: k4z gf ts
  | _ => k4z gf ts
theorem pS {gf : EH} {t : Nat} {u : EBk} : ∀ {ts : List Nat}, (k4z gf ts).lookup t = some (some u) → gf.lookup t = some (some u)
 | [], h => by cases h
 | a :: ts, h => by
  unfold k4z at h
  split at h
  ·rename_i v hv
   rw [List.lookup_cons] at h
   split at h
   ·rename_i hb; simp at hb; subst hb; cases h; exact hv
   ·exact pS h
  ·exact pS h
theorem Mod.weak {cx : Cx} {n nx : Nat} {l l' : List (Nat × PV)} {g g' : EH} (hl : ∀ t u, l'.lookup t = some u → l.lookup t = some u) (hg : ∀ t u, g'.lookup t = some (some u) → g.lookup t = some (some u)) {a : Act} {w : World} (h : Mod cx n l (kF g) nx a w) : Mod cx n l' (kF g') nx a w := by
 obtain ⟨ρ, h1, h2, h3, h4, h5, h6, h9⟩ := h
 have hgg : ∀ b x, S (kF g') b = some x → S (kF g) b = some x := by
  intro b x hx
  unfold Proofs.YtbicifcgghmhaaaGreat.S at hx ⊢
  rw [f5] at hx ⊢
  cases hb : g'.lookup b with
  | none => rw [hb] at hx; cases hx
  | some o =>
   cases o with
   | none => rw [hb] at hx; cases hx
   | some v => rw [hg b v hb]; rw [hb] at hx; exact hx
 refine ⟨ρ, h1, ⟨fun b T cs hb => h2.row b T cs (hgg b _ hb), fun b b' m m' hb hb' => h2.inj b b' m m' ?_ ?_, fun b m hb => h2.zf b m ?_, h2.zm, h2.zl⟩, ?_, h4, h5, h6, h9⟩
 ·obtain ⟨x, hx⟩ := Option.ne_none_iff_exists'.1 hb; rw [hgg b x hx]; simp
 ·obtain ⟨x, hx⟩ := Option.ne_none_iff_exists'.1 hb'; rw [hgg b' x hx]; simp
 ·obtain ⟨x, hx⟩ := Option.ne_none_iff_exists'.1 hb; rw [hgg b x hx]; simp
 ·intro t
  unfold Proofs.YtbicifcgghmhaaaGreat.S
  cases hb : l'.lookup t with
  | none => exact trivial
  | some u => have := h3 t; rw [mR (hl t u hb)] at this; exact this
def mE (P : Program) (Fn : FnT) (n : Nat) (ops : List Oper) (hs : List H) (l : List (Nat × PV)) (g : EH) (nx : Nat) (live kb : List Nat) : Option (Prop × List (Nat × PV) × EH × Nat) := match sH ops n with
 | true => match mF P Fn ops ops hs l g nx with
  | some (ps, ts, lf, gf, nf) => match jA ops (ts.map OTe.to) nx nf with
   | true => some (AllP ps, k4y lf live, k4z gf kb, nf)
   | false => none
  | none => none
 | false => none
theorem AW.rg {cx : Cx} {n id nx nx' : Nat} {draw : Bool} {ops : List Oper} {Q : yT} {l l' : List (Nat × PV)} {g g' : EH} (hs : List H) (live kb : List Nat) {P : Prop} (h : mE Tryz.prog Fun n ops hs l g nx live kb = some (P, l', g', nx')) (hP : P) (hQ : Q .normal ⟨l', kF g', nx'⟩) : AW cx n (.region id ops.toArray draw) Q ⟨l, kF g, nx⟩ := by
 unfold mE at h
 split at h
 ·rename_i hd
  split at h
  ·rename_i hr
   split at h
   ·rename_i hc
    cases h
    intro a w hm
    exact oA (by kernel_rfl) hd (iZ (cx := cx) hr ((q9 _).1 hP)) hc (fun a' w' h => ⟨_, hQ, h.weak (fun t u => pR) (fun t u => pS)⟩) hm
   ·cases h
  ·cases h
 ·cases h
theorem tC {cx : Cx} {n id nx nx' : Nat} {draw : Bool} {ops : List Oper} {Q : yT} {c : Code} {l l' : List (Nat × PV)} {g g' : EH} (hs : List H) (live kb : List Nat) {P : Prop} (h : mE Tryz.prog Fun n ops hs l g nx live kb = some (P, l', g', nx')) (hP : P) (hQ : AW cx n c Q ⟨l', kF g', nx'⟩) : AW cx n (.seq (.region id ops.toArray draw) c) Q ⟨l, kF g, nx⟩ :=
 AW.seq (AW.rg hs live kb h hP hQ)
/-! what is the same -/
def eqB (σ : Nat → Nat) : BC → BC → Option (List Prop)
 | .ds x, .ds y => some [x = y]
 | .cs x, .cs y => eqL σ x y
 | _, _ => none
theorem u7o {σ : Nat → Nat} {v v' : BC} {ps : List Prop} (h : eqB σ v v' = some ps) (hp : ∀ p ∈ ps, p) : v.to.map (bA σ) = v'.to := by
 unfold eqB at h
 split at h
 ·cases h
  have e := hp (_ = _) (List.mem_cons_self ..)
  subst e
  show List.map _ (List.map C.d _) = List.map C.d _
  rw [List.map_map]; rfl
 ·exact k0j h hp
 ·cases h
def sg (m : List (Nat × Nat)) (b : Nat) : Nat := match m.lookup b with
 | some c => c
 | none => b
def k11 (σ : Nat → Nat) (nx2 : Nat) (l : List (Nat × PV)) : List (Nat × PV) → Option (List Prop)
 | [] => some []
 | (t, u) :: l2 => match l.lookup t, oO nx2 u with
  | some v, true => xE (u25 σ u v) (k11 σ nx2 l l2)
  | _, _ => none
theorem tT {σ : Nat → Nat} {nx2 : Nat} {l : List (Nat × PV)} : ∀ {l2 : List (Nat × PV)} {ps : List Prop}, k11 σ nx2 l l2 = some ps → (∀ p ∈ ps, p) → RenS σ nx2 l l2
 | [], _, _, _ => trivial
 | (t, u) :: l2, _, h, hp => by
  unfold k11 at h
  split at h
  ·rename_i h1 h2
   obtain ⟨p, q, e1, e2, e3, e4⟩ := fM h hp
   exact ⟨⟨h2, _, yW h1, k24 e1 e3⟩, tT e2 e4⟩
  ·cases h
def v0w (n : Nat) : BC → Bool
 | .ds _ => true
 | .cs l => l.all (eV n)
theorem u14 {n : Nat} {b : BC} (h : v0w n b = true) : b.to.all (eV n) = true := by
 cases b with
 | ds l => show (List.map C.d l).all _ = true; rw [List.all_map]; exact List.all_eq_true.2 fun _ _ => rfl
 | cs l => exact h
def mB (σ : Nat → Nat) (nx2 : Nat) (g : EH) : EH → Option (List Prop)
 | [] => some []
 | (b, some (T, bc)) :: g2 => match Nat.blt b nx2 && (v0w nx2 bc && g2.all fun y => !(σ y.1 == σ b)), g.lookup (σ b) with
  | true, some (some (T', bc')) => match Nat.beq T T' with
   | true => xE (eqB σ bc bc') (mB σ nx2 g g2)
   | false => none
  | _, _ => none
 | (b, none) :: g2 => match g2.all fun y => !(σ y.1 == σ b) with
  | true => mB σ nx2 g g2
  | false => none
theorem RenG.gone {n0 : Nat} {σ : Nat → Nat} {g g2 : List (Nat × Option Bk)} {nx2 b : Nat} (h : RenG n0 σ g g2 nx2) (hi : (g2.all fun y => !(σ y.1 == σ b)) = true) : RenG n0 σ g ((b, none) :: g2) nx2 := by
 rw [List.all_eq_true] at hi
 refine ⟨?_, ?_, h.fix, h.low⟩
 ·intro x hx T' cs' he
  rcases List.mem_cons.1 hx with rfl | hx
  ·cases he
  ·exact h.blk x hx T' cs' he
 ·intro x hx y hy he
  rcases List.mem_cons.1 hx with rfl | hx
  ·rcases List.mem_cons.1 hy with rfl | hy
   ·rfl
   ·have := hi y hy; simp [he] at this
  ·rcases List.mem_cons.1 hy with rfl | hy
   ·have := hi x hx; simp [he] at this
   ·exact h.inj x hx y hy he
theorem pL (p : Nat → Bool) : ∀ g : EH, ((kF g).all fun y => p y.1) = g.all fun y => p y.1
 | [] => rfl
 | x :: g => by show ((x.1, tS x.2) :: kF g).all _ = _; rw [List.all_cons, List.all_cons, pL p g]
theorem gQ {n0 : Nat} {σ : Nat → Nat} {nx2 : Nat} {g : EH} (hf : ∀ b, b < n0 → σ b = b) (hl : n0 ≤ nx2) : ∀ {g2 : EH} {ps : List Prop}, mB σ nx2 g g2 = some ps → (∀ p ∈ ps, p) → RenG n0 σ (kF g) (kF g2) nx2
 | [], _, _, _ => .base hf hl
 | (b, some (T, bc)) :: g2, _, h, hp => by
  unfold mB at h
  split at h
  ·rename_i h1 h2
   simp only [Bool.and_eq_true] at h1
   obtain ⟨c1, c2, c3⟩ := h1
   split at h
   ·rename_i hT
    have hT := Nat.eq_of_beq_eq_true hT
    subst hT
    obtain ⟨p, q, e1, e2, e3, e4⟩ := fM h hp
    exact .cons (gQ hf hl e2 e4) c1 rfl (uM h2) (u7o e1 e3) (u14 c2) (by rw [pL (fun y => !(σ y == σ b))]; exact c3)
   ·cases h
  ·cases h
 | (b, none) :: g2, _, h, hp => by
  unfold mB at h
  split at h
  ·rename_i h1
   exact (gQ hf hl h hp).gone (by rw [pL (fun y => !(σ y == σ b))]; exact h1)
  ·cases h
structure ES where
 l : List (Nat × PV)
 g : EH
 nx : Nat
def ES.st (s : ES) : St := ⟨s.l, kF s.g, s.nx⟩
def u1n (n0 : Nat) (m : List (Nat × Nat)) : Bool := m.all fun x => Nat.ble n0 x.1
theorem r8 {n0 : Nat} : ∀ {m : List (Nat × Nat)}, u1n n0 m = true → ∀ b, b < n0 → sg m b = b
 | [], _, _, _ => rfl
 | (k, c) :: m, h, b, hb => by
  unfold u1n at h
  rw [List.all_cons, Bool.and_eq_true] at h
  have h1 : n0 ≤ k := Nat.le_of_ble_eq_true h.1
  unfold sg
  rw [List.lookup_cons, show (b == k) = false by simp; omega]
  exact r8 (m := m) h.2 b hb
def k12 (n0 : Nat) (m : List (Nat × Nat)) (l : List (Nat × PV)) (g : EH) (s : ES) : Option Prop := match u1n n0 m && Nat.ble n0 s.nx with
 | true => match xE (k11 (sg m) s.nx l s.l) (mB (sg m) s.nx g s.g) with
  | some ps => some (AllP ps)
  | none => none
 | false => none
theorem tU {n0 : Nat} {m : List (Nat × Nat)} {l : List (Nat × PV)} {g : EH} {nx : Nat} {s : ES} {P : Prop} (h : k12 n0 m l g s = some P) (hP : P) : u00 n0 ⟨l, kF g, nx⟩ s.st := by
 unfold k12 at h
 split at h
 ·rename_i hc
  rw [Bool.and_eq_true] at hc
  split at h
  ·rename_i hb
   cases h
   obtain ⟨p, q, e1, e2, e3, e4⟩ := fM hb ((q9 _).1 hP)
   exact ⟨sg m, tT e1 e3, gQ (r8 hc.1) (Nat.le_of_ble_eq_true hc.2) e2 e4⟩
  ·cases h
 ·cases h
def Rd {α : Type} (n0 : Nat) (I : α → ES) (dec : α → Prop) (s : St) : Prop := ∃ y, u00 n0 s (I y).st ∧ dec y
theorem kX {α : Type} {cx : Cx} {n nx : Nat} {c : Code} {Q : yT} {l : List (Nat × PV)} {g : EH} (n0 : Nat) (hn : cx.n0 = n0) (I : α → ES) (μ : α → Nat) (x0 : α) (m : List (Nat × Nat)) {P : Prop} (h0 : k12 n0 m l g (I x0) = some P) (hP : P) (round : ∀ x, AW cx n c (gO (Rd n0 I (fun y => μ y < μ x)) Q) (I x).st) : AW cx n (.loop c) Q ⟨l, kF g, nx⟩ :=
 AW.loop n0 hn (fun x => (I x).st) μ x0 (tU h0 hP) (fun x => (round x).mono fun e s' h => by
  cases e with
  | normal => exact h
  | _ => exact h)
theorem kV {α : Type} {n0 nx : Nat} {I : α → ES} {dec : α → Prop} {l : List (Nat × PV)} {g : EH} (y : α) (m : List (Nat × Nat)) {P : Prop} (h : k12 n0 m l g (I y) = some P) (hP : P) (hd : dec y) : Rd n0 I dec ⟨l, kF g, nx⟩ := ⟨y, tU h hP, hd⟩
/-! results -/
def u65 (P : Program) (l : List (Nat × PV)) (g : EH) : ResultVar → Option E1
 | .tmp t => match l.lookup t with
  | some (.e e) => some e
  | _ => none
 | .cell a ty => match l.lookup a, yY P ty with
  | some (.e (.c (.ptr b off))), some (false, 1) => match g.lookup b with
   | some (some (_, bc)) => match bc.to[off]? with
    | some c => some (.c c)
    | none => none
   | _ => none
  | some (.e (.c (.ptr b off))), some (true, n) => match g.lookup b with
   | some (some (_, bc)) => match Nat.beq ((bc.to.drop off).take n).length n with
    | true => some (.agg ((bc.to.drop off).take n))
    | false => none
   | _ => none
  | _, _ => none
theorem u0l {l : List (Nat × PV)} {g : EH} {r : ResultVar} {e : E1} (h : u65 Tryz.prog l g r = some e) : ResE l (kF g) r e := by
 unfold u65 at h
 split at h
 ·split at h
  ·rename_i hl; cases h; exact .tmp (yW hl)
  ·cases h
 ·split at h
  ·rename_i hl ht
   split at h
   ·rename_i hb
    split at h
    ·rename_i hc; cases h; exact .cell (yW hl) ht (uM hb) hc
    ·cases h
   ·cases h
  ·rename_i hl ht
   split at h
   ·rename_i hb
    split at h
    ·rename_i hc; cases h; exact .agg (yW hl) ht (uM hb) rfl (Nat.eq_of_beq_eq_true hc)
    ·cases h
   ·cases h
  ·cases h
def u0k (P : Program) (l : List (Nat × PV)) (g : EH) : List ResultVar → Option (List E1)
 | [] => some []
 | r :: rs => match u65 P l g r, u0k P l g rs with
  | some e, some es => some (e :: es)
  | _, _ => none
theorem k15 {l : List (Nat × PV)} {g : EH} : ∀ {rs : List ResultVar} {es : List E1}, u0k Tryz.prog l g rs = some es → ResL l (kF g) rs es
 | [], _, h => by cases h; exact .nil
 | r :: rs, _, h => by
  unfold u0k at h
  split at h
  ·rename_i h1 h2; cases h; exact .cons (u0l h1) (k15 h2)
  ·cases h
def u9k (P : Program) (n0 : Nat) (m : List (Nat × Nat)) (rs : List ResultVar) (l : List (Nat × PV)) (g : EH) (y : PV) (g1 : EH) (nx1 : Nat) : Option Prop := match u0k P l g rs, u1n n0 m && (Nat.ble n0 nx1 && oO nx1 y) with
 | some es, true => match xE (u25 (sg m) y (u6c es)) (mB (sg m) nx1 g g1) with
  | some ps => some (AllP ps)
  | none => none
 | _, _ => none
theorem kA {n0 nx nx1 : Nat} {e : Exit} (he : e = .normal ∨ e = .ret) {rs : List ResultVar} {l : List (Nat × PV)} {g g1 : EH} {y : PV} (m : List (Nat × Nat)) {P : Prop} (h : u9k Tryz.prog n0 m rs l g y g1 nx1 = some P) (hP : P) : EndP n0 rs y (kF g1) nx1 e ⟨l, kF g, nx⟩ := by
 unfold u9k at h
 split at h
 ·rename_i h1 hc
  simp only [Bool.and_eq_true] at hc
  obtain ⟨c1, c2, c3⟩ := hc
  split at h
  ·rename_i hb
   cases h
   obtain ⟨p, q, e1, e2, e3, e4⟩ := fM hb ((q9 _).1 hP)
   exact ⟨he, _, sg m, k15 h1, k24 e1 e3, c3, gQ (r8 c1) (Nat.le_of_ble_eq_true c2) e2 e4⟩
  ·cases h
 ·cases h
end Go.Proofs.YtbicifcgghmhaaaGreat
