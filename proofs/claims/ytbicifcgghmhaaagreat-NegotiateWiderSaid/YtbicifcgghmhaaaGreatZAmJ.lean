/- Merged texts. -/
import Derived.Test.YtbicifcgghmhaaaGreatZAmS
import Derived.Laws.Strings3
import Derived.Laws.IdiomStrings
import Derived.Lib.Builder
import Derived.Lib.UnsafeStr
import Derived.Lib.AppendStr
import Derived.Test.YtbicifcgghmhaaaGreatZAmI
import Derived.Test.YtbicifcgghmhaaaGreatZAmL
namespace Go.Proofs.YtbicifcgghmhaaaGreat
open Go.ChangeShapes Go.WideShapes Go.ChangeAt Go.RowKit
set_option linter.unusedVariables false
set_option linter.unusedSimpArgs false
theorem lK (w : World) (d : Nat) (t e : TypeId) (a : Option Addr) (n c n' c' : Nat) (h : Tryz.prog.underlying t = some (.slice e)) : (Op.equalIn (d + 1) t (.slice a n c) (.slice none n' c')).run Tryz.prog w = .ok a.isNone w := by
 cases a with
 | none => simp [Op.equalIn, run_underlying h]
 | some a => simp [Op.equalIn, run_underlying h]
theorem gA (w : World) (t e : TypeId) (a : Option Addr) (n c n' c' : Nat) (h : Tryz.prog.underlying t = some (.slice e)) : (Op.equal t (.slice a n c) (.slice none n' c')).run Tryz.prog w = .ok a.isNone w := lK w 9999 t e a n c n' c' h
theorem u7c {xt e : TypeId} {x y : Operand} {a : Option Addr} {n c n' c' : Nat} (h : Tryz.prog.underlying xt = some (.slice e)) : n5 .eql xt x y (.slice a n c) (.slice none n' c') (.bool a.isNone) := by
 intro w; simp [eqGuard, binOp, gA (h := h)]
theorem u7b {xt e : TypeId} {x y : Operand} {a : Option Addr} {n c n' c' : Nat} (h : Tryz.prog.underlying xt = some (.slice e)) : n5 .neq xt x y (.slice a n c) (.slice none n' c') (.bool (!a.isNone)) := by
 intro w; simp [eqGuard, binOp, gA (h := h)]
section
variable {cx : Cx} {o : Oper} {l : List (Nat × PV)} {g : EH}
theorem k1z {g : List (Nat × Option Bk)} {xt yt e : TypeId} {x y : Operand} {op : BinOp} {u : PV} {b r : Bool} (ho : o.op = .binOp op xt x y yt) (hu : Tryz.prog.underlying xt = some (.slice e)) (hx : Ev l x u) (hy : Ev l y (LV dV))
  (hn : ∀ p ρ w v, RepPV p ρ w u v → ∃ a n c, v = .slice a n c ∧ a.isNone = b) (hop : (op = .eql ∧ r = b) ∨ (op = .neq ∧ r = !b)) : OpOK cx o (S l) (S g) ⟨LV (.bool r), [], [], []⟩ :=
 qU fun ρ a w hs => ⟨.bool r, by
  obtain ⟨ad, n, c, e1, e3⟩ := hn _ _ _ _ (hx.rep hs (by rw [ho]; simp [Op.operands]))
  have e2 := q5 (hy.rep hs (by rw [ho]; simp [Op.operands]))
  unfold execOp
  rcases hop with ⟨rfl, rfl⟩ | ⟨rfl, rfl⟩
  ·simp only [ho, e1, e2]
   rw [Sem.run_bind, u7c (h := hu) w, e3]; rfl
  ·simp only [ho, e1, e2]
   rw [Sem.run_bind, u7b (h := hu) w, e3]; rfl, vV rfl⟩
def xD (P : Program) (t : TypeId) : Option TypeId := match P.underlying t with
 | some (.slice e) => some e
 | _ => none
theorem iN {t e : TypeId} (h : xD Tryz.prog t = some e) : Tryz.prog.underlying t = some (.slice e) := by
 unfold xD at h
 split at h
 ·rename_i h1; cases h; exact h1
 ·cases h
def k6q : PV → Option (List Prop × Bool)
 | .e (.c (.d (.sl _ n))) => some ([1 ≤ n], false)
 | .e (.c (.own _ _ n _ _)) => some ([1 ≤ n], false)
 | .e (.c (.d (.lit (.slice none _ _)))) => some ([], true)
 | .e (.c (.d (.lit (.slice (some _) _ _)))) => some ([], false)
 | _ => none
theorem wR {u : PV} {ps : List Prop} {b : Bool} (h : k6q u = some (ps, b)) (hp : AllP ps) : ∀ p ρ w v, RepPV p ρ w u v → ∃ a n c, v = .slice a n c ∧ a.isNone = b := by
 unfold k6q at h
 intro p ρ w v hr
 split at h
 ·rename_i ds n
  cases h
  have hn : 1 ≤ n := hp
  obtain ⟨a, cap, e, h1, _, h2, h3⟩ := rN hr
  rcases h3 with ⟨_, h3⟩ | ⟨us, b', off, h3, _⟩
  ·omega
  ·exact ⟨a, n, cap, e, by rw [h3]; rfl⟩
 ·rename_i b' off n s wh
  cases h
  have hn : 1 ≤ n := hp
  obtain ⟨m, cap, _, _, e, _⟩ := fK (by omega) hr
  exact ⟨_, n, cap, e, rfl⟩
 ·cases h; exact ⟨_, _, _, q5 hr, rfl⟩
 ·cases h; exact ⟨_, _, _, q5 hr, rfl⟩
 ·cases h
def k0k : PV → Bool
 | .e (.c (.d (.lit (.slice none 0 0)))) => true
 | _ => false
theorem pI {u : PV} (h : k0k u = true) : u = LV dV := by
 unfold k0k at h
 split at h
 ·rfl
 ·cases h
def k8e (P : Program) (op : BinOp) (xt : TypeId) (u v : PV) : R := match xD P xt, k0k v, k6q u, op with
 | some _, true, some (ps, b), .eql => o3 ps (LV (.bool b))
 | some _, true, some (ps, b), .neq => o3 ps (LV (.bool (!b)))
 | _, _, _, _ => none
theorem k8d {op : BinOp} {xt yt : TypeId} {x y : Operand} (ho : o.op = .binOp op xt x y yt) {u v : PV} (hu : Ev l x u) (hv : Ev l y v) : OKR cx o l g (k8e Tryz.prog op xt u v) := by
 unfold k8e
 split
 ·rename_i h1 h2 h3
  obtain rfl := pI h2
  exact OKR.some fun hp => k1z ho (iN h1) hu hv (wR h3 hp) (.inl ⟨rfl, rfl⟩)
 ·rename_i h1 h2 h3
  obtain rfl := pI h2
  exact OKR.some fun hp => k1z ho (iN h1) hu hv (wR h3 hp) (.inr ⟨rfl, rfl⟩)
 ·exact OKR.none
theorem mW {t e : TypeId} {bb : Bool} {s : Nat} (hu : Tryz.prog.underlying t = some (.slice e)) (he : yY Tryz.prog e = some (bb, s)) (w : World) (b off n cap H : Nat) (k : IntKind) (h2 : H ≤ n) (h3 : n ≤ cap) :
  (Instr.sliceAt t (.slice (some ⟨b, off, none⟩) n cap) none (some (.int k (H : Int))) none).run Tryz.prog w = .ok (.slice (some ⟨b, off, none⟩) H cap) w := by
 have h4 : Tryz.prog.underlying t = some (.slice (Tryz.prog.elem t)) := by rw [a7 hu]; exact hu
 rw [run_sliceAt_slice (h := h4), run_slice_h (ht := h4) (h0 := by omega) (h2 := by omega), a7 hu, uP he]
 simp [sliced, Result.andThen, Addr.add]
theorem k08 {g : List (Nat × Option Bk)} {t e : TypeId} {bb : Bool} {x y : Operand} {b n s H : Nat} {T : TypeId} {cs cs' : List C} {k : IntKind} {i : Int} (ho : o.op = .slice t x none (some y) none) (hu : Tryz.prog.underlying t = some (.slice e)) (he : yY Tryz.prog e = some (bb, s)) (hx : Ev l x (.e (.c (.own b 0 n s true)))) (hy : Ev l y (LV (.int k i))) (hi : i = (H : Int)) (hb : Look g b (some (T, cs))) (h2 : H ≤ n) (hc : cs.take (H * s) = cs') :
  OpOK cx o (S l) (S g) ⟨.e (.c (.own b 0 H s true)), [(b, some (T, cs'))], [], [b]⟩ := by
 intro Q ρ a w hL hs hfoot _ hh hk hdf K hK
 have hrep := hx.rep hs (by rw [ho]; simp [Op.operands])
 obtain ⟨vx, ev⟩ : ∃ vx, a.eval x = vx := ⟨_, rfl⟩
 rw [ev] at hrep
 have hrep' : RepC cx.p ρ w (.own b 0 n s true) vx := hrep
 cases hrep' with
 | ownn _ _ m hm hnl =>
  have hb' : hL b = some (T, cs) := by rw [hfoot b (by simp), hb.S]
  have hH : H = 0 := by omega
  subst hH
  have hcs0 : cs = [] := by
   obtain ⟨m2, k1, k2 | ⟨k2, _⟩⟩ := hh.row b T cs hb'
   ·exact k2.2
   ·rw [hm] at k1; cases k1; rw [hnl] at k2; cases k2
  subst hcs0
  have hc' : cs' = [] := by rw [← hc]; simp
  subst hc'
  obtain ⟨M, q1, q2, q3, q4⟩ := dU ho hu he (.no) (.yes hy hi) (.no) (Nat.le_refl 0) (Nat.le_refl 0) hs ev (Nat.le_refl 0)
  have hM : M = 0 := by omega
  subst hM
  have hL' : (fun x => (([(b, some (T, ([] : List C)))] : List (Nat × Option Bk)).lookup x).getD (hL x)) = hL := by
   funext x'
   by_cases e : x' = b
   ·subst e; simp [hb']
   ·simp [List.lookup_cons, show (x' == b) = false by simpa using e]
  refine mJ _ q4 (hK _ _ ρ (Goes.refl _ _ _) (fun _ _ h => h) (by rw [hL']; exact hh) hk (.ownn b s m hm hnl))
 | own _ _ _ _ _ m cap hm hnl h3 h4 h5 =>
  have ey := q5 (hy.rep hs (by rw [ho]; simp [Op.operands]))
  have hb' : hL b = some (T, cs) := by rw [hfoot b (by simp), hb.S]
  obtain ⟨vs, rest, q1, q2, q3⟩ := (hh.at hb' hm hnl).1
  have hcl : cs.length = vs.length := q3.len
  have hrow : Row cx.p ρ w m T cs' := by
   refine ⟨vs.take (H * s), vs.drop (H * s) ++ rest, by rw [← List.append_assoc, List.take_append_drop]; exact q1, by rw [← List.append_assoc, List.take_append_drop]; exact q2, ?_⟩
   rw [← hc]
   exact All2.mk (by rw [List.length_take, List.length_take, hcl]) fun j c u hj hu' => by
    rw [List.getElem?_take] at hj hu'
    split at hj
    ·rename_i hlt
     rw [if_pos hlt] at hu'
     exact q3.get j c u hj hu'
    ·cases hj
  obtain ⟨p1, p2, p3⟩ := HRep.write hh hk hb' hm hnl (Only.refl m.g w) (cs' := cs') hrow
  have hr := mW hu he w m.g 0 n cap H k h2 h3
  unfold Oper.wp execOp
  simp only [ho, ev, ey, hi, Option.map_none, Option.map_some, Sem.run_bind, hr, Result.andThen_ok, Sem.run_pure, Oper.upon_value]
  exact hK _ _ ρ p1 (fun _ _ h => h) p2 p3 (.own b 0 H s true m cap hm hnl (by omega) h4 h5)
def k88 (P : Program) (h : H) (l : List (Nat × PV)) (g : EH) (t : TypeId) (lo hi mx : Option Operand) : PV → R
 | .e (.c (.own b 0 n s true)) => match xD P t, h, lo, hi, mx with
  | some e, .mk H _ r, none, some y, none => match yY P e, bB l y, g.lookup b with
   | some (_, s'), some (.e (.c (.d (.lit (.int _ i))))), some (some (T, .ds ds)) => match Nat.beq s' s with
    | true => some ([i = (H : Int), H ≤ n, ds.take (H * s) = r], ⟨.e (.c (.own b 0 H s true)), [(b, some (T, .ds r))], [], [b]⟩)
    | false => none
   | _, _, _ => none
  | _, _, _, _, _ => none
 | _ => none
theorem k87 {h : H} {t : TypeId} {x : Operand} {lo hi mx : Option Operand} (ho : o.op = .slice t x lo hi mx) {u : PV} (hu : Ev l x u) : OKR cx o l g (k88 Tryz.prog h l g t lo hi mx u) := by
 unfold k88
 split
 ·split
  ·rename_i h1
   split
   ·rename_i he hy hg
    split
    ·rename_i hs
     have hs := Nat.eq_of_beq_eq_true hs
     subst hs
     refine OKR.some fun hp => ?_
     obtain ⟨p1, p3, p4⟩ := hp
     have p4 := congrArg (List.map C.d) (show List.take _ _ = _ from p4)
     rw [List.map_take] at p4
     exact k08 ho (iN h1) he hu (jX hy) p1 (uK hg) p3 p4
    ·exact OKR.none
   ·exact OKR.none
  ·exact OKR.none
 ·exact OKR.none
def u5j (P : Program) (st : TypeId) (u : PV) : R := none
theorem k95 {x : Operand} {st : TypeId} (ho : o.op = .call { callee := .builtin .cap, args := #[x], argTypes := #[st] }) {u : PV} (hu : Ev l x u) : OKR cx o l g (u5j Tryz.prog st u) := OKR.none
def k9c (P : Program) (nx : Nat) (t : TypeId) (n : Nat) (parts : Array (Nat × Operand)) : R := match xD P t, n, parts.toList with
 | some e, 0, [] => match yY P e with
  | some (_, s) => some ([], ⟨.e (.c (.own nx 0 0 s true)), [(nx, some (e, .ds []))], [nx], []⟩)
  | none => none
 | _, _, _ => none
theorem k9b {nx : Nat} {t : TypeId} {n : Nat} {parts : Array (Nat × Operand)} (ho : o.op = .buildSlice t n parts) : OKR cx o l g (k9c Tryz.prog nx t n parts) := by
 unfold k9c
 split
 ·rename_i e h1 h2
  have hp : parts = #[] := by simpa using h2
  subst hp
  split
  ·rename_i bb s he
   have h1 := iN h1
   refine OKR.some fun _ => ?_
   refine fL (xs := []) fun ρ a w hs => ⟨[], [], 0, ?_, trivial, Nat.le_refl 0, by simp [maxLen], by simp⟩
   unfold execOp
   simp [ho, Instr.buildSlice, run_underlying h1, uP he, Instr.fill, newRow]
   rw [show Array.map (fun _ : Nat => (default : Value)) (Array.range 0) = #[] from Array.ext' (by simp)]
  ·exact OKR.none
 ·exact OKR.none
def u59 (P : Program) (h : H) (nx : Nat) (t tn : TypeId) : PV → PV → R := fun _ _ => none
theorem k83 {h : H} {nx : Nat} {x y : Operand} {t tn : TypeId} (ho : o.op = .call { callee := .builtin .append, args := #[x, y], argTypes := #[t, tn] }) {u v : PV} (hu : Ev l x u) (hv : Ev l y v) : OKR cx o l g (u59 Tryz.prog h nx t tn u v) := OKR.none
end
end Go.Proofs.YtbicifcgghmhaaaGreat
namespace Go.Proofs.YtbicifcgghmhaaaGreat
open Go.ChangeShapes Go.WideShapes Go.ChangeAt Go.RowKit
set_option linter.unusedVariables false
set_option linter.unusedSimpArgs false
section
variable {cx : Cx} {o : Oper} {l : List (Nat × PV)} {g : EH}
def k8s (P : Program) (h : H) (st : TypeId) : PV → R := fun _ => none
theorem k42 {h : H} {x : Operand} {st : TypeId} (ho : o.op = .call { callee := .builtin .len, args := #[x], argTypes := #[st] }) {u : PV} (hu : Ev l x u) : OKR cx o l g (k8s Tryz.prog h st u) := OKR.none
def u5c (P : Program) (h : H) (l : List (Nat × PV)) (t : TypeId) (lo hi mx : Option Operand) : PV → R := fun _ => none
theorem k89 {h : H} {t : TypeId} {x : Operand} {lo hi mx : Option Operand} (ho : o.op = .slice t x lo hi mx) {u : PV} (hu : Ev l x u) : OKR cx o l g (u5c Tryz.prog h l t lo hi mx u) := OKR.none
def u5i (P : Program) (op : BinOp) (h : H) : PV → PV → R := fun _ _ => none
theorem k94 {op : BinOp} {h : H} {xt yt : TypeId} {x y : Operand} (ho : o.op = .binOp op xt x y yt) {u v : PV} (hu : Ev l x u) (hv : Ev l y v) : OKR cx o l g (u5i Tryz.prog op h u v) := OKR.none
def u5k (P : Program) (h : H) (nx : Nat) (src dst : TypeId) (u : PV) : R := none
theorem k96 {h : H} {nx : Nat} {src dst : TypeId} {x : Operand} (ho : o.op = .convert src dst x) {u : PV} (hu : Ev l x u) : OKR cx o l g (u5k Tryz.prog h nx src dst u) := OKR.none
def k8n (P : Program) (g : EH) (src dst : TypeId) (u : PV) : R := none
theorem k40 {src dst : TypeId} {x : Operand} (ho : o.op = .convert src dst x) {u : PV} (hu : Ev l x u) : OKR cx o l g (k8n Tryz.prog g src dst u) := OKR.none
end
end Go.Proofs.YtbicifcgghmhaaaGreat
namespace Go.Proofs.YtbicifcgghmhaaaGreat
open Go.ChangeShapes Go.WideShapes Go.ChangeAt Go.RowKit
set_option linter.unusedVariables false
set_option linter.unusedSimpArgs false
theorem z5 {P : Program} {b : Frame} {a : Act} {k : List Item} {cs : List Frame} {w : World} {c : Code} :
  stepT P (lone (b.at a (.code (.loop c) :: k)) cs w) = (.next (lone (b.at a (.code c :: .inLoop c :: k)) cs w), #[]) := by
 rw [stepT, move_lone]
 simp [runT, lone, Array.swapAt!, stepG, stepG.exec, Frame.at, MemOp.ofEvents]
 intro h
 exact absurd rfl h
theorem cH {P : Program} {m m1 m2 : Machine} (h1 : step P m = .next m1) (h : Go.Steps P m m2) (hne : m ≠ m2) : Go.Steps P m1 m2 := by
 obtain ⟨n, hn⟩ := h
 cases n with
 | zero => simp [runN] at hn; exact absurd hn hne
 | succ n => simp only [runN, h1] at hn; exact ⟨n, hn⟩
theorem u0g {b : Frame} {a a' : Act} {k k' : List Item} {cs : List Frame} {w w' : World} (h : k ≠ k') : lone (b.at a k) cs w ≠ lone (b.at a' k') cs w' := by
 intro e
 simp only [lone, Machine.mk.injEq, Array.mk.injEq, List.cons.injEq, Goroutine.mk.injEq, Frame.at, Frame.mk.injEq] at e
 exact h e.2.1.1.1.2.2.1
theorem nN : ∀ {id : Nat} {k k' : List Item}, exitTo id k = some k' → k'.length < k.length
 | id, [], k', h => by cases h
 | id, x :: k, k', h => by
  have ih : ∀ k', exitTo id k = some k' → k'.length < k.length := fun _ h => nN h
  cases x with
  | inBlock id' =>
   simp only [exitTo] at h
   split at h
   ·cases h; simp
   ·have := ih _ h; simp; omega
  | _ => simp only [exitTo] at h; have := ih _ h; simp; omega
theorem sR {c : Code} : ∀ (x : Code) {l : Nat} {r : Code}, findLabel x l = some r → r ≠ .loop c := by
 intro x
 induction x with
 | seq a b iha ihb =>
  intro l r h
  simp only [findLabel] at h
  split at h
  ·cases h; intro e; cases e
  ·exact ihb h
 | label l' =>
  intro l r h
  simp only [findLabel] at h
  split at h
  ·cases h; intro e; cases e
  ·cases h
 | _ => intro l r h; simp [findLabel] at h
theorem pL {l : Nat} {c : Code} : ∀ {k k' : List Item}, gotoIn l k = some k' → ∀ y, k' ≠ .code (.loop c) :: y
 | [], k', h => by cases h
 | x :: k, k', h => by
  have ih : ∀ k', gotoIn l k = some k' → ∀ y, k' ≠ .code (.loop c) :: y := fun _ h => pL h
  cases x with
  | inScope body =>
   simp only [gotoIn] at h
   split at h
   ·rename_i hf
    cases h
    intro y e
    simp only [List.cons.injEq, Item.code.injEq] at e
    exact sR _ hf e.1
   ·exact ih _ h
  | _ => simp only [gotoIn] at h; exact ih _ h
theorem oO {P : Program} {m m1 : Machine} (h1 : stepT P m = (.next m1, #[])) (h : Outgrown P m) : Outgrown P m1 := by
 obtain ⟨n, o, ho, h2, h3⟩ := h
 cases n with
 | zero => simp [runNT] at ho
 | succ n =>
  simp only [runNT, h1] at ho
  exact ⟨n, o, by simpa using ho, h2, h3⟩
theorem rD {P : Program} {Q : Exit → Act → World → Prop} {a : Act} {w : World} {c : Code} (h : c.wp P (Exit.then ((Code.loop c).wp P Q) Q) a w) : (Code.loop c).wp P Q a w := by
 intro b k cs
 obtain ⟨e, a₁, w₁, hq, harr⟩ := h b (.inLoop c :: k) cs
 cases e with
 | normal =>
  obtain ⟨e₂, a₂, w₂, hq₂, harr₂⟩ := hq b k cs
  refine ⟨e₂, a₂, w₂, hq₂, .of_steps (.one step_loop) ?_⟩
  have h2 : Arrives P (lone (b.at a₁ (.code c :: .inLoop c :: k)) cs w₁) b k cs e₂ a₂ w₂ := by
   cases e₂ with
   | normal => exact cH step_loop harr₂ (u0g (fun e => by have := congrArg List.length e; simp at this))
   | exit id => exact fun k' hk => cH step_loop (harr₂ k' hk) (u0g (fun e => by have := congrArg List.length e; have := nN hk; simp at *; omega))
   | goto l => exact fun k' hk => cH step_loop (harr₂ k' hk) (u0g (fun e => pL hk _ e.symm))
   | ret =>
    obtain ⟨todo, hs⟩ := harr₂
    exact ⟨todo, cH step_loop hs (by intro e; simp [lone, Frame.at] at e)⟩
   | panic ch =>
    obtain ⟨todo, hs⟩ := harr₂
    exact ⟨todo, cH step_loop hs (by intro e; simp [lone, Frame.at] at e)⟩
   | outgrown => exact harr₂.imp id (oO z5)
  exact .of_steps (Steps.trans harr (.one step_inLoop)) h2
 | exit id => exact ⟨_, a₁, w₁, hq, .of_steps (.one step_loop) (.pass (x := .inLoop c) rfl (fun _ _ => .inl (by simp)) harr)⟩
 | goto l => exact ⟨_, a₁, w₁, hq, .of_steps (.one step_loop) (.pass (x := .inLoop c) rfl (fun _ _ => .inl (by simp)) harr)⟩
 | ret => exact ⟨_, a₁, w₁, hq, .of_steps (.one step_loop) (.pass (x := .inLoop c) rfl (fun _ _ => .inl (by simp)) harr)⟩
 | panic ch => exact ⟨_, a₁, w₁, hq, .of_steps (.one step_loop) (.pass (x := .inLoop c) rfl (fun _ _ => .inl (by simp)) harr)⟩
 | outgrown => exact ⟨_, a₁, w₁, hq, .of_steps (.one step_loop) (.pass (x := .inLoop c) rfl (fun _ _ => .inl (by simp)) harr)⟩
section
variable {cx : Cx} {o : Oper} {l : List (Nat × PV)} {g : EH}
def u5h (P : Program) (op : BinOp) (xt : TypeId) (u v : PV) : R := none
theorem k93 {op : BinOp} {xt yt : TypeId} {x y : Operand} (ho : o.op = .binOp op xt x y yt) {u v : PV} (hu : Ev l x u) (hv : Ev l y v) : OKR cx o l g (u5h Tryz.prog op xt u v) := OKR.none
def u5a (P : Program) (g : EH) (src dst : TypeId) (u : PV) : R := none
theorem k84 {src dst : TypeId} {x : Operand} (ho : o.op = .convert src dst x) {u : PV} (hu : Ev l x u) : OKR cx o l g (u5a Tryz.prog g src dst u) := OKR.none
def k91 (P : Program) (h : H) (f : FuncId) (us : Option (List E1)) : R := none
def u5l (P : Program) (h : H) (g : EH) (nx : Nat) (t tn : TypeId) : PV → PV → R := fun _ _ => none
theorem k9f {h : H} {nx : Nat} {t tn : TypeId} {x y : Operand} (ho : o.op = .call { callee := .builtin .append, args := #[x, y], argTypes := #[t, tn] }) {u v : PV} (hu : Ev l x u) (hv : Ev l y v) : OKR cx o l g (u5l Tryz.prog h g nx t tn u v) := OKR.none
def v2g : PV → R := fun _ => none
theorem u2v {x : Operand} {st : TypeId} (ho : o.op = .call { callee := .builtin .unsafeSliceData, args := #[x], argTypes := #[st] }) {u : PV} (hu : Ev l x u) : OKR cx o l g (v2g u) := OKR.none
def v2f (P : Program) (h : H) (g : EH) (pt : TypeId) (u v : PV) : R := none
theorem u2r {h : H} {pt it : TypeId} {x y : Operand} (ho : o.op = .call { callee := .builtin .unsafeString, args := #[x, y], argTypes := #[pt, it] }) {u v : PV} (hu : Ev l x u) (hv : Ev l y v) : OKR cx o l g (v2f Tryz.prog h g pt u v) := OKR.none
def AWp (cx : Cx) (n : Nat) (c : Code) (Q : yT) : Nat → St → Prop
 | 0, s => AW cx n (.loop c) Q s
 | k + 1, s => AW cx n c (g7 (AWp cx n c Q k) Q) s
theorem AWp.s {cx : Cx} {n : Nat} {c : Code} {Q : yT} {k : Nat} {s : St} (h : AW cx n c (g7 (AWp cx n c Q k) Q) s) : AWp cx n c Q (k + 1) s := h
theorem AWp.z {cx : Cx} {n : Nat} {c : Code} {Q : yT} {s : St} (h : AW cx n (.loop c) Q s) : AWp cx n c Q 0 s := h
theorem AWp.ok {cx : Cx} {n : Nat} {c : Code} {Q : yT} : ∀ {k : Nat} {s : St}, AWp cx n c Q k s → AW cx n (.loop c) Q s
 | 0, _, h => h
 | k + 1, s, h => fun a w hm => by
  refine rD (wp_mono (h a w hm) ?_)
  rintro e a' w' ⟨s', h1, h2⟩
  cases e with
  | normal => exact AWp.ok (k := k) h1 a' w' h2
  | _ => exact ⟨s', h1, h2⟩
theorem u44 {cx : Cx} {n : Nat} {c : Code} {Q : yT} {s : St} (k : Nat) (h : AWp cx n c Q k s) : AW cx n (.loop c) Q s := h.ok
end
end Go.Proofs.YtbicifcgghmhaaaGreat
namespace Go.Proofs.YtbicifcgghmhaaaGreat
open Go.ChangeShapes Go.WideShapes Go.ChangeAt Go.RowKit
set_option linter.unusedVariables false
set_option linter.unusedSimpArgs false
abbrev FnT := FuncId → List E1 → List (Nat × Option Bk) → Nat → PV → List (Nat × Option Bk) → Nat → Prop
def u8o (P : Program) (h : H) (l : List (Nat × PV)) (g : EH) (nx : Nat) (b : Builtin) (args : List Operand) (ts : List TypeId) : R := match b, args, ts with
 | .len, [x], [st] => bo (bB l x) fun u => oB (k8t P st u) (k8s P h st u)
 | .min, [x, y], _ => bo (bB l x) fun u => bo (bB l y) fun v => k8j h u v
 | .max, [x, y], _ => bo (bB l x) fun u => bo (bB l y) fun v => k8m h u v
 | .max, [x, y, z], _ => bo (bB l x) fun u => bo (bB l y) fun v => bo (bB l z) fun w => k8l h u v w
 | .append, [x, y], [t, t'] => match Nat.beq t t' with
  | true => bo (bB l x) fun u => bo (bB l y) fun v => u8p P h g nx t u v
  | false => bo (bB l x) fun u => bo (bB l y) fun v => oB (u5l P h g nx t t' u v) (oB (u59 P h nx t t' u v) (v2e P h g nx t t' u v))
 | .copy, [x, y], [t, _] => bo (bB l x) fun u => bo (bB l y) fun v => v2h P h g t u v
 | .cap, [x], [st] => bo (bB l x) (u5j P st)
 | .unsafeSliceData, [x], [_] => bo (bB l x) v2g
 | .unsafeString, [x, y], [pt, _] => bo (bB l x) fun u => bo (bB l y) fun v => v2f P h g pt u v
 | _, _, _ => none
def k8z (P : Program) (h : H) (f : FuncId) (us : Option (List E1)) : R := none
theorem k43 {cx : Cx} {o : Oper} {l : List (Nat × PV)} {g : EH} {h : H} {f : FuncId} {args : Array Operand} {ts : Array TypeId} (ho : o.op = .call { callee := .value (.func f), args := args, argTypes := ts }) : OKR cx o l g (k8z Tryz.prog h f (jY l args.toList)) := OKR.none
theorem k0s {cx : Cx} {o : Oper} {l : List (Nat × PV)} {g : EH} {h : H} {f : FuncId} {args : Array Operand} {ts : Array TypeId} (ho : o.op = .call { callee := .value (.func f), args := args, argTypes := ts }) : OKR cx o l g (k91 Tryz.prog h f (jY l args.toList)) := OKR.none
def evC (P : Program) (Fn : FnT) (h : H) (l : List (Nat × PV)) (g : EH) (nx : Nat) (c : Call) : R := match c with
 | ⟨.builtin b, args, ts⟩ => u8o P h l g nx b args.toList ts.toList
 | ⟨.value (.func f), args, _⟩ => oB (k91 P h f (jY l args.toList)) (oB (k8z P h f (jY l args.toList)) (fE P Fn h g nx f (jY l args.toList)))
 | ⟨.value x, args, _⟩ => bo (bB l x) fun u => match u8b u with
  | some (f, qs) => match Nat.blt f oI with
   | true => fE P Fn h g nx f (k9e l args.toList qs)
   | false => fE P Fn h g nx (fnU f) (k9d l args.toList qs)
  | none => none
 | _ => none
def k2p (P : Program) (Fn : FnT) (h : H) (l : List (Nat × PV)) (g : EH) (nx : Nat) : Op → R
 | .move x => bo (bB l x) pv
 | .assign x => bo (bB l x) pv
 | .nilCheck x => bo (bB l x) fun u => match u with
  | .e (.c (.ptr b off)) => pv (.e (.c (.ptr b off)))
  | _ => none
 | .unOp .not _ x => bo (bB l x) (k8c h)
 | .unOp .neg _ x => bo (bB l x) (k8g h)
 | .pick c x y => bo (bB l c) fun u => k0q h u (bB l x) (bB l y)
 | .binOp op xt x y _ => bo (bB l x) fun u => bo (bB l y) fun v => oB (k8e P op xt u v) (oB (u5h P op xt u v) (oB (k0x P op h xt u v) (u5i P op h u v)))
 | .convert s d x => bo (bB l x) fun u => oB (u5b P h g s d u) (oB (u5k P h nx s d u) (oB (k8n P g s d u) (oB (u5a P g s d u) (k0t P h s d u))))
 | .extract x i => bo (bB l x) (k92 i)
 | .fieldAddr t x i => bo (bB l x) (u8l P t i)
 | .field t x i => bo (bB l x) (k8y P t i)
 | .load ty x => bo (bB l x) (k0r P h g ty)
 | .store ty x y => bo (bB l x) fun u => bo (bB l y) fun v => sS P h g ty u v
 | .alloc T => sX P nx T
 | .box T x => bo (bB l x) (k98 nx T)
 | .build t ps => oB (sW P l t ps) (xO P l t ps)
 | .buildSlice t n ps => oB (k9c P nx t n ps) (u8n P l nx t n ps)
 | .makeSlice t x y => bo (bB l x) fun u => bo (bB l y) fun v => u8h P h nx t u v
 | .indexAddr t x y => bo (bB l x) fun u => bo (bB l y) fun v => oB (u5e P h t u v) (u8j P h t u v)
 | .index t x y => bo (bB l x) fun u => bo (bB l y) fun v => oB (u5g P h t u v) (u5f P h t u v)
 | .slice t x lo hi mx => bo (bB l x) fun u => oB (u5d P t lo hi mx u) <| oB (k88 P h l g t lo hi mx u) (oB (u8e P h l t lo hi mx u) (u5c P h l t lo hi mx u))
 | .call c => evC P Fn h l g nx c
 | .makeFunc (.func f) first caps => match first.toList with
  | [] => u8i l f caps.toList
  | _ => match caps.toList with
   | [] => k8p l f first.toList
   | _ => none
 | _ => none
section
variable {cx : Cx} {o : Oper} {l : List (Nat × PV)} {g : EH}
theorem gW {α : Type} {a : Array α} {l : List α} (h : a.toList = l) : a = l.toArray := by subst h; simp
theorem u35 {h : H} {nx : Nat} {b : Builtin} {args : Array Operand} {ts : Array TypeId} (ho : o.op = .call { callee := .builtin b, args := args, argTypes := ts }) : OKR cx o l g (u8o Tryz.prog h l g nx b args.toList ts.toList) := by
 unfold u8o
 split
 ·rename_i h1 h2
  rw [gW h1, gW h2] at ho
  exact OKR.bo fun u hu => OKR.or (k8r ho hu) (k42 ho hu)
 ·rename_i h1
  rw [gW h1] at ho
  exact OKR.bo fun u hu => OKR.bo fun v hv => k8i ho hu hv
 ·rename_i h1
  rw [gW h1] at ho
  exact OKR.bo fun u hu => OKR.bo fun v hv => k8k ho hu hv
 ·rename_i h1
  rw [gW h1] at ho
  exact OKR.bo fun u hu => OKR.bo fun v hv => OKR.bo fun w hw => k3z ho hu hv hw
 ·rename_i h1 h2
  rw [gW h1, gW h2] at ho
  split
  ·rename_i ht
   have ht := Nat.eq_of_beq_eq_true ht
   subst ht
   exact OKR.bo fun u hu => OKR.bo fun v hv => u36 ho hu hv
  ·exact OKR.bo fun u hu => OKR.bo fun v hv => OKR.or (k9f ho hu hv) (OKR.or (k83 ho hu hv) (u2q ho hu hv))
 ·rename_i h1 h2
  rw [gW h1, gW h2] at ho
  exact OKR.bo fun u hu => OKR.bo fun v hv => u31 ho hu hv
 ·rename_i h1 h2
  rw [gW h1, gW h2] at ho
  exact OKR.bo fun u hu => k95 ho hu
 ·rename_i h1 h2
  rw [gW h1, gW h2] at ho
  exact OKR.bo fun u hu => u2v ho hu
 ·rename_i h1 h2
  rw [gW h1, gW h2] at ho
  exact OKR.bo fun u hu => OKR.bo fun v hv => u2r ho hu hv
 ·exact OKR.none
theorem xM {h : H} {nx : Nat} {op : Op} (ho : o.op = op) : OKR cx o l g (k2p Tryz.prog Fun h l g nx op) := by
 unfold k2p
 split
 ·exact OKR.bo fun u hu => OKR.some fun _ => u1u ho hu
 ·exact OKR.bo fun u hu => OKR.some fun _ => k3r ho hu
 ·refine OKR.bo fun u hu => ?_
  split
  ·exact OKR.some fun _ => wM ho hu
  ·exact OKR.none
 ·exact OKR.bo fun u hu => k8b ho hu
 ·exact OKR.bo fun u hu => k8f ho hu
 ·exact OKR.bo fun u hu => k3y ho hu
 ·exact OKR.bo fun u hu => OKR.bo fun v hv => OKR.or (k8d ho hu hv) (OKR.or (k93 ho hu hv) (OKR.or (k47 ho hu hv) (k94 ho hu hv)))
 ·exact OKR.bo fun u hu => OKR.or (k85 ho hu) (OKR.or (k96 ho hu) (OKR.or (k40 ho hu) (OKR.or (k84 ho hu) (k44 ho hu))))
 ·exact OKR.bo fun u hu => k90 ho hu
 ·exact OKR.bo fun u hu => u30 ho hu
 ·exact OKR.bo fun u hu => k8x ho hu
 ·exact OKR.bo fun u hu => k41 ho hu
 ·exact OKR.bo fun u hu => OKR.bo fun v hv => k0p ho hu hv
 ·exact k0y ho
 ·exact OKR.bo fun u hu => k97 ho hu
 ·exact OKR.or (k0w ho) (xN ho)
 ·exact OKR.or (k9b ho) (u34 ho)
 ·exact OKR.bo fun u hu => OKR.bo fun v hv => u2x ho hu hv
 ·exact OKR.bo fun u hu => OKR.bo fun v hv => OKR.or (k8u ho hu hv) (u2z ho hu hv)
 ·exact OKR.bo fun u hu => OKR.bo fun v hv => OKR.or (k8w ho hu hv) (k8v ho hu hv)
 ·exact OKR.bo fun u hu => OKR.or (k8a ho hu) <| OKR.or (k87 ho hu) (OKR.or (u2s ho hu) (k89 ho hu))
 ·unfold evC
  split
  ·exact u35 ho
  ·exact OKR.or (k0s ho) (OKR.or (k43 ho) (k45 ho))
  ·refine OKR.bo fun u hu => ?_
   split
   ·rename_i hf
    have := u2m hf
    subst this
    split
    ·rename_i hlo; exact k0u ho hu hlo
    ·rename_i hlo; exact k0v ho hu hlo
   ·exact OKR.none
  ·exact OKR.none
 ·split
  ·rename_i h0; exact u2y ho h0
  ·split
   ·rename_i h1; exact k8o ho h1
   ·exact OKR.none
 ·exact OKR.none
theorem x8 {ds : List D} {T : TypeId} {n s nx : Nat} {wr : List (Nat × Option Bk)} {news foot : List Nat} {h0 : Hp} {τ : Nat → PV} (hnx : wr.lookup nx = none) (hl : ds.length = n * s) (h : OpOK cx o τ h0 ⟨.e (.c (.own nx 0 n s true)), wr ++ [(nx, some (T, ds.map .d))], news, foot⟩) :
  OpOK cx o τ h0 ⟨.e (.c (.d (.sl ds n))), wr ++ [(nx, none)], news, foot⟩ := by
 intro Q ρ a w hL hs hf hn hh hk hd K hK
 refine h Q ρ a w hL hs hf hn hh hk hd K ?_
 intro v w' ρ' g1 g2 g3 g4 g5
 have hx : ((wr ++ [(nx, some (T, ds.map C.d))]).lookup nx).getD (hL nx) = some (T, ds.map C.d) := by rw [vP, hnx]; simp
 have hx' : ((wr ++ [(nx, none)]).lookup nx).getD (hL nx) = none := by rw [vP, hnx]; simp
 have hne : ∀ x, x ≠ nx → ((wr ++ [(nx, none)]).lookup x).getD (hL x) = ((wr ++ [(nx, some (T, ds.map C.d))]).lookup x).getD (hL x) := by
  intro x hxn
  rw [vP, vP]
  simp only [List.lookup_cons, show (x == nx) = false by simpa using hxn, List.lookup_nil]
 have hsub : ∀ x, ((wr ++ [(nx, none)]).lookup x).getD (hL x) ≠ none → x ≠ nx ∧ ((wr ++ [(nx, some (T, ds.map C.d))]).lookup x).getD (hL x) ≠ none := by
  intro x hq
  have : x ≠ nx := fun e => hq (by rw [e]; exact hx')
  exact ⟨this, by rw [← hne x this]; exact hq⟩
 have hsub2 : ∀ x T' cs, ((wr ++ [(nx, none)]).lookup x).getD (hL x) = some (T', cs) → x ≠ nx ∧ ((wr ++ [(nx, some (T, ds.map C.d))]).lookup x).getD (hL x) = some (T', cs) := by
  intro x T' cs hq
  have hq2 := hsub x (by rw [hq]; simp)
  exact ⟨hq2.1, by rw [← hne x hq2.1]; exact hq⟩
 obtain ⟨m, k1, k2⟩ := g3.row nx T _ hx
 rcases k2 with ⟨k2, k3⟩ | ⟨k2, ⟨vs, rest, r1, r2, r3⟩, k4⟩
 ·have hds : ds = [] := List.map_eq_nil_iff.1 k3
  subst hds
  refine hK v w' ρ' g1 g2 ⟨fun b T' cs hb => g3.row b T' cs (hsub2 b T' cs hb).2, fun b b' m m' hb hb' => g3.inj b b' m m' (hsub b hb).2 (hsub b' hb').2, fun b m hb => g3.zf b m (hsub b hb).2, g3.zm, g3.zl⟩ g4 ?_
  have g5' : RepC cx.p ρ' w' (.own nx 0 n s true) v := g5
  cases g5' with
  | own _ _ _ _ _ m2 cap hm hn' => rw [k1] at hm; cases hm; rw [k2] at hn'; cases hn'
  | ownn => exact .d (.nil none 0 (Nat.zero_le _) (fun _ => rfl))
 ·have hgo : Goes cx.p ρ' ⟨ρ'.f, fun k => ρ'.z k ∨ k = m.g⟩ w' w' := ⟨fun _ _ h => h, fun _ h => .inl h, Nat.le_refl _, fun _ _ _ => rfl⟩
  have hg1 : Goes cx.p ρ ⟨ρ'.f, fun k => ρ'.z k ∨ k = m.g⟩ w w' := ⟨g1.ext, fun k hz => .inl (g1.zext k hz), g1.size, g1.old⟩
  refine hK v w' ⟨ρ'.f, fun k => ρ'.z k ∨ k = m.g⟩ hg1 g2 ⟨?_, fun b b' m m' hb hb' => g3.inj b b' m m' (hsub b hb).2 (hsub b' hb').2, ?_, ?_, ?_⟩ g4 ?_
  ·intro b T' cs hb
   obtain ⟨m', p1, p2⟩ := g3.row b T' cs (hsub2 b T' cs hb).2
   exact ⟨m', p1, p2.imp id fun p => ⟨p.1, p.2.1.mono hgo rfl, p.2.2⟩⟩
  ·intro b m1 hb hm1 hn1 hz
   rcases hz with hz | hz
   ·exact g3.zf b m1 (hsub b hb).2 hm1 hn1 hz
   ·exact (hsub b hb).1 (g3.inj b nx m1 m (hsub b hb).2 (by rw [hx]; simp) hm1 k1 hn1 k2 hz)
  ·intro k hz
   rcases hz with hz | hz
   ·exact g3.zm k hz
   ·exact hz ▸ k4
  ·intro k hz
   rcases hz with hz | hz
   ·exact g3.zl k hz
   ·exact hz ▸ r1.lt
  ·have g5' : RepC cx.p ρ' w' (.own nx 0 n s true) v := g5
   cases g5' with
   | own _ _ _ _ _ m2 cap hm hn' h1 h2 h3 =>
    rw [k1] at hm; cases hm
    have hvl : vs.length = ds.length := by have := r3.len; simpa using this.symm
    refine .d (.sl ds vs m.g 0 n cap hvl ?_ ?_ (.inr (.inr rfl)) r1.lt h1 h2)
    ·intro i u hu
     rw [Nat.zero_add]
     exact BlkM.cell (vs := vs ++ rest) r1 i (by rw [List.getElem?_append_left (List.getElem?_eq_some_iff.1 hu).1]; exact hu)
    ·intro i d u hd' hu
     have := (r3.imp fun _ _ => RepC.mono hgo).get i (.d d) u (by rw [List.getElem?_map, hd']; rfl) hu
     cases this with
     | d h => exact h
   | ownn _ _ m2 hm hn' => rw [k1] at hm; cases hm; rw [k2] at hn'; cases hn'
def fzR : R → R
 | some (ps, ⟨.e (.c (.own b 0 n s true)), wr, news, foot⟩) => match wr with
  | [(b', some (T, .ds ds))] => match Nat.beq b' b with
   | true => some (ps ++ [ds.length = n * s], ⟨.e (.c (.d (.sl ds n))), [(b, none)], news, foot⟩)
   | false => none
  | [(b0, none), (b', some (T, .ds ds))] => match Nat.beq b' b, Nat.beq b b0 with
   | true, false => some (ps ++ [ds.length = n * s], ⟨.e (.c (.d (.sl ds n))), [(b0, none), (b, none)], news, foot⟩)
   | _, _ => none
  | _ => none
 | _ => none
theorem u86 {r : R} (h : OKR cx o l g r) : OKR cx o l g (fzR r) := by
 unfold fzR
 split
 ·rename_i ps b n s wr news foot
  split
  ·split
   ·rename_i hb
    refine OKR.some fun hp => ?_
    have hp := (q9 _).1 hp
    have hl : _ = _ := hp _ (List.mem_append_right _ (List.mem_cons_self ..))
    obtain rfl := Nat.eq_of_beq_eq_true hb
    exact x8 (wr := []) rfl hl (h _ _ rfl ((q9 _).2 fun p hpp => hp p (List.mem_append_left _ hpp)))
   ·exact OKR.none
  ·split
   ·rename_i hb hb0
    refine OKR.some fun hp => ?_
    have hp := (q9 _).1 hp
    have hl : _ = _ := hp _ (List.mem_append_right _ (List.mem_cons_self ..))
    obtain rfl := Nat.eq_of_beq_eq_true hb
    refine x8 (wr := [(_, none)]) ?_ hl (h _ _ rfl ((q9 _).2 fun p hpp => hp p (List.mem_append_left _ hpp)))
    have hne := Nat.ne_of_beq_eq_false hb0
    have e9 := beq_eq_false_iff_ne.2 hne
    rw [List.lookup_cons, e9]; rfl
   ·exact OKR.none
  ·exact OKR.none
 ·exact OKR.none
def u8g (P : Program) (Fn : FnT) (h : H) (l : List (Nat × PV)) (g : EH) (nx : Nat) (op : Op) : R := match h with
 | .fz h' => fzR (k2p P Fn h' l g nx op)
 | h => k2p P Fn h l g nx op
theorem u2w {h : H} {nx : Nat} {op : Op} (ho : o.op = op) : OKR cx o l g (u8g Tryz.prog Fun h l g nx op) := by
 unfold u8g
 split
 ·exact u86 (xM ho)
 ·exact xM ho
end
def stepG (ops : List Oper) (l : List (Nat × PV)) (o : Oper) : Option Bool := match o.guard with
 | none => some true
 | some (gi, b) => match ops[gi]? with
  | some og => match og.dst with
   | some dg => match l.lookup dg with
    | some (.e (.c (.d (.lit (.bool b'))))) => some (b' == b)
    | some (.tup []) => some false
    | _ => none
   | none => none
  | none => none
theorem nG {X : Type} [Inhabited X] {l : List (Nat × X)} {t : Nat} {u : X} (h : l.lookup t = some u) : S l t = u := (yW h).S
theorem k3j {cx : Cx} {ops : List Oper} {l : List (Nat × PV)} {g : List (Nat × Option Bk)} {o : Oper} {t : OT} (h : stepG ops l o = some true) (hok : OpOK cx o (S l) (S g) t) : StepO cx ops o l g t := by
 unfold stepG at h
 unfold StepO
 split at h
 ·rename_i hg; rw [hg]; exact hok
 ·rename_i gi b hg
  rw [hg]
  split at h
  ·rename_i og hog
   split at h
   ·rename_i dg hdg
    split at h
    ·rename_i b' hl
     refine ⟨dg, og, hog, hdg, .inl ⟨b', nG hl, ?_⟩⟩
     have : b' = b := by simpa using h
     rw [if_pos this]; exact hok
    ·cases h
    ·cases h
   ·cases h
  ·cases h
theorem k5b {cx : Cx} {ops : List Oper} {l : List (Nat × PV)} {g : List (Nat × Option Bk)} {o : Oper} (h : stepG ops l o = some false) : StepO cx ops o l g ⟨.tup [], [], [], []⟩ := by
 unfold stepG at h
 unfold StepO
 split at h
 ·cases h
 ·rename_i gi b hg
  rw [hg]
  split at h
  ·rename_i og hog
   split at h
   ·rename_i dg hdg
    split at h
    ·rename_i b' hl
     refine ⟨dg, og, hog, hdg, .inl ⟨b', nG hl, ?_⟩⟩
     have : ¬ b' = b := by simpa using h
     rw [if_neg this]; exact ⟨rfl, rfl, rfl⟩
    ·rename_i hl
     exact ⟨dg, og, hog, hdg, .inr ⟨nG hl, rfl, rfl, rfl⟩⟩
    ·cases h
   ·cases h
  ·cases h
def mY (P : Program) (Fn : FnT) (ops : List Oper) : List Oper → List H → List (Nat × PV) → EH → Nat → Option (List Prop × List OTe × List (Nat × PV) × EH × Nat)
 | [], _, l, g, nx => some ([], [], l, g, nx)
 | o :: os, hs, l, g, nx => match stepG ops l o with
  | some true => match hs with
   | h :: hs => match u8g P Fn h l g nx o.op with
    | some (ps, t) => match mY P Fn ops os hs (f6 o t.u ++ l) (t.wr ++ g) (nx + t.news.length) with
     | some (ps', ts, r) => some (ps ++ ps', t :: ts, r)
     | none => none
    | none => none
   | [] => none
  | some false => match mY P Fn ops os hs (f6 o (.tup []) ++ l) g nx with
   | some (ps', ts, r) => some (ps', ⟨.tup [], [], [], []⟩ :: ts, r)
   | none => none
  | none => none
theorem jM {cx : Cx} {ops : List Oper} : ∀ {os : List Oper} {hs : List H} {l lf : List (Nat × PV)} {g gf : EH} {nx nf : Nat} {ps : List Prop} {ts : List OTe}, mY Tryz.prog Fun ops os hs l g nx = some (ps, ts, lf, gf, nf) → (∀ p ∈ ps, p) → Steps cx ops os (ts.map OTe.to) l (kF g) lf (kF gf)
 | [], _, _, _, _, _, _, _, _, _, h, _ => by cases h; exact .nil _ _
 | o :: os, hs, l, lf, g, gf, nx, nf, ps, ts, h, hp => by
  unfold mY at h
  split at h
  ·rename_i hg
   split at h
   ·split at h
    ·rename_i he
     split at h
     ·rename_i hr
      cases h
      rw [List.map_cons]
      refine .cons (k3j hg (u2w rfl _ _ he ((q9 _).2 fun p h => hp p (List.mem_append_left _ h)))) ?_
      have := jM (cx := cx) hr (fun p h => hp p (List.mem_append_right _ h))
      rw [k1c] at this
      exact this
     ·cases h
    ·cases h
   ·cases h
  ·rename_i hg
   split at h
   ·rename_i hr
    cases h
    rw [List.map_cons]
    exact .cons (k5b hg) (jM (cx := cx) hr hp)
   ·cases h
  ·cases h
def k5l (lf : List (Nat × PV)) : List Nat → List (Nat × PV)
 | [] => []
 | t :: ts => match lf.lookup t with
  | some u => (t, u) :: k5l lf ts
  | none => k5l lf ts
theorem rL {lf : List (Nat × PV)} {t : Nat} {u : PV} : ∀ {ts : List Nat}, (k5l lf ts).lookup t = some u → lf.lookup t = some u
 | [], h => by cases h
 | a :: ts, h => by
  unfold k5l at h
  split at h
  ·rename_i v hv
   rw [List.lookup_cons] at h
   split at h
   ·rename_i hb; simp at hb; subst hb; cases h; exact hv
   ·exact rL h
  ·exact rL h
def k5m (gf : EH) : List Nat → EH
 | [] => []
 | t :: ts => match gf.lookup t with
  | some (some u) => (t, some u) :: k5m gf ts
  | _ => k5m gf ts
theorem rM {gf : EH} {t : Nat} {u : EBk} : ∀ {ts : List Nat}, (k5m gf ts).lookup t = some (some u) → gf.lookup t = some (some u)
 | [], h => by cases h
 | a :: ts, h => by
  unfold k5m at h
  split at h
  ·rename_i v hv
   rw [List.lookup_cons] at h
   split at h
   ·rename_i hb; simp at hb; subst hb; cases h; exact hv
   ·exact rM h
  ·exact rM h
theorem Mod.weak {cx : Cx} {n nx : Nat} {l l' : List (Nat × PV)} {g g' : EH} (hl : ∀ t u, l'.lookup t = some u → l.lookup t = some u) (hg : ∀ t u, g'.lookup t = some (some u) → g.lookup t = some (some u)) {a : Act} {w : World} (h : Mod cx n l (kF g) nx a w) : Mod cx n l' (kF g') nx a w := by
 obtain ⟨ρ, h1, h2, h3, h4, h5, h6, h9⟩ := h
 have hgg : ∀ b x, S (kF g') b = some x → S (kF g) b = some x := by
  intro b x hx
  unfold Proofs.YtbicifcgghmhaaaGreat.S at hx ⊢
  rw [gI] at hx ⊢
  cases hb : g'.lookup b with
  | none => rw [hb] at hx; cases hx
  | some o =>
   cases o with
   | none => rw [hb] at hx; cases hx
   | some v => rw [hg b v hb]; rw [hb] at hx; exact hx
 refine ⟨ρ, h1, ⟨fun b T cs hb => h2.row b T cs (hgg b _ hb), fun b b' m m' hb hb' => h2.inj b b' m m' ?_ ?_, fun b m hb => h2.zf b m ?_, h2.zm, h2.zl⟩, ?_, h4, h5, h6, h9⟩
 ·obtain ⟨x, hx⟩ := Option.ne_none_iff_exists'.1 hb; rw [hgg b x hx]; simp
 ·obtain ⟨x, hx⟩ := Option.ne_none_iff_exists'.1 hb'; rw [hgg b' x hx]; simp
 ·obtain ⟨x, hx⟩ := Option.ne_none_iff_exists'.1 hb; rw [hgg b x hx]; simp
 ·intro t
  unfold Proofs.YtbicifcgghmhaaaGreat.S
  cases hb : l'.lookup t with
  | none => exact trivial
  | some u => have := h3 t; rw [nG (hl t u hb)] at this; exact this
def mX (P : Program) (Fn : FnT) (n : Nat) (ops : List Oper) (hs : List H) (l : List (Nat × PV)) (g : EH) (nx : Nat) (live kb : List Nat) : Option (Prop × List (Nat × PV) × EH × Nat) := match s0 ops n with
 | true => match mY P Fn ops ops hs l g nx with
  | some (ps, ts, lf, gf, nf) => match jQ ops (ts.map OTe.to) nx nf with
   | true => some (AllP ps, k5l lf live, k5m gf kb, nf)
   | false => none
  | none => none
 | false => none
theorem AW.rg {cx : Cx} {n id nx nx' : Nat} {draw : Bool} {ops : List Oper} {Q : yT} {l l' : List (Nat × PV)} {g g' : EH} (hs : List H) (live kb : List Nat) {P : Prop} (h : mX Tryz.prog Fun n ops hs l g nx live kb = some (P, l', g', nx')) (hP : P) (hQ : Q .normal ⟨l', kF g', nx'⟩) : AW cx n (.region id ops.toArray draw) Q ⟨l, kF g, nx⟩ := by
 unfold mX at h
 split at h
 ·rename_i hd
  split at h
  ·rename_i hr
   split at h
   ·rename_i hc
    cases h
    intro a w hm
    exact oY (by kernel_rfl) hd (jM (cx := cx) hr ((q9 _).1 hP)) hc (fun a' w' h => ⟨_, hQ, h.weak (fun t u => rL) (fun t u => rM)⟩) hm
   ·cases h
  ·cases h
 ·cases h
theorem tS {cx : Cx} {n id nx nx' : Nat} {draw : Bool} {ops : List Oper} {Q : yT} {c : Code} {l l' : List (Nat × PV)} {g g' : EH} (hs : List H) (live kb : List Nat) {P : Prop} (h : mX Tryz.prog Fun n ops hs l g nx live kb = some (P, l', g', nx')) (hP : P) (hQ : AW cx n c Q ⟨l', kF g', nx'⟩) : AW cx n (.seq (.region id ops.toArray draw) c) Q ⟨l, kF g, nx⟩ :=
 AW.seq (AW.rg hs live kb h hP hQ)
/-! what is the same -/
def eqB (σ : Nat → Nat) : BC → BC → Option (List Prop)
 | .ds x, .ds y => some [x = y]
 | .cs x, .cs y => eqL σ x y
 | _, _ => none
theorem u8s {σ : Nat → Nat} {v v' : BC} {ps : List Prop} (h : eqB σ v v' = some ps) (hp : ∀ p ∈ ps, p) : v.to.map (bF σ) = v'.to := by
 unfold eqB at h
 split at h
 ·cases h
  have e := hp (_ = _) (List.mem_cons_self ..)
  subst e
  show List.map _ (List.map C.d _) = List.map C.d _
  rw [List.map_map]; rfl
 ·exact k0z h hp
 ·cases h
def sg (m : List (Nat × Nat)) (b : Nat) : Nat := match m.lookup b with
 | some c => c
 | none => b
def k1i (σ : Nat → Nat) (nx2 : Nat) (l : List (Nat × PV)) : List (Nat × PV) → Option (List Prop)
 | [] => some []
 | (t, u) :: l2 => match l.lookup t, pH nx2 u with
  | some v, true => xT (u37 σ u v) (k1i σ nx2 l l2)
  | _, _ => none
theorem wA {σ : Nat → Nat} {nx2 : Nat} {l : List (Nat × PV)} : ∀ {l2 : List (Nat × PV)} {ps : List Prop}, k1i σ nx2 l l2 = some ps → (∀ p ∈ ps, p) → RenS σ nx2 l l2
 | [], _, _, _ => trivial
 | (t, u) :: l2, _, h, hp => by
  unfold k1i at h
  split at h
  ·rename_i h1 h2
   obtain ⟨p, q, e1, e2, e3, e4⟩ := fW h hp
   exact ⟨⟨h2, _, yW h1, k2q e1 e3⟩, wA e2 e4⟩
  ·cases h
def v1y (n : Nat) : BC → Bool
 | .ds _ => true
 | .cs l => l.all (fB n)
theorem u26 {n : Nat} {b : BC} (h : v1y n b = true) : b.to.all (fB n) = true := by
 cases b with
 | ds l => show (List.map C.d l).all _ = true; rw [List.all_map]; exact List.all_eq_true.2 fun _ _ => rfl
 | cs l => exact h
def mU (σ : Nat → Nat) (nx2 : Nat) (g : EH) : EH → Option (List Prop)
 | [] => some []
 | (b, some (T, bc)) :: g2 => match Nat.blt b nx2 && (v1y nx2 bc && g2.all fun y => !(σ y.1 == σ b)), g.lookup (σ b) with
  | true, some (some (T', bc')) => match Nat.beq T T' with
   | true => xT (eqB σ bc bc') (mU σ nx2 g g2)
   | false => none
  | _, _ => none
 | (b, none) :: g2 => match g2.all fun y => !(σ y.1 == σ b) with
  | true => mU σ nx2 g g2
  | false => none
theorem RenG.gone {n0 : Nat} {σ : Nat → Nat} {g g2 : List (Nat × Option Bk)} {nx2 b : Nat} (h : RenG n0 σ g g2 nx2) (hi : (g2.all fun y => !(σ y.1 == σ b)) = true) : RenG n0 σ g ((b, none) :: g2) nx2 := by
 rw [List.all_eq_true] at hi
 refine ⟨?_, ?_, h.fix, h.low⟩
 ·intro x hx T' cs' he
  rcases List.mem_cons.1 hx with rfl | hx
  ·cases he
  ·exact h.blk x hx T' cs' he
 ·intro x hx y hy he
  rcases List.mem_cons.1 hx with rfl | hx
  ·rcases List.mem_cons.1 hy with rfl | hy
   ·rfl
   ·have := hi y hy; simp [he] at this
  ·rcases List.mem_cons.1 hy with rfl | hy
   ·have := hi x hx; simp [he] at this
   ·exact h.inj x hx y hy he
theorem rE (p : Nat → Bool) : ∀ g : EH, ((kF g).all fun y => p y.1) = g.all fun y => p y.1
 | [] => rfl
 | x :: g => by show ((x.1, t9 x.2) :: kF g).all _ = _; rw [List.all_cons, List.all_cons, rE p g]
theorem g9 {n0 : Nat} {σ : Nat → Nat} {nx2 : Nat} {g : EH} (hf : ∀ b, b < n0 → σ b = b) (hl : n0 ≤ nx2) : ∀ {g2 : EH} {ps : List Prop}, mU σ nx2 g g2 = some ps → (∀ p ∈ ps, p) → RenG n0 σ (kF g) (kF g2) nx2
 | [], _, _, _ => .base hf hl
 | (b, some (T, bc)) :: g2, _, h, hp => by
  unfold mU at h
  split at h
  ·rename_i h1 h2
   simp only [Bool.and_eq_true] at h1
   obtain ⟨c1, c2, c3⟩ := h1
   split at h
   ·rename_i hT
    have hT := Nat.eq_of_beq_eq_true hT
    subst hT
    obtain ⟨p, q, e1, e2, e3, e4⟩ := fW h hp
    exact .cons (g9 hf hl e2 e4) c1 rfl (uK h2) (u8s e1 e3) (u26 c2) (by rw [rE (fun y => !(σ y == σ b))]; exact c3)
   ·cases h
  ·cases h
 | (b, none) :: g2, _, h, hp => by
  unfold mU at h
  split at h
  ·rename_i h1
   exact (g9 hf hl h hp).gone (by rw [rE (fun y => !(σ y == σ b))]; exact h1)
  ·cases h
structure ES where
 l : List (Nat × PV)
 g : EH
 nx : Nat
def ES.st (s : ES) : St := ⟨s.l, kF s.g, s.nx⟩
def u2o (n0 : Nat) (m : List (Nat × Nat)) : Bool := m.all fun x => Nat.ble n0 x.1
theorem sQ {n0 : Nat} : ∀ {m : List (Nat × Nat)}, u2o n0 m = true → ∀ b, b < n0 → sg m b = b
 | [], _, _, _ => rfl
 | (k, c) :: m, h, b, hb => by
  unfold u2o at h
  rw [List.all_cons, Bool.and_eq_true] at h
  have h1 : n0 ≤ k := Nat.le_of_ble_eq_true h.1
  unfold sg
  rw [List.lookup_cons, show (b == k) = false by simp; omega]
  exact sQ (m := m) h.2 b hb
def k1j (n0 : Nat) (m : List (Nat × Nat)) (l : List (Nat × PV)) (g : EH) (s : ES) : Option Prop := match u2o n0 m && Nat.ble n0 s.nx with
 | true => match xT (k1i (sg m) s.nx l s.l) (mU (sg m) s.nx g s.g) with
  | some ps => some (AllP ps)
  | none => none
 | false => none
theorem wB {n0 : Nat} {m : List (Nat × Nat)} {l : List (Nat × PV)} {g : EH} {nx : Nat} {s : ES} {P : Prop} (h : k1j n0 m l g s = some P) (hP : P) : u0y n0 ⟨l, kF g, nx⟩ s.st := by
 unfold k1j at h
 split at h
 ·rename_i hc
  rw [Bool.and_eq_true] at hc
  split at h
  ·rename_i hb
   cases h
   obtain ⟨p, q, e1, e2, e3, e4⟩ := fW hb ((q9 _).1 hP)
   exact ⟨sg m, wA e1 e3, g9 (sQ hc.1) (Nat.le_of_ble_eq_true hc.2) e2 e4⟩
  ·cases h
 ·cases h
def Rd {α : Type} (n0 : Nat) (I : α → ES) (dec : α → Prop) (s : St) : Prop := ∃ y, u0y n0 s (I y).st ∧ dec y
theorem k8 {α : Type} {cx : Cx} {n nx : Nat} {c : Code} {Q : yT} {l : List (Nat × PV)} {g : EH} (n0 : Nat) (hn : cx.n0 = n0) (I : α → ES) (μ : α → Nat) (x0 : α) (m : List (Nat × Nat)) {P : Prop} (h0 : k1j n0 m l g (I x0) = some P) (hP : P) (round : ∀ x, AW cx n c (g7 (Rd n0 I (fun y => μ y < μ x)) Q) (I x).st) : AW cx n (.loop c) Q ⟨l, kF g, nx⟩ :=
 AW.loop n0 hn (fun x => (I x).st) μ x0 (wB h0 hP) (fun x => (round x).mono fun e s' h => by
  cases e with
  | normal => exact h
  | _ => exact h)
theorem kW {α : Type} {n0 nx : Nat} {I : α → ES} {dec : α → Prop} {l : List (Nat × PV)} {g : EH} (y : α) (m : List (Nat × Nat)) {P : Prop} (h : k1j n0 m l g (I y) = some P) (hP : P) (hd : dec y) : Rd n0 I dec ⟨l, kF g, nx⟩ := ⟨y, wB h hP, hd⟩
/-! results -/
def u78 (P : Program) (l : List (Nat × PV)) (g : EH) : ResultVar → Option E1
 | .tmp t => match l.lookup t with
  | some (.e e) => some e
  | _ => none
 | .cell a ty => match l.lookup a, yY P ty with
  | some (.e (.c (.ptr b off))), some (false, 1) => match g.lookup b with
   | some (some (_, bc)) => match bc.to[off]? with
    | some c => some (.c c)
    | none => none
   | _ => none
  | some (.e (.c (.ptr b off))), some (true, n) => match g.lookup b with
   | some (some (_, bc)) => match Nat.beq ((bc.to.drop off).take n).length n with
    | true => some (.agg ((bc.to.drop off).take n))
    | false => none
   | _ => none
  | _, _ => none
theorem u1n {l : List (Nat × PV)} {g : EH} {r : ResultVar} {e : E1} (h : u78 Tryz.prog l g r = some e) : ResE l (kF g) r e := by
 unfold u78 at h
 split at h
 ·split at h
  ·rename_i hl; cases h; exact .tmp (yW hl)
  ·cases h
 ·split at h
  ·rename_i hl ht
   split at h
   ·rename_i hb
    split at h
    ·rename_i hc; cases h; exact .cell (yW hl) ht (uK hb) hc
    ·cases h
   ·cases h
  ·rename_i hl ht
   split at h
   ·rename_i hb
    split at h
    ·rename_i hc; cases h; exact .agg (yW hl) ht (uK hb) rfl (Nat.eq_of_beq_eq_true hc)
    ·cases h
   ·cases h
  ·cases h
def u1m (P : Program) (l : List (Nat × PV)) (g : EH) : List ResultVar → Option (List E1)
 | [] => some []
 | r :: rs => match u78 P l g r, u1m P l g rs with
  | some e, some es => some (e :: es)
  | _, _ => none
theorem k1m {l : List (Nat × PV)} {g : EH} : ∀ {rs : List ResultVar} {es : List E1}, u1m Tryz.prog l g rs = some es → ResL l (kF g) rs es
 | [], _, h => by cases h; exact .nil
 | r :: rs, _, h => by
  unfold u1m at h
  split at h
  ·rename_i h1 h2; cases h; exact .cons (u1n h1) (k1m h2)
  ·cases h
def v0n (P : Program) (n0 : Nat) (m : List (Nat × Nat)) (rs : List ResultVar) (l : List (Nat × PV)) (g : EH) (y : PV) (g1 : EH) (nx1 : Nat) : Option Prop := match u1m P l g rs, u2o n0 m && (Nat.ble n0 nx1 && pH nx1 y) with
 | some es, true => match xT (u37 (sg m) y (u7f es)) (mU (sg m) nx1 g g1) with
  | some ps => some (AllP ps)
  | none => none
 | _, _ => none
theorem kA {n0 nx nx1 : Nat} {e : Exit} (he : e = .normal ∨ e = .ret) {rs : List ResultVar} {l : List (Nat × PV)} {g g1 : EH} {y : PV} (m : List (Nat × Nat)) {P : Prop} (h : v0n Tryz.prog n0 m rs l g y g1 nx1 = some P) (hP : P) : EndP n0 rs y (kF g1) nx1 e ⟨l, kF g, nx⟩ := by
 unfold v0n at h
 split at h
 ·rename_i h1 hc
  simp only [Bool.and_eq_true] at hc
  obtain ⟨c1, c2, c3⟩ := hc
  split at h
  ·rename_i hb
   cases h
   obtain ⟨p, q, e1, e2, e3, e4⟩ := fW hb ((q9 _).1 hP)
   exact ⟨he, _, sg m, k1m h1, k2q e1 e3, c3, g9 (sQ c1) (Nat.le_of_ble_eq_true c2) e2 e4⟩
  ·cases h
 ·cases h
end Go.Proofs.YtbicifcgghmhaaaGreat
