/- A memory told by names: pointers that are compared and turned, texts behind one's own bytes and out of them, a loop's first rounds. No statement is proved here. -/
import Derived.Test.YtkjmlililpgamaaZAmX
import Derived.Lib.Builder
import Derived.Lib.UnsafeStr
import Derived.Lib.AppendStr
namespace Go.Proofs.Ytkjmlililpgamaa
open Go.ChangeShapes Go.WideShapes Go.ChangeAt Go.RowKit
open Bool renaming and_eq_true → kb2
open List renaming append_assoc → kf0, eq_nil_of_length_eq_zero → kc6, getElem?_map → ke1, length_append → ka5, length_map → kd1, lookup_cons → kc1, map_cons → kd2, map_nil → ke0, map_toArray → kc8, mem_cons_of_mem → ka9, mem_cons_self → ka4, nil_append → kf5, size_toArray → kc3, take_left → kh1
open Nat renaming beq → kd5, ble → kh4, eq_of_beq_eq_true → kb3, le_of_ble_eq_true → ka3, zero_add → kd9, zero_le → ke8
set_option linter.unusedVariables false
set_option linter.unusedSimpArgs false
theorem lK {P : Program} {b : Frame} {a : Act} {k : List Item} {cs : List Frame} {w : World} {c : Code} :
  stepT P (lone (b.at a (.code (.loop c) :: k)) cs w) = (.next (lone (b.at a (.code c :: .inLoop c :: k)) cs w), #[]) := by
 rw [stepT, move_lone]
 simp [runT, lone, Array.swapAt!, stepG, stepG.exec, Frame.at, MemOp.ofEvents]
 intro h
 exact absurd rfl h
theorem u9 {P : Program} {m m1 m2 : Machine} (h1 : step P m = .next m1) (h : Go.Steps P m m2) (hne : m ≠ m2) : Go.Steps P m1 m2 := by
 obtain ⟨n, hn⟩ := h
 cases n with
 | zero => simp [runN] at hn; exact absurd hn hne
 | succ n => simp only [runN, h1] at hn; exact ⟨n, hn⟩
theorem wT {b : Frame} {a a' : Act} {k k' : List Item} {cs : List Frame} {w w' : World} (h : k ≠ k') : lone (b.at a k) cs w ≠ lone (b.at a' k') cs w' := by
 intro e
 simp only [lone, Machine.mk.injEq, Array.mk.injEq, List.cons.injEq, Goroutine.mk.injEq, Frame.at, Frame.mk.injEq] at e
 exact h e.2.1.1.1.2.2.1
theorem dX : ∀ {id : Nat} {k k' : List Item}, exitTo id k = some k' → k'.length < k.length
 | id, [], k', h => by cases h
 | id, x :: k, k', h => by
  have ih : ∀ k', exitTo id k = some k' → k'.length < k.length := fun _ h => dX h
  cases x with
  | inBlock id' =>
   simp only [exitTo] at h
   split at h
   ·cases h; simp
   ·have := ih _ h; simp; omega
  | _ => simp only [exitTo] at h; have := ih _ h; simp; omega
theorem g9 {c : Code} : ∀ (x : Code) {l : Nat} {r : Code}, findLabel x l = some r → r ≠ .loop c := by
 intro x
 induction x with
 | seq a b iha ihb =>
  intro l r h
  simp only [findLabel] at h
  split at h
  ·cases h; intro e; cases e
  ·exact ihb h
 | label l' =>
  intro l r h
  simp only [findLabel] at h
  split at h
  ·cases h; intro e; cases e
  ·cases h
 | _ => intro l r h; simp [findLabel] at h
theorem fI {l : Nat} {c : Code} : ∀ {k k' : List Item}, gotoIn l k = some k' → ∀ y, k' ≠ .code (.loop c) :: y
 | [], k', h => by cases h
 | x :: k, k', h => by
  have ih : ∀ k', gotoIn l k = some k' → ∀ y, k' ≠ .code (.loop c) :: y := fun _ h => fI h
  cases x with
  | inScope body =>
   simp only [gotoIn] at h
   split at h
   ·rename_i hf
    cases h
    intro y e
    simp only [List.cons.injEq, Item.code.injEq] at e
    exact g9 _ hf e.1
   ·exact ih _ h
  | _ => simp only [gotoIn] at h; exact ih _ h
theorem eO {P : Program} {m m1 : Machine} (h1 : stepT P m = (.next m1, #[])) (h : Outgrown P m) : Outgrown P m1 := by
 obtain ⟨n, o, ho, h2, h3⟩ := h
 cases n with
 | zero => simp [runNT] at ho
 | succ n =>
  simp only [runNT, h1] at ho
  exact ⟨n, o, by simpa using ho, h2, h3⟩
theorem f0 {P : Program} {Q : Exit → Act → World → Prop} {a : Act} {w : World} {c : Code} (h : c.wp P (Exit.then ((Code.loop c).wp P Q) Q) a w) : (Code.loop c).wp P Q a w := by
 intro b k cs
 obtain ⟨e, a₁, w₁, hq, harr⟩ := h b (.inLoop c :: k) cs
 cases e with
 | normal =>
  obtain ⟨e₂, a₂, w₂, hq₂, harr₂⟩ := hq b k cs
  refine ⟨e₂, a₂, w₂, hq₂, .of_steps (.one step_loop) ?_⟩
  have h2 : Arrives P (lone (b.at a₁ (.code c :: .inLoop c :: k)) cs w₁) b k cs e₂ a₂ w₂ := by
   cases e₂ with
   | normal => exact u9 step_loop harr₂ (wT (fun e => by have := congrArg List.length e; simp at this))
   | exit id => exact fun k' hk => u9 step_loop (harr₂ k' hk) (wT (fun e => by have := congrArg List.length e; have := dX hk; simp at *; omega))
   | goto l => exact fun k' hk => u9 step_loop (harr₂ k' hk) (wT (fun e => fI hk _ e.symm))
   | ret =>
    obtain ⟨todo, hs⟩ := harr₂
    exact ⟨todo, u9 step_loop hs (by intro e; simp [lone, Frame.at] at e)⟩
   | panic ch =>
    obtain ⟨todo, hs⟩ := harr₂
    exact ⟨todo, u9 step_loop hs (by intro e; simp [lone, Frame.at] at e)⟩
   | outgrown => exact harr₂.imp id (eO lK)
  exact .of_steps (Steps.trans harr (.one step_inLoop)) h2
 | exit id => exact ⟨_, a₁, w₁, hq, .of_steps (.one step_loop) (.pass (x := .inLoop c) rfl (fun _ _ => .inl (by simp)) harr)⟩
 | goto l => exact ⟨_, a₁, w₁, hq, .of_steps (.one step_loop) (.pass (x := .inLoop c) rfl (fun _ _ => .inl (by simp)) harr)⟩
 | ret => exact ⟨_, a₁, w₁, hq, .of_steps (.one step_loop) (.pass (x := .inLoop c) rfl (fun _ _ => .inl (by simp)) harr)⟩
 | panic ch => exact ⟨_, a₁, w₁, hq, .of_steps (.one step_loop) (.pass (x := .inLoop c) rfl (fun _ _ => .inl (by simp)) harr)⟩
 | outgrown => exact ⟨_, a₁, w₁, hq, .of_steps (.one step_loop) (.pass (x := .inLoop c) rfl (fun _ _ => .inl (by simp)) harr)⟩
abbrev gR : Value := .pointer none
def sJ (P : Program) (t : TypeId) : Option TypeId := match P.underlying t with
 | some (.pointer e) => some e
 | _ => none
theorem jN {t e : TypeId} (h : sJ Try.prog t = some e) : Try.prog.underlying t = some (.pointer e) := by
 unfold sJ at h
 split at h
 ·rename_i h1; cases h; exact h1
 ·cases h
theorem eE (w : World) {t e : TypeId} (h : Try.prog.underlying t = some (.pointer e)) : (Op.equal t gR gR).run Try.prog w = .ok true w := by
 have h' : ∀ d : Nat, (Op.equalIn (d + 1) t gR gR).run Try.prog w = .ok true w := fun d => by simp [Op.equalIn, run_underlying h]
 simp [Op.equal, Op.maxDepth, h' 9999]
theorem eD (w : World) {t e : TypeId} (a : Addr) (h : Try.prog.underlying t = some (.pointer e)) : (Op.equal t (.pointer (some a)) gR).run Try.prog w = .ok false w := by
 have h' : ∀ d : Nat, (Op.equalIn (d + 1) t (.pointer (some a)) gR).run Try.prog w = .ok false w := fun d => by simp [Op.equalIn, run_underlying h]
 simp [Op.equal, Op.maxDepth, h' 9999]
theorem eC (w : World) {t e : TypeId} {j : TypeInfo} (a : Addr) (h : Try.prog.underlying t = some (.pointer e)) (hj : Try.prog.info? e = some j) : (Op.equal t (.pointer (some a)) (.pointer (some a))).run Try.prog w = .ok true w := by
 have h' : ∀ d : Nat, (Op.equalIn (d + 1) t (.pointer (some a)) (.pointer (some a))).run Try.prog w = .ok true w := fun d => by
  simp [Op.equalIn, run_underlying h, sizeOf, typeInfo, hj, run_sameAddr_same]
 simp [Op.equal, Op.maxDepth, h' 9999]
section
variable {cx : Cx} {o : Oper} {l : List (Nat × PV)} {g : EH}
theorem rP {g : List (Nat × Option Bk)} {xt yt : TypeId} {x y : Operand} {op : BinOp} {u v : PV} {b r : Bool} (ho : o.op = .binOp op xt x y yt) (hx : Ev l x u) (hy : Ev l y v)
  (hn : ∀ p ρ w v1 v2, RepPV p ρ w u v1 → RepPV p ρ w v v2 → (∃ a c, v1 = .pointer a ∧ v2 = .pointer c) ∧ (Op.equal xt v1 v2).run Try.prog w = .ok b w) (hop : (op = .eql ∧ r = b) ∨ (op = .neq ∧ r = !b)) : OpOK cx o (S l) (S g) ⟨LV (.bool r), [], [], []⟩ :=
 kG fun ρ a w hs => ⟨.bool r, by
  obtain ⟨⟨a1, a2, e1, e2⟩, e3⟩ := hn _ _ _ _ _ (hx.rep hs (by rw [ho]; simp [Op.operands])) (hy.rep hs (by rw [ho]; simp [Op.operands]))
  rw [e1, e2] at e3
  unfold execOp
  rcases hop with ⟨rfl, rfl⟩ | ⟨rfl, rfl⟩
  ·simp only [ho, e1, e2]
   simp [eqGuard, binOp, e3]
  ·simp only [ho, e1, e2]
   simp [eqGuard, binOp, e3], kY rfl⟩
def k2e (P : Program) (e : TypeId) : PV → PV → Option Bool
 | .e (.c (.d (.lit (.pointer none)))), .e (.c (.d (.lit (.pointer none)))) => some true
 | .e (.c (.ptr _ _)), .e (.c (.d (.lit (.pointer none)))) => some false
 | .e (.c (.ptr b off)), .e (.c (.ptr b' off')) => match kd5 b b' && kd5 off off', P.info? e with
  | true, some _ => some true
  | _, _ => none
 | _, _ => none
theorem nO {xt e : TypeId} {u v : PV} {b : Bool} (hu : Try.prog.underlying xt = some (.pointer e)) (h : k2e Try.prog e u v = some b) : ∀ p ρ w v1 v2, RepPV p ρ w u v1 → RepPV p ρ w v v2 → (∃ a c, v1 = .pointer a ∧ v2 = .pointer c) ∧ (Op.equal xt v1 v2).run Try.prog w = .ok b w := by
 intro p ρ w v1 v2 h1 h2
 unfold k2e at h
 split at h
 ·cases h
  rw [kE h1, kE h2]
  exact ⟨⟨_, _, rfl, rfl⟩, eE w hu⟩
 ·cases h
  obtain ⟨m, _, _, e1⟩ := qK h1
  rw [e1, kE h2]
  exact ⟨⟨_, _, rfl, rfl⟩, eD w _ hu⟩
 ·split at h
  ·rename_i hb hj
   cases h
   rw [kb2] at hb
   obtain ⟨rfl, rfl⟩ := And.intro (kb3 hb.1) (kb3 hb.2)
   obtain ⟨m, q1, _, e1⟩ := qK h1
   obtain ⟨m', q2, _, e2⟩ := qK h2
   rw [q1] at q2; cases q2
   rw [e1, e2]
   exact ⟨⟨_, _, rfl, rfl⟩, eC w _ hu hj⟩
  ·cases h
 ·cases h
def tW (P : Program) (op : BinOp) (xt : TypeId) (u v : PV) : R := match sJ P xt with
 | some e => match k2e P e u v, op with
  | some b, .eql => pv (LV (.bool b))
  | some b, .neq => pv (LV (.bool (!b)))
  | _, _ => none
 | none => none
theorem tV {op : BinOp} {xt yt : TypeId} {x y : Operand} (ho : o.op = .binOp op xt x y yt) {u v : PV} (hu : Ev l x u) (hv : Ev l y v) : OKR cx o l g (tW Try.prog op xt u v) := by
 unfold tW
 split
 ·rename_i h1
  split
  ·rename_i h2
   exact OKR.some fun _ => rP ho hu hv (nO (jN h1) h2) (.inl ⟨rfl, rfl⟩)
  ·rename_i h2
   exact OKR.some fun _ => rP ho hu hv (nO (jN h1) h2) (.inr ⟨rfl, rfl⟩)
  ·exact OKR.none
 ·exact OKR.none
theorem oM {T : TypeId} {R : Nat} (hc : 0 < Try.prog.cellsOf T) (hR : Try.prog.cellsOf T ≤ R) (hd : Try.prog.depth ≠ 0) : liesAt Try.prog Try.prog.depth T (R / Try.prog.cellsOf T) 0 T 1 = true := by
 obtain ⟨d, hd⟩ := Nat.exists_eq_succ_of_ne_zero hd
 have h1 : 1 ≤ R / Try.prog.cellsOf T := (Nat.le_div_iff_mul_le hc).2 (by omega)
 rw [hd]
 simp only [liesAt, Bool.or_eq_true]
 left
 rw [hd]
 have h0 : ¬ Try.prog.cellsOf T = 0 := by omega
 simp [rowAt, h0, h1, sameLayout]
theorem k18 {g : List (Nat × Option Bk)} {src dst t T : TypeId} {x : Operand} {b : Nat} {cs : List C} {j : TypeInfo} (ho : o.op = .convert src dst x) (hs' : Try.prog.underlying src = some (.pointer t)) (hd : Try.prog.underlying dst = some .unsafePointer) (ht : Try.prog.info? t = some j) (hj : j.size ≠ 0) (hx : Ev l x (.e (.c (.ptr b 0)))) (hb : Look g b (some (T, cs))) (hcs : 1 ≤ cs.length) :
  OpOK cx o (S l) (S g) ⟨.e (.c (.ptr b 0)), [], [], [b]⟩ :=
 a4 fun ρ a w hL hs hf hh => by
  have hr := hx.rep hs (by rw [ho]; simp [Op.operands])
  obtain ⟨m, hm, hnl, ev⟩ := qK hr
  have hb' : hL b = some (T, cs) := by rw [hf b (by simp), hb.S]
  obtain ⟨vs, rest, ⟨fz, q1, qf⟩, q2, q3⟩ := (hh.at hb' hm hnl).1
  have hshape : w.shape? m.g = some (T, (vs ++ rest).toArray.size) := by unfold World.shape?; rw [q1]
  refine ⟨.pointer (some ⟨m.g, 0, none⟩), ?_, by rw [← ev]; exact hr⟩
  unfold execOp
  simp only [ho, ev, Lib.run_to_unsafe w ⟨m.g, 0, none⟩ hs' hd ht hj hshape (by have := q3.len; simp; omega), Sem.run_bind, Result.andThen_ok, Sem.run_pure]
theorem rN {g : List (Nat × Option Bk)} {src dst T : TypeId} {x : Operand} {b : Nat} {cs : List C} {j : TypeInfo} (ho : o.op = .convert src dst x) (hs' : Try.prog.underlying src = some .unsafePointer) (hd : Try.prog.underlying dst = some (.pointer T)) (ht : Try.prog.info? T = some j) (hx : Ev l x (.e (.c (.ptr b 0)))) (hb : Look g b (some (T, cs))) (hc : 0 < Try.prog.cellsOf T) (hcs : Try.prog.cellsOf T ≤ cs.length) (hdp : Try.prog.depth ≠ 0) :
  OpOK cx o (S l) (S g) ⟨.e (.c (.ptr b 0)), [], [], [b]⟩ :=
 a4 fun ρ a w hL hs hf hh => by
  have hr := hx.rep hs (by rw [ho]; simp [Op.operands])
  obtain ⟨m, hm, hnl, ev⟩ := qK hr
  have hb' : hL b = some (T, cs) := by rw [hf b (by simp), hb.S]
  obtain ⟨vs, rest, ⟨fz, q1, qf⟩, q2, q3⟩ := (hh.at hb' hm hnl).1
  have hshape : w.shape? m.g = some (T, (vs ++ rest).toArray.size) := by unfold World.shape?; rw [q1]
  refine ⟨.pointer (some ⟨m.g, 0, none⟩), ?_, by rw [← ev]; exact hr⟩
  unfold execOp
  simp only [ho, ev, Lib.run_from_unsafe w ⟨m.g, 0, none⟩ hs' hd ht hshape (oM hc (by have := q3.len; simp; omega) hdp), Sem.run_bind, Result.andThen_ok, Sem.run_pure]
def sR (P : Program) (g : EH) (src dst : TypeId) (u : PV) : R := match u with
 | .e (.c (.ptr b 0)) => match g.lookup b with
  | some (some (T, bc)) => match P.underlying src, P.underlying dst with
   | some (.pointer t), some .unsafePointer => match P.info? t with
    | some j => match kd5 j.size 0, kh4 1 bc.to.length with
     | false, true => some ([], ⟨.e (.c (.ptr b 0)), [], [], [b]⟩)
     | _, _ => none
    | none => none
   | some .unsafePointer, some (.pointer t) => match P.info? t, kd5 t T with
    | some _, true => match kh4 1 (P.cellsOf T), kh4 (P.cellsOf T) bc.to.length, kh4 1 P.depth with
     | true, true, true => some ([], ⟨.e (.c (.ptr b 0)), [], [], [b]⟩)
     | _, _, _ => none
    | _, _ => none
   | _, _ => none
  | _ => none
 | _ => none
theorem sQ {src dst : TypeId} {x : Operand} (ho : o.op = .convert src dst x) {u : PV} (hu : Ev l x u) : OKR cx o l g (sR Try.prog g src dst u) := by
 unfold sR
 split
 ·split
  ·rename_i h1
   split
   ·rename_i h2 h3
    split
    ·rename_i h4
     split
     ·rename_i h5 h6
      exact OKR.some fun _ => k18 ho h2 h3 h4 (Nat.ne_of_beq_eq_false h5) hu (kQ h1) (ka3 h6)
     ·exact OKR.none
    ·exact OKR.none
   ·rename_i h2 h3
    split
    ·rename_i h4 h5
     split
     ·rename_i h6 h7 h8
      obtain rfl := kb3 h5
      exact OKR.some fun _ => rN ho h2 h3 h4 hu (kQ h1) (ka3 h6) (ka3 h7) (by have := ka3 h8; omega)
     ·exact OKR.none
    ·exact OKR.none
   ·exact OKR.none
  ·exact OKR.none
 ·exact OKR.none
def dY (P : Program) (h : H) (f : FuncId) (us : Option (List E1)) : R := match h, us with
 | .w, some [.c (.ptr b off)] => aV [∀ (v : Value) (w : World), (callFunc f #[v]).run P w = .ok (.value v) w] (.e (.c (.ptr b off)))
 | _, _ => none
theorem oW {h : H} {f : FuncId} {args : Array Operand} {ts : Array TypeId} {es : List E1} (ho : o.op = .call { callee := .value (.func f), args := args, argTypes := ts }) (hargs : EvA l args.toList es) : OKR cx o l g (dY Try.prog h f (some es)) := by
 unfold dY
 split
 ·rename_i b off hes
  cases hes
  refine OKR.some fun hp => kG fun ρ a w hs => ?_
  have hp : ∀ (v : Value) (w : World), (callFunc f #[v]).run Try.prog w = .ok (.value v) w := hp
  have hav := hargs.rep hs (by intro x hx; rw [ho]; simp only [Op.operands, Call.operands]; simp at hx ⊢; exact .inr hx)
  obtain ⟨vs, hvs⟩ : ∃ vs, args.toList.map a.eval = vs := ⟨_, rfl⟩
  rw [hvs] at hav
  match vs, hav, hvs with
  | [v], hav, hvs =>
   refine ⟨v, ?_, hav.1⟩
   unfold execOp
   simp only [ho, resolve, Act.eval, Deferred.ofValue, Sem.run_bind, Sem.run_pure, Result.andThen_ok, invoke, kc8, Array.empty_append, List.append_toArray, kf5, List.append_nil]
   rw [show args.map a.eval = #[v] by apply Array.ext'; rw [Array.toList_map, hvs]]
   simpa using hp v w
 ·exact OKR.none
theorem vH {t u e : TypeId} {z : Value} {bs : Nat} (hu : Try.prog.underlying t = some (.slice e)) (hsu : Try.prog.underlying u = some .string) (hi : (Try.prog.info? e).map (fun i => (i.zero, i.size, i.bytes)) = some (some z, 1, bs)) (hzs : z.cells.size = 1) {w : World} {v : Value} {n : Nat} {xs : List Value} (hown : OwnM w 0 e 1 v n xs)
  (s : ByteArray) (h63 : n + s.size ≤ maxLen) (hbytes : (n + s.size) * bs ≤ 140737488355328) (ty : TypeId) :
  ∃ v' w', (Builtin.append_ #[t, u] ty #[v, .string s]).run Try.prog w = .ok v' w' ∧ OwnM w' 0 e 1 v' (n + s.size) (xs ++ Lib.strCells s) ∧ w.grownBy w' v.ownBlock ∧ (v'.ownBlock = v.ownBlock ∨ ∀ g, v'.ownBlock = some g → w.heap.size ≤ g) := by
 obtain ⟨i, h2, h3, h4, h5⟩ := info_parts hi
 have hsl := Lib.strCells_length s
 have hlen : (xs ++ Lib.strCells s).length = (n + s.size) * 1 := by rw [ka5, hown.1, hsl]; omega
 have hf := Lib.run_firstCells_string (P := Try.prog) w 1 s
 have hsmall : n + s.size ≤ 9223372036854775807 := by simp only [maxLen] at h63; omega
 rcases hown.2 with ⟨rfl, rfl⟩ | ⟨g, cap, cur, fz, rfl, hbg, hg, hfz, hnc, hcm, hcs, htake⟩
 ·obtain rfl : xs = [] := kc6 (by simpa using hown.1)
  by_cases hm : s.size = 0
  ·have hn : Lib.strCells s = [] := kc6 (by rw [hsl]; exact hm)
   refine ⟨.slice none 0 0, w, ?_, by rw [hm, hn]; exact ⟨rfl, .inl ⟨rfl, rfl⟩⟩, World.grownBy.refl _ _, .inl rfl⟩
   rw [hm] at hf
   simp [Builtin.append_, run_underlying hu, run_underlying hsu, sizeOf, typeInfo, h2, h4, Builtin.lenOf, hm, hf]
  ·have hr := run_append_nil_string (P := Try.prog) w t u ty e i z hu hsu h2 h3 s (by omega) (by omega) (by rw [h5]; have : s.size * bs ≤ (0 + s.size) * bs := Nat.mul_le_mul_right _ (by omega); omega)
   have e1 : (s.data.map fun b => Value.int .u8 b.toNat) = (Lib.strCells s).toArray := by
    apply Array.ext'
    simp [Lib.strCells]
   rw [e1] at hr
   have hge := grownCap_ge w s.size 0 e
   have hcm2 : grownCap w s.size 0 e ≤ maxLen := grownCap_le_maxLen w s.size 0 e (by omega)
   refine ⟨_, _, hr, ⟨hlen, .inr ⟨w.heap.size, _, _, (0, 0), by rw [kd9], ke8 _, heap_alloc_new w.drew _, .inl rfl, by omega, hcm2, ?_, ?_⟩⟩, ⟨rfl, rfl, rfl, by simp, fun k hk _ => Below.heap_alloc w.drew _ k hk⟩, .inr (fun k hk => by simp [Value.ownBlock] at hk; omega)⟩
   ·simp only [Array.size_append, kc3, size_zeroCells, hzs, hsl]
    omega
   ·simp only [Array.toList_append, kf5]
    rw [show (0 + s.size) * 1 = (Lib.strCells s).length by rw [hsl]; omega]
    exact kh1
 ·by_cases hroom : n + s.size ≤ cap
  ·have hfit : n + (Lib.strCells s).length ≤ cur.size := by rw [hsl]; omega
   have hst := qB Try.prog g n e fz (Lib.strCells s) 0 cur w hg hfz (by simpa using hfit) (Lib.strCells_oneCell s)
   simp only [Nat.add_zero] at hst
   have hr : (Builtin.append_ #[t, u] ty #[.slice (some ⟨g, 0, none⟩) n cap, .string s]).run Try.prog w = .ok (.slice (some ⟨g, 0, none⟩) (n + s.size) cap) (w.setRow g (cur.toList.take n ++ Lib.strCells s ++ cur.toList.drop (n + (Lib.strCells s).length)).toArray) := by
    simp [Builtin.append_, run_underlying hu, run_underlying hsu, sizeOf, typeInfo, h2, h4, Builtin.lenOf, hroom, hf, Addr.add_lit, hst]
   have hsz : (cur.toList.take n ++ Lib.strCells s ++ cur.toList.drop (n + (Lib.strCells s).length)).length = cur.size := by
    simp only [ka5, List.length_take, List.length_drop, Array.length_toList]; omega
   refine ⟨_, _, hr, ⟨hlen, .inr ⟨g, cap, _, fz, rfl, hbg, setRow_heap w g cur _ e _ hg, by rw [kc3, hsz]; exact hfz, hroom, hcm, by rw [kc3, hsz]; exact hcs, ?_⟩⟩, ⟨rfl, rfl, rfl, by simp [World.setRow], fun k _ hk => setRow_other w g k _ (fun e => hk (by simp [Value.ownBlock, e]))⟩, .inl rfl⟩
   have ht' : cur.toList.take n = xs := by rw [← htake, Nat.mul_one]
   rw [ht', ← hlen]
   exact kh1
  ·have holds : ∀ j u, xs[j]? = some u → w.cell? ((⟨g, 0, none⟩ : Addr).add j) = some u := hown.cells (g := g) rfl
   have hr := Lib.run_append_grow_string (P := Try.prog) w t u ty e i z hu hsu h2 h3 ⟨g, 0, none⟩ n cap xs (by rw [h4]; exact hown.1) holds s (by omega) (by omega) (growslice_fits (by omega) (by rw [h5]; exact hbytes))
   have hge := grownCap_ge w (n + s.size) cap e
   have hcm2 : grownCap w (n + s.size) cap e ≤ maxLen := grownCap_le_maxLen w (n + s.size) cap e h63
   refine ⟨_, _, hr, ⟨hlen, .inr ⟨w.heap.size, _, _, (0, 0), rfl, ke8 _, heap_alloc_new w.drew _, .inl rfl, hge, hcm2, ?_, ?_⟩⟩, ⟨rfl, rfl, rfl, by simp, fun k hk _ => Below.heap_alloc w.drew _ k hk⟩, .inr (fun k hk => by simp [Value.ownBlock] at hk; omega)⟩
   ·have h6 := hown.1
    simp only [Array.size_append, kc3, size_zeroCells, hzs, hsl]
    omega
   ·simp only [Array.toList_append, kf0]
    rw [← kf0, ← hlen]
    exact kh1
theorem eU {p : Nat → Prop} {ρ : Rh} {w : World} (s : ByteArray) : All2 (RepC p ρ w) ((dI .u8 (yC s)).map .d) (Lib.strCells s) := by
 unfold dI yC Lib.strCells
 refine All2.mk (by simp) ?_
 intro i c v hc hv
 simp only [List.map_map, ke1] at hc hv
 cases hi : s.data.toList[i]? with
 | none => rw [hi] at hc; cases hc
 | some z =>
  rw [hi] at hc hv
  cases hc; cases hv
  exact .d (.lit _ rfl)
theorem eI {g : List (Nat × Option Bk)} {t u e : TypeId} {z : Value} {bs n b nx : Nat} {x y : Operand} {cs : List C} {s : ByteArray} (ho : o.op = .call { callee := .builtin .append, args := #[x, y], argTypes := #[t, u] }) (hu : Try.prog.underlying t = some (.slice e)) (hsu : Try.prog.underlying u = some .string) (hi : (Try.prog.info? e).map (fun i => (i.zero, i.size, i.bytes)) = some (some z, 1, bs)) (hzs : z.cells.size = 1)
  (hx : Ev l x (.e (.c (.own b 0 n 1 true)))) (hb : Look g b (some (e, cs))) (hcl : cs.length = n * 1) (hy : Ev l y (LV (.string s))) (h63 : n + s.size ≤ maxLen) (hbytes : (n + s.size) * bs ≤ 140737488355328) : OpOK cx o (S l) (S g) ⟨.e (.c (.own nx 0 (n + s.size) 1 true)), [(b, none), (nx, some (e, cs ++ (dI .u8 (yC s)).map .d))], [nx], [b]⟩ := by
 intro Q ρ a w hL hs hf hnews hh hk hdf K hK
 have e2 := kE (hy.rep hs (by rw [ho]; simp [Op.operands, Call.operands]))
 have hrep := hx.rep hs (by rw [ho]; simp [Op.operands, Call.operands])
 have hb' : hL b = some (e, cs) := by rw [hf b (by simp), hb.S]
 obtain ⟨vx, e1⟩ : ∃ vx, a.eval x = vx := ⟨_, rfl⟩
 rw [e1] at hrep
 have hfirst : ∃ xs : List Value, OwnM w 0 e 1 vx n xs ∧ All2 (RepC cx.p ρ w) cs xs ∧ ρ b ≠ none ∧ ∀ g', vx.ownBlock = some g' → (cx.may g' ∧ ¬ ρ.z g') ∧ ∀ x' m', x' ≠ b → hL x' ≠ none → ρ x' = some m' → m'.nl = false → m'.g ≠ g' := by
  have hrep' : RepC cx.p ρ w (.own b 0 n 1 true) vx := hrep
  cases hrep' with
  | own _ _ _ _ _ mm cap hm hnl q1 q2 q3 =>
   obtain ⟨⟨vs, rest, ⟨fz, r1, rf⟩, r2, r3⟩, r4⟩ := hh.at hb' hm hnl
   obtain ⟨_, q4⟩ := q3 rfl
   have hvl : vs.length = n * 1 := by rw [← r3.len]; exact hcl
   refine ⟨vs, ⟨hvl, .inr ⟨mm.g, cap, (vs ++ rest).toArray, fz, rfl, ke8 _, r1, by rw [kc3]; exact rf, q1, q2, by rw [kc3, r2]; exact q4.symm, by simp [hvl]⟩⟩, r3, by rw [hm]; simp, ?_⟩
   intro g' hg'
   have : mm.g = g' := by simpa [Value.ownBlock] using hg'
   subst this
   refine ⟨⟨r4, hh.zf b mm (by rw [hb']; simp) hm hnl⟩, fun x' m' hx' h8 h9 h10 h11 => ?_⟩
   exact hx' (hh.inj x' b m' mm h8 (by rw [hb']; simp) h9 hm h10 hnl h11)
  | ownn _ _ mm hm hnl =>
   have hc0 : cs = [] := kc6 (by rw [hcl])
   subst hc0
   exact ⟨[], ⟨by simp, .inl ⟨rfl, rfl⟩⟩, trivial, by rw [hm]; simp, fun g' hg' => by cases hg'⟩
 obtain ⟨xs, hown, hxs, hbn, hfr⟩ := hfirst
 obtain ⟨v', w', hr, q1, q2, q3⟩ := vH hu hsu hi hzs hown s h63 hbytes o.type
 have hbnx : b ≠ nx := fun e => hbn (by rw [e]; exact hnews nx (by simp))
 have hlkb : ∀ x', ([(b, none)] : List (Nat × Option Bk)).lookup x' = if x' = b then some none else none := by
  intro x'
  by_cases hx' : x' = b
  ·subst hx'; simp
  ·simp [kc1, show (x' == b) = false by simpa using hx', hx']
 obtain ⟨ρ', p1, p2, p3, p4, p5⟩ := hh.regrow hk (hnews nx (by simp)) (kill := [(b, none)]) (fun x' => by rw [hlkb]; by_cases h : x' = b <;> simp [h]) (by rw [hlkb, if_neg (Ne.symm hbnx)]) q1 q2 q3 (fun g' hg' => ⟨(hfr g' hg').1.1, fun x' m' h8 h9 h10 => by
  rw [hlkb] at h8
  by_cases h : x' = b
  ·rw [if_pos h] at h8; exact absurd rfl h8
  ·rw [if_neg h] at h8; exact (hfr g' hg').2 x' m' h h8 h9 h10⟩) (All2.app hxs (eU s)) (fun g' hg' => (hfr g' hg').1.2)
 unfold Oper.wp execOp
 simp only [ho, resolve, invoke, builtin, Sem.run_bind, Sem.run_pure, Result.andThen_ok, kc8, kd2, ke0, e1, e2, hr]
 exact hK v' w' ρ' p1 (fun b hb hn => p2 b (by simpa using hb) hn) p3 p4 p5
theorem dK {g : List (Nat × Option Bk)} {t u e : TypeId} {z : Value} {bs nx : Nat} {x y : Operand} {s : ByteArray} (ho : o.op = .call { callee := .builtin .append, args := #[x, y], argTypes := #[t, u] }) (hu : Try.prog.underlying t = some (.slice e)) (hsu : Try.prog.underlying u = some .string) (hi : (Try.prog.info? e).map (fun i => (i.zero, i.size, i.bytes)) = some (some z, 1, bs)) (hzs : z.cells.size = 1)
  (hx : Ev l x (LV vB)) (hy : Ev l y (LV (.string s))) (h63 : s.size ≤ maxLen) (hbytes : s.size * bs ≤ 140737488355328) : OpOK cx o (S l) (S g) ⟨.e (.c (.own nx 0 s.size 1 true)), [(nx, some (e, (dI .u8 (yC s)).map .d))], [nx], []⟩ := by
 intro Q ρ a w hL hs hf hnews hh hk hdf K hK
 have e2 := kE (hy.rep hs (by rw [ho]; simp [Op.operands, Call.operands]))
 have e1 := kE (hx.rep hs (by rw [ho]; simp [Op.operands, Call.operands]))
 obtain ⟨v', w', hr, q1, q2, q3⟩ := vH (w := w) (v := vB) (n := 0) (xs := []) hu hsu hi hzs ⟨rfl, .inl ⟨rfl, rfl⟩⟩ s (by omega) (by rw [kd9]; exact hbytes) o.type
 rw [kd9, kf5] at q1
 obtain ⟨ρ', p1, p2, p3, p4, p5⟩ := hh.regrow hk (hnews nx (by simp)) (kill := []) (fun x => .inl rfl) rfl q1 q2 q3 (fun g h => by cases h) (eU s) (fun g h => by cases h)
 unfold Oper.wp execOp
 simp only [ho, resolve, invoke, builtin, Sem.run_bind, Sem.run_pure, Result.andThen_ok, kc8, kd2, ke0, e1, e2, hr]
 exact hK v' w' ρ' p1 (fun b hb hn => p2 b (by simpa using hb) hn) p3 p4 p5
def wF (P : Program) (h : H) (g : EH) (nx : Nat) (t tn : TypeId) : PV → PV → R
 | u, .e (.c (.d (.lit (.string s)))) => match P.underlying t, P.underlying tn, h with
  | some (.slice e), some .string, .ap none n' r => match jY P e with
   | some (z, 1, bs) => match kd5 z.cells.size 1 && kh4 1 bs, u with
    | true, .e (.c (.own b 0 n 1 true)) => match g.lookup b with
     | some (some (T, .ds l)) => match kd5 T e with
      | true => some ([l.length = n, (n + s.size) * bs ≤ 140737488355328, n + s.size = n', l ++ dI .u8 (yC s) = r], ⟨.e (.c (.own nx 0 n' 1 true)), [(b, none), (nx, some (e, .ds r))], [nx], [b]⟩)
      | false => none
     | _ => none
    | true, .e (.c (.d (.lit (.slice none 0 0)))) => some ([s.size * bs ≤ 140737488355328, s.size = n', dI .u8 (yC s) = r], ⟨.e (.c (.own nx 0 n' 1 true)), [(nx, some (e, .ds r))], [nx], []⟩)
    | _, _ => none
   | _ => none
  | _, _, _ => none
 | _, _ => none
theorem wE {h : H} {nx : Nat} {t tn : TypeId} {x y : Operand} (ho : o.op = .call { callee := .builtin .append, args := #[x, y], argTypes := #[t, tn] }) {u v : PV} (hu : Ev l x u) (hv : Ev l y v) : OKR cx o l g (wF Try.prog h g nx t tn u v) := by
 unfold wF
 split
 ·split
  ·rename_i h1 h2
   split
   ·rename_i h3
    split
    ·rename_i h4
     rw [kb2] at h4
     have h5 := kb3 h4.1
     have h6 := ka3 h4.2
     split
     ·rename_i h7
      split
      ·rename_i h8
       obtain rfl := kb3 h8
       refine OKR.some fun hp => ?_
       have hp := (kI _).1 hp
       have p1 := hp (_ = _) (ka4 ..)
       have p2 := hp (_ ≤ _) (ka9 _ (ka4 ..))
       have p3 := hp (_ = _) (ka9 _ (ka9 _ (ka4 ..)))
       have p4 := hp (_ = _) (ka9 _ (ka9 _ (ka9 _ (ka4 ..))))
       subst p3
       have hq := eI (cx := cx) (g := kC g) (nx := nx) ho h1 h2 (u3 h3) h5 hu (kQ h7) (by show (List.map C.d _).length = _; rw [kd1, Nat.mul_one]; exact p1) hv (yH p2 h6) p2
       subst p4
       have e1 : ∀ (l d : List D), BC.to (.ds l) ++ d.map .d = BC.to (.ds (l ++ d)) := fun l d => List.map_append.symm
       rw [e1] at hq
       exact hq
      ·exact OKR.none
     ·exact OKR.none
    ·rename_i h4
     rw [kb2] at h4
     have h5 := kb3 h4.1
     have h6 := ka3 h4.2
     refine OKR.some fun hp => ?_
     have hp := (kI _).1 hp
     have p2 := hp (_ ≤ _) (ka4 ..)
     have p3 := hp (_ = _) (ka9 _ (ka4 ..))
     have p4 := hp (_ = _) (ka9 _ (ka9 _ (ka4 ..)))
     subst p3
     subst p4
     exact dK (g := kC g) (nx := nx) ho h1 h2 (u3 h3) h5 hu hv (yH p2 h6) p2
    ·exact OKR.none
   ·exact OKR.none
  ·exact OKR.none
 ·exact OKR.none
def k1y : PV → R
 | .e (.c (.own b 0 n 1 true)) => aV [1 ≤ n] (.e (.c (.ptr b 0)))
 | .e (.c (.d (.lit (.slice none 0 0)))) => pv (LV gR)
 | _ => none
theorem zT {x : Operand} {st : TypeId} (ho : o.op = .call { callee := .builtin .unsafeSliceData, args := #[x], argTypes := #[st] }) {u : PV} (hu : Ev l x u) : OKR cx o l g (k1y u) := by
 unfold k1y
 split
 ·refine OKR.some fun hp => kG fun ρ a w hs => ?_
  have hn : 1 ≤ _ := hp
  obtain ⟨m, cap, hm, hnl, ev, h3, h4, h5⟩ := uP (by omega) (hu.rep hs (by rw [ho]; simp [Op.operands, Call.operands]))
  refine ⟨.pointer (some ⟨m.g, 0, none⟩), ?_, .ptr _ 0 m hm hnl⟩
  unfold execOp
  simp only [ho, resolve, invoke, builtin, Sem.run_bind, Sem.run_pure, Result.andThen_ok, kc8, kd2, ke0, ev, Lib.run_unsafeSliceData_row w _ _ ⟨m.g, 0, none⟩ _ cap (by omega)]
 ·refine OKR.some fun hp => kG fun ρ a w hs => ?_
  have ev := kE (hu.rep hs (by rw [ho]; simp [Op.operands, Call.operands]))
  refine ⟨gR, ?_, kY rfl⟩
  unfold execOp
  simp only [ho, resolve, invoke, builtin, Sem.run_bind, Sem.run_pure, Result.andThen_ok, kc8, kd2, ke0, ev, Lib.run_unsafeSliceData_nil w]
 ·exact OKR.none
theorem vP {P : Program} (w : World) : ∀ (l : List Int) (a : Addr) (acc : ByteArray), (∀ j x, l[j]? = some x → w.cell? (a.add j) = some (.int .u8 x)) →
  (loadBytes a acc l.length).run P w = .ok ⟨acc.data ++ (l.map fun n => UInt8.ofNat n.toNat).toArray⟩ w
 | [], a, acc, _ => by simp [loadBytes]
 | x :: l, a, acc, h => by
  have h0 : w.cell? a = some (.int .u8 x) := by
   have := h 0 x rfl
   simpa [Addr.add] using this
  have ih := vP (P := P) w l (a.add 1) (acc.push x.toNat.toUInt8) (fun j y hy => by
   have := h (j + 1) y (by simpa using hy)
   have e : (a.add 1).add j = a.add (j + 1) := by
    unfold Addr.add
    by_cases hj : j = 0
    ·subst hj; simp
    ·simp [hj]; omega
   rw [e]; exact this)
  simp only [List.length_cons, loadBytes, Sem.run_bind, run_load, h0, Result.andThen]
  rw [ih]
  congr 1
  apply ByteArray.ext
  simp [ByteArray.push]
theorem jR (w : World) (g k : Nat) : Only g w (w.freeze ⟨g, 0, none⟩ k) := by
 unfold World.freeze
 split
 ·exact Only.refl g w
 ·refine ⟨rfl, rfl, rfl, by simp, fun j hj hne => ?_⟩
  show (w.heap.modify g _)[j]? = _
  rw [Array.getElem?_modify, if_neg (fun e => hne e.symm)]
theorem HRep.kill {ρ : Rh} {w w' : World} {h : Hp} (hh : HRep cx ρ w h) (hk : Kept cx.W cx.may w) {b : Nat} {m : Nm} {T : TypeId} {cs : List C} (hb : h b = some (T, cs)) (hm : ρ b = some m) (hnl : m.nl = false) (ho : Only m.g w w') :
  Goes cx.p ρ ρ w w' ∧ HRep cx ρ w' (fun x => (([(b, none)] : List (Nat × Option Bk)).lookup x).getD (h x)) ∧ Kept cx.W cx.may w' := by
 have h4 := (hh.at hb hm hnl).2
 have hgo : Goes cx.p ρ ρ w w' := ⟨fun _ _ h => h, fun _ h => h, ho.size, fun k hp hlt => ho.block k hlt (fun e => hp.elim (fun hp => cx.pm k hp (e ▸ h4)) (fun hz => hh.zf b m (by rw [hb]; simp) hm hnl (e ▸ hz)))⟩
 refine ⟨hgo, hh.step hgo ?_, hk.below ho.os ho.tape ho.output ho.size (fun k hk' hnm => ho.block k (Nat.lt_of_lt_of_le hk' hk.size) (fun e => hnm (e ▸ h4)))⟩
 intro x T' cs'' hx
 by_cases hxb : x = b
 ·subst hxb
  simp at hx
 ·left
  have hx' : h x = some (T', cs'') := by simpa [kc1, show (x == b) = false by simpa using hxb] using hx
  refine ⟨hx', fun m' hm' hnl' => ?_⟩
  exact ho.block _ (hh.at hx' hm' hnl').1.lt (fun e => hxb (hh.inj x b _ _ (by rw [hx']; simp) (by rw [hb]; simp) hm' hm hnl' hnl e))
theorem k3l {g : List (Nat × Option Bk)} {pt it T : TypeId} {x y : Operand} {b : Nat} {n : Int} {ls : List Int} (ho : o.op = .call { callee := .builtin .unsafeString, args := #[x, y], argTypes := #[pt, it] }) (hp : Try.prog.underlying pt = some (.pointer T)) (hc : Try.prog.cellsOf T = 1) (hx : Ev l x (.e (.c (.ptr b 0)))) (hy : Ev l y (LV (.int .i64 n)))
  (hb : Look g b (some (T, (dI .u8 ls).map .d))) (hn : n = (ls.length : Int)) (h0 : 1 ≤ ls.length) (h63 : ls.length ≤ 9223372036854775807) : OpOK cx o (S l) (S g) ⟨LV (.string (strOfNums ls)), [(b, none)], [], [b]⟩ := by
 intro Q ρ a w hL hs hfoot _ hh hk hdf K hK
 obtain ⟨m, hm, hnl, e1⟩ := qK (hx.rep hs (by rw [ho]; simp [Op.operands, Call.operands]))
 have e2 := kE (hy.rep hs (by rw [ho]; simp [Op.operands, Call.operands]))
 subst hn
 have hb' : hL b = some (T, (dI .u8 ls).map .d) := by rw [hfoot b (by simp), hb.S]
 obtain ⟨vs, rest, ⟨fz, q1, qf⟩, q2, q3⟩ := (hh.at hb' hm hnl).1
 obtain rfl := d3 q3
 have hcell : ∀ j x, ls[j]? = some x → w.cell? ((⟨m.g, 0, none⟩ : Addr).add j) = some (.int .u8 x) := by
  intro j x hj
  have hadd : (⟨m.g, 0, none⟩ : Addr).add j = ⟨m.g, j, none⟩ := by unfold Addr.add; split <;> simp_all
  have hjl := (List.getElem?_eq_some_iff.1 hj).1
  rw [hadd, cell_of_row w m.g j _ T fz q1]
  rw [List.getElem?_toArray, List.getElem?_append_left (by rw [kd1]; exact hjl), ke1, hj]; rfl
 have hshape : w.shape? m.g = some (T, (ls.map (Value.int .u8) ++ rest).toArray.size) := by unfold World.shape?; rw [q1]
 have hlb := vP (P := Try.prog) w ls ⟨m.g, 0, none⟩ .empty hcell
 have hlies := Lib.liesAt_bytes (P := Try.prog) hc ((ls.map (Value.int .u8) ++ rest).toArray.size / Try.prog.cellsOf T) ls.length (by rw [hc]; simp)
 have hr : (Builtin.unsafeString_ #[pt, it] o.type #[.pointer (some ⟨m.g, 0, none⟩), .int .i64 ls.length]).run Try.prog w = .ok (.string (strOfNums ls)) (w.freeze ⟨m.g, 0, none⟩ ls.length) := by
  have hl : ls.length ≠ 0 := by omega
  have h63' : ¬ (9223372036854775807 : Int) < (ls.length : Int) := by omega
  have hdef : Builtin.unsafeString_ #[pt, it] o.type #[.pointer (some ⟨m.g, 0, none⟩), .int .i64 ls.length] =
    (do
     let n ← asInt (.int .i64 ls.length)
     if n < 0 then runtimePanic (.error "unsafe.String: len out of range")
     if n > IntKind.i64.max then unsupported (.unsafePointer "String: a length above the largest int")
     if n = 0 then pure (.string .empty)
     else if ← variablesAt ⟨m.g, 0, none⟩ (← elemOf pt) n.toNat then do
      let s ← loadBytes ⟨m.g, 0, none⟩ .empty n.toNat
      freeze ⟨m.g, 0, none⟩ n.toNat
      pure (.string s)
     else unsupported (.unsafePointer "String: not so many bytes at ptr")) := rfl
  rw [hdef]
  have hmax : IntKind.i64.max = 9223372036854775807 := rfl
  have hneg : ¬ (ls.length : Int) < 0 := by omega
  have hl2 : ls ≠ [] := by intro e; rw [e] at hl; exact hl rfl
  simp [asInt, asIntOf, hmax, h63', hneg, hl, hl2, variablesAt, hshape, elemOf, run_underlying hp, hlb]
  simp at hlies
  simp [hlies]
  rfl
 obtain ⟨p1, p2, p3⟩ := HRep.kill hh hk hb' hm hnl (jR w m.g ls.length)
 unfold Oper.wp execOp
 simp only [ho, resolve, invoke, builtin, Sem.run_bind, Sem.run_pure, Result.andThen_ok, kc8, kd2, ke0, e1, e2, hr]
 exact hK _ _ ρ p1 (fun _ _ h => h) p2 p3 (kY rfl)
theorem k17 {g : List (Nat × Option Bk)} {pt it : TypeId} {x y : Operand} (ho : o.op = .call { callee := .builtin .unsafeString, args := #[x, y], argTypes := #[pt, it] }) (hx : Ev l x (LV gR)) (hy : Ev l y (LV (.int .i64 0))) : OpOK cx o (S l) (S g) ⟨LV (.string (strOfNums [])), [], [], []⟩ :=
 kG fun ρ a w hs => by
  have e1 := kE (hx.rep hs (by rw [ho]; simp [Op.operands, Call.operands]))
  have e2 := kE (hy.rep hs (by rw [ho]; simp [Op.operands, Call.operands]))
  refine ⟨_, ?_, kY rfl⟩
  unfold execOp
  simp only [ho, resolve, invoke, builtin, Sem.run_bind, Sem.run_pure, Result.andThen_ok, kc8, kd2, ke0, e1, e2, Lib.run_unsafeString_none w pt it o.type none]
  rfl
def k1v (P : Program) (h : H) (g : EH) (pt : TypeId) (u v : PV) : R := match u, v with
 | .e (.c (.ptr b 0)), .e (.c (.d (.lit (.int .i64 n)))) => match h, P.underlying pt, g.lookup b with
  | .st none ls, some (.pointer T), some (some (T', .ds l)) => match kd5 T T' && kd5 (P.cellsOf T) 1 with
   | true => some ([l = dI .u8 ls, n = (ls.length : Int), 1 ≤ ls.length, ls.length ≤ 9223372036854775807], ⟨LV (.string (strOfNums ls)), [(b, none)], [], [b]⟩)
   | false => none
  | _, _, _ => none
 | .e (.c (.d (.lit (.pointer none)))), .e (.c (.d (.lit (.int .i64 n)))) => aV [n = 0] (LV (.string (strOfNums [])))
 | _, _ => none
theorem zP {h : H} {pt it : TypeId} {x y : Operand} (ho : o.op = .call { callee := .builtin .unsafeString, args := #[x, y], argTypes := #[pt, it] }) {u v : PV} (hu : Ev l x u) (hv : Ev l y v) : OKR cx o l g (k1v Try.prog h g pt u v) := by
 unfold k1v
 split
 ·split
  ·rename_i h1 h2
   split
   ·rename_i h3
    rw [kb2] at h3
    obtain rfl := kb3 h3.1
    have h4 := kb3 h3.2
    refine OKR.some fun hp => ?_
    have hp := (kI _).1 hp
    have p1 := hp (_ = _) (ka4 ..)
    have p2 := hp (_ = _) (ka9 _ (ka4 ..))
    have p3 := hp (1 ≤ _) (ka9 _ (ka9 _ (ka4 ..)))
    have p4 := hp (_ ≤ 9223372036854775807) (ka9 _ (ka9 _ (ka9 _ (ka4 ..))))
    subst p1
    exact k3l ho h1 h4 hu hv (kQ h2) p2 p3 p4
   ·exact OKR.none
  ·exact OKR.none
 ·refine OKR.some fun hp => ?_
  have hp : _ = (0 : Int) := hp
  subst hp
  exact k17 ho hu hv
 ·exact OKR.none
def AWp (cx : Cx) (n : Nat) (c : Code) (Q : qS) : Nat → St → Prop
 | 0, s => AW cx n (.loop c) Q s
 | k + 1, s => AW cx n c (c4 (AWp cx n c Q k) Q) s
theorem AWp.s {cx : Cx} {n : Nat} {c : Code} {Q : qS} {k : Nat} {s : St} (h : AW cx n c (c4 (AWp cx n c Q k) Q) s) : AWp cx n c Q (k + 1) s := h
theorem AWp.z {cx : Cx} {n : Nat} {c : Code} {Q : qS} {s : St} (h : AW cx n (.loop c) Q s) : AWp cx n c Q 0 s := h
theorem AWp.ok {cx : Cx} {n : Nat} {c : Code} {Q : qS} : ∀ {k : Nat} {s : St}, AWp cx n c Q k s → AW cx n (.loop c) Q s
 | 0, _, h => h
 | k + 1, s, h => fun a w hm => by
  refine f0 (wp_mono (h a w hm) ?_)
  rintro e a' w' ⟨s', h1, h2⟩
  cases e with
  | normal => exact AWp.ok (k := k) h1 a' w' h2
  | _ => exact ⟨s', h1, h2⟩
end
end Go.Proofs.Ytkjmlililpgamaa
