/- Merged texts. -/
import Derived.Test.YtalbpleglapihaaZAmS
import Derived.Laws.Strings3
import Derived.Laws.IdiomStrings
import Derived.Lib.Builder
import Derived.Lib.UnsafeStr
import Derived.Lib.AppendStr
import Derived.Test.YtalbpleglapihaaZAmI
import Derived.Test.YtalbpleglapihaaZAmL
import Derived.Test.YtalbpleglapihaaZAmT
namespace Go.Proofs.Ytalbpleglapihaa
open Go.ChangeShapes Go.WideShapes Go.ChangeAt Go.RowKit
set_option linter.unusedVariables false
set_option linter.unusedSimpArgs false
section
variable {cx : Cx} {o : Oper} {l : List (Nat × PV)} {g : EH}
def t1 (P : Program) (h : H) (st : TypeId) : PV → R
 | .e (.c (.d (.lit (.string s)))) => match rO P st, h with
  | true, .i z => jP [((s.size : Nat) : Int) = z] (LV (.int .i64 z))
  | _, _ => none
 | _ => none
theorem z5 {h : H} {x : Operand} {st : TypeId} (ho : o.op = .call { callee := .builtin .len, args := #[x], argTypes := #[st] }) {u : PV} (hu : Ev l x u) : OKR cx o l g (t1 Try.prog h st u) := by
 unfold t1
 split
 ·split
  ·rename_i hq
   refine OKR.some fun hp => qA fun ρ a w hs => ?_
   have hq := i4 hq
   have e := kZ (hu.rep hs (by rw [ho]; simp [Op.operands, Call.operands]))
   have hp := (qD _).1 hp _ (List.mem_cons_self ..)
   subst hp
   exact ⟨_, by unfold execOp; simp [ho, resolve, invoke, builtin, e, run_len_string, hq, goInt], uG rfl⟩
  ·exact OKR.none
 ·exact OKR.none
def k8c (P : Program) (h : H) (l : List (Nat × PV)) (t : TypeId) (lo hi mx : Option Operand) : PV → R := fun _ => none
theorem k31 {h : H} {t : TypeId} {x : Operand} {lo hi mx : Option Operand} (ho : o.op = .slice t x lo hi mx) {u : PV} (hu : Ev l x u) : OKR cx o l g (k8c Try.prog h l t lo hi mx u) := OKR.none
def k8h (P : Program) (op : BinOp) (h : H) : PV → PV → R := fun _ _ => none
theorem k3v {op : BinOp} {h : H} {xt yt : TypeId} {x y : Operand} (ho : o.op = .binOp op xt x y yt) {u v : PV} (hu : Ev l x u) (hv : Ev l y v) : OKR cx o l g (k8h Try.prog op h u v) := OKR.none
def cM (s : ByteArray) : List Int := s.data.toList.map fun b => (b.toNat : Int)
theorem k9q {g : List (Nat × Option Bk)} {src dst e : TypeId} {x : Operand} {s : ByteArray} {ls : List Int} {n nx : Nat} (ho : o.op = .convert src dst x) (hs' : Try.prog.underlying src = some .string) (hd : Try.prog.underlying dst = some (.slice e)) (he : Try.prog.underlying e = some (.int .u8)) (hx : Ev l x (LV (.string s))) (hn : cM s = ls) (hl : ls.length = n) (h63 : n ≤ maxLen) :
  OpOK cx o (S l) (S g) ⟨.e (.c (.own nx 0 n 1 true)), [(nx, some (e, (dI .u8 ls).map .d))], [nx], []⟩ := by
 intro Q ρ a w hL hs hf hnews hh hk hdf K hK
 have e1 := kZ (hx.rep hs (by rw [ho]; simp [Op.operands]))
 have hr := run_bytes_of_string (P := Try.prog) w src dst e s hs' hd he
 have hsz : s.size = n := by rw [← hl, ← hn]; unfold cM; rw [List.length_map, Array.length_toList]; rfl
 have hcells : (s.data.map (fun b => Value.int .u8 (b.toNat : Int))).toList = ls.map (Value.int .u8) := by
  rw [← hn]; unfold cM; simp [Function.comp_def]
 have hge := grownCap_ge w s.size 0 e
 have hcm := grownCap_le_maxLen w s.size 0 e (by rw [hsz]; exact h63)
 have q1 : OwnM (w.drew.alloc (.cells (bytesRow s (grownCap w s.size 0 e)) e ((bytesRow s (grownCap w s.size 0 e)).size, (bytesRow s (grownCap w s.size 0 e)).size + 1))) 0 e 1 (.slice (some ⟨w.heap.size, 0, none⟩) s.size (grownCap w s.size 0 e)) n (ls.map (Value.int .u8)) := by
  refine ⟨by simp [hl], .inr ⟨w.heap.size, _, _, _, by rw [hsz], Nat.zero_le _, heap_alloc_new w.drew _, .inr (Nat.le_refl _), by omega, hcm, ?_, ?_⟩⟩
  ·unfold bytesRow; rw [Array.size_append, Array.size_map, Array.size_replicate, Nat.mul_one]; have h9 : s.data.size = s.size := rfl; omega
  ·unfold bytesRow
   rw [Array.toList_append, hcells, Nat.mul_one, List.take_append_of_le_length (by simp [hl]), List.take_of_length_le (by simp [hl])]
 have q2 : w.grownBy (w.drew.alloc (.cells (bytesRow s (grownCap w s.size 0 e)) e ((bytesRow s (grownCap w s.size 0 e)).size, (bytesRow s (grownCap w s.size 0 e)).size + 1))) (Value.ownBlock aB) := ⟨rfl, rfl, rfl, by simp, fun k hk _ => Below.heap_alloc w.drew _ k hk⟩
 have h2 : All2 (RepC cx.p ρ w) ((dI .u8 ls).map .d) (ls.map (Value.int .u8)) := by
  unfold dI
  refine All2.mk (by simp) ?_
  intro i c v hc hv
  simp only [List.map_map, List.getElem?_map] at hc hv
  cases hi : ls[i]? with
  | none => rw [hi] at hc; cases hc
  | some z =>
   rw [hi] at hc hv
   cases hc; cases hv
   exact .d (.lit _ rfl)
 obtain ⟨ρ', p1, p2, p3, p4, p5⟩ := hh.regrow hk (hnews nx (by simp)) (kill := []) (fun x => .inl rfl) rfl q1 q2 (.inr (fun g hg => by simp [Value.ownBlock] at hg; omega)) (fun g h => by cases h) h2 (fun g h => by cases h)
 unfold Oper.wp execOp
 simp only [ho, Sem.run_bind, Sem.run_pure, Result.andThen_ok, e1, hr]
 exact hK _ _ ρ' p1 (fun b hb hn => p2 b (by simpa using hb) hn) p3 p4 p5
def k3z (P : Program) (h : H) (nx : Nat) (src dst : TypeId) (u : PV) : R := match u with
 | .e (.c (.d (.lit (.string s)))) => match rO P src, P.underlying dst, h with
  | true, some (.slice e), .st none ls => match zX P e with
   | true => some ([cM s = ls, ls.length ≤ 9223372036854775807], ⟨.e (.c (.own nx 0 ls.length 1 true)), [(nx, some (e, .ds (dI .u8 ls)))], [nx], []⟩)
   | false => none
  | true, some (.slice e), .mk n _ _ => none
  | _, _, _ => none
 | _ => none
theorem k3y {h : H} {nx : Nat} {src dst : TypeId} {x : Operand} (ho : o.op = .convert src dst x) {u : PV} (hu : Ev l x u) : OKR cx o l g (k3z Try.prog h nx src dst u) := by
 unfold k3z
 split
 ·split
  ·rename_i h1 h2
   split
   ·rename_i h3
    refine OKR.some fun hp => ?_
    have hp := (qD _).1 hp
    have hp1 : cM _ = _ := hp _ (List.mem_cons_self ..)
    have hp2 : _ ≤ _ := hp _ (List.mem_cons_of_mem _ (List.mem_cons_self ..))
    unfold zX at h3
    split at h3
    ·rename_i h4
     exact k9q ho (i4 h1) h2 h4 hu hp1 rfl (by unfold maxLen; exact hp2)
    ·cases h3
   ·exact OKR.none
  ·exact OKR.none
  ·exact OKR.none
 ·exact OKR.none
theorem zU {w : World} {g : Nat} {cur : Array Value} {T : TypeId} {fz : Nat × Nat} (hg : w.heap[g]? = some (.cells cur T fz)) (hf : Hm fz cur.size) : ∃ fz', (w.freeze ⟨g, cur.size, none⟩ 1).heap[g]? = some (.cells cur T fz') ∧ Hm fz' cur.size := by
 obtain ⟨hlt, hv⟩ := Array.getElem?_eq_some_iff.1 hg
 have e : (w.freeze ⟨g, cur.size, none⟩ 1).heap[g]? = some (.cells cur T (if fz.1 == fz.2 then (cur.size, cur.size + 1) else (min fz.1 cur.size, max fz.2 (cur.size + 1)))) := by
  unfold World.freeze
  rw [if_neg (by decide)]
  show (w.heap.modify g _)[g]? = _
  rw [Array.getElem?_eq_getElem (by simpa using hlt), Array.getElem_modify_self, hv]
 refine ⟨_, e, ?_⟩
 split
 ·exact .inr (Nat.le_refl _)
 ·rename_i hne
  rcases hf with rfl | hf
  ·exact absurd rfl hne
  ·exact .inr (by show cur.size ≤ min fz.1 cur.size; omega)
theorem zT (w : World) (g k : Nat) : Only g w (w.freeze ⟨g, k, none⟩ 1) := by
 unfold World.freeze
 rw [if_neg (by decide)]
 refine ⟨rfl, rfl, rfl, by simp, fun j hj hne => ?_⟩
 show (w.heap.modify g _)[j]? = _
 rw [Array.getElem?_modify, if_neg (fun e => hne e.symm)]
theorem k5s {g : List (Nat × Option Bk)} {t e : TypeId} {x : Operand} {b n : Nat} {T : TypeId} {cs : List C} (ho : o.op = .convert t t x) (ht : Try.prog.underlying t = some (.slice e)) (he : Try.prog.underlying e = some (.int .u8)) (hx : Ev l x (.e (.c (.own b 0 n 1 true)))) (hb : Look g b (some (T, cs))) (hn : 1 ≤ n) :
  OpOK cx o (S l) (S g) ⟨.e (.c (.own b 0 n 1 true)), [(b, some (T, cs))], [], [b]⟩ := by
 intro Q ρ a w hL hs hfoot _ hh hk hdf K hK
 obtain ⟨m, cap, hm, hnl, ev, h3, h4, h5⟩ := aE (by omega) (hx.rep hs (by rw [ho]; simp [Op.operands]))
 have hb' : hL b = some (T, cs) := by rw [hfoot b (by simp), hb.S]
 obtain ⟨vs, rest, ⟨fz, q1, qf⟩, q2, q3⟩ := (hh.at hb' hm hnl).1
 have hsz : (vs ++ rest).toArray.size = (vs ++ rest).length := List.size_toArray
 obtain ⟨fz', r1, r2⟩ := zU q1 (by rw [hsz]; exact qf)
 have hO := zT w m.g (vs ++ rest).toArray.size
 have hgo : Goes cx.p ρ ρ w (w.freeze ⟨m.g, (vs ++ rest).toArray.size, none⟩ 1) := ⟨fun _ _ h => h, fun _ h => h, hO.size, fun k hp hlt => hO.block k hlt (fun e => hp.elim (fun hp => cx.pm k hp (e ▸ (hh.at hb' hm hnl).2)) (fun hz => hh.zf b m (by rw [hb']; simp) hm hnl (e ▸ hz)))⟩
 have hrow : Row cx.p ρ (w.freeze ⟨m.g, (vs ++ rest).toArray.size, none⟩ 1) m T cs := ⟨vs, rest, ⟨fz', r1, by rw [← hsz]; exact r2⟩, q2, q3.imp fun _ _ => RepC.mono hgo⟩
 obtain ⟨p1, p2, p3⟩ := HRep.write hh hk hb' hm hnl hO hrow
 have hshape : w.shape? m.g = some (T, (vs ++ rest).toArray.size) := by unfold World.shape?; rw [q1]
 have hr : (convert t t (.slice (some ⟨m.g, 0, none⟩) n cap)).run Try.prog w = .ok (.slice (some ⟨m.g, 0, none⟩) n cap) (w.freeze ⟨m.g, (vs ++ rest).toArray.size, none⟩ 1) := by
  simp [convert, run_underlying ht, run_underlying he, markStringish, hshape]
 unfold Oper.wp execOp
 simp only [ho, ev, Sem.run_bind, Sem.run_pure, Result.andThen_ok, hr]
 exact hK _ _ ρ p1 (fun _ _ h => h) p2 p3 (.own b 0 n 1 true m cap hm hnl h3 h4 h5)
def tY (P : Program) (g : EH) (src dst : TypeId) (u : PV) : R := match u with
 | .e (.c (.own b 0 n 1 true)) => match Nat.beq src dst, P.underlying src, g.lookup b with
  | true, some (.slice e), some (some (T, .ds ds)) => match zX P e with
   | true => some ([1 ≤ n], ⟨.e (.c (.own b 0 n 1 true)), [(b, some (T, .ds ds))], [], [b]⟩)
   | false => none
  | _, _, _ => none
 | _ => none
theorem z3 {src dst : TypeId} {x : Operand} (ho : o.op = .convert src dst x) {u : PV} (hu : Ev l x u) : OKR cx o l g (tY Try.prog g src dst u) := by
 unfold tY
 split
 ·split
  ·rename_i h1 h2 h3
   split
   ·rename_i h4
    refine OKR.some fun hp => ?_
    have hp := (qD _).1 hp
    have hn : 1 ≤ _ := hp _ (List.mem_cons_self ..)
    obtain rfl := Nat.eq_of_beq_eq_true h1
    unfold zX at h4
    split at h4
    ·rename_i h5
     exact k5s ho h2 h5 hu (qP h3) hn
    ·cases h4
   ·exact OKR.none
  ·exact OKR.none
 ·exact OKR.none
end
/-! texts told as lists of bytes -/
theorem tN {l : List Int} (h : ∀ x ∈ l, 0 ≤ x ∧ x ≤ 255) : cM (strOfNums l) = l := by
 unfold cM strOfNums
 rw [List.map_map]
 have : ∀ l : List Int, (∀ x ∈ l, 0 ≤ x ∧ x ≤ 255) → l.map ((fun b : UInt8 => (b.toNat : Int)) ∘ (fun n : Int => UInt8.ofNat n.toNat)) = l := by
  intro l
  induction l with
  | nil => intro _; rfl
  | cons x xs ih =>
   intro h
   have h1 := h x (List.mem_cons_self ..)
   rw [List.map_cons, ih (fun y hy => h y (List.mem_cons_of_mem _ hy))]
   congr 1
   show (((UInt8.ofNat x.toNat).toNat : Nat) : Int) = x
   rw [UInt8.toNat_ofNat']; omega
 exact this l h
end Go.Proofs.Ytalbpleglapihaa
namespace Go.Proofs.Ytalbpleglapihaa
open Go.ChangeShapes Go.WideShapes Go.ChangeAt Go.RowKit
set_option linter.unusedVariables false
set_option linter.unusedSimpArgs false
theorem s9 {P : Program} {b : Frame} {a : Act} {k : List Item} {cs : List Frame} {w : World} {c : Code} :
  stepT P (lone (b.at a (.code (.loop c) :: k)) cs w) = (.next (lone (b.at a (.code c :: .inLoop c :: k)) cs w), #[]) := by
 rw [stepT, move_lone]
 simp [runT, lone, Array.swapAt!, stepG, stepG.exec, Frame.at, MemOp.ofEvents]
 intro h
 exact absurd rfl h
theorem vZ {P : Program} {m m1 m2 : Machine} (h1 : step P m = .next m1) (h : Go.Steps P m m2) (hne : m ≠ m2) : Go.Steps P m1 m2 := by
 obtain ⟨n, hn⟩ := h
 cases n with
 | zero => simp [runN] at hn; exact absurd hn hne
 | succ n => simp only [runN, h1] at hn; exact ⟨n, hn⟩
theorem k4m {b : Frame} {a a' : Act} {k k' : List Item} {cs : List Frame} {w w' : World} (h : k ≠ k') : lone (b.at a k) cs w ≠ lone (b.at a' k') cs w' := by
 intro e
 simp only [lone, Machine.mk.injEq, Array.mk.injEq, List.cons.injEq, Goroutine.mk.injEq, Frame.at, Frame.mk.injEq] at e
 exact h e.2.1.1.1.2.2.1
theorem jC : ∀ {id : Nat} {k k' : List Item}, exitTo id k = some k' → k'.length < k.length
 | id, [], k', h => by cases h
 | id, x :: k, k', h => by
  have ih : ∀ k', exitTo id k = some k' → k'.length < k.length := fun _ h => jC h
  cases x with
  | inBlock id' =>
   simp only [exitTo] at h
   split at h
   ·cases h; simp
   ·have := ih _ h; simp; omega
  | _ => simp only [exitTo] at h; have := ih _ h; simp; omega
theorem nY {c : Code} : ∀ (x : Code) {l : Nat} {r : Code}, findLabel x l = some r → r ≠ .loop c := by
 intro x
 induction x with
 | seq a b iha ihb =>
  intro l r h
  simp only [findLabel] at h
  split at h
  ·cases h; intro e; cases e
  ·exact ihb h
 | label l' =>
  intro l r h
  simp only [findLabel] at h
  split at h
  ·cases h; intro e; cases e
  ·cases h
 | _ => intro l r h; simp [findLabel] at h
theorem lU {l : Nat} {c : Code} : ∀ {k k' : List Item}, gotoIn l k = some k' → ∀ y, k' ≠ .code (.loop c) :: y
 | [], k', h => by cases h
 | x :: k, k', h => by
  have ih : ∀ k', gotoIn l k = some k' → ∀ y, k' ≠ .code (.loop c) :: y := fun _ h => lU h
  cases x with
  | inScope body =>
   simp only [gotoIn] at h
   split at h
   ·rename_i hf
    cases h
    intro y e
    simp only [List.cons.injEq, Item.code.injEq] at e
    exact nY _ hf e.1
   ·exact ih _ h
  | _ => simp only [gotoIn] at h; exact ih _ h
theorem j8 {P : Program} {m m1 : Machine} (h1 : stepT P m = (.next m1, #[])) (h : Outgrown P m) : Outgrown P m1 := by
 obtain ⟨n, o, ho, h2, h3⟩ := h
 cases n with
 | zero => simp [runNT] at ho
 | succ n =>
  simp only [runNT, h1] at ho
  exact ⟨n, o, by simpa using ho, h2, h3⟩
theorem mJ {P : Program} {Q : Exit → Act → World → Prop} {a : Act} {w : World} {c : Code} (h : c.wp P (Exit.then ((Code.loop c).wp P Q) Q) a w) : (Code.loop c).wp P Q a w := by
 intro b k cs
 obtain ⟨e, a₁, w₁, hq, harr⟩ := h b (.inLoop c :: k) cs
 cases e with
 | normal =>
  obtain ⟨e₂, a₂, w₂, hq₂, harr₂⟩ := hq b k cs
  refine ⟨e₂, a₂, w₂, hq₂, .of_steps (.one step_loop) ?_⟩
  have h2 : Arrives P (lone (b.at a₁ (.code c :: .inLoop c :: k)) cs w₁) b k cs e₂ a₂ w₂ := by
   cases e₂ with
   | normal => exact vZ step_loop harr₂ (k4m (fun e => by have := congrArg List.length e; simp at this))
   | exit id => exact fun k' hk => vZ step_loop (harr₂ k' hk) (k4m (fun e => by have := congrArg List.length e; have := jC hk; simp at *; omega))
   | goto l => exact fun k' hk => vZ step_loop (harr₂ k' hk) (k4m (fun e => lU hk _ e.symm))
   | ret =>
    obtain ⟨todo, hs⟩ := harr₂
    exact ⟨todo, vZ step_loop hs (by intro e; simp [lone, Frame.at] at e)⟩
   | panic ch =>
    obtain ⟨todo, hs⟩ := harr₂
    exact ⟨todo, vZ step_loop hs (by intro e; simp [lone, Frame.at] at e)⟩
   | outgrown => exact harr₂.imp id (j8 s9)
  exact .of_steps (Steps.trans harr (.one step_inLoop)) h2
 | exit id => exact ⟨_, a₁, w₁, hq, .of_steps (.one step_loop) (.pass (x := .inLoop c) rfl (fun _ _ => .inl (by simp)) harr)⟩
 | goto l => exact ⟨_, a₁, w₁, hq, .of_steps (.one step_loop) (.pass (x := .inLoop c) rfl (fun _ _ => .inl (by simp)) harr)⟩
 | ret => exact ⟨_, a₁, w₁, hq, .of_steps (.one step_loop) (.pass (x := .inLoop c) rfl (fun _ _ => .inl (by simp)) harr)⟩
 | panic ch => exact ⟨_, a₁, w₁, hq, .of_steps (.one step_loop) (.pass (x := .inLoop c) rfl (fun _ _ => .inl (by simp)) harr)⟩
 | outgrown => exact ⟨_, a₁, w₁, hq, .of_steps (.one step_loop) (.pass (x := .inLoop c) rfl (fun _ _ => .inl (by simp)) harr)⟩
section
variable {cx : Cx} {o : Oper} {l : List (Nat × PV)} {g : EH}
def k8g (P : Program) (op : BinOp) (xt : TypeId) (u v : PV) : R := none
theorem k3u {op : BinOp} {xt yt : TypeId} {x y : Operand} (ho : o.op = .binOp op xt x y yt) {u v : PV} (hu : Ev l x u) (hv : Ev l y v) : OKR cx o l g (k8g Try.prog op xt u v) := OKR.none
def k8b (P : Program) (g : EH) (src dst : TypeId) (u : PV) : R := none
theorem k2w {src dst : TypeId} {x : Operand} (ho : o.op = .convert src dst x) {u : PV} (hu : Ev l x u) : OKR cx o l g (k8b Try.prog g src dst u) := OKR.none
def k3s (P : Program) (h : H) (f : FuncId) (us : Option (List E1)) : R := none
def k8i (P : Program) (h : H) (g : EH) (nx : Nat) (t tn : TypeId) : PV → PV → R := fun _ _ => none
theorem k48 {h : H} {nx : Nat} {t tn : TypeId} {x y : Operand} (ho : o.op = .call { callee := .builtin .append, args := #[x, y], argTypes := #[t, tn] }) {u v : PV} (hu : Ev l x u) (hv : Ev l y v) : OKR cx o l g (k8i Try.prog h g nx t tn u v) := OKR.none
def u3k : PV → R := fun _ => none
theorem k6o {x : Operand} {st : TypeId} (ho : o.op = .call { callee := .builtin .unsafeSliceData, args := #[x], argTypes := #[st] }) {u : PV} (hu : Ev l x u) : OKR cx o l g (u3k u) := OKR.none
def u3j (P : Program) (h : H) (g : EH) (pt : TypeId) (u v : PV) : R := none
theorem k6k {h : H} {pt it : TypeId} {x y : Operand} (ho : o.op = .call { callee := .builtin .unsafeString, args := #[x, y], argTypes := #[pt, it] }) {u v : PV} (hu : Ev l x u) (hv : Ev l y v) : OKR cx o l g (u3j Try.prog h g pt u v) := OKR.none
def AWp (cx : Cx) (n : Nat) (c : Code) (Q : u5) : Nat → St → Prop
 | 0, s => AW cx n (.loop c) Q s
 | k + 1, s => AW cx n c (fU (AWp cx n c Q k) Q) s
theorem AWp.s {cx : Cx} {n : Nat} {c : Code} {Q : u5} {k : Nat} {s : St} (h : AW cx n c (fU (AWp cx n c Q k) Q) s) : AWp cx n c Q (k + 1) s := h
theorem AWp.z {cx : Cx} {n : Nat} {c : Code} {Q : u5} {s : St} (h : AW cx n (.loop c) Q s) : AWp cx n c Q 0 s := h
theorem AWp.ok {cx : Cx} {n : Nat} {c : Code} {Q : u5} : ∀ {k : Nat} {s : St}, AWp cx n c Q k s → AW cx n (.loop c) Q s
 | 0, _, h => h
 | k + 1, s, h => fun a w hm => by
  refine mJ (wp_mono (h a w hm) ?_)
  rintro e a' w' ⟨s', h1, h2⟩
  cases e with
  | normal => exact AWp.ok (k := k) h1 a' w' h2
  | _ => exact ⟨s', h1, h2⟩
end
end Go.Proofs.Ytalbpleglapihaa
namespace Go.Proofs.Ytalbpleglapihaa
open Go.ChangeShapes Go.WideShapes Go.ChangeAt Go.RowKit
set_option linter.unusedVariables false
set_option linter.unusedSimpArgs false
abbrev FnT := FuncId → List E1 → List (Nat × Option Bk) → Nat → PV → List (Nat × Option Bk) → Nat → Prop
def u0o (P : Program) (h : H) (l : List (Nat × PV)) (g : EH) (nx : Nat) (b : Builtin) (args : List Operand) (ts : List TypeId) : R := match b, args, ts with
 | .len, [x], [st] => bo (vA l x) fun u => jZ (k3j P st u) (t1 P h st u)
 | .min, [x, y], _ => bo (vA l x) fun u => bo (vA l y) fun v => k3b h u v
 | .max, [x, y], _ => bo (vA l x) fun u => bo (vA l y) fun v => k3e h u v
 | .max, [x, y, z], _ => bo (vA l x) fun u => bo (vA l y) fun v => bo (vA l z) fun w => k3d h u v w
 | .append, [x, y], [t, t'] => match Nat.beq t t' with
  | true => bo (vA l x) fun u => bo (vA l y) fun v => u0p P h g nx t u v
  | false => bo (vA l x) fun u => bo (vA l y) fun v => jZ (k8i P h g nx t t' u v) (jZ (k2t P h nx t t' u v) (u0b P h g nx t t' u v))
 | .copy, [x, y], [t, _] => bo (vA l x) fun u => bo (vA l y) fun v => u0l P h g t u v
 | .cap, [x], [st] => bo (vA l x) (k3x P st)
 | .unsafeSliceData, [x], [_] => bo (vA l x) u3k
 | .unsafeString, [x, y], [pt, _] => bo (vA l x) fun u => bo (vA l y) fun v => u3j P h g pt u v
 | _, _, _ => none
def k3q (P : Program) (h : H) (f : FuncId) (us : Option (List E1)) : R := none
theorem z6 {cx : Cx} {o : Oper} {l : List (Nat × PV)} {g : EH} {h : H} {f : FuncId} {args : Array Operand} {ts : Array TypeId} (ho : o.op = .call { callee := .value (.func f), args := args, argTypes := ts }) : OKR cx o l g (k3q Try.prog h f (fM l args.toList)) := OKR.none
theorem t2 {cx : Cx} {o : Oper} {l : List (Nat × PV)} {g : EH} {h : H} {f : FuncId} {args : Array Operand} {ts : Array TypeId} (ho : o.op = .call { callee := .value (.func f), args := args, argTypes := ts }) : OKR cx o l g (k3s Try.prog h f (fM l args.toList)) := OKR.none
def evC (P : Program) (Fn : FnT) (h : H) (l : List (Nat × PV)) (g : EH) (nx : Nat) (c : Call) : R := match c with
 | ⟨.builtin b, args, ts⟩ => u0o P h l g nx b args.toList ts.toList
 | ⟨.value (.func f), args, _⟩ => jZ (k3s P h f (fM l args.toList)) (jZ (k3q P h f (fM l args.toList)) (cT P Fn h g nx f (fM l args.toList)))
 | ⟨.value x, args, _⟩ => bo (vA l x) fun u => match u09 u with
  | some (f, qs) => match Nat.blt f j7 with
   | true => cT P Fn h g nx f (k47 l args.toList qs)
   | false => cT P Fn h g nx (fnU f) (k46 l args.toList qs)
  | none => none
 | _ => none
theorem k9m {cx : Cx} {o : Oper} {l : List (Nat × PV)} {g : List (Nat × Option Bk)} {xt : TypeId} {x : Operand} {n r : Int} (ho : o.op = .unOp .xor xt x) (hx : Ev l x (LV (.int .u32 n))) (hc : qM .xor .u32 4294967295 n = r) : OpOK cx o (S l) (S g) ⟨LV (.int .u32 r), [], [], []⟩ :=
 qA fun ρ a w hs => ⟨.int .u32 r, by
  have e := kZ (hx.rep hs (by rw [ho]; simp [Op.operands]))
  subst hc
  unfold execOp; simp only [ho, e]; rfl, uG rfl⟩
def k2v (h : H) : PV → R
 | .e (.c (.d (.lit (.int .u32 n)))) => match h with
  | .i r => jP [qM .xor .u32 4294967295 n = r] (LV (.int .u32 r))
  | _ => none
 | _ => none
theorem k2u {cx : Cx} {o : Oper} {l : List (Nat × PV)} {g : EH} {h : H} {xt : TypeId} {x : Operand} (ho : o.op = .unOp .xor xt x) {u : PV} (hu : Ev l x u) : OKR cx o l g (k2v h u) := by
 unfold k2v
 split
 ·split
  ·refine OKR.some fun hp => ?_
   exact k9m ho hu hp
  ·exact OKR.none
 ·exact OKR.none
def xT (P : Program) (Fn : FnT) (h : H) (l : List (Nat × PV)) (g : EH) (nx : Nat) : Op → R
 | .move x => bo (vA l x) pv
 | .assign x => bo (vA l x) pv
 | .nilCheck x => bo (vA l x) fun u => match u with
  | .e (.c (.ptr b off)) => pv (.e (.c (.ptr b off)))
  | _ => none
 | .unOp .not _ x => bo (vA l x) (k34 h)
 | .unOp .neg _ x => bo (vA l x) (k38 h)
 | .unOp .xor _ x => bo (vA l x) (k2v h)
 | .pick c x y => bo (vA l c) fun u => tX h u (vA l x) (vA l y)
 | .binOp op xt x y _ => bo (vA l x) fun u => bo (vA l y) fun v => jZ (k36 P op xt u v) (jZ (k8g P op xt u v) (jZ (t7 P op h xt u v) (k8h P op h u v)))
 | .convert s d x => bo (vA l x) fun u => jZ (k2y P h g s d u) (jZ (k3z P h nx s d u) (jZ (tY P g s d u) (jZ (k8b P g s d u) (t3 P h s d u))))
 | .extract x i => bo (vA l x) (k3t i)
 | .fieldAddr t x i => bo (vA l x) (u0k P t i)
 | .field t x i => bo (vA l x) (k3p P t i)
 | .load ty x => bo (vA l x) (tZ P h g ty)
 | .store ty x y => bo (vA l x) fun u => bo (vA l y) fun v => n7 P h g ty u v
 | .alloc T => oD P nx T
 | .box T x => bo (vA l x) (k41 nx T)
 | .build t ps => jZ (oC P l t ps) (rY P l t ps)
 | .buildSlice t n ps => jZ (k45 P nx t n ps) (u0n P l nx t n ps)
 | .makeSlice t x y => bo (vA l x) fun u => bo (vA l y) fun v => u0g P h nx t u v
 | .indexAddr t x y => bo (vA l x) fun u => bo (vA l y) fun v => jZ (k8e P h t u v) (u0i P h t u v)
 | .index t x y => bo (vA l x) fun u => bo (vA l y) fun v => jZ (k8f P h t u v) (k3m P h t u v)
 | .slice t x lo hi mx => bo (vA l x) fun u => jZ (k8d P t lo hi mx u) <| jZ (k30 P h l g t lo hi mx u) (jZ (u0d P h l t lo hi mx u) (k8c P h l t lo hi mx u))
 | .call c => evC P Fn h l g nx c
 | .makeFunc (.func f) first caps => match first.toList with
  | [] => u0h l f caps.toList
  | _ => match caps.toList with
   | [] => k3g l f first.toList
   | _ => none
 | _ => none
section
variable {cx : Cx} {o : Oper} {l : List (Nat × PV)} {g : EH}
theorem dX {α : Type} {a : Array α} {l : List α} (h : a.toList = l) : a = l.toArray := by subst h; simp
theorem k6x {h : H} {nx : Nat} {b : Builtin} {args : Array Operand} {ts : Array TypeId} (ho : o.op = .call { callee := .builtin b, args := args, argTypes := ts }) : OKR cx o l g (u0o Try.prog h l g nx b args.toList ts.toList) := by
 unfold u0o
 split
 ·rename_i h1 h2
  rw [dX h1, dX h2] at ho
  exact OKR.bo fun u hu => OKR.or (k3i ho hu) (z5 ho hu)
 ·rename_i h1
  rw [dX h1] at ho
  exact OKR.bo fun u hu => OKR.bo fun v hv => k3a ho hu hv
 ·rename_i h1
  rw [dX h1] at ho
  exact OKR.bo fun u hu => OKR.bo fun v hv => k3c ho hu hv
 ·rename_i h1
  rw [dX h1] at ho
  exact OKR.bo fun u hu => OKR.bo fun v hv => OKR.bo fun w hw => z2 ho hu hv hw
 ·rename_i h1 h2
  rw [dX h1, dX h2] at ho
  split
  ·rename_i ht
   have ht := Nat.eq_of_beq_eq_true ht
   subst ht
   exact OKR.bo fun u hu => OKR.bo fun v hv => k6y ho hu hv
  ·exact OKR.bo fun u hu => OKR.bo fun v hv => OKR.or (k48 ho hu hv) (OKR.or (k2s ho hu hv) (k6j ho hu hv))
 ·rename_i h1 h2
  rw [dX h1, dX h2] at ho
  exact OKR.bo fun u hu => OKR.bo fun v hv => k6u ho hu hv
 ·rename_i h1 h2
  rw [dX h1, dX h2] at ho
  exact OKR.bo fun u hu => k3w ho hu
 ·rename_i h1 h2
  rw [dX h1, dX h2] at ho
  exact OKR.bo fun u hu => k6o ho hu
 ·rename_i h1 h2
  rw [dX h1, dX h2] at ho
  exact OKR.bo fun u hu => OKR.bo fun v hv => k6k ho hu hv
 ·exact OKR.none
theorem rW {h : H} {nx : Nat} {op : Op} (ho : o.op = op) : OKR cx o l g (xT Try.prog Fun h l g nx op) := by
 unfold xT
 split
 ·exact OKR.bo fun u hu => OKR.some fun _ => k5r ho hu
 ·exact OKR.bo fun u hu => OKR.some fun _ => zP ho hu
 ·refine OKR.bo fun u hu => ?_
  split
  ·exact OKR.some fun _ => pU ho hu
  ·exact OKR.none
 ·exact OKR.bo fun u hu => k33 ho hu
 ·exact OKR.bo fun u hu => k37 ho hu
 ·exact OKR.bo fun u hu => k2u ho hu
 ·exact OKR.bo fun u hu => z1 ho hu
 ·exact OKR.bo fun u hu => OKR.bo fun v hv => OKR.or (k35 ho hu hv) (OKR.or (k3u ho hu hv) (OKR.or (k00 ho hu hv) (k3v ho hu hv)))
 ·exact OKR.bo fun u hu => OKR.or (k2x ho hu) (OKR.or (k3y ho hu) (OKR.or (z3 ho hu) (OKR.or (k2w ho hu) (z7 ho hu))))
 ·exact OKR.bo fun u hu => k3r ho hu
 ·exact OKR.bo fun u hu => k6t ho hu
 ·exact OKR.bo fun u hu => k3o ho hu
 ·exact OKR.bo fun u hu => z4 ho hu
 ·exact OKR.bo fun u hu => OKR.bo fun v hv => tW ho hu hv
 ·exact t8 ho
 ·exact OKR.bo fun u hu => k40 ho hu
 ·exact OKR.or (t6 ho) (rX ho)
 ·exact OKR.or (k44 ho) (k6w ho)
 ·exact OKR.bo fun u hu => OKR.bo fun v hv => k6q ho hu hv
 ·exact OKR.bo fun u hu => OKR.bo fun v hv => OKR.or (k3k ho hu hv) (k6s ho hu hv)
 ·exact OKR.bo fun u hu => OKR.bo fun v hv => OKR.or (k3n ho hu hv) (k3l ho hu hv)
 ·exact OKR.bo fun u hu => OKR.or (k32 ho hu) <| OKR.or (k2z ho hu) (OKR.or (k6l ho hu) (k31 ho hu))
 ·unfold evC
  split
  ·exact k6x ho
  ·exact OKR.or (t2 ho) (OKR.or (z6 ho) (z8 ho))
  ·refine OKR.bo fun u hu => ?_
   split
   ·rename_i hf
    have := k6g hf
    subst this
    split
    ·rename_i hlo; exact t4 ho hu hlo
    ·rename_i hlo; exact t5 ho hu hlo
   ·exact OKR.none
  ·exact OKR.none
 ·split
  ·rename_i h0; exact k6r ho h0
  ·split
   ·rename_i h1; exact k3f ho h1
   ·exact OKR.none
 ·exact OKR.none
theorem sP {ds : List D} {T : TypeId} {n s nx : Nat} {wr : List (Nat × Option Bk)} {news foot : List Nat} {h0 : Hp} {τ : Nat → PV} (hnx : wr.lookup nx = none) (hl : ds.length = n * s) (h : OpOK cx o τ h0 ⟨.e (.c (.own nx 0 n s true)), wr ++ [(nx, some (T, ds.map .d))], news, foot⟩) :
  OpOK cx o τ h0 ⟨.e (.c (.d (.sl ds n))), wr ++ [(nx, none)], news, foot⟩ := by
 intro Q ρ a w hL hs hf hn hh hk hd K hK
 refine h Q ρ a w hL hs hf hn hh hk hd K ?_
 intro v w' ρ' g1 g2 g3 g4 g5
 have hx : ((wr ++ [(nx, some (T, ds.map C.d))]).lookup nx).getD (hL nx) = some (T, ds.map C.d) := by rw [yK, hnx]; simp
 have hx' : ((wr ++ [(nx, none)]).lookup nx).getD (hL nx) = none := by rw [yK, hnx]; simp
 have hne : ∀ x, x ≠ nx → ((wr ++ [(nx, none)]).lookup x).getD (hL x) = ((wr ++ [(nx, some (T, ds.map C.d))]).lookup x).getD (hL x) := by
  intro x hxn
  rw [yK, yK]
  simp only [List.lookup_cons, show (x == nx) = false by simpa using hxn, List.lookup_nil]
 have hsub : ∀ x, ((wr ++ [(nx, none)]).lookup x).getD (hL x) ≠ none → x ≠ nx ∧ ((wr ++ [(nx, some (T, ds.map C.d))]).lookup x).getD (hL x) ≠ none := by
  intro x hq
  have : x ≠ nx := fun e => hq (by rw [e]; exact hx')
  exact ⟨this, by rw [← hne x this]; exact hq⟩
 have hsub2 : ∀ x T' cs, ((wr ++ [(nx, none)]).lookup x).getD (hL x) = some (T', cs) → x ≠ nx ∧ ((wr ++ [(nx, some (T, ds.map C.d))]).lookup x).getD (hL x) = some (T', cs) := by
  intro x T' cs hq
  have hq2 := hsub x (by rw [hq]; simp)
  exact ⟨hq2.1, by rw [← hne x hq2.1]; exact hq⟩
 obtain ⟨m, k1, k2⟩ := g3.row nx T _ hx
 rcases k2 with ⟨k2, k3⟩ | ⟨k2, ⟨vs, rest, r1, r2, r3⟩, k4⟩
 ·have hds : ds = [] := List.map_eq_nil_iff.1 k3
  subst hds
  refine hK v w' ρ' g1 g2 ⟨fun b T' cs hb => g3.row b T' cs (hsub2 b T' cs hb).2, fun b b' m m' hb hb' => g3.inj b b' m m' (hsub b hb).2 (hsub b' hb').2, fun b m hb => g3.zf b m (hsub b hb).2, g3.zm, g3.zl⟩ g4 ?_
  have g5' : RepC cx.p ρ' w' (.own nx 0 n s true) v := g5
  cases g5' with
  | own _ _ _ _ _ m2 cap hm hn' => rw [k1] at hm; cases hm; rw [k2] at hn'; cases hn'
  | ownn => exact .d (.nil none 0 (Nat.zero_le _) (fun _ => rfl))
 ·have hgo : Goes cx.p ρ' ⟨ρ'.f, fun k => ρ'.z k ∨ k = m.g⟩ w' w' := ⟨fun _ _ h => h, fun _ h => .inl h, Nat.le_refl _, fun _ _ _ => rfl⟩
  have hg1 : Goes cx.p ρ ⟨ρ'.f, fun k => ρ'.z k ∨ k = m.g⟩ w w' := ⟨g1.ext, fun k hz => .inl (g1.zext k hz), g1.size, g1.old⟩
  refine hK v w' ⟨ρ'.f, fun k => ρ'.z k ∨ k = m.g⟩ hg1 g2 ⟨?_, fun b b' m m' hb hb' => g3.inj b b' m m' (hsub b hb).2 (hsub b' hb').2, ?_, ?_, ?_⟩ g4 ?_
  ·intro b T' cs hb
   obtain ⟨m', p1, p2⟩ := g3.row b T' cs (hsub2 b T' cs hb).2
   exact ⟨m', p1, p2.imp id fun p => ⟨p.1, p.2.1.mono hgo rfl, p.2.2⟩⟩
  ·intro b m1 hb hm1 hn1 hz
   rcases hz with hz | hz
   ·exact g3.zf b m1 (hsub b hb).2 hm1 hn1 hz
   ·exact (hsub b hb).1 (g3.inj b nx m1 m (hsub b hb).2 (by rw [hx]; simp) hm1 k1 hn1 k2 hz)
  ·intro k hz
   rcases hz with hz | hz
   ·exact g3.zm k hz
   ·exact hz ▸ k4
  ·intro k hz
   rcases hz with hz | hz
   ·exact g3.zl k hz
   ·exact hz ▸ r1.lt
  ·have g5' : RepC cx.p ρ' w' (.own nx 0 n s true) v := g5
   cases g5' with
   | own _ _ _ _ _ m2 cap hm hn' h1 h2 h3 =>
    rw [k1] at hm; cases hm
    have hvl : vs.length = ds.length := by have := r3.len; simpa using this.symm
    refine .d (.sl ds vs m.g 0 n cap hvl ?_ ?_ (.inr (.inr rfl)) r1.lt h1 h2)
    ·intro i u hu
     rw [Nat.zero_add]
     exact BlkM.cell (vs := vs ++ rest) r1 i (by rw [List.getElem?_append_left (List.getElem?_eq_some_iff.1 hu).1]; exact hu)
    ·intro i d u hd' hu
     have := (r3.imp fun _ _ => RepC.mono hgo).get i (.d d) u (by rw [List.getElem?_map, hd']; rfl) hu
     cases this with
     | d h => exact h
   | ownn _ _ m2 hm hn' => rw [k1] at hm; cases hm; rw [k2] at hn'; cases hn'
def fzR : R → R
 | some (ps, ⟨.e (.c (.own b 0 n s true)), wr, news, foot⟩) => match wr with
  | [(b', some (T, .ds ds))] => match Nat.beq b' b with
   | true => some (ps ++ [ds.length = n * s], ⟨.e (.c (.d (.sl ds n))), [(b, none)], news, foot⟩)
   | false => none
  | [(b0, none), (b', some (T, .ds ds))] => match Nat.beq b' b, Nat.beq b b0 with
   | true, false => some (ps ++ [ds.length = n * s], ⟨.e (.c (.d (.sl ds n))), [(b0, none), (b, none)], news, foot⟩)
   | _, _ => none
  | _ => none
 | _ => none
theorem u07 {r : R} (h : OKR cx o l g r) : OKR cx o l g (fzR r) := by
 unfold fzR
 split
 ·rename_i ps b n s wr news foot
  split
  ·split
   ·rename_i hb
    refine OKR.some fun hp => ?_
    have hp := (qD _).1 hp
    have hl : _ = _ := hp _ (List.mem_append_right _ (List.mem_cons_self ..))
    obtain rfl := Nat.eq_of_beq_eq_true hb
    exact sP (wr := []) rfl hl (h _ _ rfl ((qD _).2 fun p hpp => hp p (List.mem_append_left _ hpp)))
   ·exact OKR.none
  ·split
   ·rename_i hb hb0
    refine OKR.some fun hp => ?_
    have hp := (qD _).1 hp
    have hl : _ = _ := hp _ (List.mem_append_right _ (List.mem_cons_self ..))
    obtain rfl := Nat.eq_of_beq_eq_true hb
    refine sP (wr := [(_, none)]) ?_ hl (h _ _ rfl ((qD _).2 fun p hpp => hp p (List.mem_append_left _ hpp)))
    have hne := Nat.ne_of_beq_eq_false hb0
    have e9 := beq_eq_false_iff_ne.2 hne
    rw [List.lookup_cons, e9]; rfl
   ·exact OKR.none
  ·exact OKR.none
 ·exact OKR.none
def u0f (P : Program) (Fn : FnT) (h : H) (l : List (Nat × PV)) (g : EH) (nx : Nat) (op : Op) : R := match h with
 | .fz h' => fzR (xT P Fn h' l g nx op)
 | h => xT P Fn h l g nx op
theorem k6p {h : H} {nx : Nat} {op : Op} (ho : o.op = op) : OKR cx o l g (u0f Try.prog Fun h l g nx op) := by
 unfold u0f
 split
 ·exact u07 (rW ho)
 ·exact rW ho
end
def stepG (ops : List Oper) (l : List (Nat × PV)) (o : Oper) : Option Bool := match o.guard with
 | none => some true
 | some (gi, b) => match ops[gi]? with
  | some og => match og.dst with
   | some dg => match l.lookup dg with
    | some (.e (.c (.d (.lit (.bool b'))))) => some (b' == b)
    | some (.tup []) => some false
    | _ => none
   | none => none
  | none => none
theorem iX {X : Type} [Inhabited X] {l : List (Nat × X)} {t : Nat} {u : X} (h : l.lookup t = some u) : S l t = u := (u6 h).S
theorem zC {cx : Cx} {ops : List Oper} {l : List (Nat × PV)} {g : List (Nat × Option Bk)} {o : Oper} {t : OT} (h : stepG ops l o = some true) (hok : OpOK cx o (S l) (S g) t) : StepO cx ops o l g t := by
 unfold stepG at h
 unfold StepO
 split at h
 ·rename_i hg; rw [hg]; exact hok
 ·rename_i gi b hg
  rw [hg]
  split at h
  ·rename_i og hog
   split at h
   ·rename_i dg hdg
    split at h
    ·rename_i b' hl
     refine ⟨dg, og, hog, hdg, .inl ⟨b', iX hl, ?_⟩⟩
     have : b' = b := by simpa using h
     rw [if_pos this]; exact hok
    ·cases h
    ·cases h
   ·cases h
  ·cases h
theorem k0w {cx : Cx} {ops : List Oper} {l : List (Nat × PV)} {g : List (Nat × Option Bk)} {o : Oper} (h : stepG ops l o = some false) : StepO cx ops o l g ⟨.tup [], [], [], []⟩ := by
 unfold stepG at h
 unfold StepO
 split at h
 ·cases h
 ·rename_i gi b hg
  rw [hg]
  split at h
  ·rename_i og hog
   split at h
   ·rename_i dg hdg
    split at h
    ·rename_i b' hl
     refine ⟨dg, og, hog, hdg, .inl ⟨b', iX hl, ?_⟩⟩
     have : ¬ b' = b := by simpa using h
     rw [if_neg this]; exact ⟨rfl, rfl, rfl⟩
    ·rename_i hl
     exact ⟨dg, og, hog, hdg, .inr ⟨iX hl, rfl, rfl, rfl⟩⟩
    ·cases h
   ·cases h
  ·cases h
def iF (P : Program) (Fn : FnT) (ops : List Oper) : List Oper → List H → List (Nat × PV) → EH → Nat → Option (List Prop × List OTe × List (Nat × PV) × EH × Nat)
 | [], _, l, g, nx => some ([], [], l, g, nx)
 | o :: os, hs, l, g, nx => match stepG ops l o with
  | some true => match hs with
   | h :: hs => match u0f P Fn h l g nx o.op with
    | some (ps, t) => match iF P Fn ops os hs (c8 o t.u ++ l) (t.wr ++ g) (nx + t.news.length) with
     | some (ps', ts, r) => some (ps ++ ps', t :: ts, r)
     | none => none
    | none => none
   | [] => none
  | some false => match iF P Fn ops os hs (c8 o (.tup []) ++ l) g nx with
   | some (ps', ts, r) => some (ps', ⟨.tup [], [], [], []⟩ :: ts, r)
   | none => none
  | none => none
theorem fG {cx : Cx} {ops : List Oper} : ∀ {os : List Oper} {hs : List H} {l lf : List (Nat × PV)} {g gf : EH} {nx nf : Nat} {ps : List Prop} {ts : List OTe}, iF Try.prog Fun ops os hs l g nx = some (ps, ts, lf, gf, nf) → (∀ p ∈ ps, p) → Steps cx ops os (ts.map OTe.to) l (kG g) lf (kG gf)
 | [], _, _, _, _, _, _, _, _, _, h, _ => by cases h; exact .nil _ _
 | o :: os, hs, l, lf, g, gf, nx, nf, ps, ts, h, hp => by
  unfold iF at h
  split at h
  ·rename_i hg
   split at h
   ·split at h
    ·rename_i he
     split at h
     ·rename_i hr
      cases h
      rw [List.map_cons]
      refine .cons (zC hg (k6p rfl _ _ he ((qD _).2 fun p h => hp p (List.mem_append_left _ h)))) ?_
      have := fG (cx := cx) hr (fun p h => hp p (List.mem_append_right _ h))
      rw [wT] at this
      exact this
     ·cases h
    ·cases h
   ·cases h
  ·rename_i hg
   split at h
   ·rename_i hr
    cases h
    rw [List.map_cons]
    exact .cons (k0w hg) (fG (cx := cx) hr hp)
   ·cases h
  ·cases h
def k15 (lf : List (Nat × PV)) : List Nat → List (Nat × PV)
 | [] => []
 | t :: ts => match lf.lookup t with
  | some u => (t, u) :: k15 lf ts
  | none => k15 lf ts
theorem mY {lf : List (Nat × PV)} {t : Nat} {u : PV} : ∀ {ts : List Nat}, (k15 lf ts).lookup t = some u → lf.lookup t = some u
 | [], h => by cases h
 | a :: ts, h => by
  unfold k15 at h
  split at h
  ·rename_i v hv
   rw [List.lookup_cons] at h
   split at h
   ·rename_i hb; simp at hb; subst hb; cases h; exact hv
   ·exact mY h
  ·exact mY h
def k16 (gf : EH) : List Nat → EH
 | [] => []
 | t :: ts => match gf.lookup t with
  | some (some u) => (t, some u) :: k16 gf ts
  | _ => k16 gf ts
theorem mZ {gf : EH} {t : Nat} {u : EBk} : ∀ {ts : List Nat}, (k16 gf ts).lookup t = some (some u) → gf.lookup t = some (some u)
 | [], h => by cases h
 | a :: ts, h => by
  unfold k16 at h
  split at h
  ·rename_i v hv
   rw [List.lookup_cons] at h
   split at h
   ·rename_i hb; simp at hb; subst hb; cases h; exact hv
   ·exact mZ h
  ·exact mZ h
theorem Mod.weak {cx : Cx} {n nx : Nat} {l l' : List (Nat × PV)} {g g' : EH} (hl : ∀ t u, l'.lookup t = some u → l.lookup t = some u) (hg : ∀ t u, g'.lookup t = some (some u) → g.lookup t = some (some u)) {a : Act} {w : World} (h : Mod cx n l (kG g) nx a w) : Mod cx n l' (kG g') nx a w := by
 obtain ⟨ρ, h1, h2, h3, h4, h5, h6, h9⟩ := h
 have hgg : ∀ b x, S (kG g') b = some x → S (kG g) b = some x := by
  intro b x hx
  unfold Proofs.Ytalbpleglapihaa.S at hx ⊢
  rw [dN] at hx ⊢
  cases hb : g'.lookup b with
  | none => rw [hb] at hx; cases hx
  | some o =>
   cases o with
   | none => rw [hb] at hx; cases hx
   | some v => rw [hg b v hb]; rw [hb] at hx; exact hx
 refine ⟨ρ, h1, ⟨fun b T cs hb => h2.row b T cs (hgg b _ hb), fun b b' m m' hb hb' => h2.inj b b' m m' ?_ ?_, fun b m hb => h2.zf b m ?_, h2.zm, h2.zl⟩, ?_, h4, h5, h6, h9⟩
 ·obtain ⟨x, hx⟩ := Option.ne_none_iff_exists'.1 hb; rw [hgg b x hx]; simp
 ·obtain ⟨x, hx⟩ := Option.ne_none_iff_exists'.1 hb'; rw [hgg b' x hx]; simp
 ·obtain ⟨x, hx⟩ := Option.ne_none_iff_exists'.1 hb; rw [hgg b x hx]; simp
 ·intro t
  unfold Proofs.Ytalbpleglapihaa.S
  cases hb : l'.lookup t with
  | none => exact trivial
  | some u => have := h3 t; rw [iX (hl t u hb)] at this; exact this
def iB (P : Program) (Fn : FnT) (n : Nat) (ops : List Oper) (hs : List H) (l : List (Nat × PV)) (g : EH) (nx : Nat) (live kb : List Nat) : Option (Prop × List (Nat × PV) × EH × Nat) := match oG ops n with
 | true => match iF P Fn ops ops hs l g nx with
  | some (ps, ts, lf, gf, nf) => match fH ops (ts.map OTe.to) nx nf with
   | true => some (AllP ps, k15 lf live, k16 gf kb, nf)
   | false => none
  | none => none
 | false => none
theorem AW.rg {cx : Cx} {n id nx nx' : Nat} {draw : Bool} {ops : List Oper} {Q : u5} {l l' : List (Nat × PV)} {g g' : EH} (hs : List H) (live kb : List Nat) {P : Prop} (h : iB Try.prog Fun n ops hs l g nx live kb = some (P, l', g', nx')) (hP : P) (hQ : Q .normal ⟨l', kG g', nx'⟩) : AW cx n (.region id ops.toArray draw) Q ⟨l, kG g, nx⟩ := by
 unfold iB at h
 split at h
 ·rename_i hd
  split at h
  ·rename_i hr
   split at h
   ·rename_i hc
    cases h
    intro a w hm
    exact lE (by kernel_rfl) hd (fG (cx := cx) hr ((qD _).1 hP)) hc (fun a' w' h => ⟨_, hQ, h.weak (fun t u => mY) (fun t u => mZ)⟩) hm
   ·cases h
  ·cases h
 ·cases h
theorem oT {cx : Cx} {n id nx nx' : Nat} {draw : Bool} {ops : List Oper} {Q : u5} {c : Code} {l l' : List (Nat × PV)} {g g' : EH} (hs : List H) (live kb : List Nat) {P : Prop} (h : iB Try.prog Fun n ops hs l g nx live kb = some (P, l', g', nx')) (hP : P) (hQ : AW cx n c Q ⟨l', kG g', nx'⟩) : AW cx n (.seq (.region id ops.toArray draw) c) Q ⟨l, kG g, nx⟩ :=
 AW.seq (AW.rg hs live kb h hP hQ)
/-! what is the same -/
def eqB (σ : Nat → Nat) : BC → BC → Option (List Prop)
 | .ds x, .ds y => some [x = y]
 | .cs x, .cs y => eqL σ x y
 | _, _ => none
theorem u0s {σ : Nat → Nat} {v v' : BC} {ps : List Prop} (h : eqB σ v v' = some ps) (hp : ∀ p ∈ ps, p) : v.to.map (vH σ) = v'.to := by
 unfold eqB at h
 split at h
 ·cases h
  have e := hp (_ = _) (List.mem_cons_self ..)
  subst e
  show List.map _ (List.map C.d _) = List.map C.d _
  rw [List.map_map]; rfl
 ·exact t9 h hp
 ·cases h
def sg (m : List (Nat × Nat)) (b : Nat) : Nat := match m.lookup b with
 | some c => c
 | none => b
def wY (σ : Nat → Nat) (nx2 : Nat) (l : List (Nat × PV)) : List (Nat × PV) → Option (List Prop)
 | [] => some []
 | (t, u) :: l2 => match l.lookup t, lN nx2 u with
  | some v, true => sE (k6z σ u v) (wY σ nx2 l l2)
  | _, _ => none
theorem pI {σ : Nat → Nat} {nx2 : Nat} {l : List (Nat × PV)} : ∀ {l2 : List (Nat × PV)} {ps : List Prop}, wY σ nx2 l l2 = some ps → (∀ p ∈ ps, p) → RenS σ nx2 l l2
 | [], _, _, _ => trivial
 | (t, u) :: l2, _, h, hp => by
  unfold wY at h
  split at h
  ·rename_i h1 h2
   obtain ⟨p, q, e1, e2, e3, e4⟩ := c6 h hp
   exact ⟨⟨h2, _, u6 h1, xU e1 e3⟩, pI e2 e4⟩
  ·cases h
def u3e (n : Nat) : BC → Bool
 | .ds _ => true
 | .cs l => l.all (cO n)
theorem k61 {n : Nat} {b : BC} (h : u3e n b = true) : b.to.all (cO n) = true := by
 cases b with
 | ds l => show (List.map C.d l).all _ = true; rw [List.all_map]; exact List.all_eq_true.2 fun _ _ => rfl
 | cs l => exact h
def hY (σ : Nat → Nat) (nx2 : Nat) (g : EH) : EH → Option (List Prop)
 | [] => some []
 | (b, some (T, bc)) :: g2 => match Nat.blt b nx2 && (u3e nx2 bc && g2.all fun y => !(σ y.1 == σ b)), g.lookup (σ b) with
  | true, some (some (T', bc')) => match Nat.beq T T' with
   | true => sE (eqB σ bc bc') (hY σ nx2 g g2)
   | false => none
  | _, _ => none
 | (b, none) :: g2 => match g2.all fun y => !(σ y.1 == σ b) with
  | true => hY σ nx2 g g2
  | false => none
theorem RenG.gone {n0 : Nat} {σ : Nat → Nat} {g g2 : List (Nat × Option Bk)} {nx2 b : Nat} (h : RenG n0 σ g g2 nx2) (hi : (g2.all fun y => !(σ y.1 == σ b)) = true) : RenG n0 σ g ((b, none) :: g2) nx2 := by
 rw [List.all_eq_true] at hi
 refine ⟨?_, ?_, h.fix, h.low⟩
 ·intro x hx T' cs' he
  rcases List.mem_cons.1 hx with rfl | hx
  ·cases he
  ·exact h.blk x hx T' cs' he
 ·intro x hx y hy he
  rcases List.mem_cons.1 hx with rfl | hx
  ·rcases List.mem_cons.1 hy with rfl | hy
   ·rfl
   ·have := hi y hy; simp [he] at this
  ·rcases List.mem_cons.1 hy with rfl | hy
   ·have := hi x hx; simp [he] at this
   ·exact h.inj x hx y hy he
theorem mP (p : Nat → Bool) : ∀ g : EH, ((kG g).all fun y => p y.1) = g.all fun y => p y.1
 | [] => rfl
 | x :: g => by show ((x.1, pH x.2) :: kG g).all _ = _; rw [List.all_cons, List.all_cons, mP p g]
theorem d6 {n0 : Nat} {σ : Nat → Nat} {nx2 : Nat} {g : EH} (hf : ∀ b, b < n0 → σ b = b) (hl : n0 ≤ nx2) : ∀ {g2 : EH} {ps : List Prop}, hY σ nx2 g g2 = some ps → (∀ p ∈ ps, p) → RenG n0 σ (kG g) (kG g2) nx2
 | [], _, _, _ => .base hf hl
 | (b, some (T, bc)) :: g2, _, h, hp => by
  unfold hY at h
  split at h
  ·rename_i h1 h2
   simp only [Bool.and_eq_true] at h1
   obtain ⟨c1, c2, c3⟩ := h1
   split at h
   ·rename_i hT
    have hT := Nat.eq_of_beq_eq_true hT
    subst hT
    obtain ⟨p, q, e1, e2, e3, e4⟩ := c6 h hp
    exact .cons (d6 hf hl e2 e4) c1 rfl (qP h2) (u0s e1 e3) (k61 c2) (by rw [mP (fun y => !(σ y == σ b))]; exact c3)
   ·cases h
  ·cases h
 | (b, none) :: g2, _, h, hp => by
  unfold hY at h
  split at h
  ·rename_i h1
   exact (d6 hf hl h hp).gone (by rw [mP (fun y => !(σ y == σ b))]; exact h1)
  ·cases h
structure ES where
 l : List (Nat × PV)
 g : EH
 nx : Nat
def ES.st (s : ES) : St := ⟨s.l, kG s.g, s.nx⟩
def k6i (n0 : Nat) (m : List (Nat × Nat)) : Bool := m.all fun x => Nat.ble n0 x.1
theorem nX {n0 : Nat} : ∀ {m : List (Nat × Nat)}, k6i n0 m = true → ∀ b, b < n0 → sg m b = b
 | [], _, _, _ => rfl
 | (k, c) :: m, h, b, hb => by
  unfold k6i at h
  rw [List.all_cons, Bool.and_eq_true] at h
  have h1 : n0 ≤ k := Nat.le_of_ble_eq_true h.1
  unfold sg
  rw [List.lookup_cons, show (b == k) = false by simp; omega]
  exact nX (m := m) h.2 b hb
def wZ (n0 : Nat) (m : List (Nat × Nat)) (l : List (Nat × PV)) (g : EH) (s : ES) : Option Prop := match k6i n0 m && Nat.ble n0 s.nx with
 | true => match sE (wY (sg m) s.nx l s.l) (hY (sg m) s.nx g s.g) with
  | some ps => some (AllP ps)
  | none => none
 | false => none
theorem pJ {n0 : Nat} {m : List (Nat × Nat)} {l : List (Nat × PV)} {g : EH} {nx : Nat} {s : ES} {P : Prop} (h : wZ n0 m l g s = some P) (hP : P) : k4w n0 ⟨l, kG g, nx⟩ s.st := by
 unfold wZ at h
 split at h
 ·rename_i hc
  rw [Bool.and_eq_true] at hc
  split at h
  ·rename_i hb
   cases h
   obtain ⟨p, q, e1, e2, e3, e4⟩ := c6 hb ((qD _).1 hP)
   exact ⟨sg m, pI e1 e3, d6 (nX hc.1) (Nat.le_of_ble_eq_true hc.2) e2 e4⟩
  ·cases h
 ·cases h
def Rd {α : Type} (n0 : Nat) (I : α → ES) (dec : α → Prop) (s : St) : Prop := ∃ y, k4w n0 s (I y).st ∧ dec y
theorem kW {α : Type} {cx : Cx} {n nx : Nat} {c : Code} {Q : u5} {l : List (Nat × PV)} {g : EH} (n0 : Nat) (hn : cx.n0 = n0) (I : α → ES) (μ : α → Nat) (x0 : α) (m : List (Nat × Nat)) {P : Prop} (h0 : wZ n0 m l g (I x0) = some P) (hP : P) (round : ∀ x, AW cx n c (fU (Rd n0 I (fun y => μ y < μ x)) Q) (I x).st) : AW cx n (.loop c) Q ⟨l, kG g, nx⟩ :=
 AW.loop n0 hn (fun x => (I x).st) μ x0 (pJ h0 hP) (fun x => (round x).mono fun e s' h => by
  cases e with
  | normal => exact h
  | _ => exact h)
theorem qS {α : Type} {n0 nx : Nat} {I : α → ES} {dec : α → Prop} {l : List (Nat × PV)} {g : EH} (y : α) (m : List (Nat × Nat)) {P : Prop} (h : wZ n0 m l g (I y) = some P) (hP : P) (hd : dec y) : Rd n0 I dec ⟨l, kG g, nx⟩ := ⟨y, pJ h hP, hd⟩
/-! results -/
def k9c (P : Program) (l : List (Nat × PV)) (g : EH) : ResultVar → Option E1
 | .tmp t => match l.lookup t with
  | some (.e e) => some e
  | _ => none
 | .cell a ty => match l.lookup a, u2 P ty with
  | some (.e (.c (.ptr b off))), some (false, 1) => match g.lookup b with
   | some (some (_, bc)) => match bc.to[off]? with
    | some c => some (.c c)
    | none => none
   | _ => none
  | some (.e (.c (.ptr b off))), some (true, n) => match g.lookup b with
   | some (some (_, bc)) => match Nat.beq ((bc.to.drop off).take n).length n with
    | true => some (.agg ((bc.to.drop off).take n))
    | false => none
   | _ => none
  | _, _ => none
theorem k5k {l : List (Nat × PV)} {g : EH} {r : ResultVar} {e : E1} (h : k9c Try.prog l g r = some e) : ResE l (kG g) r e := by
 unfold k9c at h
 split at h
 ·split at h
  ·rename_i hl; cases h; exact .tmp (u6 hl)
  ·cases h
 ·split at h
  ·rename_i hl ht
   split at h
   ·rename_i hb
    split at h
    ·rename_i hc; cases h; exact .cell (u6 hl) ht (qP hb) hc
    ·cases h
   ·cases h
  ·rename_i hl ht
   split at h
   ·rename_i hb
    split at h
    ·rename_i hc; cases h; exact .agg (u6 hl) ht (qP hb) rfl (Nat.eq_of_beq_eq_true hc)
    ·cases h
   ·cases h
  ·cases h
def k5j (P : Program) (l : List (Nat × PV)) (g : EH) : List ResultVar → Option (List E1)
 | [] => some []
 | r :: rs => match k9c P l g r, k5j P l g rs with
  | some e, some es => some (e :: es)
  | _, _ => none
theorem w4 {l : List (Nat × PV)} {g : EH} : ∀ {rs : List ResultVar} {es : List E1}, k5j Try.prog l g rs = some es → ResL l (kG g) rs es
 | [], _, h => by cases h; exact .nil
 | r :: rs, _, h => by
  unfold k5j at h
  split at h
  ·rename_i h1 h2; cases h; exact .cons (k5k h1) (w4 h2)
  ·cases h
def u2d (P : Program) (n0 : Nat) (m : List (Nat × Nat)) (rs : List ResultVar) (l : List (Nat × PV)) (g : EH) (y : PV) (g1 : EH) (nx1 : Nat) : Option Prop := match k5j P l g rs, k6i n0 m && (Nat.ble n0 nx1 && lN nx1 y) with
 | some es, true => match sE (k6z (sg m) y (k9l es)) (hY (sg m) nx1 g g1) with
  | some ps => some (AllP ps)
  | none => none
 | _, _ => none
theorem kC {n0 nx nx1 : Nat} {e : Exit} (he : e = .normal ∨ e = .ret) {rs : List ResultVar} {l : List (Nat × PV)} {g g1 : EH} {y : PV} (m : List (Nat × Nat)) {P : Prop} (h : u2d Try.prog n0 m rs l g y g1 nx1 = some P) (hP : P) : EndP n0 rs y (kG g1) nx1 e ⟨l, kG g, nx⟩ := by
 unfold u2d at h
 split at h
 ·rename_i h1 hc
  simp only [Bool.and_eq_true] at hc
  obtain ⟨c1, c2, c3⟩ := hc
  split at h
  ·rename_i hb
   cases h
   obtain ⟨p, q, e1, e2, e3, e4⟩ := c6 hb ((qD _).1 hP)
   exact ⟨he, _, sg m, w4 h1, xU e1 e3, c3, d6 (nX c1) (Nat.le_of_ble_eq_true c2) e2 e4⟩
  ·cases h
 ·cases h
end Go.Proofs.Ytalbpleglapihaa
