/- Merged texts. -/
import Derived.Test.YtalbpleglapihaaZAmS
import Derived.Laws.Strings3
import Derived.Laws.IdiomStrings
import Derived.Lib.Builder
import Derived.Lib.UnsafeStr
import Derived.Lib.AppendStr
import Derived.Test.YtalbpleglapihaaZAmI
import Derived.Test.YtalbpleglapihaaZAmL
import Derived.Test.YtalbpleglapihaaZAmT
namespace Go.Proofs.Ytalbpleglapihaa
open Go.ChangeShapes Go.WideShapes Go.ChangeAt Go.RowKit
set_option linter.unusedVariables false
set_option linter.unusedSimpArgs false
section
variable {cx : Cx} {o : Oper} {l : List (Nat × PV)} {g : EH}
def s5 (P : Program) (h : H) (st : TypeId) : PV → R
 | .e (.c (.d (.lit (.string s)))) => match pA P st, h with
  | true, .i z => iX [((s.size : Nat) : Int) = z] (LV (.int .i64 z))
  | _, _ => none
 | _ => none
theorem x2 {h : H} {x : Operand} {st : TypeId} (ho : o.op = .call { callee := .builtin .len, args := #[x], argTypes := #[st] }) {u : PV} (hu : Ev l x u) : OKR cx o l g (s5 Try.prog h st u) := by
 unfold s5
 split
 ·split
  ·rename_i hq
   refine OKR.some fun hp => k9 fun ρ a w hs => ?_
   have hq := iB hq
   have e := kY (hu.rep hs (by rw [ho]; simp [Op.operands, Call.operands]))
   have hp := (qB _).1 hp _ (List.mem_cons_self ..)
   subst hp
   exact ⟨_, by unfold execOp; simp [ho, resolve, invoke, builtin, e, run_len_string, hq, goInt], uG rfl⟩
  ·exact OKR.none
 ·exact OKR.none
def k6y (P : Program) (h : H) (l : List (Nat × PV)) (t : TypeId) (lo hi mx : Option Operand) : PV → R := fun _ => none
theorem k1z {h : H} {t : TypeId} {x : Operand} {lo hi mx : Option Operand} (ho : o.op = .slice t x lo hi mx) {u : PV} (hu : Ev l x u) : OKR cx o l g (k6y Try.prog h l t lo hi mx u) := OKR.none
def k73 (P : Program) (op : BinOp) (h : H) : PV → PV → R := fun _ _ => none
theorem k2t {op : BinOp} {h : H} {xt yt : TypeId} {x y : Operand} (ho : o.op = .binOp op xt x y yt) {u v : PV} (hu : Ev l x u) (hv : Ev l y v) : OKR cx o l g (k73 Try.prog op h u v) := OKR.none
def bW (s : ByteArray) : List Int := s.data.toList.map fun b => (b.toNat : Int)
theorem k8b {g : List (Nat × Option Bk)} {src dst e : TypeId} {x : Operand} {s : ByteArray} {ls : List Int} {n nx : Nat} (ho : o.op = .convert src dst x) (hs' : Try.prog.underlying src = some .string) (hd : Try.prog.underlying dst = some (.slice e)) (he : Try.prog.underlying e = some (.int .u8)) (hx : Ev l x (LV (.string s))) (hn : bW s = ls) (hl : ls.length = n) (h63 : n ≤ maxLen) :
  OpOK cx o (S l) (S g) ⟨.e (.c (.own nx 0 n 1 true)), [(nx, some (e, (dI .u8 ls).map .d))], [nx], []⟩ := by
 intro Q ρ a w hL hs hf hnews hh hk hdf K hK
 have e1 := kY (hx.rep hs (by rw [ho]; simp [Op.operands]))
 have hr := run_bytes_of_string (P := Try.prog) w src dst e s hs' hd he
 have hsz : s.size = n := by rw [← hl, ← hn]; unfold bW; rw [List.length_map, Array.length_toList]; rfl
 have hcells : (s.data.map (fun b => Value.int .u8 (b.toNat : Int))).toList = ls.map (Value.int .u8) := by
  rw [← hn]; unfold bW; simp [Function.comp_def]
 have hge := grownCap_ge w s.size 0 e
 have hcm := grownCap_le_maxLen w s.size 0 e (by rw [hsz]; exact h63)
 have q1 : OwnM (w.drew.alloc (.cells (bytesRow s (grownCap w s.size 0 e)) e ((bytesRow s (grownCap w s.size 0 e)).size, (bytesRow s (grownCap w s.size 0 e)).size + 1))) 0 e 1 (.slice (some ⟨w.heap.size, 0, none⟩) s.size (grownCap w s.size 0 e)) n (ls.map (Value.int .u8)) := by
  refine ⟨by simp [hl], .inr ⟨w.heap.size, _, _, _, by rw [hsz], Nat.zero_le _, heap_alloc_new w.drew _, .inr (Nat.le_refl _), by omega, hcm, ?_, ?_⟩⟩
  ·unfold bytesRow; rw [Array.size_append, Array.size_map, Array.size_replicate, Nat.mul_one]; have h9 : s.data.size = s.size := rfl; omega
  ·unfold bytesRow
   rw [Array.toList_append, hcells, Nat.mul_one, List.take_append_of_le_length (by simp [hl]), List.take_of_length_le (by simp [hl])]
 have q2 : w.grownBy (w.drew.alloc (.cells (bytesRow s (grownCap w s.size 0 e)) e ((bytesRow s (grownCap w s.size 0 e)).size, (bytesRow s (grownCap w s.size 0 e)).size + 1))) (Value.ownBlock v3) := ⟨rfl, rfl, rfl, by simp, fun k hk _ => Below.heap_alloc w.drew _ k hk⟩
 have h2 : All2 (RepC cx.p ρ w) ((dI .u8 ls).map .d) (ls.map (Value.int .u8)) := by
  unfold dI
  refine All2.mk (by simp) ?_
  intro i c v hc hv
  simp only [List.map_map, List.getElem?_map] at hc hv
  cases hi : ls[i]? with
  | none => rw [hi] at hc; cases hc
  | some z =>
   rw [hi] at hc hv
   cases hc; cases hv
   exact .d (.lit _ rfl)
 obtain ⟨ρ', p1, p2, p3, p4, p5⟩ := hh.regrow hk (hnews nx (by simp)) (kill := []) (fun x => .inl rfl) rfl q1 q2 (.inr (fun g hg => by simp [Value.ownBlock] at hg; omega)) (fun g h => by cases h) h2 (fun g h => by cases h)
 unfold Oper.wp execOp
 simp only [ho, Sem.run_bind, Sem.run_pure, Result.andThen_ok, e1, hr]
 exact hK _ _ ρ' p1 (fun b hb hn => p2 b (by simpa using hb) hn) p3 p4 p5
def k2x (P : Program) (h : H) (nx : Nat) (src dst : TypeId) (u : PV) : R := match u with
 | .e (.c (.d (.lit (.string s)))) => match pA P src, P.underlying dst, h with
  | true, some (.slice e), .st none ls => match xU P e with
   | true => some ([bW s = ls, ls.length ≤ 9223372036854775807], ⟨.e (.c (.own nx 0 ls.length 1 true)), [(nx, some (e, .ds (dI .u8 ls)))], [nx], []⟩)
   | false => none
  | true, some (.slice e), .mk n _ _ => none
  | _, _, _ => none
 | _ => none
theorem k2w {h : H} {nx : Nat} {src dst : TypeId} {x : Operand} (ho : o.op = .convert src dst x) {u : PV} (hu : Ev l x u) : OKR cx o l g (k2x Try.prog h nx src dst u) := by
 unfold k2x
 split
 ·split
  ·rename_i h1 h2
   split
   ·rename_i h3
    refine OKR.some fun hp => ?_
    have hp := (qB _).1 hp
    have hp1 : bW _ = _ := hp _ (List.mem_cons_self ..)
    have hp2 : _ ≤ _ := hp _ (List.mem_cons_of_mem _ (List.mem_cons_self ..))
    unfold xU at h3
    split at h3
    ·rename_i h4
     exact k8b ho (iB h1) h2 h4 hu hp1 rfl (by unfold maxLen; exact hp2)
    ·cases h3
   ·exact OKR.none
  ·exact OKR.none
  ·exact OKR.none
 ·exact OKR.none
theorem xR {w : World} {g : Nat} {cur : Array Value} {T : TypeId} {fz : Nat × Nat} (hg : w.heap[g]? = some (.cells cur T fz)) (hf : Hm fz cur.size) : ∃ fz', (w.freeze ⟨g, cur.size, none⟩ 1).heap[g]? = some (.cells cur T fz') ∧ Hm fz' cur.size := by
 obtain ⟨hlt, hv⟩ := Array.getElem?_eq_some_iff.1 hg
 have e : (w.freeze ⟨g, cur.size, none⟩ 1).heap[g]? = some (.cells cur T (if fz.1 == fz.2 then (cur.size, cur.size + 1) else (min fz.1 cur.size, max fz.2 (cur.size + 1)))) := by
  unfold World.freeze
  rw [if_neg (by decide)]
  show (w.heap.modify g _)[g]? = _
  rw [Array.getElem?_eq_getElem (by simpa using hlt), Array.getElem_modify_self, hv]
 refine ⟨_, e, ?_⟩
 split
 ·exact .inr (Nat.le_refl _)
 ·rename_i hne
  rcases hf with rfl | hf
  ·exact absurd rfl hne
  ·exact .inr (by show cur.size ≤ min fz.1 cur.size; omega)
theorem xQ (w : World) (g k : Nat) : Only g w (w.freeze ⟨g, k, none⟩ 1) := by
 unfold World.freeze
 rw [if_neg (by decide)]
 refine ⟨rfl, rfl, rfl, by simp, fun j hj hne => ?_⟩
 show (w.heap.modify g _)[j]? = _
 rw [Array.getElem?_modify, if_neg (fun e => hne e.symm)]
theorem k4k {g : List (Nat × Option Bk)} {t e : TypeId} {x : Operand} {b n : Nat} {T : TypeId} {cs : List C} (ho : o.op = .convert t t x) (ht : Try.prog.underlying t = some (.slice e)) (he : Try.prog.underlying e = some (.int .u8)) (hx : Ev l x (.e (.c (.own b 0 n 1 true)))) (hb : Look g b (some (T, cs))) (hn : 1 ≤ n) :
  OpOK cx o (S l) (S g) ⟨.e (.c (.own b 0 n 1 true)), [(b, some (T, cs))], [], [b]⟩ := by
 intro Q ρ a w hL hs hfoot _ hh hk hdf K hK
 obtain ⟨m, cap, hm, hnl, ev, h3, h4, h5⟩ := v7 (by omega) (hx.rep hs (by rw [ho]; simp [Op.operands]))
 have hb' : hL b = some (T, cs) := by rw [hfoot b (by simp), hb.S]
 obtain ⟨vs, rest, ⟨fz, q1, qf⟩, q2, q3⟩ := (hh.at hb' hm hnl).1
 have hsz : (vs ++ rest).toArray.size = (vs ++ rest).length := List.size_toArray
 obtain ⟨fz', r1, r2⟩ := xR q1 (by rw [hsz]; exact qf)
 have hO := xQ w m.g (vs ++ rest).toArray.size
 have hgo : Goes cx.p ρ ρ w (w.freeze ⟨m.g, (vs ++ rest).toArray.size, none⟩ 1) := ⟨fun _ _ h => h, fun _ h => h, hO.size, fun k hp hlt => hO.block k hlt (fun e => hp.elim (fun hp => cx.pm k hp (e ▸ (hh.at hb' hm hnl).2)) (fun hz => hh.zf b m (by rw [hb']; simp) hm hnl (e ▸ hz)))⟩
 have hrow : Row cx.p ρ (w.freeze ⟨m.g, (vs ++ rest).toArray.size, none⟩ 1) m T cs := ⟨vs, rest, ⟨fz', r1, by rw [← hsz]; exact r2⟩, q2, q3.imp fun _ _ => RepC.mono hgo⟩
 obtain ⟨p1, p2, p3⟩ := HRep.write hh hk hb' hm hnl hO hrow
 have hshape : w.shape? m.g = some (T, (vs ++ rest).toArray.size) := by unfold World.shape?; rw [q1]
 have hr : (convert t t (.slice (some ⟨m.g, 0, none⟩) n cap)).run Try.prog w = .ok (.slice (some ⟨m.g, 0, none⟩) n cap) (w.freeze ⟨m.g, (vs ++ rest).toArray.size, none⟩ 1) := by
  simp [convert, run_underlying ht, run_underlying he, markStringish, hshape]
 unfold Oper.wp execOp
 simp only [ho, ev, Sem.run_bind, Sem.run_pure, Result.andThen_ok, hr]
 exact hK _ _ ρ p1 (fun _ _ h => h) p2 p3 (.own b 0 n 1 true m cap hm hnl h3 h4 h5)
def sZ (P : Program) (g : EH) (src dst : TypeId) (u : PV) : R := match u with
 | .e (.c (.own b 0 n 1 true)) => match Nat.beq src dst, P.underlying src, g.lookup b with
  | true, some (.slice e), some (some (T, .ds ds)) => match xU P e with
   | true => some ([1 ≤ n], ⟨.e (.c (.own b 0 n 1 true)), [(b, some (T, .ds ds))], [], [b]⟩)
   | false => none
  | _, _, _ => none
 | _ => none
theorem xZ {src dst : TypeId} {x : Operand} (ho : o.op = .convert src dst x) {u : PV} (hu : Ev l x u) : OKR cx o l g (sZ Try.prog g src dst u) := by
 unfold sZ
 split
 ·split
  ·rename_i h1 h2 h3
   split
   ·rename_i h4
    refine OKR.some fun hp => ?_
    have hp := (qB _).1 hp
    have hn : 1 ≤ _ := hp _ (List.mem_cons_self ..)
    obtain rfl := Nat.eq_of_beq_eq_true h1
    unfold xU at h4
    split at h4
    ·rename_i h5
     exact k4k ho h2 h5 hu (qO h3) hn
    ·cases h4
   ·exact OKR.none
  ·exact OKR.none
 ·exact OKR.none
end
/-! texts told as lists of bytes -/
theorem sL {l : List Int} (h : ∀ x ∈ l, 0 ≤ x ∧ x ≤ 255) : bW (strOfNums l) = l := by
 unfold bW strOfNums
 rw [List.map_map]
 have : ∀ l : List Int, (∀ x ∈ l, 0 ≤ x ∧ x ≤ 255) → l.map ((fun b : UInt8 => (b.toNat : Int)) ∘ (fun n : Int => UInt8.ofNat n.toNat)) = l := by
  intro l
  induction l with
  | nil => intro _; rfl
  | cons x xs ih =>
   intro h
   have h1 := h x (List.mem_cons_self ..)
   rw [List.map_cons, ih (fun y hy => h y (List.mem_cons_of_mem _ hy))]
   congr 1
   show (((UInt8.ofNat x.toNat).toNat : Nat) : Int) = x
   rw [UInt8.toNat_ofNat']; omega
 exact this l h
end Go.Proofs.Ytalbpleglapihaa
namespace Go.Proofs.Ytalbpleglapihaa
open Go.ChangeShapes Go.WideShapes Go.ChangeAt Go.RowKit
set_option linter.unusedVariables false
set_option linter.unusedSimpArgs false
theorem rY {P : Program} {b : Frame} {a : Act} {k : List Item} {cs : List Frame} {w : World} {c : Code} :
  stepT P (lone (b.at a (.code (.loop c) :: k)) cs w) = (.next (lone (b.at a (.code c :: .inLoop c :: k)) cs w), #[]) := by
 rw [stepT, move_lone]
 simp [runT, lone, Array.swapAt!, stepG, stepG.exec, Frame.at, MemOp.ofEvents]
 intro h
 exact absurd rfl h
theorem vS {P : Program} {m m1 m2 : Machine} (h1 : step P m = .next m1) (h : Go.Steps P m m2) (hne : m ≠ m2) : Go.Steps P m1 m2 := by
 obtain ⟨n, hn⟩ := h
 cases n with
 | zero => simp [runN] at hn; exact absurd hn hne
 | succ n => simp only [runN, h1] at hn; exact ⟨n, hn⟩
theorem k3j {b : Frame} {a a' : Act} {k k' : List Item} {cs : List Frame} {w w' : World} (h : k ≠ k') : lone (b.at a k) cs w ≠ lone (b.at a' k') cs w' := by
 intro e
 simp only [lone, Machine.mk.injEq, Array.mk.injEq, List.cons.injEq, Goroutine.mk.injEq, Frame.at, Frame.mk.injEq] at e
 exact h e.2.1.1.1.2.2.1
theorem iJ : ∀ {id : Nat} {k k' : List Item}, exitTo id k = some k' → k'.length < k.length
 | id, [], k', h => by cases h
 | id, x :: k, k', h => by
  have ih : ∀ k', exitTo id k = some k' → k'.length < k.length := fun _ h => iJ h
  cases x with
  | inBlock id' =>
   simp only [exitTo] at h
   split at h
   ·cases h; simp
   ·have := ih _ h; simp; omega
  | _ => simp only [exitTo] at h; have := ih _ h; simp; omega
theorem mW {c : Code} : ∀ (x : Code) {l : Nat} {r : Code}, findLabel x l = some r → r ≠ .loop c := by
 intro x
 induction x with
 | seq a b iha ihb =>
  intro l r h
  simp only [findLabel] at h
  split at h
  ·cases h; intro e; cases e
  ·exact ihb h
 | label l' =>
  intro l r h
  simp only [findLabel] at h
  split at h
  ·cases h; intro e; cases e
  ·cases h
 | _ => intro l r h; simp [findLabel] at h
theorem j5 {l : Nat} {c : Code} : ∀ {k k' : List Item}, gotoIn l k = some k' → ∀ y, k' ≠ .code (.loop c) :: y
 | [], k', h => by cases h
 | x :: k, k', h => by
  have ih : ∀ k', gotoIn l k = some k' → ∀ y, k' ≠ .code (.loop c) :: y := fun _ h => j5 h
  cases x with
  | inScope body =>
   simp only [gotoIn] at h
   split at h
   ·rename_i hf
    cases h
    intro y e
    simp only [List.cons.injEq, Item.code.injEq] at e
    exact mW _ hf e.1
   ·exact ih _ h
  | _ => simp only [gotoIn] at h; exact ih _ h
theorem jH {P : Program} {m m1 : Machine} (h1 : stepT P m = (.next m1, #[])) (h : Outgrown P m) : Outgrown P m1 := by
 obtain ⟨n, o, ho, h2, h3⟩ := h
 cases n with
 | zero => simp [runNT] at ho
 | succ n =>
  simp only [runNT, h1] at ho
  exact ⟨n, o, by simpa using ho, h2, h3⟩
theorem lO {P : Program} {Q : Exit → Act → World → Prop} {a : Act} {w : World} {c : Code} (h : c.wp P (Exit.then ((Code.loop c).wp P Q) Q) a w) : (Code.loop c).wp P Q a w := by
 intro b k cs
 obtain ⟨e, a₁, w₁, hq, harr⟩ := h b (.inLoop c :: k) cs
 cases e with
 | normal =>
  obtain ⟨e₂, a₂, w₂, hq₂, harr₂⟩ := hq b k cs
  refine ⟨e₂, a₂, w₂, hq₂, .of_steps (.one step_loop) ?_⟩
  have h2 : Arrives P (lone (b.at a₁ (.code c :: .inLoop c :: k)) cs w₁) b k cs e₂ a₂ w₂ := by
   cases e₂ with
   | normal => exact vS step_loop harr₂ (k3j (fun e => by have := congrArg List.length e; simp at this))
   | exit id => exact fun k' hk => vS step_loop (harr₂ k' hk) (k3j (fun e => by have := congrArg List.length e; have := iJ hk; simp at *; omega))
   | goto l => exact fun k' hk => vS step_loop (harr₂ k' hk) (k3j (fun e => j5 hk _ e.symm))
   | ret =>
    obtain ⟨todo, hs⟩ := harr₂
    exact ⟨todo, vS step_loop hs (by intro e; simp [lone, Frame.at] at e)⟩
   | panic ch =>
    obtain ⟨todo, hs⟩ := harr₂
    exact ⟨todo, vS step_loop hs (by intro e; simp [lone, Frame.at] at e)⟩
   | outgrown => exact harr₂.imp id (jH rY)
  exact .of_steps (Steps.trans harr (.one step_inLoop)) h2
 | exit id => exact ⟨_, a₁, w₁, hq, .of_steps (.one step_loop) (.pass (x := .inLoop c) rfl (fun _ _ => .inl (by simp)) harr)⟩
 | goto l => exact ⟨_, a₁, w₁, hq, .of_steps (.one step_loop) (.pass (x := .inLoop c) rfl (fun _ _ => .inl (by simp)) harr)⟩
 | ret => exact ⟨_, a₁, w₁, hq, .of_steps (.one step_loop) (.pass (x := .inLoop c) rfl (fun _ _ => .inl (by simp)) harr)⟩
 | panic ch => exact ⟨_, a₁, w₁, hq, .of_steps (.one step_loop) (.pass (x := .inLoop c) rfl (fun _ _ => .inl (by simp)) harr)⟩
 | outgrown => exact ⟨_, a₁, w₁, hq, .of_steps (.one step_loop) (.pass (x := .inLoop c) rfl (fun _ _ => .inl (by simp)) harr)⟩
section
variable {cx : Cx} {o : Oper} {l : List (Nat × PV)} {g : EH}
def k72 (P : Program) (op : BinOp) (xt : TypeId) (u v : PV) : R := none
theorem k2s {op : BinOp} {xt yt : TypeId} {x y : Operand} (ho : o.op = .binOp op xt x y yt) {u v : PV} (hu : Ev l x u) (hv : Ev l y v) : OKR cx o l g (k72 Try.prog op xt u v) := OKR.none
def k6x (P : Program) (g : EH) (src dst : TypeId) (u : PV) : R := none
theorem k1u {src dst : TypeId} {x : Operand} (ho : o.op = .convert src dst x) {u : PV} (hu : Ev l x u) : OKR cx o l g (k6x Try.prog g src dst u) := OKR.none
def k2q (P : Program) (h : H) (f : FuncId) (us : Option (List E1)) : R := none
def k74 (P : Program) (h : H) (g : EH) (nx : Nat) (t tn : TypeId) : PV → PV → R := fun _ _ => none
theorem k36 {h : H} {nx : Nat} {t tn : TypeId} {x y : Operand} (ho : o.op = .call { callee := .builtin .append, args := #[x, y], argTypes := #[t, tn] }) {u v : PV} (hu : Ev l x u) (hv : Ev l y v) : OKR cx o l g (k74 Try.prog h g nx t tn u v) := OKR.none
def u20 : PV → R := fun _ => none
theorem k5f {x : Operand} {st : TypeId} (ho : o.op = .call { callee := .builtin .unsafeSliceData, args := #[x], argTypes := #[st] }) {u : PV} (hu : Ev l x u) : OKR cx o l g (u20 u) := OKR.none
def u1z (P : Program) (h : H) (g : EH) (pt : TypeId) (u v : PV) : R := none
theorem k5b {h : H} {pt it : TypeId} {x y : Operand} (ho : o.op = .call { callee := .builtin .unsafeString, args := #[x, y], argTypes := #[pt, it] }) {u v : PV} (hu : Ev l x u) (hv : Ev l y v) : OKR cx o l g (u1z Try.prog h g pt u v) := OKR.none
def AWp (cx : Cx) (n : Nat) (c : Code) (Q : u7) : Nat → St → Prop
 | 0, s => AW cx n (.loop c) Q s
 | k + 1, s => AW cx n c (fK (AWp cx n c Q k) Q) s
theorem AWp.s {cx : Cx} {n : Nat} {c : Code} {Q : u7} {k : Nat} {s : St} (h : AW cx n c (fK (AWp cx n c Q k) Q) s) : AWp cx n c Q (k + 1) s := h
theorem AWp.z {cx : Cx} {n : Nat} {c : Code} {Q : u7} {s : St} (h : AW cx n (.loop c) Q s) : AWp cx n c Q 0 s := h
theorem AWp.ok {cx : Cx} {n : Nat} {c : Code} {Q : u7} : ∀ {k : Nat} {s : St}, AWp cx n c Q k s → AW cx n (.loop c) Q s
 | 0, _, h => h
 | k + 1, s, h => fun a w hm => by
  refine lO (wp_mono (h a w hm) ?_)
  rintro e a' w' ⟨s', h1, h2⟩
  cases e with
  | normal => exact AWp.ok (k := k) h1 a' w' h2
  | _ => exact ⟨s', h1, h2⟩
end
end Go.Proofs.Ytalbpleglapihaa
namespace Go.Proofs.Ytalbpleglapihaa
open Go.ChangeShapes Go.WideShapes Go.ChangeAt Go.RowKit
set_option linter.unusedVariables false
set_option linter.unusedSimpArgs false
abbrev FnT := FuncId → List E1 → List (Nat × Option Bk) → Nat → PV → List (Nat × Option Bk) → Nat → Prop
def k98 (P : Program) (h : H) (l : List (Nat × PV)) (g : EH) (nx : Nat) (b : Builtin) (args : List Operand) (ts : List TypeId) : R := match b, args, ts with
 | .len, [x], [st] => bo (y8 l x) fun u => jA (k2h P st u) (s5 P h st u)
 | .min, [x, y], _ => bo (y8 l x) fun u => bo (y8 l y) fun v => k29 h u v
 | .max, [x, y], _ => bo (y8 l x) fun u => bo (y8 l y) fun v => k2c h u v
 | .max, [x, y, z], _ => bo (y8 l x) fun u => bo (y8 l y) fun v => bo (y8 l z) fun w => k2b h u v w
 | .append, [x, y], [t, t'] => match Nat.beq t t' with
  | true => bo (y8 l x) fun u => bo (y8 l y) fun v => k99 P h g nx t u v
  | false => bo (y8 l x) fun u => bo (y8 l y) fun v => jA (k74 P h g nx t t' u v) (jA (k1r P h nx t t' u v) (k8v P h g nx t t' u v))
 | .copy, [x, y], [t, _] => bo (y8 l x) fun u => bo (y8 l y) fun v => k95 P h g t u v
 | .cap, [x], [st] => bo (y8 l x) (k2v P st)
 | .unsafeSliceData, [x], [_] => bo (y8 l x) u20
 | .unsafeString, [x, y], [pt, _] => bo (y8 l x) fun u => bo (y8 l y) fun v => u1z P h g pt u v
 | _, _, _ => none
def k2o (P : Program) (h : H) (f : FuncId) (us : Option (List E1)) : R := none
theorem x3 {cx : Cx} {o : Oper} {l : List (Nat × PV)} {g : EH} {h : H} {f : FuncId} {args : Array Operand} {ts : Array TypeId} (ho : o.op = .call { callee := .value (.func f), args := args, argTypes := ts }) : OKR cx o l g (k2o Try.prog h f (fC l args.toList)) := OKR.none
theorem s6 {cx : Cx} {o : Oper} {l : List (Nat × PV)} {g : EH} {h : H} {f : FuncId} {args : Array Operand} {ts : Array TypeId} (ho : o.op = .call { callee := .value (.func f), args := args, argTypes := ts }) : OKR cx o l g (k2q Try.prog h f (fC l args.toList)) := OKR.none
def evC (P : Program) (Fn : FnT) (h : H) (l : List (Nat × PV)) (g : EH) (nx : Nat) (c : Call) : R := match c with
 | ⟨.builtin b, args, ts⟩ => k98 P h l g nx b args.toList ts.toList
 | ⟨.value (.func f), args, _⟩ => jA (k2q P h f (fC l args.toList)) (jA (k2o P h f (fC l args.toList)) (b8 P Fn h g nx f (fC l args.toList)))
 | ⟨.value x, args, _⟩ => bo (y8 l x) fun u => match k8t u with
  | some (f, qs) => match Nat.blt f jG with
   | true => b8 P Fn h g nx f (k35 l args.toList qs)
   | false => b8 P Fn h g nx (fnU f) (k34 l args.toList qs)
  | none => none
 | _ => none
theorem k87 {cx : Cx} {o : Oper} {l : List (Nat × PV)} {g : List (Nat × Option Bk)} {xt : TypeId} {x : Operand} {n r : Int} (ho : o.op = .unOp .xor xt x) (hx : Ev l x (LV (.int .u32 n))) (hc : qK .xor .u32 4294967295 n = r) : OpOK cx o (S l) (S g) ⟨LV (.int .u32 r), [], [], []⟩ :=
 k9 fun ρ a w hs => ⟨.int .u32 r, by
  have e := kY (hx.rep hs (by rw [ho]; simp [Op.operands]))
  subst hc
  unfold execOp; simp only [ho, e]; rfl, uG rfl⟩
def k1t (h : H) : PV → R
 | .e (.c (.d (.lit (.int .u32 n)))) => match h with
  | .i r => iX [qK .xor .u32 4294967295 n = r] (LV (.int .u32 r))
  | _ => none
 | _ => none
theorem k1s {cx : Cx} {o : Oper} {l : List (Nat × PV)} {g : EH} {h : H} {xt : TypeId} {x : Operand} (ho : o.op = .unOp .xor xt x) {u : PV} (hu : Ev l x u) : OKR cx o l g (k1t h u) := by
 unfold k1t
 split
 ·split
  ·refine OKR.some fun hp => ?_
   exact k87 ho hu hp
  ·exact OKR.none
 ·exact OKR.none
def wU (P : Program) (Fn : FnT) (h : H) (l : List (Nat × PV)) (g : EH) (nx : Nat) : Op → R
 | .move x => bo (y8 l x) pv
 | .assign x => bo (y8 l x) pv
 | .nilCheck x => bo (y8 l x) fun u => match u with
  | .e (.c (.ptr b off)) => pv (.e (.c (.ptr b off)))
  | _ => none
 | .unOp .not _ x => bo (y8 l x) (k22 h)
 | .unOp .neg _ x => bo (y8 l x) (k26 h)
 | .unOp .xor _ x => bo (y8 l x) (k1t h)
 | .pick c x y => bo (y8 l c) fun u => sY h u (y8 l x) (y8 l y)
 | .binOp op xt x y _ => bo (y8 l x) fun u => bo (y8 l y) fun v => jA (k24 P op xt u v) (jA (k72 P op xt u v) (jA (tB P op h xt u v) (k73 P op h u v)))
 | .convert s d x => bo (y8 l x) fun u => jA (k1w P h g s d u) (jA (k2x P h nx s d u) (jA (sZ P g s d u) (jA (k6x P g s d u) (s7 P h s d u))))
 | .extract x i => bo (y8 l x) (k2r i)
 | .fieldAddr t x i => bo (y8 l x) (k94 P t i)
 | .field t x i => bo (y8 l x) (k2n P t i)
 | .load ty x => bo (y8 l x) (s0 P h g ty)
 | .store ty x y => bo (y8 l x) fun u => bo (y8 l y) fun v => m6 P h g ty u v
 | .alloc T => nA P nx T
 | .box T x => bo (y8 l x) (k2z nx T)
 | .build t ps => jA (m9 P l t ps) (pJ P l t ps)
 | .buildSlice t n ps => jA (k33 P nx t n ps) (k97 P l nx t n ps)
 | .makeSlice t x y => bo (y8 l x) fun u => bo (y8 l y) fun v => k90 P h nx t u v
 | .indexAddr t x y => bo (y8 l x) fun u => bo (y8 l y) fun v => jA (k70 P h t u v) (k92 P h t u v)
 | .index t x y => bo (y8 l x) fun u => bo (y8 l y) fun v => jA (k71 P h t u v) (k2k P h t u v)
 | .slice t x lo hi mx => bo (y8 l x) fun u => jA (k6z P t lo hi mx u) <| jA (k1y P h l g t lo hi mx u) (jA (k8x P h l t lo hi mx u) (k6y P h l t lo hi mx u))
 | .call c => evC P Fn h l g nx c
 | .makeFunc (.func f) first caps => match first.toList with
  | [] => k91 l f caps.toList
  | _ => match caps.toList with
   | [] => k2e l f first.toList
   | _ => none
 | _ => none
section
variable {cx : Cx} {o : Oper} {l : List (Nat × PV)} {g : EH}
theorem dD {α : Type} {a : Array α} {l : List α} (h : a.toList = l) : a = l.toArray := by subst h; simp
theorem k5o {h : H} {nx : Nat} {b : Builtin} {args : Array Operand} {ts : Array TypeId} (ho : o.op = .call { callee := .builtin b, args := args, argTypes := ts }) : OKR cx o l g (k98 Try.prog h l g nx b args.toList ts.toList) := by
 unfold k98
 split
 ·rename_i h1 h2
  rw [dD h1, dD h2] at ho
  exact OKR.bo fun u hu => OKR.or (k2g ho hu) (x2 ho hu)
 ·rename_i h1
  rw [dD h1] at ho
  exact OKR.bo fun u hu => OKR.bo fun v hv => k28 ho hu hv
 ·rename_i h1
  rw [dD h1] at ho
  exact OKR.bo fun u hu => OKR.bo fun v hv => k2a ho hu hv
 ·rename_i h1
  rw [dD h1] at ho
  exact OKR.bo fun u hu => OKR.bo fun v hv => OKR.bo fun w hw => xY ho hu hv hw
 ·rename_i h1 h2
  rw [dD h1, dD h2] at ho
  split
  ·rename_i ht
   have ht := Nat.eq_of_beq_eq_true ht
   subst ht
   exact OKR.bo fun u hu => OKR.bo fun v hv => k5p ho hu hv
  ·exact OKR.bo fun u hu => OKR.bo fun v hv => OKR.or (k36 ho hu hv) (OKR.or (k1q ho hu hv) (k5a ho hu hv))
 ·rename_i h1 h2
  rw [dD h1, dD h2] at ho
  exact OKR.bo fun u hu => OKR.bo fun v hv => k5l ho hu hv
 ·rename_i h1 h2
  rw [dD h1, dD h2] at ho
  exact OKR.bo fun u hu => k2u ho hu
 ·rename_i h1 h2
  rw [dD h1, dD h2] at ho
  exact OKR.bo fun u hu => k5f ho hu
 ·rename_i h1 h2
  rw [dD h1, dD h2] at ho
  exact OKR.bo fun u hu => OKR.bo fun v hv => k5b ho hu hv
 ·exact OKR.none
theorem pH {h : H} {nx : Nat} {op : Op} (ho : o.op = op) : OKR cx o l g (wU Try.prog Fun h l g nx op) := by
 unfold wU
 split
 ·exact OKR.bo fun u hu => OKR.some fun _ => k4j ho hu
 ·exact OKR.bo fun u hu => OKR.some fun _ => xL ho hu
 ·refine OKR.bo fun u hu => ?_
  split
  ·exact OKR.some fun _ => oO ho hu
  ·exact OKR.none
 ·exact OKR.bo fun u hu => k21 ho hu
 ·exact OKR.bo fun u hu => k25 ho hu
 ·exact OKR.bo fun u hu => k1s ho hu
 ·exact OKR.bo fun u hu => xX ho hu
 ·exact OKR.bo fun u hu => OKR.bo fun v hv => OKR.or (k23 ho hu hv) (OKR.or (k2s ho hu hv) (OKR.or (x7 ho hu hv) (k2t ho hu hv)))
 ·exact OKR.bo fun u hu => OKR.or (k1v ho hu) (OKR.or (k2w ho hu) (OKR.or (xZ ho hu) (OKR.or (k1u ho hu) (x4 ho hu))))
 ·exact OKR.bo fun u hu => k2p ho hu
 ·exact OKR.bo fun u hu => k5k ho hu
 ·exact OKR.bo fun u hu => k2m ho hu
 ·exact OKR.bo fun u hu => x1 ho hu
 ·exact OKR.bo fun u hu => OKR.bo fun v hv => sX ho hu hv
 ·exact tC ho
 ·exact OKR.bo fun u hu => k2y ho hu
 ·exact OKR.or (tA ho) (pI ho)
 ·exact OKR.or (k32 ho) (k5n ho)
 ·exact OKR.bo fun u hu => OKR.bo fun v hv => k5h ho hu hv
 ·exact OKR.bo fun u hu => OKR.bo fun v hv => OKR.or (k2i ho hu hv) (k5j ho hu hv)
 ·exact OKR.bo fun u hu => OKR.bo fun v hv => OKR.or (k2l ho hu hv) (k2j ho hu hv)
 ·exact OKR.bo fun u hu => OKR.or (k20 ho hu) <| OKR.or (k1x ho hu) (OKR.or (k5c ho hu) (k1z ho hu))
 ·unfold evC
  split
  ·exact k5o ho
  ·exact OKR.or (s6 ho) (OKR.or (x3 ho) (x5 ho))
  ·refine OKR.bo fun u hu => ?_
   split
   ·rename_i hf
    have := k57 hf
    subst this
    split
    ·rename_i hlo; exact s8 ho hu hlo
    ·rename_i hlo; exact s9 ho hu hlo
   ·exact OKR.none
  ·exact OKR.none
 ·split
  ·rename_i h0; exact k5i ho h0
  ·split
   ·rename_i h1; exact k2d ho h1
   ·exact OKR.none
 ·exact OKR.none
theorem rC {ds : List D} {T : TypeId} {n s nx : Nat} {wr : List (Nat × Option Bk)} {news foot : List Nat} {h0 : Hp} {τ : Nat → PV} (hnx : wr.lookup nx = none) (hl : ds.length = n * s) (h : OpOK cx o τ h0 ⟨.e (.c (.own nx 0 n s true)), wr ++ [(nx, some (T, ds.map .d))], news, foot⟩) :
  OpOK cx o τ h0 ⟨.e (.c (.d (.sl ds n))), wr ++ [(nx, none)], news, foot⟩ := by
 intro Q ρ a w hL hs hf hn hh hk hd K hK
 refine h Q ρ a w hL hs hf hn hh hk hd K ?_
 intro v w' ρ' g1 g2 g3 g4 g5
 have hx : ((wr ++ [(nx, some (T, ds.map C.d))]).lookup nx).getD (hL nx) = some (T, ds.map C.d) := by rw [yL, hnx]; simp
 have hx' : ((wr ++ [(nx, none)]).lookup nx).getD (hL nx) = none := by rw [yL, hnx]; simp
 have hne : ∀ x, x ≠ nx → ((wr ++ [(nx, none)]).lookup x).getD (hL x) = ((wr ++ [(nx, some (T, ds.map C.d))]).lookup x).getD (hL x) := by
  intro x hxn
  rw [yL, yL]
  simp only [List.lookup_cons, show (x == nx) = false by simpa using hxn, List.lookup_nil]
 have hsub : ∀ x, ((wr ++ [(nx, none)]).lookup x).getD (hL x) ≠ none → x ≠ nx ∧ ((wr ++ [(nx, some (T, ds.map C.d))]).lookup x).getD (hL x) ≠ none := by
  intro x hq
  have : x ≠ nx := fun e => hq (by rw [e]; exact hx')
  exact ⟨this, by rw [← hne x this]; exact hq⟩
 have hsub2 : ∀ x T' cs, ((wr ++ [(nx, none)]).lookup x).getD (hL x) = some (T', cs) → x ≠ nx ∧ ((wr ++ [(nx, some (T, ds.map C.d))]).lookup x).getD (hL x) = some (T', cs) := by
  intro x T' cs hq
  have hq2 := hsub x (by rw [hq]; simp)
  exact ⟨hq2.1, by rw [← hne x hq2.1]; exact hq⟩
 obtain ⟨m, k1, k2⟩ := g3.row nx T _ hx
 rcases k2 with ⟨k2, k3⟩ | ⟨k2, ⟨vs, rest, r1, r2, r3⟩, k4⟩
 ·have hds : ds = [] := List.map_eq_nil_iff.1 k3
  subst hds
  refine hK v w' ρ' g1 g2 ⟨fun b T' cs hb => g3.row b T' cs (hsub2 b T' cs hb).2, fun b b' m m' hb hb' => g3.inj b b' m m' (hsub b hb).2 (hsub b' hb').2, fun b m hb => g3.zf b m (hsub b hb).2, g3.zm, g3.zl⟩ g4 ?_
  have g5' : RepC cx.p ρ' w' (.own nx 0 n s true) v := g5
  cases g5' with
  | own _ _ _ _ _ m2 cap hm hn' => rw [k1] at hm; cases hm; rw [k2] at hn'; cases hn'
  | ownn => exact .d (.nil none 0 (Nat.zero_le _) (fun _ => rfl))
 ·have hgo : Goes cx.p ρ' ⟨ρ'.f, fun k => ρ'.z k ∨ k = m.g⟩ w' w' := ⟨fun _ _ h => h, fun _ h => .inl h, Nat.le_refl _, fun _ _ _ => rfl⟩
  have hg1 : Goes cx.p ρ ⟨ρ'.f, fun k => ρ'.z k ∨ k = m.g⟩ w w' := ⟨g1.ext, fun k hz => .inl (g1.zext k hz), g1.size, g1.old⟩
  refine hK v w' ⟨ρ'.f, fun k => ρ'.z k ∨ k = m.g⟩ hg1 g2 ⟨?_, fun b b' m m' hb hb' => g3.inj b b' m m' (hsub b hb).2 (hsub b' hb').2, ?_, ?_, ?_⟩ g4 ?_
  ·intro b T' cs hb
   obtain ⟨m', p1, p2⟩ := g3.row b T' cs (hsub2 b T' cs hb).2
   exact ⟨m', p1, p2.imp id fun p => ⟨p.1, p.2.1.mono hgo rfl, p.2.2⟩⟩
  ·intro b m1 hb hm1 hn1 hz
   rcases hz with hz | hz
   ·exact g3.zf b m1 (hsub b hb).2 hm1 hn1 hz
   ·exact (hsub b hb).1 (g3.inj b nx m1 m (hsub b hb).2 (by rw [hx]; simp) hm1 k1 hn1 k2 hz)
  ·intro k hz
   rcases hz with hz | hz
   ·exact g3.zm k hz
   ·exact hz ▸ k4
  ·intro k hz
   rcases hz with hz | hz
   ·exact g3.zl k hz
   ·exact hz ▸ r1.lt
  ·have g5' : RepC cx.p ρ' w' (.own nx 0 n s true) v := g5
   cases g5' with
   | own _ _ _ _ _ m2 cap hm hn' h1 h2 h3 =>
    rw [k1] at hm; cases hm
    have hvl : vs.length = ds.length := by have := r3.len; simpa using this.symm
    refine .d (.sl ds vs m.g 0 n cap hvl ?_ ?_ (.inr (.inr rfl)) r1.lt h1 h2)
    ·intro i u hu
     rw [Nat.zero_add]
     exact BlkM.cell (vs := vs ++ rest) r1 i (by rw [List.getElem?_append_left (List.getElem?_eq_some_iff.1 hu).1]; exact hu)
    ·intro i d u hd' hu
     have := (r3.imp fun _ _ => RepC.mono hgo).get i (.d d) u (by rw [List.getElem?_map, hd']; rfl) hu
     cases this with
     | d h => exact h
   | ownn _ _ m2 hm hn' => rw [k1] at hm; cases hm; rw [k2] at hn'; cases hn'
def fzR : R → R
 | some (ps, ⟨.e (.c (.own b 0 n s true)), wr, news, foot⟩) => match wr with
  | [(b', some (T, .ds ds))] => match Nat.beq b' b with
   | true => some (ps ++ [ds.length = n * s], ⟨.e (.c (.d (.sl ds n))), [(b, none)], news, foot⟩)
   | false => none
  | [(b0, none), (b', some (T, .ds ds))] => match Nat.beq b' b, Nat.beq b b0 with
   | true, false => some (ps ++ [ds.length = n * s], ⟨.e (.c (.d (.sl ds n))), [(b0, none), (b, none)], news, foot⟩)
   | _, _ => none
  | _ => none
 | _ => none
theorem k8r {r : R} (h : OKR cx o l g r) : OKR cx o l g (fzR r) := by
 unfold fzR
 split
 ·rename_i ps b n s wr news foot
  split
  ·split
   ·rename_i hb
    refine OKR.some fun hp => ?_
    have hp := (qB _).1 hp
    have hl : _ = _ := hp _ (List.mem_append_right _ (List.mem_cons_self ..))
    obtain rfl := Nat.eq_of_beq_eq_true hb
    exact rC (wr := []) rfl hl (h _ _ rfl ((qB _).2 fun p hpp => hp p (List.mem_append_left _ hpp)))
   ·exact OKR.none
  ·split
   ·rename_i hb hb0
    refine OKR.some fun hp => ?_
    have hp := (qB _).1 hp
    have hl : _ = _ := hp _ (List.mem_append_right _ (List.mem_cons_self ..))
    obtain rfl := Nat.eq_of_beq_eq_true hb
    refine rC (wr := [(_, none)]) ?_ hl (h _ _ rfl ((qB _).2 fun p hpp => hp p (List.mem_append_left _ hpp)))
    have hne := Nat.ne_of_beq_eq_false hb0
    have e9 := beq_eq_false_iff_ne.2 hne
    rw [List.lookup_cons, e9]; rfl
   ·exact OKR.none
  ·exact OKR.none
 ·exact OKR.none
def k8z (P : Program) (Fn : FnT) (h : H) (l : List (Nat × PV)) (g : EH) (nx : Nat) (op : Op) : R := match h with
 | .fz h' => fzR (wU P Fn h' l g nx op)
 | h => wU P Fn h l g nx op
theorem k5g {h : H} {nx : Nat} {op : Op} (ho : o.op = op) : OKR cx o l g (k8z Try.prog Fun h l g nx op) := by
 unfold k8z
 split
 ·exact k8r (pH ho)
 ·exact pH ho
end
def stepG (ops : List Oper) (l : List (Nat × PV)) (o : Oper) : Option Bool := match o.guard with
 | none => some true
 | some (gi, b) => match ops[gi]? with
  | some og => match og.dst with
   | some dg => match l.lookup dg with
    | some (.e (.c (.d (.lit (.bool b'))))) => some (b' == b)
    | some (.tup []) => some false
    | _ => none
   | none => none
  | none => none
theorem hX {X : Type} [Inhabited X] {l : List (Nat × X)} {t : Nat} {u : X} (h : l.lookup t = some u) : S l t = u := (u9 h).S
theorem xD {cx : Cx} {ops : List Oper} {l : List (Nat × PV)} {g : List (Nat × Option Bk)} {o : Oper} {t : OT} (h : stepG ops l o = some true) (hok : OpOK cx o (S l) (S g) t) : StepO cx ops o l g t := by
 unfold stepG at h
 unfold StepO
 split at h
 ·rename_i hg; rw [hg]; exact hok
 ·rename_i gi b hg
  rw [hg]
  split at h
  ·rename_i og hog
   split at h
   ·rename_i dg hdg
    split at h
    ·rename_i b' hl
     refine ⟨dg, og, hog, hdg, .inl ⟨b', hX hl, ?_⟩⟩
     have : b' = b := by simpa using h
     rw [if_pos this]; exact hok
    ·cases h
    ·cases h
   ·cases h
  ·cases h
theorem z7 {cx : Cx} {ops : List Oper} {l : List (Nat × PV)} {g : List (Nat × Option Bk)} {o : Oper} (h : stepG ops l o = some false) : StepO cx ops o l g ⟨.tup [], [], [], []⟩ := by
 unfold stepG at h
 unfold StepO
 split at h
 ·cases h
 ·rename_i gi b hg
  rw [hg]
  split at h
  ·rename_i og hog
   split at h
   ·rename_i dg hdg
    split at h
    ·rename_i b' hl
     refine ⟨dg, og, hog, hdg, .inl ⟨b', hX hl, ?_⟩⟩
     have : ¬ b' = b := by simpa using h
     rw [if_neg this]; exact ⟨rfl, rfl, rfl⟩
    ·rename_i hl
     exact ⟨dg, og, hog, hdg, .inr ⟨hX hl, rfl, rfl, rfl⟩⟩
    ·cases h
   ·cases h
  ·cases h
def gS (P : Program) (Fn : FnT) (ops : List Oper) : List Oper → List H → List (Nat × PV) → EH → Nat → Option (List Prop × List OTe × List (Nat × PV) × EH × Nat)
 | [], _, l, g, nx => some ([], [], l, g, nx)
 | o :: os, hs, l, g, nx => match stepG ops l o with
  | some true => match hs with
   | h :: hs => match k8z P Fn h l g nx o.op with
    | some (ps, t) => match gS P Fn ops os hs (cM o t.u ++ l) (t.wr ++ g) (nx + t.news.length) with
     | some (ps', ts, r) => some (ps ++ ps', t :: ts, r)
     | none => none
    | none => none
   | [] => none
  | some false => match gS P Fn ops os hs (cM o (.tup []) ++ l) g nx with
   | some (ps', ts, r) => some (ps', ⟨.tup [], [], [], []⟩ :: ts, r)
   | none => none
  | none => none
theorem eV {cx : Cx} {ops : List Oper} : ∀ {os : List Oper} {hs : List H} {l lf : List (Nat × PV)} {g gf : EH} {nx nf : Nat} {ps : List Prop} {ts : List OTe}, gS Try.prog Fun ops os hs l g nx = some (ps, ts, lf, gf, nf) → (∀ p ∈ ps, p) → Steps cx ops os (ts.map OTe.to) l (kG g) lf (kG gf)
 | [], _, _, _, _, _, _, _, _, _, h, _ => by cases h; exact .nil _ _
 | o :: os, hs, l, lf, g, gf, nx, nf, ps, ts, h, hp => by
  unfold gS at h
  split at h
  ·rename_i hg
   split at h
   ·split at h
    ·rename_i he
     split at h
     ·rename_i hr
      cases h
      rw [List.map_cons]
      refine .cons (xD hg (k5g rfl _ _ he ((qB _).2 fun p h => hp p (List.mem_append_left _ h)))) ?_
      have := eV (cx := cx) hr (fun p h => hp p (List.mem_append_right _ h))
      rw [tV] at this
      exact this
     ·cases h
    ·cases h
   ·cases h
  ·rename_i hg
   split at h
   ·rename_i hr
    cases h
    rw [List.map_cons]
    exact .cons (z7 hg) (eV (cx := cx) hr hp)
   ·cases h
  ·cases h
def k04 (lf : List (Nat × PV)) : List Nat → List (Nat × PV)
 | [] => []
 | t :: ts => match lf.lookup t with
  | some u => (t, u) :: k04 lf ts
  | none => k04 lf ts
theorem l3 {lf : List (Nat × PV)} {t : Nat} {u : PV} : ∀ {ts : List Nat}, (k04 lf ts).lookup t = some u → lf.lookup t = some u
 | [], h => by cases h
 | a :: ts, h => by
  unfold k04 at h
  split at h
  ·rename_i v hv
   rw [List.lookup_cons] at h
   split at h
   ·rename_i hb; simp at hb; subst hb; cases h; exact hv
   ·exact l3 h
  ·exact l3 h
def k05 (gf : EH) : List Nat → EH
 | [] => []
 | t :: ts => match gf.lookup t with
  | some (some u) => (t, some u) :: k05 gf ts
  | _ => k05 gf ts
theorem l4 {gf : EH} {t : Nat} {u : EBk} : ∀ {ts : List Nat}, (k05 gf ts).lookup t = some (some u) → gf.lookup t = some (some u)
 | [], h => by cases h
 | a :: ts, h => by
  unfold k05 at h
  split at h
  ·rename_i v hv
   rw [List.lookup_cons] at h
   split at h
   ·rename_i hb; simp at hb; subst hb; cases h; exact hv
   ·exact l4 h
  ·exact l4 h
theorem Mod.weak {cx : Cx} {n nx : Nat} {l l' : List (Nat × PV)} {g g' : EH} (hl : ∀ t u, l'.lookup t = some u → l.lookup t = some u) (hg : ∀ t u, g'.lookup t = some (some u) → g.lookup t = some (some u)) {a : Act} {w : World} (h : Mod cx n l (kG g) nx a w) : Mod cx n l' (kG g') nx a w := by
 obtain ⟨ρ, h1, h2, h3, h4, h5, h6, h9⟩ := h
 have hgg : ∀ b x, S (kG g') b = some x → S (kG g) b = some x := by
  intro b x hx
  unfold Proofs.Ytalbpleglapihaa.S at hx ⊢
  rw [c5] at hx ⊢
  cases hb : g'.lookup b with
  | none => rw [hb] at hx; cases hx
  | some o =>
   cases o with
   | none => rw [hb] at hx; cases hx
   | some v => rw [hg b v hb]; rw [hb] at hx; exact hx
 refine ⟨ρ, h1, ⟨fun b T cs hb => h2.row b T cs (hgg b _ hb), fun b b' m m' hb hb' => h2.inj b b' m m' ?_ ?_, fun b m hb => h2.zf b m ?_, h2.zm, h2.zl⟩, ?_, h4, h5, h6, h9⟩
 ·obtain ⟨x, hx⟩ := Option.ne_none_iff_exists'.1 hb; rw [hgg b x hx]; simp
 ·obtain ⟨x, hx⟩ := Option.ne_none_iff_exists'.1 hb'; rw [hgg b' x hx]; simp
 ·obtain ⟨x, hx⟩ := Option.ne_none_iff_exists'.1 hb; rw [hgg b x hx]; simp
 ·intro t
  unfold Proofs.Ytalbpleglapihaa.S
  cases hb : l'.lookup t with
  | none => exact trivial
  | some u => have := h3 t; rw [hX (hl t u hb)] at this; exact this
def gR (P : Program) (Fn : FnT) (n : Nat) (ops : List Oper) (hs : List H) (l : List (Nat × PV)) (g : EH) (nx : Nat) (live kb : List Nat) : Option (Prop × List (Nat × PV) × EH × Nat) := match nD ops n with
 | true => match gS P Fn ops ops hs l g nx with
  | some (ps, ts, lf, gf, nf) => match eX ops (ts.map OTe.to) nx nf with
   | true => some (AllP ps, k04 lf live, k05 gf kb, nf)
   | false => none
  | none => none
 | false => none
theorem AW.rg {cx : Cx} {n id nx nx' : Nat} {draw : Bool} {ops : List Oper} {Q : u7} {l l' : List (Nat × PV)} {g g' : EH} (hs : List H) (live kb : List Nat) {P : Prop} (h : gR Try.prog Fun n ops hs l g nx live kb = some (P, l', g', nx')) (hP : P) (hQ : Q .normal ⟨l', kG g', nx'⟩) : AW cx n (.region id ops.toArray draw) Q ⟨l, kG g, nx⟩ := by
 unfold gR at h
 split at h
 ·rename_i hd
  split at h
  ·rename_i hr
   split at h
   ·rename_i hc
    cases h
    intro a w hm
    exact jN (by kernel_rfl) hd (eV (cx := cx) hr ((qB _).1 hP)) hc (fun a' w' h => ⟨_, hQ, h.weak (fun t u => l3) (fun t u => l4)⟩) hm
   ·cases h
  ·cases h
 ·cases h
theorem nQ {cx : Cx} {n id nx nx' : Nat} {draw : Bool} {ops : List Oper} {Q : u7} {c : Code} {l l' : List (Nat × PV)} {g g' : EH} (hs : List H) (live kb : List Nat) {P : Prop} (h : gR Try.prog Fun n ops hs l g nx live kb = some (P, l', g', nx')) (hP : P) (hQ : AW cx n c Q ⟨l', kG g', nx'⟩) : AW cx n (.seq (.region id ops.toArray draw) c) Q ⟨l, kG g, nx⟩ :=
 AW.seq (AW.rg hs live kb h hP hQ)
/-! what is the same -/
def eqB (σ : Nat → Nat) : BC → BC → Option (List Prop)
 | .ds x, .ds y => some [x = y]
 | .cs x, .cs y => eqL σ x y
 | _, _ => none
theorem k9c {σ : Nat → Nat} {v v' : BC} {ps : List Prop} (h : eqB σ v v' = some ps) (hp : ∀ p ∈ ps, p) : v.to.map (vE σ) = v'.to := by
 unfold eqB at h
 split at h
 ·cases h
  have e := hp (_ = _) (List.mem_cons_self ..)
  subst e
  show List.map _ (List.map C.d _) = List.map C.d _
  rw [List.map_map]; rfl
 ·exact tD h hp
 ·cases h
def sg (m : List (Nat × Nat)) (b : Nat) : Nat := match m.lookup b with
 | some c => c
 | none => b
def tZ (σ : Nat → Nat) (nx2 : Nat) (l : List (Nat × PV)) : List (Nat × PV) → Option (List Prop)
 | [] => some []
 | (t, u) :: l2 => match l.lookup t, jW nx2 u with
  | some v, true => pS (k5q σ u v) (tZ σ nx2 l l2)
  | _, _ => none
theorem oD {σ : Nat → Nat} {nx2 : Nat} {l : List (Nat × PV)} : ∀ {l2 : List (Nat × PV)} {ps : List Prop}, tZ σ nx2 l l2 = some ps → (∀ p ∈ ps, p) → RenS σ nx2 l l2
 | [], _, _, _ => trivial
 | (t, u) :: l2, _, h, hp => by
  unfold tZ at h
  split at h
  ·rename_i h1 h2
   obtain ⟨p, q, e1, e2, e3, e4⟩ := cI h hp
   exact ⟨⟨h2, _, u9 h1, wV e1 e3⟩, oD e2 e4⟩
  ·cases h
def u1u (n : Nat) : BC → Bool
 | .ds _ => true
 | .cs l => l.all (bY n)
theorem k4t {n : Nat} {b : BC} (h : u1u n b = true) : b.to.all (bY n) = true := by
 cases b with
 | ds l => show (List.map C.d l).all _ = true; rw [List.all_map]; exact List.all_eq_true.2 fun _ _ => rfl
 | cs l => exact h
def gO (σ : Nat → Nat) (nx2 : Nat) (g : EH) : EH → Option (List Prop)
 | [] => some []
 | (b, some (T, bc)) :: g2 => match Nat.blt b nx2 && (u1u nx2 bc && g2.all fun y => !(σ y.1 == σ b)), g.lookup (σ b) with
  | true, some (some (T', bc')) => match Nat.beq T T' with
   | true => pS (eqB σ bc bc') (gO σ nx2 g g2)
   | false => none
  | _, _ => none
 | (b, none) :: g2 => match g2.all fun y => !(σ y.1 == σ b) with
  | true => gO σ nx2 g g2
  | false => none
theorem RenG.gone {n0 : Nat} {σ : Nat → Nat} {g g2 : List (Nat × Option Bk)} {nx2 b : Nat} (h : RenG n0 σ g g2 nx2) (hi : (g2.all fun y => !(σ y.1 == σ b)) = true) : RenG n0 σ g ((b, none) :: g2) nx2 := by
 rw [List.all_eq_true] at hi
 refine ⟨?_, ?_, h.fix, h.low⟩
 ·intro x hx T' cs' he
  rcases List.mem_cons.1 hx with rfl | hx
  ·cases he
  ·exact h.blk x hx T' cs' he
 ·intro x hx y hy he
  rcases List.mem_cons.1 hx with rfl | hx
  ·rcases List.mem_cons.1 hy with rfl | hy
   ·rfl
   ·have := hi y hy; simp [he] at this
  ·rcases List.mem_cons.1 hy with rfl | hy
   ·have := hi x hx; simp [he] at this
   ·exact h.inj x hx y hy he
theorem lU (p : Nat → Bool) : ∀ g : EH, ((kG g).all fun y => p y.1) = g.all fun y => p y.1
 | [] => rfl
 | x :: g => by show ((x.1, oC x.2) :: kG g).all _ = _; rw [List.all_cons, List.all_cons, lU p g]
theorem dH {n0 : Nat} {σ : Nat → Nat} {nx2 : Nat} {g : EH} (hf : ∀ b, b < n0 → σ b = b) (hl : n0 ≤ nx2) : ∀ {g2 : EH} {ps : List Prop}, gO σ nx2 g g2 = some ps → (∀ p ∈ ps, p) → RenG n0 σ (kG g) (kG g2) nx2
 | [], _, _, _ => .base hf hl
 | (b, some (T, bc)) :: g2, _, h, hp => by
  unfold gO at h
  split at h
  ·rename_i h1 h2
   simp only [Bool.and_eq_true] at h1
   obtain ⟨c1, c2, c3⟩ := h1
   split at h
   ·rename_i hT
    have hT := Nat.eq_of_beq_eq_true hT
    subst hT
    obtain ⟨p, q, e1, e2, e3, e4⟩ := cI h hp
    exact .cons (dH hf hl e2 e4) c1 rfl (qO h2) (k9c e1 e3) (k4t c2) (by rw [lU (fun y => !(σ y == σ b))]; exact c3)
   ·cases h
  ·cases h
 | (b, none) :: g2, _, h, hp => by
  unfold gO at h
  split at h
  ·rename_i h1
   exact (dH hf hl h hp).gone (by rw [lU (fun y => !(σ y == σ b))]; exact h1)
  ·cases h
structure ES where
 l : List (Nat × PV)
 g : EH
 nx : Nat
def ES.st (s : ES) : St := ⟨s.l, kG s.g, s.nx⟩
def k59 (n0 : Nat) (m : List (Nat × Nat)) : Bool := m.all fun x => Nat.ble n0 x.1
theorem mV {n0 : Nat} : ∀ {m : List (Nat × Nat)}, k59 n0 m = true → ∀ b, b < n0 → sg m b = b
 | [], _, _, _ => rfl
 | (k, c) :: m, h, b, hb => by
  unfold k59 at h
  rw [List.all_cons, Bool.and_eq_true] at h
  have h1 : n0 ≤ k := Nat.le_of_ble_eq_true h.1
  unfold sg
  rw [List.lookup_cons, show (b == k) = false by simp; omega]
  exact mV (m := m) h.2 b hb
def t1 (n0 : Nat) (m : List (Nat × Nat)) (l : List (Nat × PV)) (g : EH) (s : ES) : Option Prop := match k59 n0 m && Nat.ble n0 s.nx with
 | true => match pS (tZ (sg m) s.nx l s.l) (gO (sg m) s.nx g s.g) with
  | some ps => some (AllP ps)
  | none => none
 | false => none
theorem oE {n0 : Nat} {m : List (Nat × Nat)} {l : List (Nat × PV)} {g : EH} {nx : Nat} {s : ES} {P : Prop} (h : t1 n0 m l g s = some P) (hP : P) : k3r n0 ⟨l, kG g, nx⟩ s.st := by
 unfold t1 at h
 split at h
 ·rename_i hc
  rw [Bool.and_eq_true] at hc
  split at h
  ·rename_i hb
   cases h
   obtain ⟨p, q, e1, e2, e3, e4⟩ := cI hb ((qB _).1 hP)
   exact ⟨sg m, oD e1 e3, dH (mV hc.1) (Nat.le_of_ble_eq_true hc.2) e2 e4⟩
  ·cases h
 ·cases h
def Rd {α : Type} (n0 : Nat) (I : α → ES) (dec : α → Prop) (s : St) : Prop := ∃ y, k3r n0 s (I y).st ∧ dec y
theorem kW {α : Type} {cx : Cx} {n nx : Nat} {c : Code} {Q : u7} {l : List (Nat × PV)} {g : EH} (n0 : Nat) (hn : cx.n0 = n0) (I : α → ES) (μ : α → Nat) (x0 : α) (m : List (Nat × Nat)) {P : Prop} (h0 : t1 n0 m l g (I x0) = some P) (hP : P) (round : ∀ x, AW cx n c (fK (Rd n0 I (fun y => μ y < μ x)) Q) (I x).st) : AW cx n (.loop c) Q ⟨l, kG g, nx⟩ :=
 AW.loop n0 hn (fun x => (I x).st) μ x0 (oE h0 hP) (fun x => (round x).mono fun e s' h => by
  cases e with
  | normal => exact h
  | _ => exact h)
theorem qQ {α : Type} {n0 nx : Nat} {I : α → ES} {dec : α → Prop} {l : List (Nat × PV)} {g : EH} (y : α) (m : List (Nat × Nat)) {P : Prop} (h : t1 n0 m l g (I y) = some P) (hP : P) (hd : dec y) : Rd n0 I dec ⟨l, kG g, nx⟩ := ⟨y, oE h hP, hd⟩
/-! results -/
def k7x (P : Program) (l : List (Nat × PV)) (g : EH) : ResultVar → Option E1
 | .tmp t => match l.lookup t with
  | some (.e e) => some e
  | _ => none
 | .cell a ty => match l.lookup a, u3 P ty with
  | some (.e (.c (.ptr b off))), some (false, 1) => match g.lookup b with
   | some (some (_, bc)) => match bc.to[off]? with
    | some c => some (.c c)
    | none => none
   | _ => none
  | some (.e (.c (.ptr b off))), some (true, n) => match g.lookup b with
   | some (some (_, bc)) => match Nat.beq ((bc.to.drop off).take n).length n with
    | true => some (.agg ((bc.to.drop off).take n))
    | false => none
   | _ => none
  | _, _ => none
theorem k4d {l : List (Nat × PV)} {g : EH} {r : ResultVar} {e : E1} (h : k7x Try.prog l g r = some e) : ResE l (kG g) r e := by
 unfold k7x at h
 split at h
 ·split at h
  ·rename_i hl; cases h; exact .tmp (u9 hl)
  ·cases h
 ·split at h
  ·rename_i hl ht
   split at h
   ·rename_i hb
    split at h
    ·rename_i hc; cases h; exact .cell (u9 hl) ht (qO hb) hc
    ·cases h
   ·cases h
  ·rename_i hl ht
   split at h
   ·rename_i hb
    split at h
    ·rename_i hc; cases h; exact .agg (u9 hl) ht (qO hb) rfl (Nat.eq_of_beq_eq_true hc)
    ·cases h
   ·cases h
  ·cases h
def k4c (P : Program) (l : List (Nat × PV)) (g : EH) : List ResultVar → Option (List E1)
 | [] => some []
 | r :: rs => match k7x P l g r, k4c P l g rs with
  | some e, some es => some (e :: es)
  | _, _ => none
theorem t2 {l : List (Nat × PV)} {g : EH} : ∀ {rs : List ResultVar} {es : List E1}, k4c Try.prog l g rs = some es → ResL l (kG g) rs es
 | [], _, h => by cases h; exact .nil
 | r :: rs, _, h => by
  unfold k4c at h
  split at h
  ·rename_i h1 h2; cases h; exact .cons (k4d h1) (t2 h2)
  ·cases h
def u0t (P : Program) (n0 : Nat) (m : List (Nat × Nat)) (rs : List ResultVar) (l : List (Nat × PV)) (g : EH) (y : PV) (g1 : EH) (nx1 : Nat) : Option Prop := match k4c P l g rs, k59 n0 m && (Nat.ble n0 nx1 && jW nx1 y) with
 | some es, true => match pS (k5q (sg m) y (k86 es)) (gO (sg m) nx1 g g1) with
  | some ps => some (AllP ps)
  | none => none
 | _, _ => none
theorem kC {n0 nx nx1 : Nat} {e : Exit} (he : e = .normal ∨ e = .ret) {rs : List ResultVar} {l : List (Nat × PV)} {g g1 : EH} {y : PV} (m : List (Nat × Nat)) {P : Prop} (h : u0t Try.prog n0 m rs l g y g1 nx1 = some P) (hP : P) : EndP n0 rs y (kG g1) nx1 e ⟨l, kG g, nx⟩ := by
 unfold u0t at h
 split at h
 ·rename_i h1 hc
  simp only [Bool.and_eq_true] at hc
  obtain ⟨c1, c2, c3⟩ := hc
  split at h
  ·rename_i hb
   cases h
   obtain ⟨p, q, e1, e2, e3, e4⟩ := cI hb ((qB _).1 hP)
   exact ⟨he, _, sg m, t2 h1, wV e1 e3, c3, dH (mV c1) (Nat.le_of_ble_eq_true c2) e2 e4⟩
  ·cases h
 ·cases h
end Go.Proofs.Ytalbpleglapihaa
