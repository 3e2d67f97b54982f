/- A memory told by names: pointers that are compared and turned, texts behind one's own bytes and out of them, a loop's first rounds. No statement is proved here. -/
import Derived.Test.YtkjmlililpgamaaZAmX
import Derived.Lib.Builder
import Derived.Lib.UnsafeStr
import Derived.Lib.AppendStr
namespace Go.Proofs.Ytkjmlililpgamaa
open Go.ChangeShapes Go.WideShapes Go.ChangeAt Go.RowKit
set_option linter.unusedVariables false
set_option linter.unusedSimpArgs false
theorem jQ {P : Program} {b : Frame} {a : Act} {k : List Item} {cs : List Frame} {w : World} {c : Code} :
  stepT P (lone (b.at a (.code (.loop c) :: k)) cs w) = (.next (lone (b.at a (.code c :: .inLoop c :: k)) cs w), #[]) := by
 rw [stepT, move_lone]
 simp [runT, lone, Array.swapAt!, stepG, stepG.exec, Frame.at, MemOp.ofEvents]
 intro h
 exact absurd rfl h
theorem u3 {P : Program} {m m1 m2 : Machine} (h1 : step P m = .next m1) (h : Go.Steps P m m2) (hne : m ≠ m2) : Go.Steps P m1 m2 := by
 obtain ⟨n, hn⟩ := h
 cases n with
 | zero => simp [runN] at hn; exact absurd hn hne
 | succ n => simp only [runN, h1] at hn; exact ⟨n, hn⟩
theorem tK {b : Frame} {a a' : Act} {k k' : List Item} {cs : List Frame} {w w' : World} (h : k ≠ k') : lone (b.at a k) cs w ≠ lone (b.at a' k') cs w' := by
 intro e
 simp only [lone, Machine.mk.injEq, Array.mk.injEq, List.cons.injEq, Goroutine.mk.injEq, Frame.at, Frame.mk.injEq] at e
 exact h e.2.1.1.1.2.2.1
theorem dH : ∀ {id : Nat} {k k' : List Item}, exitTo id k = some k' → k'.length < k.length
 | id, [], k', h => by cases h
 | id, x :: k, k', h => by
  have ih : ∀ k', exitTo id k = some k' → k'.length < k.length := fun _ h => dH h
  cases x with
  | inBlock id' =>
   simp only [exitTo] at h
   split at h
   ·cases h; simp
   ·have := ih _ h; simp; omega
  | _ => simp only [exitTo] at h; have := ih _ h; simp; omega
theorem gB {c : Code} : ∀ (x : Code) {l : Nat} {r : Code}, findLabel x l = some r → r ≠ .loop c := by
 intro x
 induction x with
 | seq a b iha ihb =>
  intro l r h
  simp only [findLabel] at h
  split at h
  ·cases h; intro e; cases e
  ·exact ihb h
 | label l' =>
  intro l r h
  simp only [findLabel] at h
  split at h
  ·cases h; intro e; cases e
  ·cases h
 | _ => intro l r h; simp [findLabel] at h
theorem eO {l : Nat} {c : Code} : ∀ {k k' : List Item}, gotoIn l k = some k' → ∀ y, k' ≠ .code (.loop c) :: y
 | [], k', h => by cases h
 | x :: k, k', h => by
  have ih : ∀ k', gotoIn l k = some k' → ∀ y, k' ≠ .code (.loop c) :: y := fun _ h => eO h
  cases x with
  | inScope body =>
   simp only [gotoIn] at h
   split at h
   ·rename_i hf
    cases h
    intro y e
    simp only [List.cons.injEq, Item.code.injEq] at e
    exact gB _ hf e.1
   ·exact ih _ h
  | _ => simp only [gotoIn] at h; exact ih _ h
theorem d4 {P : Program} {m m1 : Machine} (h1 : stepT P m = (.next m1, #[])) (h : Outgrown P m) : Outgrown P m1 := by
 obtain ⟨n, o, ho, h2, h3⟩ := h
 cases n with
 | zero => simp [runNT] at ho
 | succ n =>
  simp only [runNT, h1] at ho
  exact ⟨n, o, by simpa using ho, h2, h3⟩
theorem fC {P : Program} {Q : Exit → Act → World → Prop} {a : Act} {w : World} {c : Code} (h : c.wp P (Exit.then ((Code.loop c).wp P Q) Q) a w) : (Code.loop c).wp P Q a w := by
 intro b k cs
 obtain ⟨e, a₁, w₁, hq, harr⟩ := h b (.inLoop c :: k) cs
 cases e with
 | normal =>
  obtain ⟨e₂, a₂, w₂, hq₂, harr₂⟩ := hq b k cs
  refine ⟨e₂, a₂, w₂, hq₂, .of_steps (.one step_loop) ?_⟩
  have h2 : Arrives P (lone (b.at a₁ (.code c :: .inLoop c :: k)) cs w₁) b k cs e₂ a₂ w₂ := by
   cases e₂ with
   | normal => exact u3 step_loop harr₂ (tK (fun e => by have := congrArg List.length e; simp at this))
   | exit id => exact fun k' hk => u3 step_loop (harr₂ k' hk) (tK (fun e => by have := congrArg List.length e; have := dH hk; simp at *; omega))
   | goto l => exact fun k' hk => u3 step_loop (harr₂ k' hk) (tK (fun e => eO hk _ e.symm))
   | ret =>
    obtain ⟨todo, hs⟩ := harr₂
    exact ⟨todo, u3 step_loop hs (by intro e; simp [lone, Frame.at] at e)⟩
   | panic ch =>
    obtain ⟨todo, hs⟩ := harr₂
    exact ⟨todo, u3 step_loop hs (by intro e; simp [lone, Frame.at] at e)⟩
   | outgrown => exact harr₂.imp id (d4 jQ)
  exact .of_steps (Steps.trans harr (.one step_inLoop)) h2
 | exit id => exact ⟨_, a₁, w₁, hq, .of_steps (.one step_loop) (.pass (x := .inLoop c) rfl (fun _ _ => .inl (by simp)) harr)⟩
 | goto l => exact ⟨_, a₁, w₁, hq, .of_steps (.one step_loop) (.pass (x := .inLoop c) rfl (fun _ _ => .inl (by simp)) harr)⟩
 | ret => exact ⟨_, a₁, w₁, hq, .of_steps (.one step_loop) (.pass (x := .inLoop c) rfl (fun _ _ => .inl (by simp)) harr)⟩
 | panic ch => exact ⟨_, a₁, w₁, hq, .of_steps (.one step_loop) (.pass (x := .inLoop c) rfl (fun _ _ => .inl (by simp)) harr)⟩
 | outgrown => exact ⟨_, a₁, w₁, hq, .of_steps (.one step_loop) (.pass (x := .inLoop c) rfl (fun _ _ => .inl (by simp)) harr)⟩
section
variable {cx : Cx} {o : Oper} {l : List (Nat × PV)} {g : EH}
def zQ (P : Program) (op : BinOp) (xt : TypeId) (u v : PV) : R := none
theorem sK {op : BinOp} {xt yt : TypeId} {x y : Operand} (ho : o.op = .binOp op xt x y yt) {u v : PV} (hu : Ev l x u) (hv : Ev l y v) : OKR cx o l g (zQ Try.prog op xt u v) := OKR.none
def zL (P : Program) (g : EH) (src dst : TypeId) (u : PV) : R := none
theorem rG {src dst : TypeId} {x : Operand} (ho : o.op = .convert src dst x) {u : PV} (hu : Ev l x u) : OKR cx o l g (zL Try.prog g src dst u) := OKR.none
def sI (P : Program) (h : H) (f : FuncId) (us : Option (List E1)) : R := none
def zS (P : Program) (h : H) (g : EH) (nx : Nat) (t tn : TypeId) : PV → PV → R := fun _ _ => none
theorem s6 {h : H} {nx : Nat} {t tn : TypeId} {x y : Operand} (ho : o.op = .call { callee := .builtin .append, args := #[x, y], argTypes := #[t, tn] }) {u v : PV} (hu : Ev l x u) (hv : Ev l y v) : OKR cx o l g (zS Try.prog h g nx t tn u v) := OKR.none
def k2u : PV → R := fun _ => none
theorem xI {x : Operand} {st : TypeId} (ho : o.op = .call { callee := .builtin .unsafeSliceData, args := #[x], argTypes := #[st] }) {u : PV} (hu : Ev l x u) : OKR cx o l g (k2u u) := OKR.none
def k2t (P : Program) (h : H) (g : EH) (pt : TypeId) (u v : PV) : R := none
theorem xE {h : H} {pt it : TypeId} {x y : Operand} (ho : o.op = .call { callee := .builtin .unsafeString, args := #[x, y], argTypes := #[pt, it] }) {u v : PV} (hu : Ev l x u) (hv : Ev l y v) : OKR cx o l g (k2t Try.prog h g pt u v) := OKR.none
def AWp (cx : Cx) (n : Nat) (c : Code) (Q : qR) : Nat → St → Prop
 | 0, s => AW cx n (.loop c) Q s
 | k + 1, s => AW cx n c (cK (AWp cx n c Q k) Q) s
theorem AWp.s {cx : Cx} {n : Nat} {c : Code} {Q : qR} {k : Nat} {s : St} (h : AW cx n c (cK (AWp cx n c Q k) Q) s) : AWp cx n c Q (k + 1) s := h
theorem AWp.z {cx : Cx} {n : Nat} {c : Code} {Q : qR} {s : St} (h : AW cx n (.loop c) Q s) : AWp cx n c Q 0 s := h
theorem AWp.ok {cx : Cx} {n : Nat} {c : Code} {Q : qR} : ∀ {k : Nat} {s : St}, AWp cx n c Q k s → AW cx n (.loop c) Q s
 | 0, _, h => h
 | k + 1, s, h => fun a w hm => by
  refine fC (wp_mono (h a w hm) ?_)
  rintro e a' w' ⟨s', h1, h2⟩
  cases e with
  | normal => exact AWp.ok (k := k) h1 a' w' h2
  | _ => exact ⟨s', h1, h2⟩
end
end Go.Proofs.Ytkjmlililpgamaa
