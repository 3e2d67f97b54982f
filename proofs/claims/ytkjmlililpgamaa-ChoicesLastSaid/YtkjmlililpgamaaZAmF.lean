/- A memory told by names: operations that are computed. No statement is proved here. -/
import Derived.Test.YtkjmlililpgamaaZAmC
namespace Go.Proofs.Ytkjmlililpgamaa
open Go.ChangeShapes Go.WideShapes Go.ChangeAt Go.RowKit
open List renaming lookup_cons → kc2, mem_cons_of_mem → kb9, mem_cons_self → ka7
set_option linter.unusedVariables false
set_option linter.unusedSimpArgs false
inductive BC where
 | cs (l : List C)
 | ds (l : List D)
def BC.to : BC → List C
 | .cs l => l
 | .ds l => l.map .d
abbrev EBk := TypeId × BC
abbrev EH := List (Nat × Option EBk)
def g6 : Option EBk → Option Bk
 | some x => some (x.1, x.2.to)
 | none => none
def kC : EH → List (Nat × Option Bk)
 | [] => []
 | x :: g => (x.1, g6 x.2) :: kC g
theorem aJ (b : Nat) : ∀ g : EH, (kC g).lookup b = (g.lookup b).map g6
 | [] => rfl
 | (k, x) :: g => by
  show List.lookup b ((k, g6 x) :: kC g) = _
  rw [kc2, kc2]
  cases b == k with
  | true => rfl
  | false => exact aJ b g
theorem kX {g : EH} {b : Nat} {T : TypeId} {bc : BC} (h : g.lookup b = some (some (T, bc))) : Look (kC g) b (some (T, bc.to)) := qJ (by rw [aJ, h]; rfl)
theorem lY : ∀ a b : EH, kC (a ++ b) = kC a ++ kC b
 | [], _ => rfl
 | x :: a, b => by show _ :: kC (a ++ b) = _ :: (kC a ++ kC b); rw [lY a b]
def AllP : List Prop → Prop
 | [] => True
 | [p] => p
 | p :: q :: r => p ∧ AllP (q :: r)
theorem kN : ∀ l : List Prop, AllP l ↔ ∀ p ∈ l, p
 | [] => by simp [AllP]
 | [p] => by simp only [AllP, List.mem_singleton, forall_eq]
 | p :: q :: r => by
  show p ∧ AllP (q :: r) ↔ _
  rw [kN (q :: r)]
  constructor
  ·rintro ⟨h1, h2⟩ x hx
   rcases List.mem_cons.1 hx with rfl | hx
   ·exact h1
   ·exact h2 x hx
  ·intro h
   exact ⟨h p (ka7 ..), fun x hx => h x (kb9 _ hx)⟩
theorem AllP.app {a b : List Prop} (h : AllP (a ++ b)) : AllP a ∧ AllP b := by
 rw [kN] at h
 exact ⟨(kN a).2 fun p hp => h p (List.mem_append_left _ hp), (kN b).2 fun p hp => h p (List.mem_append_right _ hp)⟩
theorem AllP.one {p : Prop} {l : List Prop} (h : AllP l) (hp : p ∈ l) : p := (kN l).1 h p hp
inductive H where
 | no
 | w
 | ps
 | b (c : Bool)
 | i (r : Int)
 | wi (r : Int)
 | n (k : Nat)
 | n2 (i r : Nat)
 | d (x : D)
 | ds (l : List D)
 | mk (n c : Nat) (r : List D)
 | sl (L H r k : Nat)
 | sls (L H k : Nat) (r : List D)
 | ap (snap : Option (List D)) (n : Nat) (r : List D)
 | az (m n : Nat) (r : List D)
 | cp (snap : Option (List D)) (k : Nat) (r : List D)
 | st (snap : Option (List D)) (l : List Int)
 | fz (h : H)
 | call (ps : List Nat) (y : PV) (gout : EH) (nout : Nat) (snaps : List (Option (List D))) (xo : Option (List E1))
structure OTe where
 u : PV
 wr : EH
 news : List Nat
 foot : List Nat
def OTe.to (t : OTe) : OT := ⟨t.u, kC t.wr, t.news, t.foot⟩
abbrev R := Option (List Prop × OTe)
def pv (u : PV) : R := some ([], ⟨u, [], [], []⟩)
def dO (ps : List Prop) (u : PV) : R := some (ps, ⟨u, [], [], []⟩)
def uA (l : List (Nat × PV)) : Operand → Option PV
 | .tmp t => l.lookup t
 | .const v => match v.oneCell' with
  | true => some (LV v)
  | false => none
 | .func f => match Nat.blt f d3 with
  | true => some (.e (.c (.fn f [])))
  | false => none
 | .global g => match f7.lookup g with
  | some vs => some (.e (.c (.rp (vs.map .lit))))
  | none => none
theorem bK {l : List (Nat × PV)} {x : Operand} {u : PV} (h : uA l x = some u) : Ev l x u := by
 cases x with
 | tmp t => exact .tmp (qJ h)
 | const v =>
  unfold uA at h
  cases hv : v.oneCell' with
  | true => simp only [hv, Option.some.injEq] at h; subst h; exact .lit hv
  | false => simp [hv] at h
 | global g =>
  unfold uA at h
  cases hg : f7.lookup g with
  | none => simp [hg] at h
  | some vs => simp only [hg, Option.some.injEq] at h; subst h; exact .gl hg
 | func f =>
  unfold uA at h
  cases hf : Nat.blt f d3 with
  | true => simp only [hf, Option.some.injEq] at h; subst h; exact .fn hf
  | false => simp [hf] at h
def bo {α : Type} (o : Option α) (f : α → R) : R := match o with
 | some u => f u
 | none => none
def OKR (cx : Cx) (o : Oper) (l : List (Nat × PV)) (g : EH) (r : R) : Prop := ∀ ps t, r = some (ps, t) → AllP ps → OpOK cx o (S l) (S (kC g)) t.to
section
variable {cx : Cx} {o : Oper} {l : List (Nat × PV)} {g : EH}
theorem OKR.none : OKR cx o l g none := fun _ _ h => by cases h
theorem OKR.some {ps : List Prop} {t : OTe} (h : AllP ps → OpOK cx o (S l) (S (kC g)) t.to) : OKR cx o l g (some (ps, t)) := fun _ _ e hp => by cases e; exact h hp
theorem OKR.bo {x : Operand} {f : PV → R} (h : ∀ u, Ev l x u → OKR cx o l g (f u)) : OKR cx o l g (bo (uA l x) f) := by
 cases hx : uA l x with
 | none => exact OKR.none
 | some u => exact h u (bK hx)
end
/-! numbers -/
def oH : IntKind → Int → Prop
 | .i8, x => -128 ≤ x ∧ x ≤ 127
 | .i16, x => -32768 ≤ x ∧ x ≤ 32767
 | .i32, x => -2147483648 ≤ x ∧ x ≤ 2147483647
 | .i64, x => -9223372036854775808 ≤ x ∧ x ≤ 9223372036854775807
 | .u8, x => 0 ≤ x ∧ x ≤ 255
 | .u16, x => 0 ≤ x ∧ x ≤ 65535
 | .u32, x => 0 ≤ x ∧ x ≤ 4294967295
 | .u64, x => 0 ≤ x ∧ x ≤ 18446744073709551615
theorem b3 {k : IntKind} {x : Int} (h : oH k x) : k.wrap x = x := by
 cases k <;> simp only [oH] at h <;> (first | rw [IntKind.wrap_i64] | skip) <;> (first | omega | (simp [IntKind.wrap, IntKind.bits, IntKind.signed] <;> omega) | skip)
def dK (op : BinOp) (k : IntKind) (x y : Int) : Int :=
 let a := BitVec.ofInt k.bits x
 let b := BitVec.ofInt k.bits y
 match op with
 | .and => k.wrap (a &&& b).toNat
 | .or => k.wrap (a ||| b).toNat
 | .xor => k.wrap (a ^^^ b).toNat
 | _ => k.wrap (a &&& ~~~b).toNat
def iR (h : H) (k : IntKind) (x : Int) : Option (List Prop × Value) := match h with
 | .w => some ([oH k x], .int k x)
 | .no => some ([], .int k (k.wrap x))
 | .i r => some ([k.wrap x = r], .int k r)
 | .wi r => some ([oH k x, x = r], .int k r)
 | _ => none
def cR (h : H) (p : Prop) [Decidable p] : Option (List Prop × Value) := match h with
 | .b true => some ([p], .bool true)
 | .b false => some ([¬ p], .bool false)
 | .no => some ([], .bool (decide p))
 | _ => none
def bR (h : H) (x : Bool) : Option (List Prop × Value) := match h with
 | .b c => some ([x = c], .bool c)
 | .no => some ([], .bool x)
 | _ => none
theorem eN {h : H} {k : IntKind} {x : Int} {ps : List Prop} {v : Value} (e : iR h k x = some (ps, v)) (hp : AllP ps) : v = .int k (k.wrap x) := by
 unfold iR at e
 split at e <;> cases e
 ·rw [b3 hp]
 ·rfl
 ·rw [← (show k.wrap x = _ from hp)]
 ·rw [b3 hp.1, ← (show x = _ from hp.2)]
theorem eR {h : H} {p : Prop} [Decidable p] {ps : List Prop} {v : Value} (e : cR h p = some (ps, v)) (hp : AllP ps) : v = .bool (decide p) := by
 unfold cR at e
 split at e <;> cases e
 ·rw [decide_eq_true (show p from hp)]
 ·rw [decide_eq_false (show ¬ p from hp)]
 ·rfl
theorem i9 {h : H} {x : Bool} {ps : List Prop} {v : Value} (e : bR h x = some (ps, v)) (hp : AllP ps) : v = .bool x := by
 unfold bR at e
 split at e <;> cases e
 ·rw [show x = _ from hp]
 ·rfl
def evI (op : BinOp) (h : H) (k : IntKind) (a b : Int) : Option (List Prop × Value) := match op with
 | .add => iR h k (a + b)
 | .sub => iR h k (a - b)
 | .mul => iR h k (a * b)
 | .quo => match h with
  | .ps => some ([0 ≤ a, 0 < b, oH k a], .int k (a / b))
  | h => match iR h k (a.tdiv b) with
   | some (ps, v) => some ((¬ b = 0) :: ps, v)
   | none => none
 | .rem => match h with
  | .ps => some ([0 ≤ a, 0 < b], .int k (a % b))
  | .no => some ([¬ b = 0], .int k (a.tmod b))
  | .i r => some ([¬ b = 0, a.tmod b = r], .int k r)
  | _ => none
 | .eql => cR h (a = b)
 | .neq => cR h (a ≠ b)
 | .lss => cR h (a < b)
 | .leq => cR h (a ≤ b)
 | .gtr => cR h (b < a)
 | .geq => cR h (b ≤ a)
 | _ => none
theorem k0k {k : IntKind} {a q : Int} (h1 : 0 ≤ q) (h2 : q ≤ a) (h : oH k a) : oH k q := by
 cases k <;> simp only [oH] at h ⊢ <;> omega
theorem w9 {k : IntKind} {a b : Int} (h0 : 0 ≤ a) (hb : 0 < b) (h : oH k a) : oH k (a / b) := k0k (Int.ediv_nonneg h0 (by omega)) (Int.ediv_le_self _ h0) h
theorem k11 {op : BinOp} {h : H} {k : IntKind} {a b : Int} {ps : List Prop} {v : Value} (e : evI op h k a b = some (ps, v)) (hp : AllP ps) (xt : TypeId) (x y : Operand) : dR op xt x y (.int k a) (.int k b) v ∧ v.oneCell' = true := by
 unfold evI at e
 split at e
 ·rw [eN e hp]; exact ⟨k29 rfl, rfl⟩
 ·rw [eN e hp]; exact ⟨k21 rfl, rfl⟩
 ·rw [eN e hp]; exact ⟨k23 rfl, rfl⟩
 ·split at e
  ·cases e
   obtain ⟨h1, h2, h3⟩ := hp
   refine ⟨zC (by omega) ?_, rfl⟩
   rw [Int.tdiv_eq_ediv_of_nonneg h1, b3 (w9 h1 h2 h3)]
  ·split at e
   ·rename_i ps' v' hi
    cases e
    have h1 : ¬ b = 0 := (kN _).1 hp _ (ka7 ..)
    rw [eN hi ((kN _).2 fun p h => (kN _).1 hp p (kb9 _ h))]
    exact ⟨zC h1 rfl, rfl⟩
   ·cases e
 ·split at e
  ·cases e
   obtain ⟨h1, h2⟩ := hp
   have h2 : 0 < b := h2
   exact ⟨oX (by omega) (Int.tmod_eq_emod_of_nonneg h1), rfl⟩
  ·cases e; exact ⟨oX hp rfl, rfl⟩
  ·cases e; exact ⟨oX hp.1 hp.2, rfl⟩
  ·cases e
 ·rw [eR e hp]; exact ⟨k28 rfl, rfl⟩
 ·rw [eR e hp]; exact ⟨k22 rfl, rfl⟩
 ·rw [eR e hp]; exact ⟨k24 rfl, rfl⟩
 ·rw [eR e hp]; exact ⟨k25 rfl, rfl⟩
 ·rw [eR e hp]; exact ⟨k26 rfl, rfl⟩
 ·rw [eR e hp]; exact ⟨k27 rfl, rfl⟩
 ·cases e
def evB (op : BinOp) (h : H) (a b : Bool) : Option (List Prop × Value) := match op with
 | .eql => bR h (a == b)
 | .neq => bR h (!(a == b))
 | _ => none
def f4 (P : Program) (t : TypeId) : Bool := match P.underlying t with
 | some .bool => true
 | _ => false
theorem eL {t : TypeId} (h : f4 Try.prog t = true) : Try.prog.underlying t = some .bool := by
 unfold f4 at h
 split at h
 ·rename_i e; exact e
 ·cases h
theorem k14 {op : BinOp} {h : H} {a b : Bool} {ps : List Prop} {v : Value} (e : evB op h a b = some (ps, v)) (hp : AllP ps) {xt : TypeId} (hu : f4 Try.prog xt = true) (x y : Operand) : dR op xt x y (.bool a) (.bool b) v ∧ v.oneCell' = true := by
 unfold evB at e
 split at e
 ·rw [i9 e hp]; exact ⟨k03 (eL hu) rfl, rfl⟩
 ·rw [i9 e hp]; exact ⟨k02 (eL hu) rfl, rfl⟩
 ·cases e
def evS (op : BinOp) (h : H) (a b : ByteArray) : Option (List Prop × Value) := match op with
 | .eql => bR h (a.toList == b.toList)
 | .neq => bR h (!(a.toList == b.toList))
 | _ => none
theorem k0w {op : BinOp} {h : H} {a b : ByteArray} {ps : List Prop} {v : Value} {xt : TypeId} (e : evS op h a b = some (ps, v)) (hp : AllP ps) (x y : Operand) : dR op xt x y (.string a) (.string b) v ∧ v.oneCell' = true := by
 unfold evS at e
 split at e
 ·rw [i9 e hp]; exact ⟨by intro w; simp [eqGuard, binOp, Op.stringOp], rfl⟩
 ·rw [i9 e hp]; exact ⟨by intro w; simp [eqGuard, binOp, Op.stringOp], rfl⟩
 ·cases e
def evV (P : Program) (op : BinOp) (h : H) (xt : TypeId) : Value → Value → Option (List Prop × Value)
 | .string a, .string b => evS op h a b
 | .int k a, .int k' b => if k = k' then evI op h k a b else none
 | .bool a, .bool b => if f4 P xt = true then evB op h a b else none
 | _, _ => none
theorem k0u {op : BinOp} {h : H} {a b : Value} {ps : List Prop} {v : Value} {xt : TypeId} (e : evV Try.prog op h xt a b = some (ps, v)) (hp : AllP ps) (x y : Operand) : dR op xt x y a b v ∧ v.oneCell' = true := by
 unfold evV at e
 split at e
 ·exact k0w e hp x y
 ·split at e
  ·rename_i hk; subst hk; exact k11 e hp xt x y
  ·cases e
 ·split at e
  ·rename_i hk; exact k14 e hp hk x y
  ·cases e
 ·cases e
def sX (P : Program) (op : BinOp) (h : H) (xt : TypeId) : PV → PV → R
 | .e (.c (.d (.lit a))), .e (.c (.d (.lit b))) => match evV P op h xt a b with
  | some (ps, v) => dO ps (LV v)
  | none => none
 | _, _ => none
section
variable {cx : Cx} {o : Oper} {l : List (Nat × PV)} {g : EH}
theorem sW {op : BinOp} {h : H} {xt yt : TypeId} {x y : Operand} (ho : o.op = .binOp op xt x y yt) {u v : PV} (hu : Ev l x u) (hv : Ev l y v) : OKR cx o l g (sX Try.prog op h xt u v) := by
 unfold sX
 split
 ·split
  ·rename_i a b ps r he
   refine OKR.some fun hp => ?_
   obtain ⟨h1, h2⟩ := k0u he hp x y
   exact j2 ho hu hv h1 h2
  ·exact OKR.none
 ·exact OKR.none
end
def rO (h : H) : PV → R
 | .e (.c (.d (.lit (.bool b)))) => match bR h (!b) with
  | some (ps, v) => dO ps (LV v)
  | none => none
 | _ => none
def rS (h : H) : PV → R
 | .e (.c (.d (.lit (.int k n)))) => match iR h k (0 - n) with
  | some (ps, v) => dO ps (LV v)
  | none => none
 | _ => none
def lC (h : H) (c : PV) (x y : Option PV) : R := match c with
 | .e (.c (.d (.lit (.bool b)))) => match h with
  | .b true => bo x fun u => dO [b = true] u
  | .b false => bo y fun u => dO [b = false] u
  | .no => match b with
   | true => bo x pv
   | false => bo y pv
  | _ => none
 | _ => none
def lH (P : Program) (h : H) (src dst : TypeId) : PV → R
 | .e (.c (.d (.lit (.int _ n)))) => match P.underlying dst, P.underlying src with
  | some (.int k), some _ => match iR h k n with
   | some (ps, v) => dO ps (LV v)
   | none => none
  | _, _ => none
 | _ => none
def sJ (i : Nat) : PV → R
 | .tup es => match es[i]? with
  | some e => pv (.e e)
  | none => none
 | _ => none
section
variable {cx : Cx} {o : Oper} {l : List (Nat × PV)} {g : EH}
theorem rN {h : H} {xt : TypeId} {x : Operand} (ho : o.op = .unOp .not xt x) {u : PV} (hu : Ev l x u) : OKR cx o l g (rO h u) := by
 unfold rO
 split
 ·split
  ·rename_i he
   refine OKR.some fun hp => ?_
   rw [i9 he hp]; exact k09 ho hu rfl
  ·exact OKR.none
 ·exact OKR.none
theorem rR {h : H} {xt : TypeId} {x : Operand} (ho : o.op = .unOp .neg xt x) {u : PV} (hu : Ev l x u) : OKR cx o l g (rS h u) := by
 unfold rS
 split
 ·split
  ·rename_i he
   refine OKR.some fun hp => ?_
   rw [eN he hp]; exact k0a ho hu rfl
  ·exact OKR.none
 ·exact OKR.none
theorem nK {h : H} {c x y : Operand} (ho : o.op = .pick c x y) {u : PV} (hu : Ev l c u) : OKR cx o l g (lC h u (uA l x) (uA l y)) := by
 unfold lC
 split
 ·split
  ·exact OKR.bo fun u hx => OKR.some fun hp => by have hp : _ = true := hp; subst hp; exact eE ho hu hx
  ·exact OKR.bo fun u hx => OKR.some fun hp => by have hp : _ = false := hp; subst hp; exact eF ho hu hx
  ·split
   ·exact OKR.bo fun u hx => OKR.some fun hp => eE ho hu hx
   ·exact OKR.bo fun u hx => OKR.some fun hp => eF ho hu hx
  ·exact OKR.none
 ·exact OKR.none
theorem nQ {h : H} {src dst : TypeId} {x : Operand} (ho : o.op = .convert src dst x) {u : PV} (hu : Ev l x u) : OKR cx o l g (lH Try.prog h src dst u) := by
 unfold lH
 split
 ·split
  ·rename_i h1 h2
   split
   ·rename_i he
    refine OKR.some fun hp => ?_
    rw [eN he hp]; exact iC ho h1 (by rw [h2]; rfl) hu rfl
   ·exact OKR.none
  ·exact OKR.none
 ·exact OKR.none
theorem sH {x : Operand} {i : Nat} (ho : o.op = .extract x i) {u : PV} (hu : Ev l x u) : OKR cx o l g (sJ i u) := by
 unfold sJ
 split
 ·split
  ·rename_i he; exact OKR.some fun _ => j1 ho hu he
  ·exact OKR.none
 ·exact OKR.none
end
end Go.Proofs.Ytkjmlililpgamaa
