/- A memory told by names: operations that are computed. No statement is proved here. -/
import Derived.Test.YtdbjebdomdnbkaaGreatZAmC
namespace Go.Proofs.YtdbjebdomdnbkaaGreat
open Go.ChangeShapes Go.WideShapes Go.ChangeAt Go.RowKit
open List renaming lookup_cons → kc5, mem_cons_of_mem → kb2, mem_cons_self → kb1
set_option linter.unusedVariables false
set_option linter.unusedSimpArgs false
inductive BC where
 | cs (l : List C)
 | ds (l : List D)
def BC.to : BC → List C
 | .cs l => l
 | .ds l => l.map .d
abbrev EBk := TypeId × BC
abbrev EH := List (Nat × Option EBk)
def r9 : Option EBk → Option Bk
 | some x => some (x.1, x.2.to)
 | none => none
def kD : EH → List (Nat × Option Bk)
 | [] => []
 | x :: g => (x.1, r9 x.2) :: kD g
theorem eV (b : Nat) : ∀ g : EH, (kD g).lookup b = (g.lookup b).map r9
 | [] => rfl
 | (k, x) :: g => by
  show List.lookup b ((k, r9 x) :: kD g) = _
  rw [kc5, kc5]
  cases b == k with
  | true => rfl
  | false => exact eV b g
theorem qZ {g : EH} {b : Nat} {T : TypeId} {bc : BC} (h : g.lookup b = some (some (T, bc))) : Look (kD g) b (some (T, bc.to)) := yT (by rw [eV, h]; rfl)
theorem zL : ∀ a b : EH, kD (a ++ b) = kD a ++ kD b
 | [], _ => rfl
 | x :: a, b => by show _ :: kD (a ++ b) = _ :: (kD a ++ kD b); rw [zL a b]
def AllP : List Prop → Prop
 | [] => True
 | [p] => p
 | p :: q :: r => p ∧ AllP (q :: r)
theorem qL : ∀ l : List Prop, AllP l ↔ ∀ p ∈ l, p
 | [] => by simp [AllP]
 | [p] => by simp only [AllP, List.mem_singleton, forall_eq]
 | p :: q :: r => by
  show p ∧ AllP (q :: r) ↔ _
  rw [qL (q :: r)]
  constructor
  ·rintro ⟨h1, h2⟩ x hx
   rcases List.mem_cons.1 hx with rfl | hx
   ·exact h1
   ·exact h2 x hx
  ·intro h
   exact ⟨h p (kb1 ..), fun x hx => h x (kb2 _ hx)⟩
theorem AllP.app {a b : List Prop} (h : AllP (a ++ b)) : AllP a ∧ AllP b := by
 rw [qL] at h
 exact ⟨(qL a).2 fun p hp => h p (List.mem_append_left _ hp), (qL b).2 fun p hp => h p (List.mem_append_right _ hp)⟩
theorem AllP.one {p : Prop} {l : List Prop} (h : AllP l) (hp : p ∈ l) : p := (qL l).1 h p hp
inductive H where
 | no
 | w
 | ps
 | b (c : Bool)
 | i (r : Int)
 | wi (r : Int)
 | n (k : Nat)
 | n2 (i r : Nat)
 | d (x : D)
 | ds (l : List D)
 | mk (n c : Nat) (r : List D)
 | sl (L H r k : Nat)
 | sls (L H k : Nat) (r : List D)
 | ap (snap : Option (List D)) (n : Nat) (r : List D)
 | az (m n : Nat) (r : List D)
 | cp (snap : Option (List D)) (k : Nat) (r : List D)
 | st (snap : Option (List D)) (l : List Int)
 | fz (h : H)
 | call (ps : List Nat) (y : PV) (gout : EH) (nout : Nat) (snaps : List (Option (List D))) (xo : Option (List E1))
structure OTe where
 u : PV
 wr : EH
 news : List Nat
 foot : List Nat
def OTe.to (t : OTe) : OT := ⟨t.u, kD t.wr, t.news, t.foot⟩
abbrev R := Option (List Prop × OTe)
def pv (u : PV) : R := some ([], ⟨u, [], [], []⟩)
def lZ (ps : List Prop) (u : PV) : R := some (ps, ⟨u, [], [], []⟩)
def aB (l : List (Nat × PV)) : Operand → Option PV
 | .tmp t => l.lookup t
 | .const v => match v.oneCell' with
  | true => some (LV v)
  | false => none
 | .func f => match Nat.blt f mL with
  | true => some (.e (.c (.fn f [])))
  | false => none
 | .global g => match pI.lookup g with
  | some vs => some (.e (.c (.rp (vs.map .lit))))
  | none => none
theorem hX {l : List (Nat × PV)} {x : Operand} {u : PV} (h : aB l x = some u) : Ev l x u := by
 cases x with
 | tmp t => exact .tmp (yT h)
 | const v =>
  unfold aB at h
  cases hv : v.oneCell' with
  | true => simp only [hv, Option.some.injEq] at h; subst h; exact .lit hv
  | false => simp [hv] at h
 | global g =>
  unfold aB at h
  cases hg : pI.lookup g with
  | none => simp [hg] at h
  | some vs => simp only [hg, Option.some.injEq] at h; subst h; exact .gl hg
 | func f =>
  unfold aB at h
  cases hf : Nat.blt f mL with
  | true => simp only [hf, Option.some.injEq] at h; subst h; exact .fn hf
  | false => simp [hf] at h
def bo {α : Type} (o : Option α) (f : α → R) : R := match o with
 | some u => f u
 | none => none
def OKR (cx : Cx) (o : Oper) (l : List (Nat × PV)) (g : EH) (r : R) : Prop := ∀ ps t, r = some (ps, t) → AllP ps → OpOK cx o (S l) (S (kD g)) t.to
section
variable {cx : Cx} {o : Oper} {l : List (Nat × PV)} {g : EH}
theorem OKR.none : OKR cx o l g none := fun _ _ h => by cases h
theorem OKR.some {ps : List Prop} {t : OTe} (h : AllP ps → OpOK cx o (S l) (S (kD g)) t.to) : OKR cx o l g (some (ps, t)) := fun _ _ e hp => by cases e; exact h hp
theorem OKR.bo {x : Operand} {f : PV → R} (h : ∀ u, Ev l x u → OKR cx o l g (f u)) : OKR cx o l g (bo (aB l x) f) := by
 cases hx : aB l x with
 | none => exact OKR.none
 | some u => exact h u (hX hx)
end
/-! numbers -/
def wE : IntKind → Int → Prop
 | .i8, x => -128 ≤ x ∧ x ≤ 127
 | .i16, x => -32768 ≤ x ∧ x ≤ 32767
 | .i32, x => -2147483648 ≤ x ∧ x ≤ 2147483647
 | .i64, x => -9223372036854775808 ≤ x ∧ x ≤ 9223372036854775807
 | .u8, x => 0 ≤ x ∧ x ≤ 255
 | .u16, x => 0 ≤ x ∧ x ≤ 65535
 | .u32, x => 0 ≤ x ∧ x ≤ 4294967295
 | .u64, x => 0 ≤ x ∧ x ≤ 18446744073709551615
theorem bO {k : IntKind} {x : Int} (h : wE k x) : k.wrap x = x := by
 cases k <;> simp only [wE] at h <;> (first | rw [IntKind.wrap_i64] | skip) <;> (first | omega | (simp [IntKind.wrap, IntKind.bits, IntKind.signed] <;> omega) | skip)
def qJ (op : BinOp) (k : IntKind) (x y : Int) : Int :=
 let a := BitVec.ofInt k.bits x
 let b := BitVec.ofInt k.bits y
 match op with
 | .and => k.wrap (a &&& b).toNat
 | .or => k.wrap (a ||| b).toNat
 | .xor => k.wrap (a ^^^ b).toNat
 | _ => k.wrap (a &&& ~~~b).toNat
def iR (h : H) (k : IntKind) (x : Int) : Option (List Prop × Value) := match h with
 | .w => some ([wE k x], .int k x)
 | .no => some ([], .int k (k.wrap x))
 | .i r => some ([k.wrap x = r], .int k r)
 | .wi r => some ([wE k x, x = r], .int k r)
 | _ => none
def cR (h : H) (p : Prop) [Decidable p] : Option (List Prop × Value) := match h with
 | .b true => some ([p], .bool true)
 | .b false => some ([¬ p], .bool false)
 | .no => some ([], .bool (decide p))
 | _ => none
def bR (h : H) (x : Bool) : Option (List Prop × Value) := match h with
 | .b c => some ([x = c], .bool c)
 | .no => some ([], .bool x)
 | _ => none
theorem nH {h : H} {k : IntKind} {x : Int} {ps : List Prop} {v : Value} (e : iR h k x = some (ps, v)) (hp : AllP ps) : v = .int k (k.wrap x) := by
 unfold iR at e
 split at e <;> cases e
 ·rw [bO hp]
 ·rfl
 ·rw [← (show k.wrap x = _ from hp)]
 ·rw [bO hp.1, ← (show x = _ from hp.2)]
theorem nL {h : H} {p : Prop} [Decidable p] {ps : List Prop} {v : Value} (e : cR h p = some (ps, v)) (hp : AllP ps) : v = .bool (decide p) := by
 unfold cR at e
 split at e <;> cases e
 ·rw [decide_eq_true (show p from hp)]
 ·rw [decide_eq_false (show ¬ p from hp)]
 ·rfl
theorem tX {h : H} {x : Bool} {ps : List Prop} {v : Value} (e : bR h x = some (ps, v)) (hp : AllP ps) : v = .bool x := by
 unfold bR at e
 split at e <;> cases e
 ·rw [show x = _ from hp]
 ·rfl
def evI (op : BinOp) (h : H) (k : IntKind) (a b : Int) : Option (List Prop × Value) := match op with
 | .add => iR h k (a + b)
 | .sub => iR h k (a - b)
 | .mul => iR h k (a * b)
 | .quo => match h with
  | .ps => some ([0 ≤ a, 0 < b, wE k a], .int k (a / b))
  | h => match iR h k (a.tdiv b) with
   | some (ps, v) => some ((¬ b = 0) :: ps, v)
   | none => none
 | .rem => match h with
  | .ps => some ([0 ≤ a, 0 < b], .int k (a % b))
  | .no => some ([¬ b = 0], .int k (a.tmod b))
  | .i r => some ([¬ b = 0, a.tmod b = r], .int k r)
  | _ => none
 | .eql => cR h (a = b)
 | .neq => cR h (a ≠ b)
 | .lss => cR h (a < b)
 | .leq => cR h (a ≤ b)
 | .gtr => cR h (b < a)
 | .geq => cR h (b ≤ a)
 | _ => none
theorem u2u {k : IntKind} {a q : Int} (h1 : 0 ≤ q) (h2 : q ≤ a) (h : wE k a) : wE k q := by
 cases k <;> simp only [wE] at h ⊢ <;> omega
theorem k8g {k : IntKind} {a b : Int} (h0 : 0 ≤ a) (hb : 0 < b) (h : wE k a) : wE k (a / b) := u2u (Int.ediv_nonneg h0 (by omega)) (Int.ediv_le_self _ h0) h
theorem u39 {op : BinOp} {h : H} {k : IntKind} {a b : Int} {ps : List Prop} {v : Value} (e : evI op h k a b = some (ps, v)) (hp : AllP ps) (xt : TypeId) (x y : Operand) : l9 op xt x y (.int k a) (.int k b) v ∧ v.oneCell' = true := by
 unfold evI at e
 split at e
 ·rw [nH e hp]; exact ⟨u5o rfl, rfl⟩
 ·rw [nH e hp]; exact ⟨u5g rfl, rfl⟩
 ·rw [nH e hp]; exact ⟨u5i rfl, rfl⟩
 ·split at e
  ·cases e
   obtain ⟨h1, h2, h3⟩ := hp
   refine ⟨u0f (by omega) ?_, rfl⟩
   rw [Int.tdiv_eq_ediv_of_nonneg h1, bO (k8g h1 h2 h3)]
  ·split at e
   ·rename_i ps' v' hi
    cases e
    have h1 : ¬ b = 0 := (qL _).1 hp _ (kb1 ..)
    rw [nH hi ((qL _).2 fun p h => (qL _).1 hp p (kb2 _ h))]
    exact ⟨u0f h1 rfl, rfl⟩
   ·cases e
 ·split at e
  ·cases e
   obtain ⟨h1, h2⟩ := hp
   have h2 : 0 < b := h2
   exact ⟨k2p (by omega) (Int.tmod_eq_emod_of_nonneg h1), rfl⟩
  ·cases e; exact ⟨k2p hp rfl, rfl⟩
  ·cases e; exact ⟨k2p hp.1 hp.2, rfl⟩
  ·cases e
 ·rw [nL e hp]; exact ⟨u5n rfl, rfl⟩
 ·rw [nL e hp]; exact ⟨u5h rfl, rfl⟩
 ·rw [nL e hp]; exact ⟨u5j rfl, rfl⟩
 ·rw [nL e hp]; exact ⟨u5k rfl, rfl⟩
 ·rw [nL e hp]; exact ⟨u5l rfl, rfl⟩
 ·rw [nL e hp]; exact ⟨u5m rfl, rfl⟩
 ·cases e
def evB (op : BinOp) (h : H) (a b : Bool) : Option (List Prop × Value) := match op with
 | .eql => bR h (a == b)
 | .neq => bR h (!(a == b))
 | _ => none
def pE (P : Program) (t : TypeId) : Bool := match P.underlying t with
 | some .bool => true
 | _ => false
theorem nE {t : TypeId} (h : pE Tryz.prog t = true) : Tryz.prog.underlying t = some .bool := by
 unfold pE at h
 split at h
 ·rename_i e; exact e
 ·cases h
theorem u3c {op : BinOp} {h : H} {a b : Bool} {ps : List Prop} {v : Value} (e : evB op h a b = some (ps, v)) (hp : AllP ps) {xt : TypeId} (hu : pE Tryz.prog xt = true) (x y : Operand) : l9 op xt x y (.bool a) (.bool b) v ∧ v.oneCell' = true := by
 unfold evB at e
 split at e
 ·rw [tX e hp]; exact ⟨u29 (nE hu) rfl, rfl⟩
 ·rw [tX e hp]; exact ⟨u28 (nE hu) rfl, rfl⟩
 ·cases e
def evS (op : BinOp) (h : H) (a b : ByteArray) : Option (List Prop × Value) := match op with
 | .eql => bR h (a.toList == b.toList)
 | .neq => bR h (!(a.toList == b.toList))
 | _ => none
theorem u34 {op : BinOp} {h : H} {a b : ByteArray} {ps : List Prop} {v : Value} {xt : TypeId} (e : evS op h a b = some (ps, v)) (hp : AllP ps) (x y : Operand) : l9 op xt x y (.string a) (.string b) v ∧ v.oneCell' = true := by
 unfold evS at e
 split at e
 ·rw [tX e hp]; exact ⟨by intro w; simp [eqGuard, binOp, Op.stringOp], rfl⟩
 ·rw [tX e hp]; exact ⟨by intro w; simp [eqGuard, binOp, Op.stringOp], rfl⟩
 ·cases e
def evV (P : Program) (op : BinOp) (h : H) (xt : TypeId) : Value → Value → Option (List Prop × Value)
 | .string a, .string b => evS op h a b
 | .int k a, .int k' b => if k = k' then evI op h k a b else none
 | .bool a, .bool b => if pE P xt = true then evB op h a b else none
 | _, _ => none
theorem u31 {op : BinOp} {h : H} {a b : Value} {ps : List Prop} {v : Value} {xt : TypeId} (e : evV Tryz.prog op h xt a b = some (ps, v)) (hp : AllP ps) (x y : Operand) : l9 op xt x y a b v ∧ v.oneCell' = true := by
 unfold evV at e
 split at e
 ·exact u34 e hp x y
 ·split at e
  ·rename_i hk; subst hk; exact u39 e hp xt x y
  ·cases e
 ·split at e
  ·rename_i hk; exact u3c e hp hk x y
  ·cases e
 ·cases e
def k5m (P : Program) (op : BinOp) (h : H) (xt : TypeId) : PV → PV → R
 | .e (.c (.d (.lit a))), .e (.c (.d (.lit b))) => match evV P op h xt a b with
  | some (ps, v) => lZ ps (LV v)
  | none => none
 | _, _ => none
section
variable {cx : Cx} {o : Oper} {l : List (Nat × PV)} {g : EH}
theorem k5l {op : BinOp} {h : H} {xt yt : TypeId} {x y : Operand} (ho : o.op = .binOp op xt x y yt) {u v : PV} (hu : Ev l x u) (hv : Ev l y v) : OKR cx o l g (k5m Tryz.prog op h xt u v) := by
 unfold k5m
 split
 ·split
  ·rename_i a b ps r he
   refine OKR.some fun hp => ?_
   obtain ⟨h1, h2⟩ := u31 he hp x y
   exact w9 ho hu hv h1 h2
  ·exact OKR.none
 ·exact OKR.none
end
def k4n (h : H) : PV → R
 | .e (.c (.d (.lit (.bool b)))) => match bR h (!b) with
  | some (ps, v) => lZ ps (LV v)
  | none => none
 | _ => none
def k4r (h : H) : PV → R
 | .e (.c (.d (.lit (.int k n)))) => match iR h k (0 - n) with
  | some (ps, v) => lZ ps (LV v)
  | none => none
 | _ => none
def xQ (h : H) (c : PV) (x y : Option PV) : R := match c with
 | .e (.c (.d (.lit (.bool b)))) => match h with
  | .b true => bo x fun u => lZ [b = true] u
  | .b false => bo y fun u => lZ [b = false] u
  | .no => match b with
   | true => bo x pv
   | false => bo y pv
  | _ => none
 | _ => none
def xV (P : Program) (h : H) (src dst : TypeId) : PV → R
 | .e (.c (.d (.lit (.int _ n)))) => match P.underlying dst, P.underlying src with
  | some (.int k), some _ => match iR h k n with
   | some (ps, v) => lZ ps (LV v)
   | none => none
  | _, _ => none
 | _ => none
def k5c (i : Nat) : PV → R
 | .tup es => match es[i]? with
  | some e => pv (.e e)
  | none => none
 | _ => none
section
variable {cx : Cx} {o : Oper} {l : List (Nat × PV)} {g : EH}
theorem k4m {h : H} {xt : TypeId} {x : Operand} (ho : o.op = .unOp .not xt x) {u : PV} (hu : Ev l x u) : OKR cx o l g (k4n h u) := by
 unfold k4n
 split
 ·split
  ·rename_i he
   refine OKR.some fun hp => ?_
   rw [tX he hp]; exact u2d ho hu rfl
  ·exact OKR.none
 ·exact OKR.none
theorem k4q {h : H} {xt : TypeId} {x : Operand} (ho : o.op = .unOp .neg xt x) {u : PV} (hu : Ev l x u) : OKR cx o l g (k4r h u) := by
 unfold k4r
 split
 ·split
  ·rename_i he
   refine OKR.some fun hp => ?_
   rw [nH he hp]; exact u2e ho hu rfl
  ·exact OKR.none
 ·exact OKR.none
theorem k1b {h : H} {c x y : Operand} (ho : o.op = .pick c x y) {u : PV} (hu : Ev l c u) : OKR cx o l g (xQ h u (aB l x) (aB l y)) := by
 unfold xQ
 split
 ·split
  ·exact OKR.bo fun u hx => OKR.some fun hp => by have hp : _ = true := hp; subst hp; exact mZ ho hu hx
  ·exact OKR.bo fun u hx => OKR.some fun hp => by have hp : _ = false := hp; subst hp; exact m5 ho hu hx
  ·split
   ·exact OKR.bo fun u hx => OKR.some fun hp => mZ ho hu hx
   ·exact OKR.bo fun u hx => OKR.some fun hp => m5 ho hu hx
  ·exact OKR.none
 ·exact OKR.none
theorem k1h {h : H} {src dst : TypeId} {x : Operand} (ho : o.op = .convert src dst x) {u : PV} (hu : Ev l x u) : OKR cx o l g (xV Tryz.prog h src dst u) := by
 unfold xV
 split
 ·split
  ·rename_i h1 h2
   split
   ·rename_i he
    refine OKR.some fun hp => ?_
    rw [nH he hp]; exact sN ho h1 (by rw [h2]; rfl) hu rfl
   ·exact OKR.none
  ·exact OKR.none
 ·exact OKR.none
theorem k5a {x : Operand} {i : Nat} (ho : o.op = .extract x i) {u : PV} (hu : Ev l x u) : OKR cx o l g (k5c i u) := by
 unfold k5c
 split
 ·split
  ·rename_i he; exact OKR.some fun _ => wZ ho hu he
  ·exact OKR.none
 ·exact OKR.none
end
end Go.Proofs.YtdbjebdomdnbkaaGreat
