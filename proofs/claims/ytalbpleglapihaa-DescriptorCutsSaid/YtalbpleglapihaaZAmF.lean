/- Merged texts. -/
import Derived.Test.YtalbpleglapihaaZAmA
import Derived.Lib.AppendZeros
import Derived.Lib.AppendZerosOnto
namespace Go.Proofs.Ytalbpleglapihaa
open Go.ChangeShapes Go.WideShapes Go.ChangeAt Go.RowKit
set_option linter.unusedVariables false
set_option linter.unusedSimpArgs false
section
variable {cx : Cx} {ops os : List Oper} {o : Oper} {ts : List OT} {l lf : List (Nat × PV)} {g gf : List (Nat × Option Bk)} {u : PV} {d : Nat} {foot news : List Nat}
theorem bZ {t : OT} (hg : o.guard = none) (h : OpOK cx o (S l) (S g) t) : StepO cx ops o l g t := by unfold StepO; rw [hg]; exact h
theorem jV (hd : o.dst = some d) (u : PV) : cF o u = [(d, u)] := by unfold cF; rw [hd]
theorem xZ (hd : o.dst = none) (u : PV) : cF o u = [] := by unfold cF; rw [hd]
def SK (cx : Cx) (ops os : List Oper) (l : List (Nat × PV)) (g : List (Nat × Option Bk)) (K : List OT → List (Nat × PV) → List (Nat × Option Bk) → Prop) : Prop := ∃ ts lf gf, Steps cx ops os ts l g lf gf ∧ K ts lf gf
abbrev KT := List OT → List (Nat × PV) → List (Nat × Option Bk) → Prop
variable {K : KT}
theorem SK.nil (h : K [] l g) : SK cx ops [] l g K := ⟨[], l, g, .nil l g, h⟩
theorem SK.cons {t : OT} (h : StepO cx ops o l g t) (hs : SK cx ops os (cF o t.u ++ l) (t.wr ++ g) (fun ts lf gf => K (t :: ts) lf gf)) : SK cx ops (o :: os) l g K := by
 obtain ⟨ts, lf, gf, h1, h2⟩ := hs
 exact ⟨t :: ts, lf, gf, .cons h h1, h2⟩
theorem SK.p (hg : o.guard = none) (hd : o.dst = some d) (h : OpOK cx o (S l) (S g) ⟨u, [], [], foot⟩) (hs : SK cx ops os ((d, u) :: l) g (fun ts lf gf => K (⟨u, [], [], foot⟩ :: ts) lf gf)) : SK cx ops (o :: os) l g K :=
 .cons (bZ hg h) (by rw [jV hd]; exact hs)
theorem SK.w {wr g' : List (Nat × Option Bk)} (hg : o.guard = none) (hd : o.dst = some d) (h : OpOK cx o (S l) (S g) ⟨u, wr, news, foot⟩) (hg' : wr ++ g = g') (hs : SK cx ops os ((d, u) :: l) g' (fun ts lf gf => K (⟨u, wr, news, foot⟩ :: ts) lf gf)) : SK cx ops (o :: os) l g K :=
 .cons (bZ hg h) (by rw [jV hd]; subst hg'; exact hs)
theorem u2c {x : List (Nat × Option Bk)} {g' : List (Nat × Option Bk)} (hg : o.guard = none) (hd : o.dst = none) (h : OpOK cx o (S l) (S g) ⟨u, x, news, foot⟩) (hg' : x ++ g = g') (hs : SK cx ops os l g' (fun ts lf gf => K (⟨u, x, news, foot⟩ :: ts) lf gf)) : SK cx ops (o :: os) l g K :=
 .cons (bZ hg h) (by rw [xZ hd]; subst hg'; exact hs)
theorem SK.n {x : Nat × Option Bk} (hg : o.guard = none) (hd : o.dst = none) (h : OpOK cx o (S l) (S g) ⟨u, [x], news, foot⟩) (hs : SK cx ops os l (x :: g) (fun ts lf gf => K (⟨u, [x], news, foot⟩ :: ts) lf gf)) : SK cx ops (o :: os) l g K :=
 u2c hg hd h rfl hs
theorem StepO.yes {t : OT} {gi dg : Nat} {b : Bool} {og : Oper} (hg : o.guard = some (gi, b)) (hog : ops[gi]? = some og) (hdg : og.dst = some dg) (hv : Look l dg (LV (.bool b))) (h : OpOK cx o (S l) (S g) t) : StepO cx ops o l g t := by
 unfold StepO; rw [hg]; exact ⟨dg, og, hog, hdg, .inl ⟨b, hv.S, by rw [if_pos rfl]; exact h⟩⟩
end
section
variable {cx : Cx} {o : Oper} {l : List (Nat × PV)} {g : List (Nat × Option Bk)}
end
def dI (k : IntKind) (l : List Int) : List D := l.map fun x => .lit (.int k x)
theorem qL (k : IntKind) (l : List Int) : (dI k l).length = l.length := by unfold dI; simp
theorem qU (k : IntKind) (l : List Int) (i : Nat) (h : i < l.length) : ((dI k l).drop i)[0]? = some (.lit (.int k (l.getD i 0))) := by
 unfold dI; rw [List.getElem?_drop]; simp [List.getD_eq_getElem?_getD, h]
theorem k5k (k : IntKind) (l : List Int) (i n : Nat) : ((dI k l).drop i).take n = dI k ((l.drop i).take n) := by unfold dI; simp [List.map_drop, List.map_take]
theorem u5 (k : IntKind) (l : List Int) (n : Nat) : (dI k l).take n = dI k (l.take n) := by unfold dI; simp [List.map_take]
theorem qT (k : IntKind) (l : List Int) (n : Nat) : (dI k l).drop n = dI k (l.drop n) := by unfold dI; simp [List.map_drop]
section
variable {cx : Cx} {o : Oper} {l : List (Nat × PV)} {g : List (Nat × Option Bk)}
theorem xE {nx : Nat} {T : TypeId} {zs : List Value} {cs : List C} (ho : o.op = .alloc T) (hz : cG Try.prog T = some zs) (h1 : zs.all (·.oneCell') = true) (hc : zs.map LC = cs) : OpOK cx o (S l) (S g) ⟨.e (.c (.ptr nx 0)), [(nx, some (T, cs))], [nx], []⟩ := by subst hc; exact k0i ho hz h1
theorem Src.all {s : Nat} {y : Operand} {b m : Nat} {wh : Bool} {T : TypeId} {cs : List C} (h : Ev l y (.e (.c (.own b 0 m s wh)))) (hb : Look g b (some (T, cs))) (hl : cs.length = m * s) : Src l g s y m cs [b] :=
 .own h hb (by rw [List.drop_zero]; exact List.take_of_length_le (by omega)) hl
theorem gR {t e : TypeId} {z : Value} {s bs m nx : Nat} {x y : Operand} {news cs' : List C} {foot : List Nat} (ho : o.op = .call { callee := .builtin .append, args := #[x, y], argTypes := #[t, t] }) (hu : Try.prog.underlying t = some (.slice e)) (hi : (Try.prog.info? e).map (fun i => (i.zero, i.size, i.bytes)) = some (some z, s, bs)) (hzs : z.cells.size = s) (hs0 : 0 < s)
  (hx : Ev l x (LV aN)) (hy : Src l g s y m news foot) (h63 : m ≤ maxLen) (hbytes : m * bs ≤ 140737488355328) (hcat : news = cs') : OpOK cx o (S l) (S g) ⟨.e (.c (.own nx 0 m s true)), [(nx, some (e, cs'))], [nx], foot⟩ := by subst hcat; exact i0 ho hu hi hzs hs0 hx hy h63 hbytes
theorem rY {t e : TypeId} {z : Value} {s bs m n n' b nx : Nat} {x y : Operand} {cs news cs' : List C} {foot : List Nat} (ho : o.op = .call { callee := .builtin .append, args := #[x, y], argTypes := #[t, t] }) (hu : Try.prog.underlying t = some (.slice e)) (hi : (Try.prog.info? e).map (fun i => (i.zero, i.size, i.bytes)) = some (some z, s, bs)) (hzs : z.cells.size = s) (hs0 : 0 < s)
  (hx : Ev l x (.e (.c (.own b 0 n s true)))) (hb : Look g b (some (e, cs))) (hcl : cs.length = n * s) (hy : Src l g s y m news foot) (h63 : n + m ≤ maxLen) (hbytes : (n + m) * bs ≤ 140737488355328) (hcat : cs ++ news = cs') (hnm : n + m = n') : OpOK cx o (S l) (S g) ⟨.e (.c (.own nx 0 n' s true)), [(b, none), (nx, some (e, cs'))], [nx], b :: foot⟩ := by subst hcat; subst hnm; exact xD ho hu hi hzs hs0 hx hb hcl hy h63 hbytes
end
end Go.Proofs.Ytalbpleglapihaa
namespace Go.Proofs.Ytalbpleglapihaa
open Go.ChangeShapes Go.WideShapes Go.ChangeAt Go.RowKit
set_option linter.unusedVariables false
set_option linter.unusedSimpArgs false
section
variable {cx : Cx} {o : Oper} {l : List (Nat × PV)} {g : List (Nat × Option Bk)}
theorem k0d {nx n c bs : Nat} {t e : TypeId} {z : Value} {x y : Operand} {kx ky : IntKind} {ix iy : Int} {cs : List C} (ho : o.op = .makeSlice t x y) (hu : Try.prog.underlying t = some (.slice e)) (hi : (Try.prog.info? e).map (fun i => (i.zero, i.size, i.bytes)) = some (some z, 1, bs)) (hz : z.oneCell' = true) (hx : Ev l x (LV (.int kx ix))) (hy : Ev l y (LV (.int ky iy))) (ex : ix = (n : Int)) (ey : iy = (c : Int)) (hn : n ≤ c) (hm : c ≤ maxLen) (hb : bs * c ≤ 281474976710656) (hcs : List.replicate n (LC z) = cs) :
  OpOK cx o (S l) (S g) ⟨.e (.c (.own nx 0 n 1 true)), [(nx, some (e, cs))], [nx], []⟩ := by subst hcs; exact k49 ho hu hi hz hx hy ex ey hn hm hb
end
theorem Mod.adopt {cx : Cx} {n nx : Nat} {l : List (Nat × PV)} {g : List (Nat × Option Bk)} {b i s : Nat} {T T2 : TypeId} {cs : List C} (hb : Look g b (some (T, cs))) (hc : cs[i]? = some (LC aN)) {a : Act} {w : World} (h : Mod cx n l g nx a w) : Mod cx n l ((b, some (T, cs.set i (.own nx 0 0 s true))) :: (nx, some (T2, [])) :: g) (nx + 1) a w := by
 obtain ⟨ρ, h1, h2, h3, h4, h5, h6, h9⟩ := h
 have hnx : ρ nx = none := h6 nx (Nat.le_refl _)
 have hgo : Goes cx.p ρ (ρ.set nx ⟨0, 0, true⟩) w w := by
  refine ⟨fun b m hb => ?_, fun _ h => h, Nat.le_refl _, fun _ _ _ => rfl⟩
  have : b ≠ nx := fun e => by rw [e, hnx] at hb; cases hb
  simp [this, hb]
 obtain ⟨m, k1, k2⟩ := h2.row b T cs hb.S
 have hbn : b ≠ nx := fun e => by rw [e, hnx] at k1; cases k1
 refine ⟨ρ.set nx ⟨0, 0, true⟩, h1, ⟨?_, ?_, ?_, h2.zm, h2.zl⟩, fun t => (h3 t).mono hgo, h4, h5, ?_, fun b m hb => hgo.ext _ _ (h9 b m hb)⟩
 ·intro x T' cs' hx
  unfold Proofs.Ytalbpleglapihaa.S at hx
  rw [List.lookup_cons, List.lookup_cons] at hx
  by_cases hxb : x = b
  ·subst hxb
   simp at hx
   obtain ⟨rfl, rfl⟩ := hx
   refine ⟨m, by simp [hbn, k1], ?_⟩
   rcases k2 with ⟨k2, k3⟩ | ⟨k2, ⟨vs, rest, r1, r2, r3⟩, k4⟩
   ·rw [k3] at hc; simp at hc
   ·have hi : i < vs.length := by have := (List.getElem?_eq_some_iff.1 hc).1; rw [← r3.len]; exact this
    have hv := r3.get i _ vs[i] hc (List.getElem?_eq_getElem hi)
    have hv2 : vs[i] = aN := by
     have h := hv
     generalize vs[i] = q at h
     cases h with | d h => cases h; rfl
    refine .inr ⟨k2, ⟨vs, rest, r1, r2, ?_⟩, k4⟩
    have h8 : All2 (RepC cx.p (ρ.set nx ⟨0, 0, true⟩) w) (cs.set i (.own nx 0 0 s true)) (vs.set i aN) :=
     All2.set (.ownn nx s ⟨0, 0, true⟩ (by simp) rfl) i (r3.imp fun _ _ => RepC.mono hgo)
    rwa [← hv2, List.set_getElem_self] at h8
  ·have hxb' : (x == b) = false := by simpa using hxb
   simp only [hxb'] at hx
   by_cases hxn : x = nx
   ·subst hxn
    simp at hx
    obtain ⟨rfl, rfl⟩ := hx
    exact ⟨⟨0, 0, true⟩, by simp, .inl ⟨rfl, rfl⟩⟩
   ·have hxn' : (x == nx) = false := by simpa using hxn
    simp only [hxn'] at hx
    obtain ⟨m', q1, q2⟩ := h2.row x T' cs' hx
    refine ⟨m', by simp [hxn, q1], ?_⟩
    rcases q2 with q2 | ⟨q2, q3, q4⟩
    ·exact .inl q2
    ·exact .inr ⟨q2, q3.mono hgo rfl, q4⟩
 ·have hlive : ∀ x, x ≠ nx → S ((b, some (T, cs.set i (.own nx 0 0 s true))) :: (nx, some (T2, [])) :: g) x ≠ none → S g x ≠ none := by
   intro x hxn hx
   unfold Proofs.Ytalbpleglapihaa.S at hx ⊢
   rw [List.lookup_cons, List.lookup_cons] at hx
   by_cases hxb : x = b
   ·subst hxb; rw [hb.eq]; simp
   ·simpa [show (x == b) = false by simpa using hxb, show (x == nx) = false by simpa using hxn] using hx
  intro x x' m1 m2 hx hx' hm1 hm2 hn1 hn2 he
  by_cases hxn : x = nx
  ·subst hxn; simp at hm1; subst hm1; cases hn1
  ·by_cases hxn' : x' = nx
   ·subst hxn'; simp at hm2; subst hm2; cases hn2
   ·simp [hxn] at hm1; simp [hxn'] at hm2
    exact h2.inj x x' m1 m2 (hlive x hxn hx) (hlive x' hxn' hx') hm1 hm2 hn1 hn2 he
 ·have hlive : ∀ x, x ≠ nx → S ((b, some (T, cs.set i (.own nx 0 0 s true))) :: (nx, some (T2, [])) :: g) x ≠ none → S g x ≠ none := by
   intro x hxn hx
   unfold Proofs.Ytalbpleglapihaa.S at hx ⊢
   rw [List.lookup_cons, List.lookup_cons] at hx
   by_cases hxb : x = b
   ·subst hxb; rw [hb.eq]; simp
   ·simpa [show (x == b) = false by simpa using hxb, show (x == nx) = false by simpa using hxn] using hx
  intro x m1 hx hm1 hn1
  by_cases hxn : x = nx
  ·subst hxn; simp at hm1; subst hm1; cases hn1
  ·simp [hxn] at hm1; exact h2.zf x m1 (hlive x hxn hx) hm1 hn1
 ·intro x hx
  have : x ≠ nx := by omega
  simp [this, h6 x (by omega)]
theorem AW.adopt {cx : Cx} {n nx : Nat} {c : Code} {Q : u6} {l : List (Nat × PV)} {g : List (Nat × Option Bk)} {b i s : Nat} {T : TypeId} (T2 : TypeId) {cs cs' : List C} (hb : Look g b (some (T, cs))) (hc : cs[i]? = some (LC aN)) (hs : cs.set i (.own nx 0 0 s true) = cs') (h : AW cx n c Q ⟨l, (b, some (T, cs')) :: (nx, some (T2, [])) :: g, nx + 1⟩) : AW cx n c Q ⟨l, g, nx⟩ := fun a w hm => by
 subst hs; exact h a w (hm.adopt hb hc)
end Go.Proofs.Ytalbpleglapihaa
namespace Go.Proofs.Ytalbpleglapihaa
open Go.ChangeShapes Go.WideShapes Go.ChangeAt Go.RowKit
set_option linter.unusedVariables false
set_option linter.unusedSimpArgs false
inductive BC where
 | cs (l : List C)
 | ds (l : List D)
def BC.to : BC → List C
 | .cs l => l
 | .ds l => l.map .d
abbrev EBk := TypeId × BC
abbrev EH := List (Nat × Option EBk)
def n7 : Option EBk → Option Bk
 | some x => some (x.1, x.2.to)
 | none => none
def kG : EH → List (Nat × Option Bk)
 | [] => []
 | x :: g => (x.1, n7 x.2) :: kG g
theorem cV (b : Nat) : ∀ g : EH, (kG g).lookup b = (g.lookup b).map n7
 | [] => rfl
 | (k, x) :: g => by
  show List.lookup b ((k, n7 x) :: kG g) = _
  rw [List.lookup_cons, List.lookup_cons]
  cases b == k with
  | true => rfl
  | false => exact cV b g
theorem qS {g : EH} {b : Nat} {T : TypeId} {bc : BC} (h : g.lookup b = some (some (T, bc))) : Look (kG g) b (some (T, bc.to)) := u7 (by rw [cV, h]; rfl)
theorem tL : ∀ a b : EH, kG (a ++ b) = kG a ++ kG b
 | [], _ => rfl
 | x :: a, b => by show _ :: kG (a ++ b) = _ :: (kG a ++ kG b); rw [tL a b]
def AllP : List Prop → Prop
 | [] => True
 | [p] => p
 | p :: q :: r => p ∧ AllP (q :: r)
theorem qB : ∀ l : List Prop, AllP l ↔ ∀ p ∈ l, p
 | [] => by simp [AllP]
 | [p] => by simp only [AllP, List.mem_singleton, forall_eq]
 | p :: q :: r => by
  show p ∧ AllP (q :: r) ↔ _
  rw [qB (q :: r)]
  constructor
  ·rintro ⟨h1, h2⟩ x hx
   rcases List.mem_cons.1 hx with rfl | hx
   ·exact h1
   ·exact h2 x hx
  ·intro h
   exact ⟨h p (List.mem_cons_self ..), fun x hx => h x (List.mem_cons_of_mem _ hx)⟩
theorem AllP.app {a b : List Prop} (h : AllP (a ++ b)) : AllP a ∧ AllP b := by
 rw [qB] at h
 exact ⟨(qB a).2 fun p hp => h p (List.mem_append_left _ hp), (qB b).2 fun p hp => h p (List.mem_append_right _ hp)⟩
theorem AllP.one {p : Prop} {l : List Prop} (h : AllP l) (hp : p ∈ l) : p := (qB l).1 h p hp
inductive H where
 | no
 | w
 | ps
 | b (c : Bool)
 | i (r : Int)
 | wi (r : Int)
 | n (k : Nat)
 | n2 (i r : Nat)
 | d (x : D)
 | ds (l : List D)
 | mk (n c : Nat) (r : List D)
 | sl (L H r k : Nat)
 | sls (L H k : Nat) (r : List D)
 | ap (snap : Option (List D)) (n : Nat) (r : List D)
 | az (m n : Nat) (r : List D)
 | cp (snap : Option (List D)) (k : Nat) (r : List D)
 | st (snap : Option (List D)) (l : List Int)
 | fz (h : H)
 | call (ps : List Nat) (y : PV) (gout : EH) (nout : Nat) (snaps : List (Option (List D))) (xo : Option (List E1))
structure OTe where
 u : PV
 wr : EH
 news : List Nat
 foot : List Nat
def OTe.to (t : OTe) : OT := ⟨t.u, kG t.wr, t.news, t.foot⟩
abbrev R := Option (List Prop × OTe)
def pv (u : PV) : R := some ([], ⟨u, [], [], []⟩)
def iN (ps : List Prop) (u : PV) : R := some (ps, ⟨u, [], [], []⟩)
def y7 (l : List (Nat × PV)) : Operand → Option PV
 | .tmp t => l.lookup t
 | .const v => match v.oneCell' with
  | true => some (LV v)
  | false => none
 | .func f => match Nat.blt f i7 with
  | true => some (.e (.c (.fn f [])))
  | false => none
 | .global g => match mK.lookup g with
  | some vs => some (.e (.c (.rp (vs.map .lit))))
  | none => none
theorem eS {l : List (Nat × PV)} {x : Operand} {u : PV} (h : y7 l x = some u) : Ev l x u := by
 cases x with
 | tmp t => exact .tmp (u7 h)
 | const v =>
  unfold y7 at h
  cases hv : v.oneCell' with
  | true => simp only [hv, Option.some.injEq] at h; subst h; exact .lit hv
  | false => simp [hv] at h
 | global g =>
  unfold y7 at h
  cases hg : mK.lookup g with
  | none => simp [hg] at h
  | some vs => simp only [hg, Option.some.injEq] at h; subst h; exact .gl hg
 | func f =>
  unfold y7 at h
  cases hf : Nat.blt f i7 with
  | true => simp only [hf, Option.some.injEq] at h; subst h; exact .fn hf
  | false => simp [hf] at h
def bo {α : Type} (o : Option α) (f : α → R) : R := match o with
 | some u => f u
 | none => none
def OKR (cx : Cx) (o : Oper) (l : List (Nat × PV)) (g : EH) (r : R) : Prop := ∀ ps t, r = some (ps, t) → AllP ps → OpOK cx o (S l) (S (kG g)) t.to
section
variable {cx : Cx} {o : Oper} {l : List (Nat × PV)} {g : EH}
theorem OKR.none : OKR cx o l g none := fun _ _ h => by cases h
theorem OKR.some {ps : List Prop} {t : OTe} (h : AllP ps → OpOK cx o (S l) (S (kG g)) t.to) : OKR cx o l g (some (ps, t)) := fun _ _ e hp => by cases e; exact h hp
theorem OKR.bo {x : Operand} {f : PV → R} (h : ∀ u, Ev l x u → OKR cx o l g (f u)) : OKR cx o l g (bo (y7 l x) f) := by
 cases hx : y7 l x with
 | none => exact OKR.none
 | some u => exact h u (eS hx)
end
/-! numbers -/
def rC : IntKind → Int → Prop
 | .i8, x => -128 ≤ x ∧ x ≤ 127
 | .i16, x => -32768 ≤ x ∧ x ≤ 32767
 | .i32, x => -2147483648 ≤ x ∧ x ≤ 2147483647
 | .i64, x => -9223372036854775808 ≤ x ∧ x ≤ 9223372036854775807
 | .u8, x => 0 ≤ x ∧ x ≤ 255
 | .u16, x => 0 ≤ x ∧ x ≤ 65535
 | .u32, x => 0 ≤ x ∧ x ≤ 4294967295
 | .u64, x => 0 ≤ x ∧ x ≤ 18446744073709551615
theorem v3 {k : IntKind} {x : Int} (h : rC k x) : k.wrap x = x := by
 cases k <;> simp only [rC] at h <;> (first | rw [IntKind.wrap_i64] | skip) <;> (first | omega | (simp [IntKind.wrap, IntKind.bits, IntKind.signed] <;> omega) | skip)
def qN (op : BinOp) (k : IntKind) (x y : Int) : Int :=
 let a := BitVec.ofInt k.bits x
 let b := BitVec.ofInt k.bits y
 match op with
 | .and => k.wrap (a &&& b).toNat
 | .or => k.wrap (a ||| b).toNat
 | .xor => k.wrap (a ^^^ b).toNat
 | _ => k.wrap (a &&& ~~~b).toNat
def iR (h : H) (k : IntKind) (x : Int) : Option (List Prop × Value) := match h with
 | .w => some ([rC k x], .int k x)
 | .no => some ([], .int k (k.wrap x))
 | .i r => some ([k.wrap x = r], .int k r)
 | .wi r => some ([rC k x, x = r], .int k r)
 | _ => none
def cR (h : H) (p : Prop) [Decidable p] : Option (List Prop × Value) := match h with
 | .b true => some ([p], .bool true)
 | .b false => some ([¬ p], .bool false)
 | .no => some ([], .bool (decide p))
 | _ => none
def bR (h : H) (x : Bool) : Option (List Prop × Value) := match h with
 | .b c => some ([x = c], .bool c)
 | .no => some ([], .bool x)
 | _ => none
theorem jT {h : H} {k : IntKind} {x : Int} {ps : List Prop} {v : Value} (e : iR h k x = some (ps, v)) (hp : AllP ps) : v = .int k (k.wrap x) := by
 unfold iR at e
 split at e <;> cases e
 ·rw [v3 hp]
 ·rfl
 ·rw [← (show k.wrap x = _ from hp)]
 ·rw [v3 hp.1, ← (show x = _ from hp.2)]
theorem jZ {h : H} {p : Prop} [Decidable p] {ps : List Prop} {v : Value} (e : cR h p = some (ps, v)) (hp : AllP ps) : v = .bool (decide p) := by
 unfold cR at e
 split at e <;> cases e
 ·rw [decide_eq_true (show p from hp)]
 ·rw [decide_eq_false (show ¬ p from hp)]
 ·rfl
theorem pS {h : H} {x : Bool} {ps : List Prop} {v : Value} (e : bR h x = some (ps, v)) (hp : AllP ps) : v = .bool x := by
 unfold bR at e
 split at e <;> cases e
 ·rw [show x = _ from hp]
 ·rfl
def evI (op : BinOp) (h : H) (k : IntKind) (a b : Int) : Option (List Prop × Value) := match op with
 | .add => iR h k (a + b)
 | .sub => iR h k (a - b)
 | .mul => iR h k (a * b)
 | .quo => match h with
  | .ps => some ([0 ≤ a, 0 < b, rC k a], .int k (a / b))
  | h => match iR h k (a.tdiv b) with
   | some (ps, v) => some ((¬ b = 0) :: ps, v)
   | none => none
 | .rem => match h with
  | .ps => some ([0 ≤ a, 0 < b], .int k (a % b))
  | .no => some ([¬ b = 0], .int k (a.tmod b))
  | .i r => some ([¬ b = 0, a.tmod b = r], .int k r)
  | _ => none
 | .eql => cR h (a = b)
 | .neq => cR h (a ≠ b)
 | .lss => cR h (a < b)
 | .leq => cR h (a ≤ b)
 | .gtr => cR h (b < a)
 | .geq => cR h (b ≤ a)
 | _ => none
theorem k8g {k : IntKind} {a q : Int} (h1 : 0 ≤ q) (h2 : q ≤ a) (h : rC k a) : rC k q := by
 cases k <;> simp only [rC] at h ⊢ <;> omega
theorem k4t {k : IntKind} {a b : Int} (h0 : 0 ≤ a) (hb : 0 < b) (h : rC k a) : rC k (a / b) := k8g (Int.ediv_nonneg h0 (by omega)) (Int.ediv_le_self _ h0) h
theorem k8s {op : BinOp} {h : H} {k : IntKind} {a b : Int} {ps : List Prop} {v : Value} (e : evI op h k a b = some (ps, v)) (hp : AllP ps) (xt : TypeId) (x y : Operand) : iU op xt x y (.int k a) (.int k b) v ∧ v.oneCell' = true := by
 unfold evI at e
 split at e
 ·rw [jT e hp]; exact ⟨u0t rfl, rfl⟩
 ·rw [jT e hp]; exact ⟨u0l rfl, rfl⟩
 ·rw [jT e hp]; exact ⟨u0n rfl, rfl⟩
 ·split at e
  ·cases e
   obtain ⟨h1, h2, h3⟩ := hp
   refine ⟨k6a (by omega) ?_, rfl⟩
   rw [Int.tdiv_eq_ediv_of_nonneg h1, v3 (k4t h1 h2 h3)]
  ·split at e
   ·rename_i ps' v' hi
    cases e
    have h1 : ¬ b = 0 := (qB _).1 hp _ (List.mem_cons_self ..)
    rw [jT hi ((qB _).2 fun p h => (qB _).1 hp p (List.mem_cons_of_mem _ h))]
    exact ⟨k6a h1 rfl, rfl⟩
   ·cases e
 ·split at e
  ·cases e
   obtain ⟨h1, h2⟩ := hp
   have h2 : 0 < b := h2
   exact ⟨k00 (by omega) (Int.tmod_eq_emod_of_nonneg h1), rfl⟩
  ·cases e; exact ⟨k00 hp rfl, rfl⟩
  ·cases e; exact ⟨k00 hp.1 hp.2, rfl⟩
  ·cases e
 ·rw [jZ e hp]; exact ⟨u0s rfl, rfl⟩
 ·rw [jZ e hp]; exact ⟨u0m rfl, rfl⟩
 ·rw [jZ e hp]; exact ⟨u0o rfl, rfl⟩
 ·rw [jZ e hp]; exact ⟨u0p rfl, rfl⟩
 ·rw [jZ e hp]; exact ⟨u0q rfl, rfl⟩
 ·rw [jZ e hp]; exact ⟨u0r rfl, rfl⟩
 ·cases e
def evB (op : BinOp) (h : H) (a b : Bool) : Option (List Prop × Value) := match op with
 | .eql => bR h (a == b)
 | .neq => bR h (!(a == b))
 | _ => none
def mH (P : Program) (t : TypeId) : Bool := match P.underlying t with
 | some .bool => true
 | _ => false
theorem jQ {t : TypeId} (h : mH Try.prog t = true) : Try.prog.underlying t = some .bool := by
 unfold mH at h
 split at h
 ·rename_i e; exact e
 ·cases h
theorem k8v {op : BinOp} {h : H} {a b : Bool} {ps : List Prop} {v : Value} (e : evB op h a b = some (ps, v)) (hp : AllP ps) {xt : TypeId} (hu : mH Try.prog xt = true) (x y : Operand) : iU op xt x y (.bool a) (.bool b) v ∧ v.oneCell' = true := by
 unfold evB at e
 split at e
 ·rw [pS e hp]; exact ⟨k7v (jQ hu) rfl, rfl⟩
 ·rw [pS e hp]; exact ⟨k7u (jQ hu) rfl, rfl⟩
 ·cases e
def evS (op : BinOp) (h : H) (a b : ByteArray) : Option (List Prop × Value) := match op with
 | .eql => bR h (a.toList == b.toList)
 | .neq => bR h (!(a.toList == b.toList))
 | _ => none
theorem k8n {op : BinOp} {h : H} {a b : ByteArray} {ps : List Prop} {v : Value} {xt : TypeId} (e : evS op h a b = some (ps, v)) (hp : AllP ps) (x y : Operand) : iU op xt x y (.string a) (.string b) v ∧ v.oneCell' = true := by
 unfold evS at e
 split at e
 ·rw [pS e hp]; exact ⟨by intro w; simp [eqGuard, binOp, Op.stringOp], rfl⟩
 ·rw [pS e hp]; exact ⟨by intro w; simp [eqGuard, binOp, Op.stringOp], rfl⟩
 ·cases e
def evV (P : Program) (op : BinOp) (h : H) (xt : TypeId) : Value → Value → Option (List Prop × Value)
 | .string a, .string b => evS op h a b
 | .int k a, .int k' b => if k = k' then evI op h k a b else none
 | .bool a, .bool b => if mH P xt = true then evB op h a b else none
 | _, _ => none
theorem k8l {op : BinOp} {h : H} {a b : Value} {ps : List Prop} {v : Value} {xt : TypeId} (e : evV Try.prog op h xt a b = some (ps, v)) (hp : AllP ps) (x y : Operand) : iU op xt x y a b v ∧ v.oneCell' = true := by
 unfold evV at e
 split at e
 ·exact k8n e hp x y
 ·split at e
  ·rename_i hk; subst hk; exact k8s e hp xt x y
  ·cases e
 ·split at e
  ·rename_i hk; exact k8v e hp hk x y
  ·cases e
 ·cases e
def k2o (P : Program) (op : BinOp) (h : H) (xt : TypeId) : PV → PV → R
 | .e (.c (.d (.lit a))), .e (.c (.d (.lit b))) => match evV P op h xt a b with
  | some (ps, v) => iN ps (LV v)
  | none => none
 | _, _ => none
section
variable {cx : Cx} {o : Oper} {l : List (Nat × PV)} {g : EH}
theorem k2n {op : BinOp} {h : H} {xt yt : TypeId} {x y : Operand} (ho : o.op = .binOp op xt x y yt) {u v : PV} (hu : Ev l x u) (hv : Ev l y v) : OKR cx o l g (k2o Try.prog op h xt u v) := by
 unfold k2o
 split
 ·split
  ·rename_i a b ps r he
   refine OKR.some fun hp => ?_
   obtain ⟨h1, h2⟩ := k8l he hp x y
   exact rX ho hu hv h1 h2
  ·exact OKR.none
 ·exact OKR.none
end
def k1p (h : H) : PV → R
 | .e (.c (.d (.lit (.bool b)))) => match bR h (!b) with
  | some (ps, v) => iN ps (LV v)
  | none => none
 | _ => none
def k1t (h : H) : PV → R
 | .e (.c (.d (.lit (.int k n)))) => match iR h k (0 - n) with
  | some (ps, v) => iN ps (LV v)
  | none => none
 | _ => none
def sJ (h : H) (c : PV) (x y : Option PV) : R := match c with
 | .e (.c (.d (.lit (.bool b)))) => match h with
  | .b true => bo x fun u => iN [b = true] u
  | .b false => bo y fun u => iN [b = false] u
  | .no => match b with
   | true => bo x pv
   | false => bo y pv
  | _ => none
 | _ => none
def sO (P : Program) (h : H) (src dst : TypeId) : PV → R
 | .e (.c (.d (.lit (.int _ n)))) => match P.underlying dst, P.underlying src with
  | some (.int k), some _ => match iR h k n with
   | some (ps, v) => iN ps (LV v)
   | none => none
  | _, _ => none
 | _ => none
def k2e (i : Nat) : PV → R
 | .tup es => match es[i]? with
  | some e => pv (.e e)
  | none => none
 | _ => none
section
variable {cx : Cx} {o : Oper} {l : List (Nat × PV)} {g : EH}
theorem k1o {h : H} {xt : TypeId} {x : Operand} (ho : o.op = .unOp .not xt x) {u : PV} (hu : Ev l x u) : OKR cx o l g (k1p h u) := by
 unfold k1p
 split
 ·split
  ·rename_i he
   refine OKR.some fun hp => ?_
   rw [pS he hp]; exact k7z ho hu rfl
  ·exact OKR.none
 ·exact OKR.none
theorem k1s {h : H} {xt : TypeId} {x : Operand} (ho : o.op = .unOp .neg xt x) {u : PV} (hu : Ev l x u) : OKR cx o l g (k1t h u) := by
 unfold k1t
 split
 ·split
  ·rename_i he
   refine OKR.some fun hp => ?_
   rw [jT he hp]; exact k80 ho hu rfl
  ·exact OKR.none
 ·exact OKR.none
theorem xO {h : H} {c x y : Operand} (ho : o.op = .pick c x y) {u : PV} (hu : Ev l c u) : OKR cx o l g (sJ h u (y7 l x) (y7 l y)) := by
 unfold sJ
 split
 ·split
  ·exact OKR.bo fun u hx => OKR.some fun hp => by have hp : _ = true := hp; subst hp; exact jH ho hu hx
  ·exact OKR.bo fun u hx => OKR.some fun hp => by have hp : _ = false := hp; subst hp; exact jI ho hu hx
  ·split
   ·exact OKR.bo fun u hx => OKR.some fun hp => jH ho hu hx
   ·exact OKR.bo fun u hx => OKR.some fun hp => jI ho hu hx
  ·exact OKR.none
 ·exact OKR.none
theorem xU {h : H} {src dst : TypeId} {x : Operand} (ho : o.op = .convert src dst x) {u : PV} (hu : Ev l x u) : OKR cx o l g (sO Try.prog h src dst u) := by
 unfold sO
 split
 ·split
  ·rename_i h1 h2
   split
   ·rename_i he
    refine OKR.some fun hp => ?_
    rw [jT he hp]; exact oN ho h1 (by rw [h2]; rfl) hu rfl
   ·exact OKR.none
  ·exact OKR.none
 ·exact OKR.none
theorem k2c {x : Operand} {i : Nat} (ho : o.op = .extract x i) {u : PV} (hu : Ev l x u) : OKR cx o l g (k2e i u) := by
 unfold k2e
 split
 ·split
  ·rename_i he; exact OKR.some fun _ => rW ho hu he
  ·exact OKR.none
 ·exact OKR.none
end
end Go.Proofs.Ytalbpleglapihaa
