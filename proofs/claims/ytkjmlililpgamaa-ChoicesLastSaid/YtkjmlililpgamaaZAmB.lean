/- A memory told by names: the steps as they are written. No statement is proved here. -/
import Derived.Test.YtkjmlililpgamaaZAmA
namespace Go.Proofs.Ytkjmlililpgamaa
open Go.ChangeShapes Go.WideShapes Go.ChangeAt Go.RowKit
set_option linter.unusedVariables false
set_option linter.unusedSimpArgs false
section
variable {cx : Cx} {ops os : List Oper} {o : Oper} {ts : List OT} {l lf : List (Nat × PV)} {g gf : List (Nat × Option Bk)} {u : PV} {d : Nat} {foot news : List Nat}
theorem vP {t : OT} (hg : o.guard = none) (h : OpOK cx o (S l) (S g) t) : StepO cx ops o l g t := by unfold StepO; rw [hg]; exact h
theorem eQ (hd : o.dst = some d) (u : PV) : v6 o u = [(d, u)] := by unfold v6; rw [hd]
theorem nX (hd : o.dst = none) (u : PV) : v6 o u = [] := by unfold v6; rw [hd]
def SK (cx : Cx) (ops os : List Oper) (l : List (Nat × PV)) (g : List (Nat × Option Bk)) (K : List OT → List (Nat × PV) → List (Nat × Option Bk) → Prop) : Prop := ∃ ts lf gf, Steps cx ops os ts l g lf gf ∧ K ts lf gf
abbrev KT := List OT → List (Nat × PV) → List (Nat × Option Bk) → Prop
variable {K : KT}
theorem SK.nil (h : K [] l g) : SK cx ops [] l g K := ⟨[], l, g, .nil l g, h⟩
theorem SK.cons {t : OT} (h : StepO cx ops o l g t) (hs : SK cx ops os (v6 o t.u ++ l) (t.wr ++ g) (fun ts lf gf => K (t :: ts) lf gf)) : SK cx ops (o :: os) l g K := by
 obtain ⟨ts, lf, gf, h1, h2⟩ := hs
 exact ⟨t :: ts, lf, gf, .cons h h1, h2⟩
theorem SK.p (hg : o.guard = none) (hd : o.dst = some d) (h : OpOK cx o (S l) (S g) ⟨u, [], [], foot⟩) (hs : SK cx ops os ((d, u) :: l) g (fun ts lf gf => K (⟨u, [], [], foot⟩ :: ts) lf gf)) : SK cx ops (o :: os) l g K :=
 .cons (vP hg h) (by rw [eQ hd]; exact hs)
theorem SK.w {wr g' : List (Nat × Option Bk)} (hg : o.guard = none) (hd : o.dst = some d) (h : OpOK cx o (S l) (S g) ⟨u, wr, news, foot⟩) (hg' : wr ++ g = g') (hs : SK cx ops os ((d, u) :: l) g' (fun ts lf gf => K (⟨u, wr, news, foot⟩ :: ts) lf gf)) : SK cx ops (o :: os) l g K :=
 .cons (vP hg h) (by rw [eQ hd]; subst hg'; exact hs)
theorem k3c {x : List (Nat × Option Bk)} {g' : List (Nat × Option Bk)} (hg : o.guard = none) (hd : o.dst = none) (h : OpOK cx o (S l) (S g) ⟨u, x, news, foot⟩) (hg' : x ++ g = g') (hs : SK cx ops os l g' (fun ts lf gf => K (⟨u, x, news, foot⟩ :: ts) lf gf)) : SK cx ops (o :: os) l g K :=
 .cons (vP hg h) (by rw [nX hd]; subst hg'; exact hs)
theorem SK.n {x : Nat × Option Bk} (hg : o.guard = none) (hd : o.dst = none) (h : OpOK cx o (S l) (S g) ⟨u, [x], news, foot⟩) (hs : SK cx ops os l (x :: g) (fun ts lf gf => K (⟨u, [x], news, foot⟩ :: ts) lf gf)) : SK cx ops (o :: os) l g K :=
 k3c hg hd h rfl hs
theorem StepO.yes {t : OT} {gi dg : Nat} {b : Bool} {og : Oper} (hg : o.guard = some (gi, b)) (hog : ops[gi]? = some og) (hdg : og.dst = some dg) (hv : Look l dg (LV (.bool b))) (h : OpOK cx o (S l) (S g) t) : StepO cx ops o l g t := by
 unfold StepO; rw [hg]; exact ⟨dg, og, hog, hdg, .inl ⟨b, hv.S, by rw [if_pos rfl]; exact h⟩⟩
end
section
variable {cx : Cx} {o : Oper} {l : List (Nat × PV)} {g : List (Nat × Option Bk)}
end
def dI (k : IntKind) (l : List Int) : List D := l.map fun x => .lit (.int k x)
theorem uL (k : IntKind) (l : List Int) : (dI k l).length = l.length := by unfold dI; simp
theorem qV (k : IntKind) (l : List Int) (i : Nat) (h : i < l.length) : ((dI k l).drop i)[0]? = some (.lit (.int k (l.getD i 0))) := by
 unfold dI; rw [List.getElem?_drop]; simp [List.getD_eq_getElem?_getD, h]
theorem xY (k : IntKind) (l : List Int) (n : Nat) : (dI k l).take n = dI k (l.take n) := by unfold dI; simp [List.map_take]
theorem xZ (k : IntKind) (l : List Int) (n : Nat) : (dI k l).drop n = dI k (l.drop n) := by unfold dI; simp [List.map_drop]
section
variable {cx : Cx} {o : Oper} {l : List (Nat × PV)} {g : List (Nat × Option Bk)}
theorem nE {nx : Nat} {T : TypeId} {zs : List Value} {cs : List C} (ho : o.op = .alloc T) (hz : v7 Try.prog T = some zs) (h1 : zs.all (·.oneCell') = true) (hc : zs.map LC = cs) : OpOK cx o (S l) (S g) ⟨.e (.c (.ptr nx 0)), [(nx, some (T, cs))], [nx], []⟩ := by subst hc; exact pI ho hz h1
theorem Src.all {s : Nat} {y : Operand} {b m : Nat} {wh : Bool} {T : TypeId} {cs : List C} (h : Ev l y (.e (.c (.own b 0 m s wh)))) (hb : Look g b (some (T, cs))) (hl : cs.length = m * s) : Src l g s y m cs [b] :=
 .own h hb (by rw [List.drop_zero]; exact List.take_of_length_le (by omega)) hl
theorem c4 {t e : TypeId} {z : Value} {s bs m nx : Nat} {x y : Operand} {news cs' : List C} {foot : List Nat} (ho : o.op = .call { callee := .builtin .append, args := #[x, y], argTypes := #[t, t] }) (hu : Try.prog.underlying t = some (.slice e)) (hi : (Try.prog.info? e).map (fun i => (i.zero, i.size, i.bytes)) = some (some z, s, bs)) (hzs : z.cells.size = s) (hs0 : 0 < s)
  (hx : Ev l x (LV vI)) (hy : Src l g s y m news foot) (h63 : m ≤ maxLen) (hbytes : m * bs ≤ 140737488355328) (hcat : news = cs') : OpOK cx o (S l) (S g) ⟨.e (.c (.own nx 0 m s true)), [(nx, some (e, cs'))], [nx], foot⟩ := by subst hcat; exact dX ho hu hi hzs hs0 hx hy h63 hbytes
theorem j3 {t e : TypeId} {z : Value} {s bs m n n' b nx : Nat} {x y : Operand} {cs news cs' : List C} {foot : List Nat} (ho : o.op = .call { callee := .builtin .append, args := #[x, y], argTypes := #[t, t] }) (hu : Try.prog.underlying t = some (.slice e)) (hi : (Try.prog.info? e).map (fun i => (i.zero, i.size, i.bytes)) = some (some z, s, bs)) (hzs : z.cells.size = s) (hs0 : 0 < s)
  (hx : Ev l x (.e (.c (.own b 0 n s true)))) (hb : Look g b (some (e, cs))) (hcl : cs.length = n * s) (hy : Src l g s y m news foot) (h63 : n + m ≤ maxLen) (hbytes : (n + m) * bs ≤ 140737488355328) (hcat : cs ++ news = cs') (hnm : n + m = n') : OpOK cx o (S l) (S g) ⟨.e (.c (.own nx 0 n' s true)), [(b, none), (nx, some (e, cs'))], [nx], b :: foot⟩ := by subst hcat; subst hnm; exact nD ho hu hi hzs hs0 hx hb hcl hy h63 hbytes
end
end Go.Proofs.Ytkjmlililpgamaa
