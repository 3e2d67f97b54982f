/- A memory told by names: the steps as they are written. No statement is proved here. -/
import Derived.Test.YtbkjhfjjkihebaaAmA
namespace Go.Proofs.Ytbkjhfjjkihebaa
open Go.ChangeShapes Go.WideShapes Go.ChangeAt Go.RowKit
set_option linter.unusedVariables false
set_option linter.unusedSimpArgs false

section
variable {cx : Cx} {ops os : List Oper} {o : Oper} {ts : List OT} {l lf : List (Nat × PV)} {g gf : List (Nat × Option Bk)} {u : PV} {d : Nat} {foot news : List Nat}
theorem StepO.plain {t : OT} (hg : o.guard = none) (h : OpOK cx o (S l) (S g) t) : StepO cx ops o l g t := by unfold StepO; rw [hg]; exact h
theorem dstw_some (hd : o.dst = some d) (u : PV) : dstw o u = [(d, u)] := by unfold dstw; rw [hd]
theorem dstw_none (hd : o.dst = none) (u : PV) : dstw o u = [] := by unfold dstw; rw [hd]
/-- the steps of a region, with what must hold behind them -/
def SK (cx : Cx) (ops os : List Oper) (l : List (Nat × PV)) (g : List (Nat × Option Bk)) (K : List OT → List (Nat × PV) → List (Nat × Option Bk) → Prop) : Prop := ∃ ts lf gf, Steps cx ops os ts l g lf gf ∧ K ts lf gf
abbrev KT := List OT → List (Nat × PV) → List (Nat × Option Bk) → Prop
variable {K : KT}
theorem SK.nil (h : K [] l g) : SK cx ops [] l g K := ⟨[], l, g, .nil l g, h⟩
theorem SK.cons {t : OT} (h : StepO cx ops o l g t) (hs : SK cx ops os (dstw o t.u ++ l) (t.wr ++ g) (fun ts lf gf => K (t :: ts) lf gf)) : SK cx ops (o :: os) l g K := by
  obtain ⟨ts, lf, gf, h1, h2⟩ := hs
  exact ⟨t :: ts, lf, gf, .cons h h1, h2⟩
/-- a value -/
theorem SK.p (hg : o.guard = none) (hd : o.dst = some d) (h : OpOK cx o (S l) (S g) ⟨u, [], [], foot⟩) (hs : SK cx ops os ((d, u) :: l) g (fun ts lf gf => K (⟨u, [], [], foot⟩ :: ts) lf gf)) : SK cx ops (o :: os) l g K :=
  .cons (StepO.plain hg h) (by rw [dstw_some hd]; exact hs)
/-- a value and writes -/
theorem SK.w {wr g' : List (Nat × Option Bk)} (hg : o.guard = none) (hd : o.dst = some d) (h : OpOK cx o (S l) (S g) ⟨u, wr, news, foot⟩) (hg' : wr ++ g = g') (hs : SK cx ops os ((d, u) :: l) g' (fun ts lf gf => K (⟨u, wr, news, foot⟩ :: ts) lf gf)) : SK cx ops (o :: os) l g K :=
  .cons (StepO.plain hg h) (by rw [dstw_some hd]; subst hg'; exact hs)
theorem SK.w1 {x : Nat × Option Bk} (hg : o.guard = none) (hd : o.dst = some d) (h : OpOK cx o (S l) (S g) ⟨u, [x], news, foot⟩) (hs : SK cx ops os ((d, u) :: l) (x :: g) (fun ts lf gf => K (⟨u, [x], news, foot⟩ :: ts) lf gf)) : SK cx ops (o :: os) l g K :=
  SK.w hg hd h rfl hs
theorem SK.w2 {x y : Nat × Option Bk} (hg : o.guard = none) (hd : o.dst = some d) (h : OpOK cx o (S l) (S g) ⟨u, [x, y], news, foot⟩) (hs : SK cx ops os ((d, u) :: l) (x :: y :: g) (fun ts lf gf => K (⟨u, [x, y], news, foot⟩ :: ts) lf gf)) : SK cx ops (o :: os) l g K :=
  SK.w hg hd h rfl hs
/-- writes alone -/
theorem SK.nv {x : List (Nat × Option Bk)} {g' : List (Nat × Option Bk)} (hg : o.guard = none) (hd : o.dst = none) (h : OpOK cx o (S l) (S g) ⟨u, x, news, foot⟩) (hg' : x ++ g = g') (hs : SK cx ops os l g' (fun ts lf gf => K (⟨u, x, news, foot⟩ :: ts) lf gf)) : SK cx ops (o :: os) l g K :=
  .cons (StepO.plain hg h) (by rw [dstw_none hd]; subst hg'; exact hs)
theorem SK.n {x : Nat × Option Bk} (hg : o.guard = none) (hd : o.dst = none) (h : OpOK cx o (S l) (S g) ⟨u, [x], news, foot⟩) (hs : SK cx ops os l (x :: g) (fun ts lf gf => K (⟨u, [x], news, foot⟩ :: ts) lf gf)) : SK cx ops (o :: os) l g K :=
  SK.nv hg hd h rfl hs
/-- guarded, and wanted -/
theorem StepO.yes {t : OT} {gi dg : Nat} {b : Bool} {og : Oper} (hg : o.guard = some (gi, b)) (hog : ops[gi]? = some og) (hdg : og.dst = some dg) (hv : Look l dg (LV (.bool b))) (h : OpOK cx o (S l) (S g) t) : StepO cx ops o l g t := by
  unfold StepO; rw [hg]; exact ⟨dg, og, hog, hdg, .inl ⟨b, hv.S, by rw [if_pos rfl]; exact h⟩⟩
theorem SK.gp {gi dg : Nat} {b : Bool} {og : Oper} (hg : o.guard = some (gi, b)) (hog : ops[gi]? = some og) (hdg : og.dst = some dg) (hv : Look l dg (LV (.bool b))) (hd : o.dst = some d) (h : OpOK cx o (S l) (S g) ⟨u, [], [], foot⟩) (hs : SK cx ops os ((d, u) :: l) g (fun ts lf gf => K (⟨u, [], [], foot⟩ :: ts) lf gf)) : SK cx ops (o :: os) l g K :=
  .cons (StepO.yes hg hog hdg hv h) (by rw [dstw_some hd]; exact hs)
theorem SK.gw {wr g' : List (Nat × Option Bk)} {gi dg : Nat} {b : Bool} {og : Oper} (hg : o.guard = some (gi, b)) (hog : ops[gi]? = some og) (hdg : og.dst = some dg) (hv : Look l dg (LV (.bool b))) (hd : o.dst = some d) (h : OpOK cx o (S l) (S g) ⟨u, wr, news, foot⟩) (hg' : wr ++ g = g') (hs : SK cx ops os ((d, u) :: l) g' (fun ts lf gf => K (⟨u, wr, news, foot⟩ :: ts) lf gf)) : SK cx ops (o :: os) l g K :=
  .cons (StepO.yes hg hog hdg hv h) (by rw [dstw_some hd]; subst hg'; exact hs)
/-- guarded, and not wanted -/
theorem SK.gn {gi dg : Nat} {b b' : Bool} {og : Oper} (hg : o.guard = some (gi, b)) (hog : ops[gi]? = some og) (hdg : og.dst = some dg) (hv : Look l dg (LV (.bool b'))) (hb : (b' == b) = false) (hd : o.dst = some d) (hs : SK cx ops os ((d, .tup []) :: l) g (fun ts lf gf => K (⟨.tup [], [], [], []⟩ :: ts) lf gf)) : SK cx ops (o :: os) l g K := by
  refine SK.cons (t := ⟨.tup [], [], [], []⟩) ?_ (by rw [dstw_some hd]; exact hs)
  unfold StepO; rw [hg]
  refine ⟨dg, og, hog, hdg, .inl ⟨b', hv.S, ?_⟩⟩
  rw [if_neg (by simpa using hb)]; exact ⟨rfl, rfl, rfl⟩
/-- guarded by one that was not wanted itself -/
theorem SK.gu {gi dg : Nat} {b : Bool} {og : Oper} (hg : o.guard = some (gi, b)) (hog : ops[gi]? = some og) (hdg : og.dst = some dg) (hv : Look l dg (.tup [])) (hd : o.dst = some d) (hs : SK cx ops os ((d, .tup []) :: l) g (fun ts lf gf => K (⟨.tup [], [], [], []⟩ :: ts) lf gf)) : SK cx ops (o :: os) l g K := by
  refine SK.cons (t := ⟨.tup [], [], [], []⟩) ?_ (by rw [dstw_some hd]; exact hs)
  unfold StepO; rw [hg]
  exact ⟨dg, og, hog, hdg, .inr ⟨hv.S, rfl, rfl, rfl⟩⟩
theorem AW.reg {n id : Nat} {draw : Bool} {nx nx' : Nat} {Q : Post} (hd : dstsOk ops n = true) (hs : SK cx ops ops l g (fun ts lf gf => okTr ops ts nx nx' = true ∧ Q .normal ⟨lf, gf, nx'⟩)) : AW cx n (.region id ops.toArray draw) Q ⟨l, g, nx⟩ := by
  obtain ⟨ts, lf, gf, h1, h2, h3⟩ := hs
  exact AW.region h1 hd h2 h3
end
section
variable {cx : Cx} {o : Oper} {l : List (Nat × PV)} {g : List (Nat × Option Bk)}
/-- a call that takes no memory over -/
theorem ok_call0 {f nx nout : Nat} {foot news : List Nat} {snap : Bool} {args : Array Operand} {ts : Array TypeId} {us xs : List E1} {gout wr : List (Nat × Option Bk)} {y u : PV} (hF : Fun f xs [] 0 y gout nout)
    (ho : o.op = .call { callee := .value (.func f), args := args, argTypes := ts }) (hent : ∀ (ar : Array Value) (w : World), (callFunc f ar).run Try.prog w = .ok (.enter f ar) w) (hargs : EvA l args.toList us) (hpass : All2 (PassE g [] nx snap foot) us xs)
    (hout : outOk [] gout nout = true) (hsn : (!snap || (noSlPV y && noSlG gout)) = true) (hu : mapPV (nm [] nx) y = u) (hw : gout.map (fun x => (nm [] nx x.1, mapBk (nm [] nx) x.2)) = wr) (hn : (List.range nout).map (nx + ·) = news) :
    OpOK cx o (S l) (S g) ⟨u, wr, news, foot⟩ := by
  subst hu; subst hw; subst hn
  exact ok_call (ps := []) ho hent hargs hpass hF (fun x hx => by cases hx) (fun b hb => by cases hb) hout (by cases snap <;> simp_all)
/-- a call that takes one block over -/
theorem ok_call1 {f nx nout b : Nat} {T : TypeId} {cs cs' : List C} {foot news : List Nat} {snap : Bool} {args : Array Operand} {ts : Array TypeId} {us xs : List E1} {gout wr : List (Nat × Option Bk)} {y u : PV} (hF : Fun f xs [(0, some (T, cs'))] 1 y gout nout)
    (ho : o.op = .call { callee := .value (.func f), args := args, argTypes := ts }) (hent : ∀ (ar : Array Value) (w : World), (callFunc f ar).run Try.prog w = .ok (.enter f ar) w) (hargs : EvA l args.toList us) (hb : Look g b (some (T, cs))) (hcs : cs'.map (mapC (nm [b] nx)) = cs) (hl : cs'.all (lowC 1) = true) (hpass : All2 (PassE g [b] nx snap (b :: foot)) us xs)
    (hout : outOk [b] gout nout = true) (hsn : (!snap || (noSlPV y && noSlG gout)) = true) (hu : mapPV (nm [b] nx) y = u) (hw : gout.map (fun x => (nm [b] nx x.1, mapBk (nm [b] nx) x.2)) = wr) (hn : (List.range (nout - 1)).map (nx + ·) = news) :
    OpOK cx o (S l) (S g) ⟨u, wr, news, b :: foot⟩ := by
  subst hu; subst hw; subst hn
  refine ok_call (ps := [b]) ho hent hargs hpass hF ?_ ?_ hout (by cases snap <;> simp_all)
  · intro x hx T' cs2 h
    simp at hx; subst hx
    simp at h; obtain ⟨rfl, rfl⟩ := h
    exact ⟨hl, by simp, by rw [hcs]; exact hb⟩
  · intro b' hb'
    simp at hb'; subst hb'
    exact ⟨by simp, _, hb⟩
end
/-- numbers in cells -/
def cI (k : IntKind) (l : List Int) : List C := l.map fun x => .d (.lit (.int k x))
def dI (k : IntKind) (l : List Int) : List D := l.map fun x => .lit (.int k x)
theorem cI_dI (k : IntKind) (l : List Int) : cI k l = (dI k l).map .d := by unfold cI dI; simp
theorem cI_len (k : IntKind) (l : List Int) : (cI k l).length = l.length := by unfold cI; simp
theorem dI_len (k : IntKind) (l : List Int) : (dI k l).length = l.length := by unfold dI; simp
theorem dI_at (k : IntKind) (l : List Int) (i : Nat) (h : i < l.length) : ((dI k l).drop i)[0]? = some (.lit (.int k (l.getD i 0))) := by
  unfold dI; rw [List.getElem?_drop]; simp [List.getD_eq_getElem?_getD, h]
theorem cI_at (k : IntKind) (l : List Int) (i : Nat) (h : i < l.length) : (cI k l)[i]? = some (.d (.lit (.int k (l.getD i 0)))) := by
  unfold cI; simp [List.getD_eq_getElem?_getD, h]
theorem dI_part (k : IntKind) (l : List Int) (i n : Nat) : ((dI k l).drop i).take n = dI k ((l.drop i).take n) := by unfold dI; simp [List.map_drop, List.map_take]
theorem cI_part (k : IntKind) (l : List Int) (i n : Nat) : ((cI k l).drop i).take n = cI k ((l.drop i).take n) := by unfold cI; simp [List.map_drop, List.map_take]
theorem cI_app (k : IntKind) (l l' : List Int) : cI k l ++ cI k l' = cI k (l ++ l') := by unfold cI; simp
theorem dI_take (k : IntKind) (l : List Int) (n : Nat) : (dI k l).take n = dI k (l.take n) := by unfold dI; simp [List.map_take]
theorem dI_drop (k : IntKind) (l : List Int) (n : Nat) : (dI k l).drop n = dI k (l.drop n) := by unfold dI; simp [List.map_drop]
theorem cI_take (k : IntKind) (l : List Int) (n : Nat) : (cI k l).take n = cI k (l.take n) := by unfold cI; simp [List.map_take]
theorem cI_drop (k : IntKind) (l : List Int) (n : Nat) : (cI k l).drop n = cI k (l.drop n) := by unfold cI; simp [List.map_drop]
theorem mapC_d (σ : Nat → Nat) (x : D) : mapC σ (.d x) = .d x := rfl
theorem mapC_own (σ : Nat → Nat) (b off len s : Nat) (wh : Bool) : mapC σ (.own b off len s wh) = .own (σ b) off len s wh := rfl
theorem mapC_ptr (σ : Nat → Nat) (b off : Nat) : mapC σ (.ptr b off) = .ptr (σ b) off := rfl
theorem mapBk_some (σ : Nat → Nat) (T : TypeId) (cs : List C) : mapBk σ (some (T, cs)) = some (T, cs.map (mapC σ)) := rfl
theorem mapBk_none (σ : Nat → Nat) : mapBk σ none = none := rfl
theorem cI_map (σ : Nat → Nat) (k : IntKind) (l : List Int) : (cI k l).map (mapC σ) = cI k l := by unfold cI; simp [mapC]
theorem cI_low (n : Nat) (k : IntKind) (l : List Int) : (cI k l).all (lowC n) = true := by unfold cI; simp [lowC]
theorem cI_nosl (k : IntKind) (l : List Int) : (cI k l).all noSlC = true := by unfold cI; simp [noSlC]
theorem cI_own (k : IntKind) (l : List Int) : ((cI k l).drop 0).take (l.length * 1) = (dI k l).map .d := by rw [← cI_dI, List.drop_zero, Nat.mul_one, List.take_of_length_le (by rw [cI_len]; exact Nat.le_refl _)]
theorem cI_rep (k : IntKind) (n : Nat) (x : Int) : List.replicate n (LC (.int k x)) = cI k (List.replicate n x) := by unfold cI; simp
section
variable {cx : Cx} {o : Oper} {l : List (Nat × PV)} {g : List (Nat × Option Bk)}
theorem ok_load_all {ty : TypeId} {x : Operand} {b n : Nat} {T : TypeId} {cs : List C} (ho : o.op = .load ty x) (ht : tyOf Try.prog ty = some (true, n)) (hx : Ev l x (.e (.c (.ptr b 0)))) (hb : Look g b (some (T, cs))) (hl : cs.length = n) : OpOK cx o (S l) (S g) ⟨.e (.agg cs), [], [], [b]⟩ :=
  ok_load_agg ho ht hx hb (by rw [List.drop_zero]; exact List.take_of_length_le (by omega)) hl
theorem updC_all : ∀ (r : List C) (pre cs : List C), cs.length = r.length → updC (pre ++ cs) pre.length r = pre ++ r
  | [], pre, [], _ => rfl
  | c :: r, pre, c' :: cs, h => by
    show updC ((pre ++ c' :: cs).set pre.length c) (pre.length + 1) r = _
    rw [List.set_append_right _ _ (Nat.le_refl _), Nat.sub_self, List.set_cons_zero]
    have := updC_all r (pre ++ [c]) cs (by simpa using h)
    simpa using this
theorem ok_store_all {ty : TypeId} {x y : Operand} {b n : Nat} {T : TypeId} {cs cs2 : List C} (ho : o.op = .store ty x y) (ht : tyOf Try.prog ty = some (true, n)) (hx : Ev l x (.e (.c (.ptr b 0)))) (hy : Ev l y (.e (.agg cs2))) (hb : Look g b (some (T, cs))) (hn : cs2.length = n) (hf : cs.length = n) :
    OpOK cx o (S l) (S g) ⟨.any, [(b, some (T, cs2))], [], [b]⟩ :=
  ok_store ho ht hx hy hb hn (by omega) (by have := updC_all cs2 [] cs (by omega); show updC cs 0 cs2 = cs2; simpa using this)
theorem ok_alloc' {nx : Nat} {T : TypeId} {zs : List Value} {cs : List C} (ho : o.op = .alloc T) (hz : zeroC Try.prog T = some zs) (h1 : zs.all (·.oneCell') = true) (hc : zs.map LC = cs) : OpOK cx o (S l) (S g) ⟨.e (.c (.ptr nx 0)), [(nx, some (T, cs))], [nx], []⟩ := by subst hc; exact ok_alloc ho hz h1
theorem ok_box_agg {nx : Nat} {T : TypeId} {x : Operand} {cs : List C} (ho : o.op = .box T x) (hx : Ev l x (.e (.agg cs))) : OpOK cx o (S l) (S g) ⟨.e (.c (.ptr nx 0)), [(nx, some (T, cs))], [nx], []⟩ := ok_box ho hx
theorem ok_box_c {nx : Nat} {T : TypeId} {x : Operand} {c : C} (ho : o.op = .box T x) (hx : Ev l x (.e (.c c))) : OpOK cx o (S l) (S g) ⟨.e (.c (.ptr nx 0)), [(nx, some (T, [c]))], [nx], []⟩ := ok_box ho hx
theorem Src.all {s : Nat} {y : Operand} {b m : Nat} {wh : Bool} {T : TypeId} {cs : List C} (h : Ev l y (.e (.c (.own b 0 m s wh)))) (hb : Look g b (some (T, cs))) (hl : cs.length = m * s) : Src l g s y m cs [b] :=
  .own h hb (by rw [List.drop_zero]; exact List.take_of_length_le (by omega)) hl
theorem ok_append_nil' {t e : TypeId} {z : Value} {s bs m nx : Nat} {x y : Operand} {news cs' : List C} {foot : List Nat} (ho : o.op = .call { callee := .builtin .append, args := #[x, y], argTypes := #[t, t] }) (hu : Try.prog.underlying t = some (.slice e)) (hi : (Try.prog.info? e).map (fun i => (i.zero, i.size, i.bytes)) = some (some z, s, bs)) (hzs : z.cells.size = s) (hs0 : 0 < s)
    (hx : Ev l x (LV nilS)) (hy : Src l g s y m news foot) (h63 : m ≤ maxLen) (hbytes : m * bs ≤ 140737488355328) (hcat : news = cs') : OpOK cx o (S l) (S g) ⟨.e (.c (.own nx 0 m s true)), [(nx, some (e, cs'))], [nx], foot⟩ := by subst hcat; exact ok_append_nil ho hu hi hzs hs0 hx hy h63 hbytes
theorem ok_append' {t e : TypeId} {z : Value} {s bs m n n' b nx : Nat} {x y : Operand} {cs news cs' : List C} {foot : List Nat} (ho : o.op = .call { callee := .builtin .append, args := #[x, y], argTypes := #[t, t] }) (hu : Try.prog.underlying t = some (.slice e)) (hi : (Try.prog.info? e).map (fun i => (i.zero, i.size, i.bytes)) = some (some z, s, bs)) (hzs : z.cells.size = s) (hs0 : 0 < s)
    (hx : Ev l x (.e (.c (.own b 0 n s true)))) (hb : Look g b (some (e, cs))) (hcl : cs.length = n * s) (hy : Src l g s y m news foot) (h63 : n + m ≤ maxLen) (hbytes : (n + m) * bs ≤ 140737488355328) (hcat : cs ++ news = cs') (hnm : n + m = n') : OpOK cx o (S l) (S g) ⟨.e (.c (.own nx 0 n' s true)), [(b, none), (nx, some (e, cs'))], [nx], b :: foot⟩ := by subst hcat; subst hnm; exact ok_append ho hu hi hzs hs0 hx hb hcl hy h63 hbytes
end
end Go.Proofs.Ytbkjhfjjkihebaa
