/- A memory told by names: whole regions, loops and results that are computed. No statement is proved here. -/
import Derived.Test.YtdbjebdomdnbkaaGreatZAmI
import Derived.Test.YtdbjebdomdnbkaaGreatZAmL
import Derived.Test.YtdbjebdomdnbkaaGreatZAmT
import Derived.Test.YtdbjebdomdnbkaaGreatZAmX
import Derived.Test.YtdbjebdomdnbkaaGreatZAmP
namespace Go.Proofs.YtdbjebdomdnbkaaGreat
open Go.ChangeShapes Go.WideShapes Go.ChangeAt Go.RowKit
open Bool renaming and_eq_true → kb7
open List renaming all_cons → kf2, lookup_cons → kc5, map → kd3, map_cons → ke4, mem_append_left → kd4, mem_append_right → kc0, mem_cons_self → kb1
open Nat renaming beq → ke0, eq_of_beq_eq_true → kc1, le_of_ble_eq_true → ka3
set_option linter.unusedVariables false
set_option linter.unusedSimpArgs false
abbrev FnT := FuncId → List E1 → List (Nat × Option Bk) → Nat → PV → List (Nat × Option Bk) → Nat → Prop
def u3e (P : Program) (h : H) (l : List (Nat × PV)) (g : EH) (nx : Nat) (b : Builtin) (args : List Operand) (ts : List TypeId) : R := match b, args, ts with
 | .len, [x], [st] => bo (aB l x) fun u => mC (k52 P st u) (xT P h st u)
 | .min, [x, y], _ => bo (aB l x) fun u => bo (aB l y) fun v => k4u h u v
 | .max, [x, y], _ => bo (aB l x) fun u => bo (aB l y) fun v => k4x h u v
 | .max, [x, y, z], _ => bo (aB l x) fun u => bo (aB l y) fun v => bo (aB l z) fun w => k4w h u v w
 | .append, [x, y], [t, t'] => match ke0 t t' with
  | true => bo (aB l x) fun u => bo (aB l y) fun v => u3f P h g nx t u v
  | false => bo (aB l x) fun u => bo (aB l y) fun v => mC (k5s P h g nx t t' u v) (mC (k4c P h nx t t' u v) (u30 P h g nx t t' u v))
 | .copy, [x, y], [t, _] => bo (aB l x) fun u => bo (aB l y) fun v => u3b P h g t u v
 | .cap, [x], [st] => bo (aB l x) (k5g P st)
 | .unsafeSliceData, [x], [_] => bo (aB l x) u6m
 | .unsafeString, [x, y], [pt, _] => bo (aB l x) fun u => bo (aB l y) fun v => u6l P h g pt u v
 | _, _, _ => none
def k59 (P : Program) (h : H) (f : FuncId) (us : Option (List E1)) : R := none
theorem k1g {cx : Cx} {o : Oper} {l : List (Nat × PV)} {g : EH} {h : H} {f : FuncId} {args : Array Operand} {ts : Array TypeId} (ho : o.op = .call { callee := .value (.func f), args := args, argTypes := ts }) : OKR cx o l g (k59 Tryz.prog h f (hY l args.toList)) := OKR.none
theorem xU {cx : Cx} {o : Oper} {l : List (Nat × PV)} {g : EH} {h : H} {f : FuncId} {args : Array Operand} {ts : Array TypeId} (ho : o.op = .call { callee := .value (.func f), args := args, argTypes := ts }) : OKR cx o l g (k5b Tryz.prog h f (hY l args.toList)) := OKR.none
def evC (P : Program) (Fn : FnT) (h : H) (l : List (Nat × PV)) (g : EH) (nx : Nat) (c : Call) : R := match c with
 | ⟨.builtin b, args, ts⟩ => u3e P h l g nx b args.toList ts.toList
 | ⟨.value (.func f), args, _⟩ => mC (k5b P h f (hY l args.toList)) (mC (k59 P h f (hY l args.toList)) (dV P Fn h g nx f (hY l args.toList)))
 | ⟨.value x, args, _⟩ => bo (aB l x) fun u => match u2y u with
  | some (f, qs) => match Nat.blt f mL with
   | true => dV P Fn h g nx f (k5q l args.toList qs)
   | false => dV P Fn h g nx (fnU f) (k5p l args.toList qs)
  | none => none
 | _ => none
theorem u2b {cx : Cx} {o : Oper} {l : List (Nat × PV)} {g : List (Nat × Option Bk)} {xt : TypeId} {x : Operand} {n r : Int} (ho : o.op = .unOp .xor xt x) (hx : Ev l x (LV (.int .u32 n))) (hc : qJ .xor .u32 4294967295 n = r) : OpOK cx o (S l) (S g) ⟨LV (.int .u32 r), [], [], []⟩ :=
 qM fun ρ a w hs => ⟨.int .u32 r, by
  have e := qG (hx.rep hs (by rw [ho]; simp [Op.operands]))
  subst hc
  unfold execOp; simp only [ho, e]; rfl, uT rfl⟩
def k4e (h : H) : PV → R
 | .e (.c (.d (.lit (.int .u32 n)))) => match h with
  | .i r => lZ [qJ .xor .u32 4294967295 n = r] (LV (.int .u32 r))
  | _ => none
 | _ => none
theorem k4d {cx : Cx} {o : Oper} {l : List (Nat × PV)} {g : EH} {h : H} {xt : TypeId} {x : Operand} (ho : o.op = .unOp .xor xt x) {u : PV} (hu : Ev l x u) : OKR cx o l g (k4e h u) := by
 unfold k4e
 split
 ·split
  ·refine OKR.some fun hp => ?_
   exact u2b ho hu hp
  ·exact OKR.none
 ·exact OKR.none
def k0e (P : Program) (Fn : FnT) (h : H) (l : List (Nat × PV)) (g : EH) (nx : Nat) : Op → R
 | .move x => bo (aB l x) pv
 | .assign x => bo (aB l x) pv
 | .nilCheck x => bo (aB l x) fun u => match u with
  | .e (.c (.ptr b off)) => pv (.e (.c (.ptr b off)))
  | _ => none
 | .unOp .not _ x => bo (aB l x) (k4n h)
 | .unOp .neg _ x => bo (aB l x) (k4r h)
 | .unOp .xor _ x => bo (aB l x) (k4e h)
 | .pick c x y => bo (aB l c) fun u => xQ h u (aB l x) (aB l y)
 | .binOp op xt x y _ => bo (aB l x) fun u => bo (aB l y) fun v => mC (k4p P op xt u v) (mC (u0w P op xt u v) (mC (xZ P op h xt u v) (u0x P op h u v)))
 | .convert s d x => bo (aB l x) fun u => mC (k4h P h g s d u) (mC (k5i P h nx s d u) (mC (xR P g s d u) (mC (u0r P g s d u) (xV P h s d u))))
 | .extract x i => bo (aB l x) (k5c i)
 | .fieldAddr t x i => bo (aB l x) (u3a P t i)
 | .field t x i => bo (aB l x) (k58 P t i)
 | .load ty x => bo (aB l x) (xS P h g ty)
 | .store ty x y => bo (aB l x) fun u => bo (aB l y) fun v => pP P h g ty u v
 | .alloc T => pT P nx T
 | .box T x => bo (aB l x) (k5k nx T)
 | .build t ps => mC (pS P l t ps) (tN P l t ps)
 | .buildSlice t n ps => mC (k5o P nx t n ps) (u3d P l nx t n ps)
 | .makeSlice t x y => bo (aB l x) fun u => bo (aB l y) fun v => u36 P h nx t u v
 | .indexAddr t x y => bo (aB l x) fun u => bo (aB l y) fun v => mC (u0u P h t u v) (u38 P h t u v)
 | .index t x y => bo (aB l x) fun u => bo (aB l y) fun v => mC (u0v P h t u v) (k55 P h t u v)
 | .slice t x lo hi mx => bo (aB l x) fun u => mC (u0t P t lo hi mx u) <| mC (k4j P h l g t lo hi mx u) (mC (u33 P h l t lo hi mx u) (u0s P h l t lo hi mx u))
 | .call c => evC P Fn h l g nx c
 | .makeFunc (.func f) first caps => match first.toList with
  | [] => u37 l f caps.toList
  | _ => match caps.toList with
   | [] => k4z l f first.toList
   | _ => none
 | _ => none
section
variable {cx : Cx} {o : Oper} {l : List (Nat × PV)} {g : EH}
theorem fE {α : Type} {a : Array α} {l : List α} (h : a.toList = l) : a = l.toArray := by subst h; simp
theorem k90 {h : H} {nx : Nat} {b : Builtin} {args : Array Operand} {ts : Array TypeId} (ho : o.op = .call { callee := .builtin b, args := args, argTypes := ts }) : OKR cx o l g (u3e Tryz.prog h l g nx b args.toList ts.toList) := by
 unfold u3e
 split
 ·rename_i h1 h2
  rw [fE h1, fE h2] at ho
  exact OKR.bo fun u hu => OKR.or (k51 ho hu) (k1f ho hu)
 ·rename_i h1
  rw [fE h1] at ho
  exact OKR.bo fun u hu => OKR.bo fun v hv => k4t ho hu hv
 ·rename_i h1
  rw [fE h1] at ho
  exact OKR.bo fun u hu => OKR.bo fun v hv => k4v ho hu hv
 ·rename_i h1
  rw [fE h1] at ho
  exact OKR.bo fun u hu => OKR.bo fun v hv => OKR.bo fun w hw => k1c ho hu hv hw
 ·rename_i h1 h2
  rw [fE h1, fE h2] at ho
  split
  ·rename_i ht
   have ht := kc1 ht
   subst ht
   exact OKR.bo fun u hu => OKR.bo fun v hv => k91 ho hu hv
  ·exact OKR.bo fun u hu => OKR.bo fun v hv => OKR.or (k5r ho hu hv) (OKR.or (k4b ho hu hv) (k8m ho hu hv))
 ·rename_i h1 h2
  rw [fE h1, fE h2] at ho
  exact OKR.bo fun u hu => OKR.bo fun v hv => k8x ho hu hv
 ·rename_i h1 h2
  rw [fE h1, fE h2] at ho
  exact OKR.bo fun u hu => k5f ho hu
 ·rename_i h1 h2
  rw [fE h1, fE h2] at ho
  exact OKR.bo fun u hu => k8r ho hu
 ·rename_i h1 h2
  rw [fE h1, fE h2] at ho
  exact OKR.bo fun u hu => OKR.bo fun v hv => k8n ho hu hv
 ·exact OKR.none
theorem tL {h : H} {nx : Nat} {op : Op} (ho : o.op = op) : OKR cx o l g (k0e Tryz.prog Fun h l g nx op) := by
 unfold k0e
 split
 ·exact OKR.bo fun u hu => OKR.some fun _ => k7r ho hu
 ·exact OKR.bo fun u hu => OKR.some fun _ => k11 ho hu
 ·refine OKR.bo fun u hu => ?_
  split
  ·exact OKR.some fun _ => sL ho hu
  ·exact OKR.none
 ·exact OKR.bo fun u hu => k4m ho hu
 ·exact OKR.bo fun u hu => k4q ho hu
 ·exact OKR.bo fun u hu => k4d ho hu
 ·exact OKR.bo fun u hu => k1b ho hu
 ·exact OKR.bo fun u hu => OKR.bo fun v hv => OKR.or (k4o ho hu hv) (OKR.or (k5d ho hu hv) (OKR.or (k1k ho hu hv) (k5e ho hu hv)))
 ·exact OKR.bo fun u hu => OKR.or (k4g ho hu) (OKR.or (k5h ho hu) (OKR.or (k1d ho hu) (OKR.or (k4f ho hu) (k1h ho hu))))
 ·exact OKR.bo fun u hu => k5a ho hu
 ·exact OKR.bo fun u hu => k8w ho hu
 ·exact OKR.bo fun u hu => k57 ho hu
 ·exact OKR.bo fun u hu => k1e ho hu
 ·exact OKR.bo fun u hu => OKR.bo fun v hv => xP ho hu hv
 ·exact x1 ho
 ·exact OKR.bo fun u hu => k5j ho hu
 ·exact OKR.or (xY ho) (tM ho)
 ·exact OKR.or (k5n ho) (k8z ho)
 ·exact OKR.bo fun u hu => OKR.bo fun v hv => k8t ho hu hv
 ·exact OKR.bo fun u hu => OKR.bo fun v hv => OKR.or (k53 ho hu hv) (k8v ho hu hv)
 ·exact OKR.bo fun u hu => OKR.bo fun v hv => OKR.or (k56 ho hu hv) (k54 ho hu hv)
 ·exact OKR.bo fun u hu => OKR.or (k4l ho hu) <| OKR.or (k4i ho hu) (OKR.or (k8o ho hu) (k4k ho hu))
 ·unfold evC
  split
  ·exact k90 ho
  ·exact OKR.or (xU ho) (OKR.or (k1g ho) (k1i ho))
  ·refine OKR.bo fun u hu => ?_
   split
   ·rename_i hf
    have := k8j hf
    subst this
    split
    ·rename_i hlo; exact xW ho hu hlo
    ·rename_i hlo; exact xX ho hu hlo
   ·exact OKR.none
  ·exact OKR.none
 ·split
  ·rename_i h0; exact k8u ho h0
  ·split
   ·rename_i h1; exact k4y ho h1
   ·exact OKR.none
 ·exact OKR.none
theorem t4 {ds : List D} {T : TypeId} {n s nx : Nat} {wr : List (Nat × Option Bk)} {news foot : List Nat} {h0 : Hp} {τ : Nat → PV} (hnx : wr.lookup nx = none) (hl : ds.length = n * s) (h : OpOK cx o τ h0 ⟨.e (.c (.own nx 0 n s true)), wr ++ [(nx, some (T, ds.map .d))], news, foot⟩) :
  OpOK cx o τ h0 ⟨.e (.c (.d (.sl ds n))), wr ++ [(nx, none)], news, foot⟩ := by
 intro Q ρ a w hL hs hf hn hh hk hd K hK
 refine h Q ρ a w hL hs hf hn hh hk hd K ?_
 intro v w' ρ' g1 g2 g3 g4 g5
 have hx : ((wr ++ [(nx, some (T, ds.map C.d))]).lookup nx).getD (hL nx) = some (T, ds.map C.d) := by rw [y5, hnx]; simp
 have hx' : ((wr ++ [(nx, none)]).lookup nx).getD (hL nx) = none := by rw [y5, hnx]; simp
 have hne : ∀ x, x ≠ nx → ((wr ++ [(nx, none)]).lookup x).getD (hL x) = ((wr ++ [(nx, some (T, ds.map C.d))]).lookup x).getD (hL x) := by
  intro x hxn
  rw [y5, y5]
  simp only [kc5, show (x == nx) = false by simpa using hxn, List.lookup_nil]
 have hsub : ∀ x, ((wr ++ [(nx, none)]).lookup x).getD (hL x) ≠ none → x ≠ nx ∧ ((wr ++ [(nx, some (T, ds.map C.d))]).lookup x).getD (hL x) ≠ none := by
  intro x hq
  have : x ≠ nx := fun e => hq (by rw [e]; exact hx')
  exact ⟨this, by rw [← hne x this]; exact hq⟩
 have hsub2 : ∀ x T' cs, ((wr ++ [(nx, none)]).lookup x).getD (hL x) = some (T', cs) → x ≠ nx ∧ ((wr ++ [(nx, some (T, ds.map C.d))]).lookup x).getD (hL x) = some (T', cs) := by
  intro x T' cs hq
  have hq2 := hsub x (by rw [hq]; simp)
  exact ⟨hq2.1, by rw [← hne x hq2.1]; exact hq⟩
 obtain ⟨m, k1, k2⟩ := g3.row nx T _ hx
 rcases k2 with ⟨k2, k3⟩ | ⟨k2, ⟨vs, rest, r1, r2, r3⟩, k4⟩
 ·have hds : ds = [] := List.map_eq_nil_iff.1 k3
  subst hds
  refine hK v w' ρ' g1 g2 ⟨fun b T' cs hb => g3.row b T' cs (hsub2 b T' cs hb).2, fun b b' m m' hb hb' => g3.inj b b' m m' (hsub b hb).2 (hsub b' hb').2, fun b m hb => g3.zf b m (hsub b hb).2, g3.zm, g3.zl⟩ g4 ?_
  have g5' : RepC cx.p ρ' w' (.own nx 0 n s true) v := g5
  cases g5' with
  | own _ _ _ _ _ m2 cap hm hn' => rw [k1] at hm; cases hm; rw [k2] at hn'; cases hn'
  | ownn => exact .d (.nil none 0 (Nat.zero_le _) (fun _ => rfl))
 ·have hgo : Goes cx.p ρ' ⟨ρ'.f, fun k => ρ'.z k ∨ k = m.g⟩ w' w' := ⟨fun _ _ h => h, fun _ h => .inl h, Nat.le_refl _, fun _ _ _ => rfl⟩
  have hg1 : Goes cx.p ρ ⟨ρ'.f, fun k => ρ'.z k ∨ k = m.g⟩ w w' := ⟨g1.ext, fun k hz => .inl (g1.zext k hz), g1.size, g1.old⟩
  refine hK v w' ⟨ρ'.f, fun k => ρ'.z k ∨ k = m.g⟩ hg1 g2 ⟨?_, fun b b' m m' hb hb' => g3.inj b b' m m' (hsub b hb).2 (hsub b' hb').2, ?_, ?_, ?_⟩ g4 ?_
  ·intro b T' cs hb
   obtain ⟨m', p1, p2⟩ := g3.row b T' cs (hsub2 b T' cs hb).2
   exact ⟨m', p1, p2.imp id fun p => ⟨p.1, p.2.1.mono hgo rfl, p.2.2⟩⟩
  ·intro b m1 hb hm1 hn1 hz
   rcases hz with hz | hz
   ·exact g3.zf b m1 (hsub b hb).2 hm1 hn1 hz
   ·exact (hsub b hb).1 (g3.inj b nx m1 m (hsub b hb).2 (by rw [hx]; simp) hm1 k1 hn1 k2 hz)
  ·intro k hz
   rcases hz with hz | hz
   ·exact g3.zm k hz
   ·exact hz ▸ k4
  ·intro k hz
   rcases hz with hz | hz
   ·exact g3.zl k hz
   ·exact hz ▸ r1.lt
  ·have g5' : RepC cx.p ρ' w' (.own nx 0 n s true) v := g5
   cases g5' with
   | own _ _ _ _ _ m2 cap hm hn' h1 h2 h3 =>
    rw [k1] at hm; cases hm
    have hvl : vs.length = ds.length := by have := r3.len; simpa using this.symm
    refine .d (.sl ds vs m.g 0 n cap hvl ?_ ?_ (.inr (.inr rfl)) r1.lt h1 h2)
    ·intro i u hu
     rw [Nat.zero_add]
     exact BlkM.cell (vs := vs ++ rest) r1 i (by rw [List.getElem?_append_left (List.getElem?_eq_some_iff.1 hu).1]; exact hu)
    ·intro i d u hd' hu
     have := (r3.imp fun _ _ => RepC.mono hgo).get i (.d d) u (by rw [List.getElem?_map, hd']; rfl) hu
     cases this with
     | d h => exact h
   | ownn _ _ m2 hm hn' => rw [k1] at hm; cases hm; rw [k2] at hn'; cases hn'
def fzR : R → R
 | some (ps, ⟨.e (.c (.own b 0 n s true)), wr, news, foot⟩) => match wr with
  | [(b', some (T, .ds ds))] => match ke0 b' b with
   | true => some (ps ++ [ds.length = n * s], ⟨.e (.c (.d (.sl ds n))), [(b, none)], news, foot⟩)
   | false => none
  | [(b0, none), (b', some (T, .ds ds))] => match ke0 b' b, ke0 b b0 with
   | true, false => some (ps ++ [ds.length = n * s], ⟨.e (.c (.d (.sl ds n))), [(b0, none), (b, none)], news, foot⟩)
   | _, _ => none
  | _ => none
 | _ => none
theorem u2w {r : R} (h : OKR cx o l g r) : OKR cx o l g (fzR r) := by
 unfold fzR
 split
 ·rename_i ps b n s wr news foot
  split
  ·split
   ·rename_i hb
    refine OKR.some fun hp => ?_
    have hp := (qL _).1 hp
    have hl : _ = _ := hp _ (kc0 _ (kb1 ..))
    obtain rfl := kc1 hb
    exact t4 (wr := []) rfl hl (h _ _ rfl ((qL _).2 fun p hpp => hp p (kd4 _ hpp)))
   ·exact OKR.none
  ·split
   ·rename_i hb hb0
    refine OKR.some fun hp => ?_
    have hp := (qL _).1 hp
    have hl : _ = _ := hp _ (kc0 _ (kb1 ..))
    obtain rfl := kc1 hb
    refine t4 (wr := [(_, none)]) ?_ hl (h _ _ rfl ((qL _).2 fun p hpp => hp p (kd4 _ hpp)))
    have hne := Nat.ne_of_beq_eq_false hb0
    have e9 := beq_eq_false_iff_ne.2 hne
    rw [kc5, e9]; rfl
   ·exact OKR.none
  ·exact OKR.none
 ·exact OKR.none
def u35 (P : Program) (Fn : FnT) (h : H) (l : List (Nat × PV)) (g : EH) (nx : Nat) (op : Op) : R := match h with
 | .fz h' => fzR (k0e P Fn h' l g nx op)
 | h => k0e P Fn h l g nx op
theorem k8s {h : H} {nx : Nat} {op : Op} (ho : o.op = op) : OKR cx o l g (u35 Tryz.prog Fun h l g nx op) := by
 unfold u35
 split
 ·exact u2w (tL ho)
 ·exact tL ho
end
def stepG (ops : List Oper) (l : List (Nat × PV)) (o : Oper) : Option Bool := match o.guard with
 | none => some true
 | some (gi, b) => match ops[gi]? with
  | some og => match og.dst with
   | some dg => match l.lookup dg with
    | some (.e (.c (.d (.lit (.bool b'))))) => some (b' == b)
    | some (.tup []) => some false
    | _ => none
   | none => none
  | none => none
theorem lD {X : Type} [Inhabited X] {l : List (Nat × X)} {t : Nat} {u : X} (h : l.lookup t = some u) : S l t = u := (yT h).S
theorem k0t {cx : Cx} {ops : List Oper} {l : List (Nat × PV)} {g : List (Nat × Option Bk)} {o : Oper} {t : OT} (h : stepG ops l o = some true) (hok : OpOK cx o (S l) (S g) t) : StepO cx ops o l g t := by
 unfold stepG at h
 unfold StepO
 split at h
 ·rename_i hg; rw [hg]; exact hok
 ·rename_i gi b hg
  rw [hg]
  split at h
  ·rename_i og hog
   split at h
   ·rename_i dg hdg
    split at h
    ·rename_i b' hl
     refine ⟨dg, og, hog, hdg, .inl ⟨b', lD hl, ?_⟩⟩
     have : b' = b := by simpa using h
     rw [if_pos this]; exact hok
    ·cases h
    ·cases h
   ·cases h
  ·cases h
theorem k2b {cx : Cx} {ops : List Oper} {l : List (Nat × PV)} {g : List (Nat × Option Bk)} {o : Oper} (h : stepG ops l o = some false) : StepO cx ops o l g ⟨.tup [], [], [], []⟩ := by
 unfold stepG at h
 unfold StepO
 split at h
 ·cases h
 ·rename_i gi b hg
  rw [hg]
  split at h
  ·rename_i og hog
   split at h
   ·rename_i dg hdg
    split at h
    ·rename_i b' hl
     refine ⟨dg, og, hog, hdg, .inl ⟨b', lD hl, ?_⟩⟩
     have : ¬ b' = b := by simpa using h
     rw [if_neg this]; exact ⟨rfl, rfl, rfl⟩
    ·rename_i hl
     exact ⟨dg, og, hog, hdg, .inr ⟨lD hl, rfl, rfl, rfl⟩⟩
    ·cases h
   ·cases h
  ·cases h
def jW (P : Program) (Fn : FnT) (ops : List Oper) : List Oper → List H → List (Nat × PV) → EH → Nat → Option (List Prop × List OTe × List (Nat × PV) × EH × Nat)
 | [], _, l, g, nx => some ([], [], l, g, nx)
 | o :: os, hs, l, g, nx => match stepG ops l o with
  | some true => match hs with
   | h :: hs => match u35 P Fn h l g nx o.op with
    | some (ps, t) => match jW P Fn ops os hs (eL o t.u ++ l) (t.wr ++ g) (nx + t.news.length) with
     | some (ps', ts, r) => some (ps ++ ps', t :: ts, r)
     | none => none
    | none => none
   | [] => none
  | some false => match jW P Fn ops os hs (eL o (.tup []) ++ l) g nx with
   | some (ps', ts, r) => some (ps', ⟨.tup [], [], [], []⟩ :: ts, r)
   | none => none
  | none => none
theorem gX {cx : Cx} {ops : List Oper} : ∀ {os : List Oper} {hs : List H} {l lf : List (Nat × PV)} {g gf : EH} {nx nf : Nat} {ps : List Prop} {ts : List OTe}, jW Tryz.prog Fun ops os hs l g nx = some (ps, ts, lf, gf, nf) → (∀ p ∈ ps, p) → Steps cx ops os (ts.map OTe.to) l (kD g) lf (kD gf)
 | [], _, _, _, _, _, _, _, _, _, h, _ => by cases h; exact .nil _ _
 | o :: os, hs, l, lf, g, gf, nx, nf, ps, ts, h, hp => by
  unfold jW at h
  split at h
  ·rename_i hg
   split at h
   ·split at h
    ·rename_i he
     split at h
     ·rename_i hr
      cases h
      rw [ke4]
      refine .cons (k0t hg (k8s rfl _ _ he ((qL _).2 fun p h => hp p (kd4 _ h)))) ?_
      have := gX (cx := cx) hr (fun p h => hp p (kc0 _ h))
      rw [zL] at this
      exact this
     ·cases h
    ·cases h
   ·cases h
  ·rename_i hg
   split at h
   ·rename_i hr
    cases h
    rw [ke4]
    exact .cons (k2b hg) (gX (cx := cx) hr hp)
   ·cases h
  ·cases h
def k2h (lf : List (Nat × PV)) : List Nat → List (Nat × PV)
 | [] => []
 | t :: ts => match lf.lookup t with
  | some u => (t, u) :: k2h lf ts
  | none => k2h lf ts
theorem oN {lf : List (Nat × PV)} {t : Nat} {u : PV} : ∀ {ts : List Nat}, (k2h lf ts).lookup t = some u → lf.lookup t = some u
 | [], h => by cases h
 | a :: ts, h => by
  unfold k2h at h
  split at h
  ·rename_i v hv
   rw [kc5] at h
   split at h
   ·rename_i hb; simp at hb; subst hb; cases h; exact hv
   ·exact oN h
  ·exact oN h
def k2i (gf : EH) : List Nat → EH
 | [] => []
 | t :: ts => match gf.lookup t with
  | some (some u) => (t, some u) :: k2i gf ts
  | _ => k2i gf ts
theorem oO {gf : EH} {t : Nat} {u : EBk} : ∀ {ts : List Nat}, (k2i gf ts).lookup t = some (some u) → gf.lookup t = some (some u)
 | [], h => by cases h
 | a :: ts, h => by
  unfold k2i at h
  split at h
  ·rename_i v hv
   rw [kc5] at h
   split at h
   ·rename_i hb; simp at hb; subst hb; cases h; exact hv
   ·exact oO h
  ·exact oO h
theorem Mod.weak {cx : Cx} {n nx : Nat} {l l' : List (Nat × PV)} {g g' : EH} (hl : ∀ t u, l'.lookup t = some u → l.lookup t = some u) (hg : ∀ t u, g'.lookup t = some (some u) → g.lookup t = some (some u)) {a : Act} {w : World} (h : Mod cx n l (kD g) nx a w) : Mod cx n l' (kD g') nx a w := by
 obtain ⟨ρ, h1, h2, h3, h4, h5, h6, h9⟩ := h
 have hgg : ∀ b x, S (kD g') b = some x → S (kD g) b = some x := by
  intro b x hx
  unfold Proofs.YtdbjebdomdnbkaaGreat.S at hx ⊢
  rw [eV] at hx ⊢
  cases hb : g'.lookup b with
  | none => rw [hb] at hx; cases hx
  | some o =>
   cases o with
   | none => rw [hb] at hx; cases hx
   | some v => rw [hg b v hb]; rw [hb] at hx; exact hx
 refine ⟨ρ, h1, ⟨fun b T cs hb => h2.row b T cs (hgg b _ hb), fun b b' m m' hb hb' => h2.inj b b' m m' ?_ ?_, fun b m hb => h2.zf b m ?_, h2.zm, h2.zl⟩, ?_, h4, h5, h6, h9⟩
 ·obtain ⟨x, hx⟩ := Option.ne_none_iff_exists'.1 hb; rw [hgg b x hx]; simp
 ·obtain ⟨x, hx⟩ := Option.ne_none_iff_exists'.1 hb'; rw [hgg b' x hx]; simp
 ·obtain ⟨x, hx⟩ := Option.ne_none_iff_exists'.1 hb; rw [hgg b x hx]; simp
 ·intro t
  unfold Proofs.YtdbjebdomdnbkaaGreat.S
  cases hb : l'.lookup t with
  | none => exact trivial
  | some u => have := h3 t; rw [lD (hl t u hb)] at this; exact this
def jV (P : Program) (Fn : FnT) (n : Nat) (ops : List Oper) (hs : List H) (l : List (Nat × PV)) (g : EH) (nx : Nat) (live kb : List Nat) : Option (Prop × List (Nat × PV) × EH × Nat) := match pX ops n with
 | true => match jW P Fn ops ops hs l g nx with
  | some (ps, ts, lf, gf, nf) => match gY ops (ts.map OTe.to) nx nf with
   | true => some (AllP ps, k2h lf live, k2i gf kb, nf)
   | false => none
  | none => none
 | false => none
theorem AW.rg {cx : Cx} {n id nx nx' : Nat} {draw : Bool} {ops : List Oper} {Q : yS} {l l' : List (Nat × PV)} {g g' : EH} (hs : List H) (live kb : List Nat) {P : Prop} (h : jV Tryz.prog Fun n ops hs l g nx live kb = some (P, l', g', nx')) (hP : P) (hQ : Q .normal ⟨l', kD g', nx'⟩) : AW cx n (.region id ops.toArray draw) Q ⟨l, kD g, nx⟩ := by
 unfold jV at h
 split at h
 ·rename_i hd
  split at h
  ·rename_i hr
   split at h
   ·rename_i hc
    cases h
    intro a w hm
    exact mW (by kernel_rfl) hd (gX (cx := cx) hr ((qL _).1 hP)) hc (fun a' w' h => ⟨_, hQ, h.weak (fun t u => oN) (fun t u => oO)⟩) hm
   ·cases h
  ·cases h
 ·cases h
theorem rO {cx : Cx} {n id nx nx' : Nat} {draw : Bool} {ops : List Oper} {Q : yS} {c : Code} {l l' : List (Nat × PV)} {g g' : EH} (hs : List H) (live kb : List Nat) {P : Prop} (h : jV Tryz.prog Fun n ops hs l g nx live kb = some (P, l', g', nx')) (hP : P) (hQ : AW cx n c Q ⟨l', kD g', nx'⟩) : AW cx n (.seq (.region id ops.toArray draw) c) Q ⟨l, kD g, nx⟩ :=
 AW.seq (AW.rg hs live kb h hP hQ)
/-! what is the same -/
def eqB (σ : Nat → Nat) : BC → BC → Option (List Prop)
 | .ds x, .ds y => some [x = y]
 | .cs x, .cs y => eqL σ x y
 | _, _ => none
theorem u3i {σ : Nat → Nat} {v v' : BC} {ps : List Prop} (h : eqB σ v v' = some ps) (hp : ∀ p ∈ ps, p) : v.to.map (aM σ) = v'.to := by
 unfold eqB at h
 split at h
 ·cases h
  have e := hp (_ = _) (kb1 ..)
  subst e
  show kd3 _ (kd3 C.d _) = kd3 C.d _
  rw [List.map_map]; rfl
 ·exact x2 h hp
 ·cases h
def sg (m : List (Nat × Nat)) (b : Nat) : Nat := match m.lookup b with
 | some c => c
 | none => b
def zR (σ : Nat → Nat) (nx2 : Nat) (l : List (Nat × PV)) : List (Nat × PV) → Option (List Prop)
 | [] => some []
 | (t, u) :: l2 => match l.lookup t, nB nx2 u with
  | some v, true => mN (k92 σ u v) (zR σ nx2 l l2)
  | _, _ => none
theorem sA {σ : Nat → Nat} {nx2 : Nat} {l : List (Nat × PV)} : ∀ {l2 : List (Nat × PV)} {ps : List Prop}, zR σ nx2 l l2 = some ps → (∀ p ∈ ps, p) → RenS σ nx2 l l2
 | [], _, _, _ => trivial
 | (t, u) :: l2, _, h, hp => by
  unfold zR at h
  split at h
  ·rename_i h1 h2
   obtain ⟨p, q, e1, e2, e3, e4⟩ := eI h hp
   exact ⟨⟨h2, _, yT h1, k0f e1 e3⟩, sA e2 e4⟩
  ·cases h
def u68 (n : Nat) : BC → Bool
 | .ds _ => true
 | .cs l => l.all (dR n)
theorem k81 {n : Nat} {b : BC} (h : u68 n b = true) : b.to.all (dR n) = true := by
 cases b with
 | ds l => show (kd3 C.d l).all _ = true; rw [List.all_map]; exact List.all_eq_true.2 fun _ _ => rfl
 | cs l => exact h
def jS (σ : Nat → Nat) (nx2 : Nat) (g : EH) : EH → Option (List Prop)
 | [] => some []
 | (b, some (T, bc)) :: g2 => match Nat.blt b nx2 && (u68 nx2 bc && g2.all fun y => !(σ y.1 == σ b)), g.lookup (σ b) with
  | true, some (some (T', bc')) => match ke0 T T' with
   | true => mN (eqB σ bc bc') (jS σ nx2 g g2)
   | false => none
  | _, _ => none
 | (b, none) :: g2 => match g2.all fun y => !(σ y.1 == σ b) with
  | true => jS σ nx2 g g2
  | false => none
theorem RenG.gone {n0 : Nat} {σ : Nat → Nat} {g g2 : List (Nat × Option Bk)} {nx2 b : Nat} (h : RenG n0 σ g g2 nx2) (hi : (g2.all fun y => !(σ y.1 == σ b)) = true) : RenG n0 σ g ((b, none) :: g2) nx2 := by
 rw [List.all_eq_true] at hi
 refine ⟨?_, ?_, h.fix, h.low⟩
 ·intro x hx T' cs' he
  rcases List.mem_cons.1 hx with rfl | hx
  ·cases he
  ·exact h.blk x hx T' cs' he
 ·intro x hx y hy he
  rcases List.mem_cons.1 hx with rfl | hx
  ·rcases List.mem_cons.1 hy with rfl | hy
   ·rfl
   ·have := hi y hy; simp [he] at this
  ·rcases List.mem_cons.1 hy with rfl | hy
   ·have := hi x hx; simp [he] at this
   ·exact h.inj x hx y hy he
theorem oG (p : Nat → Bool) : ∀ g : EH, ((kD g).all fun y => p y.1) = g.all fun y => p y.1
 | [] => rfl
 | x :: g => by show ((x.1, r9 x.2) :: kD g).all _ = _; rw [kf2, kf2, oG p g]
theorem fI {n0 : Nat} {σ : Nat → Nat} {nx2 : Nat} {g : EH} (hf : ∀ b, b < n0 → σ b = b) (hl : n0 ≤ nx2) : ∀ {g2 : EH} {ps : List Prop}, jS σ nx2 g g2 = some ps → (∀ p ∈ ps, p) → RenG n0 σ (kD g) (kD g2) nx2
 | [], _, _, _ => .base hf hl
 | (b, some (T, bc)) :: g2, _, h, hp => by
  unfold jS at h
  split at h
  ·rename_i h1 h2
   simp only [kb7] at h1
   obtain ⟨c1, c2, c3⟩ := h1
   split at h
   ·rename_i hT
    have hT := kc1 hT
    subst hT
    obtain ⟨p, q, e1, e2, e3, e4⟩ := eI h hp
    exact .cons (fI hf hl e2 e4) c1 rfl (qZ h2) (u3i e1 e3) (k81 c2) (by rw [oG (fun y => !(σ y == σ b))]; exact c3)
   ·cases h
  ·cases h
 | (b, none) :: g2, _, h, hp => by
  unfold jS at h
  split at h
  ·rename_i h1
   exact (fI hf hl h hp).gone (by rw [oG (fun y => !(σ y == σ b))]; exact h1)
  ·cases h
structure ES where
 l : List (Nat × PV)
 g : EH
 nx : Nat
def ES.st (s : ES) : St := ⟨s.l, kD s.g, s.nx⟩
def k8l (n0 : Nat) (m : List (Nat × Nat)) : Bool := m.all fun x => Nat.ble n0 x.1
theorem pJ {n0 : Nat} : ∀ {m : List (Nat × Nat)}, k8l n0 m = true → ∀ b, b < n0 → sg m b = b
 | [], _, _, _ => rfl
 | (k, c) :: m, h, b, hb => by
  unfold k8l at h
  rw [kf2, kb7] at h
  have h1 : n0 ≤ k := ka3 h.1
  unfold sg
  rw [kc5, show (b == k) = false by simp; omega]
  exact pJ (m := m) h.2 b hb
def zS (n0 : Nat) (m : List (Nat × Nat)) (l : List (Nat × PV)) (g : EH) (s : ES) : Option Prop := match k8l n0 m && Nat.ble n0 s.nx with
 | true => match mN (zR (sg m) s.nx l s.l) (jS (sg m) s.nx g s.g) with
  | some ps => some (AllP ps)
  | none => none
 | false => none
theorem sB {n0 : Nat} {m : List (Nat × Nat)} {l : List (Nat × PV)} {g : EH} {nx : Nat} {s : ES} {P : Prop} (h : zS n0 m l g s = some P) (hP : P) : k6q n0 ⟨l, kD g, nx⟩ s.st := by
 unfold zS at h
 split at h
 ·rename_i hc
  rw [kb7] at hc
  split at h
  ·rename_i hb
   cases h
   obtain ⟨p, q, e1, e2, e3, e4⟩ := eI hb ((qL _).1 hP)
   exact ⟨sg m, sA e1 e3, fI (pJ hc.1) (ka3 hc.2) e2 e4⟩
  ·cases h
 ·cases h
def Rd {α : Type} (n0 : Nat) (I : α → ES) (dec : α → Prop) (s : St) : Prop := ∃ y, k6q n0 s (I y).st ∧ dec y
theorem kU {α : Type} {cx : Cx} {n nx : Nat} {c : Code} {Q : yS} {l : List (Nat × PV)} {g : EH} (n0 : Nat) (hn : cx.n0 = n0) (I : α → ES) (μ : α → Nat) (x0 : α) (m : List (Nat × Nat)) {P : Prop} (h0 : zS n0 m l g (I x0) = some P) (hP : P) (round : ∀ x, AW cx n c (iI (Rd n0 I (fun y => μ y < μ x)) Q) (I x).st) : AW cx n (.loop c) Q ⟨l, kD g, nx⟩ :=
 AW.loop n0 hn (fun x => (I x).st) μ x0 (sB h0 hP) (fun x => (round x).mono fun e s' h => by
  cases e with
  | normal => exact h
  | _ => exact h)
theorem qH {α : Type} {n0 nx : Nat} {I : α → ES} {dec : α → Prop} {l : List (Nat × PV)} {g : EH} (y : α) (m : List (Nat × Nat)) {P : Prop} (h : zS n0 m l g (I y) = some P) (hP : P) (hd : dec y) : Rd n0 I dec ⟨l, kD g, nx⟩ := ⟨y, sB h hP, hd⟩
/-! results -/
def u21 (P : Program) (l : List (Nat × PV)) (g : EH) : ResultVar → Option E1
 | .tmp t => match l.lookup t with
  | some (.e e) => some e
  | _ => none
 | .cell a ty => match l.lookup a, yR P ty with
  | some (.e (.c (.ptr b off))), some (false, 1) => match g.lookup b with
   | some (some (_, bc)) => match bc.to[off]? with
    | some c => some (.c c)
    | none => none
   | _ => none
  | some (.e (.c (.ptr b off))), some (true, n) => match g.lookup b with
   | some (some (_, bc)) => match ke0 ((bc.to.drop off).take n).length n with
    | true => some (.agg ((bc.to.drop off).take n))
    | false => none
   | _ => none
  | _, _ => none
theorem k7l {l : List (Nat × PV)} {g : EH} {r : ResultVar} {e : E1} (h : u21 Tryz.prog l g r = some e) : ResE l (kD g) r e := by
 unfold u21 at h
 split at h
 ·split at h
  ·rename_i hl; cases h; exact .tmp (yT hl)
  ·cases h
 ·split at h
  ·rename_i hl ht
   split at h
   ·rename_i hb
    split at h
    ·rename_i hc; cases h; exact .cell (yT hl) ht (qZ hb) hc
    ·cases h
   ·cases h
  ·rename_i hl ht
   split at h
   ·rename_i hb
    split at h
    ·rename_i hc; cases h; exact .agg (yT hl) ht (qZ hb) rfl (kc1 hc)
    ·cases h
   ·cases h
  ·cases h
def k7k (P : Program) (l : List (Nat × PV)) (g : EH) : List ResultVar → Option (List E1)
 | [] => some []
 | r :: rs => match u21 P l g r, k7k P l g rs with
  | some e, some es => some (e :: es)
  | _, _ => none
theorem zT {l : List (Nat × PV)} {g : EH} : ∀ {rs : List ResultVar} {es : List E1}, k7k Tryz.prog l g rs = some es → ResL l (kD g) rs es
 | [], _, h => by cases h; exact .nil
 | r :: rs, _, h => by
  unfold k7k at h
  split at h
  ·rename_i h1 h2; cases h; exact .cons (k7l h1) (zT h2)
  ·cases h
def u5c (P : Program) (n0 : Nat) (m : List (Nat × Nat)) (rs : List ResultVar) (l : List (Nat × PV)) (g : EH) (y : PV) (g1 : EH) (nx1 : Nat) : Option Prop := match k7k P l g rs, k8l n0 m && (Nat.ble n0 nx1 && nB nx1 y) with
 | some es, true => match mN (k92 (sg m) y (u2a es)) (jS (sg m) nx1 g g1) with
  | some ps => some (AllP ps)
  | none => none
 | _, _ => none
theorem kB {n0 nx nx1 : Nat} {e : Exit} (he : e = .normal ∨ e = .ret) {rs : List ResultVar} {l : List (Nat × PV)} {g g1 : EH} {y : PV} (m : List (Nat × Nat)) {P : Prop} (h : u5c Tryz.prog n0 m rs l g y g1 nx1 = some P) (hP : P) : EndP n0 rs y (kD g1) nx1 e ⟨l, kD g, nx⟩ := by
 unfold u5c at h
 split at h
 ·rename_i h1 hc
  simp only [kb7] at hc
  obtain ⟨c1, c2, c3⟩ := hc
  split at h
  ·rename_i hb
   cases h
   obtain ⟨p, q, e1, e2, e3, e4⟩ := eI hb ((qL _).1 hP)
   exact ⟨he, _, sg m, zT h1, k0f e1 e3, c3, fI (pJ c1) (ka3 c2) e2 e4⟩
  ·cases h
 ·cases h
end Go.Proofs.YtdbjebdomdnbkaaGreat
