/- A memory told by names: whole regions, loops and results that are computed. No statement is proved here. -/
import Derived.Test.YtkjmlililpgamaaZAmI
import Derived.Test.YtkjmlililpgamaaZAmL
import Derived.Test.YtkjmlililpgamaaZAmT
import Derived.Test.YtkjmlililpgamaaZAmX
import Derived.Test.YtkjmlililpgamaaZAmP
namespace Go.Proofs.Ytkjmlililpgamaa
open Go.ChangeShapes Go.WideShapes Go.ChangeAt Go.RowKit
open Bool renaming and_eq_true → kb2
open List renaming all_cons → ke9, append_nil → kg0, length_append → ka5, length_drop → kc0, length_flatten → kj7, length_take → kb9, lookup_cons → kc1, map → kc4, map_append → ke4, map_cons → kd2, map_map → kj1, map_nil → ke0, map_replicate → kj9, map_toArray → kc8, mem_append_left → kd0, mem_append_right → kb6, mem_cons_self → ka4, replicate → kb1, sum_replicate_nat → ki8
open Nat renaming beq → kd5, eq_of_beq_eq_true → kb3, le_of_ble_eq_true → ka3
set_option linter.unusedVariables false
set_option linter.unusedSimpArgs false
abbrev FnT := FuncId → List E1 → List (Nat × Option Bk) → Nat → PV → List (Nat × Option Bk) → Nat → Prop
theorem aW (z : Array Value) : ∀ n : Nat, (Builtin.zeroCells z n).toList = (kb1 n z.toList).flatten
 | 0 => by simp [Builtin.zeroCells]
 | n + 1 => by
  have ih := aW z n
  unfold Builtin.zeroCells at ih ⊢
  rw [Array.toList_map, Array.toList_range] at ih ⊢
  rw [List.replicate_succ', List.flatten_append, ← ih, Nat.succ_mul, List.range_add, ke4, kj1]
  congr 1
  simp only [List.flatten_cons, List.flatten_nil, kg0]
  apply List.ext_getElem (by simp)
  intro j h1 h2
  have hj : j < z.size := by simpa using h2
  have e : (n * z.size + j) % z.size = j := by rw [Nat.mul_comm, Nat.mul_add_mod]; exact Nat.mod_eq_of_lt hj
  simp [e, hj]
theorem lM (w : World) (t e ty : TypeId) (ad : Option Addr) (cap : Nat) (hu : Try.prog.underlying t = some (.slice e)) :
  (Builtin.clear_ #[t] ty #[.slice ad 0 cap]).run Try.prog w = .ok (.tuple #[]) w := by
 cases ad <;> simp [Builtin.clear_, run_underlying hu]
theorem lL (w : World) (t e ty : TypeId) (z : Value) (g o n cap s : Nat) (cur : Array Value) (T : TypeId) (fz : Nat × Nat) (hu : Try.prog.underlying t = some (.slice e)) (hz : (zeroValue e).run Try.prog w = .ok z w) (hs : z.cells.size = s) (h1 : z.cells.toList.all Value.oneCell' = true)
  (hg : w.heap[g]? = some (.cells cur T fz)) (hfz : Hm fz cur.size) (hfit : o + n * s ≤ cur.size) (hn : n ≠ 0) :
  (Builtin.clear_ #[t] ty #[.slice (some ⟨g, o, none⟩) n cap]).run Try.prog w = .ok (.tuple #[]) (w.setRow g (cur.toList.take o ++ (kb1 n z.cells.toList).flatten ++ cur.toList.drop (o + n * s)).toArray) := by
 have hl : ((kb1 n z.cells.toList).flatten).length = n * s := by
  rw [kj7, kj9, ki8, Array.length_toList, hs]
 have hst := qB Try.prog g o T fz (Builtin.zeroCells z.cells n).toList 0 cur w hg hfz (by rw [aW, hl]; omega) (by
  intro v hv
  rw [aW, List.mem_flatten] at hv
  obtain ⟨l, hl, hv⟩ := hv
  rw [(List.mem_replicate.1 hl).2] at hv
  exact List.all_eq_true.1 h1 v hv)
 rw [aW, hl] at hst
 simp only [Nat.add_zero] at hst
 obtain ⟨m, rfl⟩ : ∃ m, n = m + 1 := ⟨n - 1, by omega⟩
 simp [Builtin.clear_, run_underlying hu, hz, aW, hst]
theorem rQ {cx : Cx} {o : Oper} {l : List (Nat × PV)} {g : List (Nat × Option Bk)} {t e : TypeId} {b off n s bs : Nat} {wh : Bool} {x : Operand} {T : TypeId} {z : Value} {cs cs' : List C} (ho : o.op = .call { callee := .builtin .clear, args := #[x], argTypes := #[t] }) (hu : Try.prog.underlying t = some (.slice e)) (hi : (Try.prog.info? e).map (fun i => (i.zero, i.size, i.bytes)) = some (some z, s, bs)) (hz : z.cells.size = s) (hz1 : z.cells.toList.all Value.oneCell' = true)
  (hx : Ev l x (.e (.c (.own b off n s wh)))) (hb : Look g b (some (T, cs))) (hfit : off + n * s ≤ cs.length) (hc : cs.take off ++ ((kb1 n (z.cells.toList.map D.lit)).flatten).map C.d ++ cs.drop (off + n * s) = cs') : OpOK cx o (S l) (S g) ⟨.tup [], [(b, some (T, cs'))], [], [b]⟩ := by
 intro Q ρ a w hL hs hf hnews hh hk hdf K hK
 have hrep := hx.rep hs (by rw [ho]; simp [Op.operands, Call.operands])
 have hb' : hL b = some (T, cs) := by rw [hf b (by simp), hb.S]
 obtain ⟨i, i2, i3, i4, i5⟩ := info_parts hi
 have hzv : (zeroValue e).run Try.prog w = .ok z w := by simp [zeroValue, typeInfo, i2, i3]
 by_cases h0 : n = 0
 ·subst h0
  obtain ⟨ad2, cap2, e1, r1, r2, r3⟩ := uR hrep
  have hr := lM w t e o.type ad2 cap2 hu
  have hcs : cs' = cs := by rw [← hc]; simp
  unfold Oper.wp execOp
  simp only [ho, resolve, invoke, builtin, Sem.run_bind, Sem.run_pure, Result.andThen_ok, kc8, kd2, ke0, e1, hr]
  refine hK _ w ρ (Goes.refl _ _ _) (fun _ _ h => h) ?_ hk ⟨[], rfl, trivial⟩
  have e : (fun x => (([(b, some (T, cs'))] : List (Nat × Option Bk)).lookup x).getD (hL x)) = hL := by
   funext x'
   by_cases hx' : x' = b
   ·subst hx'; simp [hcs, hb']
   ·simp [kc1, show (x' == b) = false by simpa using hx']
  rw [e]
  exact hh
 ·obtain ⟨mm, cap2, hm, hnl, e1, r1, r2, r3⟩ := uP (by omega) hrep
  obtain ⟨⟨vs, rest, ⟨fz, s1, sf⟩, s2, s3⟩, s4⟩ := hh.at hb' hm hnl
  have hul : ((kb1 n z.cells.toList).flatten).length = n * s := by
   rw [kj7, kj9, ki8, Array.length_toList, hz]
  have hcl : cs.length = vs.length := s3.len
  have hr := lL w t e o.type z mm.g off n cap2 s (vs ++ rest).toArray T fz hu hzv hz hz1 s1 (by rw [List.size_toArray]; exact sf) (by simp; omega) h0
  have e5 : (vs ++ rest).take off ++ (kb1 n z.cells.toList).flatten ++ (vs ++ rest).drop (off + n * s) = (vs.take off ++ (kb1 n z.cells.toList).flatten ++ vs.drop (off + n * s)) ++ rest := by
   rw [List.take_append_of_le_length (by omega), List.drop_append_of_le_length (by omega)]; simp only [List.append_assoc]
  have hB : (w.setRow mm.g ((vs.take off ++ (kb1 n z.cells.toList).flatten ++ vs.drop (off + n * s)) ++ rest).toArray).heap[mm.g]? = some (.cells ((vs.take off ++ (kb1 n z.cells.toList).flatten ++ vs.drop (off + n * s)) ++ rest).toArray T fz) := setRow_heap w mm.g (vs ++ rest).toArray _ T fz s1
  have hO : Only mm.g w (w.setRow mm.g ((vs.take off ++ (kb1 n z.cells.toList).flatten ++ vs.drop (off + n * s)) ++ rest).toArray) := ⟨rfl, rfl, rfl, by simp [World.setRow], fun k' _ hk => setRow_other w mm.g k' _ hk⟩
  have hgo : Goes cx.p ρ ρ w (w.setRow mm.g ((vs.take off ++ (kb1 n z.cells.toList).flatten ++ vs.drop (off + n * s)) ++ rest).toArray) := ⟨fun _ _ h => h, fun _ h => h, hO.size, fun k hp hlt => hO.block k hlt (fun e => hp.elim (fun hp => cx.pm k hp (e ▸ s4)) (fun hz => hh.zf b mm (by rw [hb']; simp) hm hnl (e ▸ hz)))⟩
  have hrow : Row cx.p ρ (w.setRow mm.g ((vs.take off ++ (kb1 n z.cells.toList).flatten ++ vs.drop (off + n * s)) ++ rest).toArray) mm T cs' := by
   have hll : ((vs.take off ++ (kb1 n z.cells.toList).flatten ++ vs.drop (off + n * s)) ++ rest).length = (vs ++ rest).length := by
    simp only [ka5, hul, kb9, kc0]; omega
   refine ⟨_, rest, ⟨fz, hB, by rw [hll]; exact sf⟩, ?_, ?_⟩
   ·rw [← s2]; simp only [ka5, hul, kb9, kc0]; omega
   ·rw [← hc]
    exact (All2.app (All2.app ((s3.take off).imp fun _ _ => RepC.mono hgo) (gF hz1 n)) ((s3.drop (off + n * s)).imp fun _ _ => RepC.mono hgo))
  obtain ⟨p1, p2, p3⟩ := HRep.write hh hk hb' hm hnl hO hrow
  unfold Oper.wp execOp
  simp only [List.toList_toArray, e5] at hr
  simp only [ho, resolve, invoke, builtin, Sem.run_bind, Sem.run_pure, Result.andThen_ok, kc8, kd2, ke0, e1, hr]
  exact hK _ _ ρ p1 (fun _ _ h => h) p2 p3 ⟨[], rfl, trivial⟩
def tY (P : Program) (h : H) (g : EH) (t : TypeId) : PV → R
 | .e (.c (.own b off n s _)) => match P.underlying t, h with
  | some (.slice e), .mk _ _ r => match jY P e, g.lookup b with
   | some (z, s', _), some (some (T, .ds l)) => match kd5 s' s && (kd5 z.cells.size s && z.cells.toList.all Value.oneCell') with
    | true => some ([off + n * s ≤ l.length, l.take off ++ (kb1 n (z.cells.toList.map D.lit)).flatten ++ l.drop (off + n * s) = r], ⟨.tup [], [(b, some (T, .ds r))], [], [b]⟩)
    | false => none
   | _, _ => none
  | _, _ => none
 | _ => none
theorem tX {cx : Cx} {o : Oper} {l : List (Nat × PV)} {g : EH} {h : H} {x : Operand} {t : TypeId} (ho : o.op = .call { callee := .builtin .clear, args := #[x], argTypes := #[t] }) {u : PV} (hu : Ev l x u) : OKR cx o l g (tY Try.prog h g t u) := by
 unfold tY
 split
 ·split
  ·rename_i ht
   split
   ·rename_i he hb
    split
    ·rename_i hs
     rw [kb2, kb2] at hs
     have h0 := kb3 hs.1
     subst h0
     refine OKR.some fun hp => ?_
     obtain ⟨h1, h2⟩ := hp
     have h2 : _ = _ := h2
     have h1 : _ ≤ _ := h1
     exact rQ ho ht (u3 he) (kb3 hs.2.1) hs.2.2 hu (kQ hb) (by show _ ≤ (kc4 C.d _).length; rw [List.length_map]; exact h1) (by
      show List.take _ (kc4 C.d _) ++ _ ++ List.drop _ (kc4 C.d _) = kc4 C.d _
      rw [← List.map_take, ← List.map_drop, ← ke4, ← ke4, h2])
    ·exact OKR.none
   ·exact OKR.none
  ·exact OKR.none
 ·exact OKR.none
def k28 (P : Program) (h : H) (l : List (Nat × PV)) (g : EH) (nx : Nat) (b : Builtin) (args : List Operand) (ts : List TypeId) : R := match b, args, ts with
 | .len, [x], [st] => bo (q9 l x) fun u => eG (tK P st u) (mB P h st u)
 | .min, [x, y], _ => bo (q9 l x) fun u => bo (q9 l y) fun v => tE h u v
 | .max, [x, y], _ => bo (q9 l x) fun u => bo (q9 l y) fun v => tG h u v
 | .max, [x, y, z], _ => bo (q9 l x) fun u => bo (q9 l y) fun v => bo (q9 l z) fun w => l8 h u v w
 | .append, [x, y], [t, t'] => match kd5 t t' with
  | true => bo (q9 l x) fun u => bo (q9 l y) fun v => k29 P h g nx t u v
  | false => bo (q9 l x) fun u => bo (q9 l y) fun v => eG (wF P h g nx t t' u v) (eG (sN P h nx t t' u v) (k1t P h g nx t t' u v))
 | .copy, [x, y], [t, _] => bo (q9 l x) fun u => bo (q9 l y) fun v => k25 P h g t u v
 | .cap, [x], [st] => bo (q9 l x) (t3 P st)
 | .clear, [x], [st] => bo (q9 l x) (tY P h g st)
 | .unsafeSliceData, [x], [_] => bo (q9 l x) k1y
 | .unsafeString, [x, y], [pt, _] => bo (q9 l x) fun u => bo (q9 l y) fun v => k1v P h g pt u v
 | _, _, _ => none
def bZ : List E1 → Option (List Value)
 | [] => some []
 | .c (.d (.lit v)) :: es => match bZ es with
  | some vs => some (v :: vs)
  | none => none
 | _ => none
theorem dS {p : Nat → Prop} {ρ : Rh} {w : World} : ∀ {es : List E1} {vs av : List Value}, bZ es = some vs → All2 (RepE p ρ w) es av → av = vs
 | [], vs, av, h, ha => by
  cases h
  cases av with
  | nil => rfl
  | cons x xs => exact ha.elim
 | .c (.d (.lit v)) :: es, vs, av, h, ha => by
  unfold bZ at h
  split at h
  ·rename_i vs' h'
   cases h
   cases av with
   | nil => exact ha.elim
   | cons x xs =>
    have h1 := ha.1
    have h2 := dS h' ha.2
    rw [h2]
    have h3 : x = v := by
     cases h1 with
     | d h => cases h; rfl
    rw [h3]
  ·cases h
 | .c (.d (.sl ..)) :: _, _, _, h, _ => by cases h
 | .c (.ptr ..) :: _, _, _, h, _ => by cases h
 | .c (.own ..) :: _, _, _, h, _ => by cases h
 | .c (.fn ..) :: _, _, _, h, _ => by cases h
 | .c (.rp ..) :: _, _, _, h, _ => by cases h
 | .agg _ :: _, _, _, h, _ => by cases h
def mC (P : Program) (h : H) (f : FuncId) (us : Option (List E1)) : R := match h, us with
 | .ds [.lit v1], some es => match bZ es with
  | some vs => aV [v1.oneCell' = true, ∀ w, (callFunc f vs.toArray).run P w = .ok (.value v1) w] (LV v1)
  | none => none
 | .ds [.lit v1, .lit v2], some es => match bZ es with
  | some vs => aV [v1.oneCell' = true, v2.oneCell' = true, ∀ w, (callFunc f vs.toArray).run P w = .ok (.value (.tuple #[v1, v2])) w] (.tup [.c (.d (.lit v1)), .c (.d (.lit v2))])
  | none => none
 | _, _ => none
theorem eW {cx : Cx} {o : Oper} {l : List (Nat × PV)} {f : FuncId} {args : Array Operand} {ts : Array TypeId} {us : List E1} {vs : List Value} {v : Value} {ρ : Rh} {a : Act} {w : World} (ho : o.op = .call { callee := .value (.func f), args := args, argTypes := ts }) (hargs : EvA l args.toList us) (hl : bZ us = some vs) (hr : ∀ w, (callFunc f vs.toArray).run Try.prog w = .ok (.value v) w) (hs : uG cx.p ρ w l o.op.operands a) :
  (execOp a.eval o).run Try.prog w = .ok (.value v) w := by
 have hav := hargs.rep hs (by intro x hx; rw [ho]; simp only [Op.operands, Call.operands]; simp at hx ⊢; exact .inr hx)
 have e := dS hl hav
 have hr := hr w
 rw [← e] at hr
 unfold execOp
 simp only [ho, resolve, Act.eval, Deferred.ofValue, Sem.run_bind, Sem.run_pure, Result.andThen_ok, invoke, kc8, Array.empty_append, List.append_toArray, List.nil_append, kg0]
 rw [show args.map a.eval = (args.toList.map a.eval).toArray by apply Array.ext'; simp]
 simpa using hr
theorem oU {cx : Cx} {o : Oper} {l : List (Nat × PV)} {g : EH} {h : H} {f : FuncId} {args : Array Operand} {ts : Array TypeId} (ho : o.op = .call { callee := .value (.func f), args := args, argTypes := ts }) : OKR cx o l g (mC Try.prog h f (bG l args.toList)) := by
 unfold mC
 split
 ·rename_i es hes
  split
  ·rename_i vs hvs
   exact OKR.some fun hp => kG fun ρ a w hs => ⟨_, eW ho (u2 hes) hvs hp.2 hs, kY hp.1⟩
  ·exact OKR.none
 ·rename_i es hes
  split
  ·rename_i vs hvs
   exact OKR.some fun hp => kG fun ρ a w hs => ⟨_, eW ho (u2 hes) hvs hp.2.2 hs, ⟨_, rfl, .d (.lit _ hp.1), .d (.lit _ hp.2.1), trivial⟩⟩
  ·exact OKR.none
 ·exact OKR.none
theorem mD {cx : Cx} {o : Oper} {l : List (Nat × PV)} {g : EH} {h : H} {f : FuncId} {args : Array Operand} {ts : Array TypeId} (ho : o.op = .call { callee := .value (.func f), args := args, argTypes := ts }) : OKR cx o l g (dY Try.prog h f (bG l args.toList)) := by
 cases he : bG l args.toList with
 | none => unfold dY; split <;> first | (rename_i h; cases h) | exact OKR.none
 | some es => exact oW ho (u2 he)
def evC (P : Program) (Fn : FnT) (h : H) (l : List (Nat × PV)) (g : EH) (nx : Nat) (c : Call) : R := match c with
 | ⟨.builtin b, args, ts⟩ => k28 P h l g nx b args.toList ts.toList
 | ⟨.value (.func f), args, _⟩ => eG (dY P h f (bG l args.toList)) (eG (mC P h f (bG l args.toList)) (vT P Fn h g nx f (bG l args.toList)))
 | ⟨.value x, args, _⟩ => bo (q9 l x) fun u => match k1q u with
  | some (f, qs) => match Nat.blt f eN with
   | true => vT P Fn h g nx f (wD l args.toList qs)
   | false => vT P Fn h g nx (fnU f) (wC l args.toList qs)
  | none => none
 | _ => none
theorem k16 {cx : Cx} {o : Oper} {l : List (Nat × PV)} {g : List (Nat × Option Bk)} {xt : TypeId} {x : Operand} {n r : Int} (ho : o.op = .unOp .xor xt x) (hx : Ev l x (LV (.int .u32 n))) (hc : d4 .xor .u32 4294967295 n = r) : OpOK cx o (S l) (S g) ⟨LV (.int .u32 r), [], [], []⟩ :=
 kG fun ρ a w hs => ⟨.int .u32 r, by
  have e := kE (hx.rep hs (by rw [ho]; simp [Op.operands]))
  subst hc
  unfold execOp; simp only [ho, e]; rfl, kY rfl⟩
def sP (h : H) : PV → R
 | .e (.c (.d (.lit (.int .u32 n)))) => match h with
  | .i r => aV [d4 .xor .u32 4294967295 n = r] (LV (.int .u32 r))
  | _ => none
 | _ => none
theorem sO {cx : Cx} {o : Oper} {l : List (Nat × PV)} {g : EH} {h : H} {xt : TypeId} {x : Operand} (ho : o.op = .unOp .xor xt x) {u : PV} (hu : Ev l x u) : OKR cx o l g (sP h u) := by
 unfold sP
 split
 ·split
  ·refine OKR.some fun hp => ?_
   exact k16 ho hu hp
  ·exact OKR.none
 ·exact OKR.none
def nN (P : Program) (Fn : FnT) (h : H) (l : List (Nat × PV)) (g : EH) (nx : Nat) : Op → R
 | .move x => bo (q9 l x) pv
 | .assign x => bo (q9 l x) pv
 | .nilCheck x => bo (q9 l x) fun u => match u with
  | .e (.c (.ptr b off)) => pv (.e (.c (.ptr b off)))
  | _ => none
 | .unOp .not _ x => bo (q9 l x) (s7 h)
 | .unOp .neg _ x => bo (q9 l x) (tB h)
 | .unOp .xor _ x => bo (q9 l x) (sP h)
 | .pick c x y => bo (q9 l c) fun u => l7 h u (q9 l x) (q9 l y)
 | .binOp op xt x y _ => bo (q9 l x) fun u => bo (q9 l y) fun v => eG (s9 P op xt u v) (eG (tW P op xt u v) (eG (mI P op h xt u v) (t1 P op h u v)))
 | .convert s d x => bo (q9 l x) fun u => eG (sU P h g s d u) (eG (t5 P h nx s d u) (eG (l9 P g s d u) (eG (sR P g s d u) (mE P h s d u))))
 | .extract x i => bo (q9 l x) (tU i)
 | .fieldAddr t x i => bo (q9 l x) (k24 P t i)
 | .field t x i => bo (q9 l x) (tS P t i)
 | .load ty x => bo (q9 l x) (mA P h g ty)
 | .store ty x y => bo (q9 l x) fun u => bo (q9 l y) fun v => hE P h g ty u v
 | .alloc T => hN P nx T
 | .box T x => bo (q9 l x) (t7 nx T)
 | .build t ps => eG (hJ P l t ps) (dZ P l t ps)
 | .buildSlice t n ps => eG (wB P nx t n ps) (k27 P l nx t n ps)
 | .makeSlice t x y => bo (q9 l x) fun u => bo (q9 l y) fun v => k20 P h nx t u v
 | .indexAddr t x y => bo (q9 l x) fun u => bo (q9 l y) fun v => eG (tM P h t u v) (k22 P h t u v)
 | .index t x y => bo (q9 l x) fun u => bo (q9 l y) fun v => eG (tQ P h t u v) (tO P h t u v)
 | .slice t x lo hi mx => bo (q9 l x) fun u => eG (s5 P t lo hi mx u) <| eG (sX P h l g t lo hi mx u) (eG (k1w P h l t lo hi mx u) (sZ P h l t lo hi mx u))
 | .call c => evC P Fn h l g nx c
 | .makeFunc (.func f) first caps => match first.toList with
  | [] => k21 l f caps.toList
  | _ => match caps.toList with
   | [] => tI l f first.toList
   | _ => none
 | _ => none
section
variable {cx : Cx} {o : Oper} {l : List (Nat × PV)} {g : EH}
theorem vU {α : Type} {a : Array α} {l : List α} (h : a.toList = l) : a = l.toArray := by subst h; simp
theorem z3 {h : H} {nx : Nat} {b : Builtin} {args : Array Operand} {ts : Array TypeId} (ho : o.op = .call { callee := .builtin b, args := args, argTypes := ts }) : OKR cx o l g (k28 Try.prog h l g nx b args.toList ts.toList) := by
 unfold k28
 split
 ·rename_i h1 h2
  rw [vU h1, vU h2] at ho
  exact OKR.bo fun u hu => OKR.or (tJ ho hu) (oT ho hu)
 ·rename_i h1
  rw [vU h1] at ho
  exact OKR.bo fun u hu => OKR.bo fun v hv => tD ho hu hv
 ·rename_i h1
  rw [vU h1] at ho
  exact OKR.bo fun u hu => OKR.bo fun v hv => tF ho hu hv
 ·rename_i h1
  rw [vU h1] at ho
  exact OKR.bo fun u hu => OKR.bo fun v hv => OKR.bo fun w hw => oP ho hu hv hw
 ·rename_i h1 h2
  rw [vU h1, vU h2] at ho
  split
  ·rename_i ht
   have ht := kb3 ht
   subst ht
   exact OKR.bo fun u hu => OKR.bo fun v hv => z4 ho hu hv
  ·exact OKR.bo fun u hu => OKR.bo fun v hv => OKR.or (wE ho hu hv) (OKR.or (sM ho hu hv) (zO ho hu hv))
 ·rename_i h1 h2
  rw [vU h1, vU h2] at ho
  exact OKR.bo fun u hu => OKR.bo fun v hv => zZ ho hu hv
 ·rename_i h1 h2
  rw [vU h1, vU h2] at ho
  exact OKR.bo fun u hu => t2 ho hu
 ·rename_i h1 h2
  rw [vU h1, vU h2] at ho
  exact OKR.bo fun u hu => tX ho hu
 ·rename_i h1 h2
  rw [vU h1, vU h2] at ho
  exact OKR.bo fun u hu => zT ho hu
 ·rename_i h1 h2
  rw [vU h1, vU h2] at ho
  exact OKR.bo fun u hu => OKR.bo fun v hv => zP ho hu hv
 ·exact OKR.none
theorem jU {h : H} {nx : Nat} {op : Op} (ho : o.op = op) : OKR cx o l g (nN Try.prog Fun h l g nx op) := by
 unfold nN
 split
 ·exact OKR.bo fun u hu => OKR.some fun _ => xZ ho hu
 ·exact OKR.bo fun u hu => OKR.some fun _ => oF ho hu
 ·refine OKR.bo fun u hu => ?_
  split
  ·exact OKR.some fun _ => jC ho hu
  ·exact OKR.none
 ·exact OKR.bo fun u hu => s6 ho hu
 ·exact OKR.bo fun u hu => tA ho hu
 ·exact OKR.bo fun u hu => sO ho hu
 ·exact OKR.bo fun u hu => oO ho hu
 ·exact OKR.bo fun u hu => OKR.bo fun v hv => OKR.or (s8 ho hu hv) (OKR.or (tV ho hu hv) (OKR.or (o1 ho hu hv) (tZ ho hu hv)))
 ·exact OKR.bo fun u hu => OKR.or (sS ho hu) (OKR.or (t4 ho hu) (OKR.or (oQ ho hu) (OKR.or (sQ ho hu) (oX ho hu))))
 ·exact OKR.bo fun u hu => tT ho hu
 ·exact OKR.bo fun u hu => zY ho hu
 ·exact OKR.bo fun u hu => tR ho hu
 ·exact OKR.bo fun u hu => oS ho hu
 ·exact OKR.bo fun u hu => OKR.bo fun v hv => l6 ho hu hv
 ·exact mJ ho
 ·exact OKR.bo fun u hu => t6 ho hu
 ·exact OKR.or (mH ho) (jV ho)
 ·exact OKR.or (wA ho) (z2 ho)
 ·exact OKR.bo fun u hu => OKR.bo fun v hv => zV ho hu hv
 ·exact OKR.bo fun u hu => OKR.bo fun v hv => OKR.or (tL ho hu hv) (zX ho hu hv)
 ·exact OKR.bo fun u hu => OKR.bo fun v hv => OKR.or (tP ho hu hv) (tN ho hu hv)
 ·exact OKR.bo fun u hu => OKR.or (s0 ho hu) <| OKR.or (sW ho hu) (OKR.or (zQ ho hu) (sY ho hu))
 ·unfold evC
  split
  ·exact z3 ho
  ·exact OKR.or (mD ho) (OKR.or (oU ho) (oY ho))
  ·refine OKR.bo fun u hu => ?_
   split
   ·rename_i hf
    have := zM hf
    subst this
    split
    ·rename_i hlo; exact mF ho hu hlo
    ·rename_i hlo; exact mG ho hu hlo
   ·exact OKR.none
  ·exact OKR.none
 ·split
  ·rename_i h0; exact zW ho h0
  ·split
   ·rename_i h1; exact tH ho h1
   ·exact OKR.none
 ·exact OKR.none
theorem j7 {ds : List D} {T : TypeId} {n s nx : Nat} {wr : List (Nat × Option Bk)} {news foot : List Nat} {h0 : Hp} {τ : Nat → PV} (hnx : wr.lookup nx = none) (hl : ds.length = n * s) (h : OpOK cx o τ h0 ⟨.e (.c (.own nx 0 n s true)), wr ++ [(nx, some (T, ds.map .d))], news, foot⟩) :
  OpOK cx o τ h0 ⟨.e (.c (.d (.sl ds n))), wr ++ [(nx, none)], news, foot⟩ := by
 intro Q ρ a w hL hs hf hn hh hk hd K hK
 refine h Q ρ a w hL hs hf hn hh hk hd K ?_
 intro v w' ρ' g1 g2 g3 g4 g5
 have hx : ((wr ++ [(nx, some (T, ds.map C.d))]).lookup nx).getD (hL nx) = some (T, ds.map C.d) := by rw [qV, hnx]; simp
 have hx' : ((wr ++ [(nx, none)]).lookup nx).getD (hL nx) = none := by rw [qV, hnx]; simp
 have hne : ∀ x, x ≠ nx → ((wr ++ [(nx, none)]).lookup x).getD (hL x) = ((wr ++ [(nx, some (T, ds.map C.d))]).lookup x).getD (hL x) := by
  intro x hxn
  rw [qV, qV]
  simp only [kc1, show (x == nx) = false by simpa using hxn, List.lookup_nil]
 have hsub : ∀ x, ((wr ++ [(nx, none)]).lookup x).getD (hL x) ≠ none → x ≠ nx ∧ ((wr ++ [(nx, some (T, ds.map C.d))]).lookup x).getD (hL x) ≠ none := by
  intro x hq
  have : x ≠ nx := fun e => hq (by rw [e]; exact hx')
  exact ⟨this, by rw [← hne x this]; exact hq⟩
 have hsub2 : ∀ x T' cs, ((wr ++ [(nx, none)]).lookup x).getD (hL x) = some (T', cs) → x ≠ nx ∧ ((wr ++ [(nx, some (T, ds.map C.d))]).lookup x).getD (hL x) = some (T', cs) := by
  intro x T' cs hq
  have hq2 := hsub x (by rw [hq]; simp)
  exact ⟨hq2.1, by rw [← hne x hq2.1]; exact hq⟩
 obtain ⟨m, k1, k2⟩ := g3.row nx T _ hx
 rcases k2 with ⟨k2, k3⟩ | ⟨k2, ⟨vs, rest, r1, r2, r3⟩, k4⟩
 ·have hds : ds = [] := List.map_eq_nil_iff.1 k3
  subst hds
  refine hK v w' ρ' g1 g2 ⟨fun b T' cs hb => g3.row b T' cs (hsub2 b T' cs hb).2, fun b b' m m' hb hb' => g3.inj b b' m m' (hsub b hb).2 (hsub b' hb').2, fun b m hb => g3.zf b m (hsub b hb).2, g3.zm, g3.zl⟩ g4 ?_
  have g5' : RepC cx.p ρ' w' (.own nx 0 n s true) v := g5
  cases g5' with
  | own _ _ _ _ _ m2 cap hm hn' => rw [k1] at hm; cases hm; rw [k2] at hn'; cases hn'
  | ownn => exact .d (.nil none 0 (Nat.zero_le _) (fun _ => rfl))
 ·have hgo : Goes cx.p ρ' ⟨ρ'.f, fun k => ρ'.z k ∨ k = m.g⟩ w' w' := ⟨fun _ _ h => h, fun _ h => .inl h, Nat.le_refl _, fun _ _ _ => rfl⟩
  have hg1 : Goes cx.p ρ ⟨ρ'.f, fun k => ρ'.z k ∨ k = m.g⟩ w w' := ⟨g1.ext, fun k hz => .inl (g1.zext k hz), g1.size, g1.old⟩
  refine hK v w' ⟨ρ'.f, fun k => ρ'.z k ∨ k = m.g⟩ hg1 g2 ⟨?_, fun b b' m m' hb hb' => g3.inj b b' m m' (hsub b hb).2 (hsub b' hb').2, ?_, ?_, ?_⟩ g4 ?_
  ·intro b T' cs hb
   obtain ⟨m', p1, p2⟩ := g3.row b T' cs (hsub2 b T' cs hb).2
   exact ⟨m', p1, p2.imp id fun p => ⟨p.1, p.2.1.mono hgo rfl, p.2.2⟩⟩
  ·intro b m1 hb hm1 hn1 hz
   rcases hz with hz | hz
   ·exact g3.zf b m1 (hsub b hb).2 hm1 hn1 hz
   ·exact (hsub b hb).1 (g3.inj b nx m1 m (hsub b hb).2 (by rw [hx]; simp) hm1 k1 hn1 k2 hz)
  ·intro k hz
   rcases hz with hz | hz
   ·exact g3.zm k hz
   ·exact hz ▸ k4
  ·intro k hz
   rcases hz with hz | hz
   ·exact g3.zl k hz
   ·exact hz ▸ r1.lt
  ·have g5' : RepC cx.p ρ' w' (.own nx 0 n s true) v := g5
   cases g5' with
   | own _ _ _ _ _ m2 cap hm hn' h1 h2 h3 =>
    rw [k1] at hm; cases hm
    have hvl : vs.length = ds.length := by have := r3.len; simpa using this.symm
    refine .d (.sl ds vs m.g 0 n cap hvl ?_ ?_ (.inr (.inr rfl)) r1.lt h1 h2)
    ·intro i u hu
     rw [Nat.zero_add]
     exact BlkM.cell (vs := vs ++ rest) r1 i (by rw [List.getElem?_append_left (List.getElem?_eq_some_iff.1 hu).1]; exact hu)
    ·intro i d u hd' hu
     have := (r3.imp fun _ _ => RepC.mono hgo).get i (.d d) u (by rw [List.getElem?_map, hd']; rfl) hu
     cases this with
     | d h => exact h
   | ownn _ _ m2 hm hn' => rw [k1] at hm; cases hm; rw [k2] at hn'; cases hn'
def fzR : R → R
 | some (ps, ⟨.e (.c (.own b 0 n s true)), wr, news, foot⟩) => match wr with
  | [(b', some (T, .ds ds))] => match kd5 b' b with
   | true => some (ps ++ [ds.length = n * s], ⟨.e (.c (.d (.sl ds n))), [(b, none)], news, foot⟩)
   | false => none
  | [(b0, none), (b', some (T, .ds ds))] => match kd5 b' b, kd5 b b0 with
   | true, false => some (ps ++ [ds.length = n * s], ⟨.e (.c (.d (.sl ds n))), [(b0, none), (b, none)], news, foot⟩)
   | _, _ => none
  | _ => none
 | _ => none
theorem k1o {r : R} (h : OKR cx o l g r) : OKR cx o l g (fzR r) := by
 unfold fzR
 split
 ·rename_i ps b n s wr news foot
  split
  ·split
   ·rename_i hb
    refine OKR.some fun hp => ?_
    have hp := (kI _).1 hp
    have hl : _ = _ := hp _ (kb6 _ (ka4 ..))
    obtain rfl := kb3 hb
    exact j7 (wr := []) rfl hl (h _ _ rfl ((kI _).2 fun p hpp => hp p (kd0 _ hpp)))
   ·exact OKR.none
  ·split
   ·rename_i hb hb0
    refine OKR.some fun hp => ?_
    have hp := (kI _).1 hp
    have hl : _ = _ := hp _ (kb6 _ (ka4 ..))
    obtain rfl := kb3 hb
    refine j7 (wr := [(_, none)]) ?_ hl (h _ _ rfl ((kI _).2 fun p hpp => hp p (kd0 _ hpp)))
    have hne := Nat.ne_of_beq_eq_false hb0
    have e9 := beq_eq_false_iff_ne.2 hne
    rw [kc1, e9]; rfl
   ·exact OKR.none
  ·exact OKR.none
 ·exact OKR.none
def k1z (P : Program) (Fn : FnT) (h : H) (l : List (Nat × PV)) (g : EH) (nx : Nat) (op : Op) : R := match h with
 | .fz h' => fzR (nN P Fn h' l g nx op)
 | h => nN P Fn h l g nx op
theorem zU {h : H} {nx : Nat} {op : Op} (ho : o.op = op) : OKR cx o l g (k1z Try.prog Fun h l g nx op) := by
 unfold k1z
 split
 ·exact k1o (jU ho)
 ·exact jU ho
end
def stepG (ops : List Oper) (l : List (Nat × PV)) (o : Oper) : Option Bool := match o.guard with
 | none => some true
 | some (gi, b) => match ops[gi]? with
  | some og => match og.dst with
   | some dg => match l.lookup dg with
    | some (.e (.c (.d (.lit (.bool b'))))) => some (b' == b)
    | some (.tup []) => some false
    | _ => none
   | none => none
  | none => none
theorem dO {X : Type} [Inhabited X] {l : List (Nat × X)} {t : Nat} {u : X} (h : l.lookup t = some u) : S l t = u := (qL h).S
theorem n7 {cx : Cx} {ops : List Oper} {l : List (Nat × PV)} {g : List (Nat × Option Bk)} {o : Oper} {t : OT} (h : stepG ops l o = some true) (hok : OpOK cx o (S l) (S g) t) : StepO cx ops o l g t := by
 unfold stepG at h
 unfold StepO
 split at h
 ·rename_i hg; rw [hg]; exact hok
 ·rename_i gi b hg
  rw [hg]
  split at h
  ·rename_i og hog
   split at h
   ·rename_i dg hdg
    split at h
    ·rename_i b' hl
     refine ⟨dg, og, hog, hdg, .inl ⟨b', dO hl, ?_⟩⟩
     have : b' = b := by simpa using h
     rw [if_pos this]; exact hok
    ·cases h
    ·cases h
   ·cases h
  ·cases h
theorem pS {cx : Cx} {ops : List Oper} {l : List (Nat × PV)} {g : List (Nat × Option Bk)} {o : Oper} (h : stepG ops l o = some false) : StepO cx ops o l g ⟨.tup [], [], [], []⟩ := by
 unfold stepG at h
 unfold StepO
 split at h
 ·cases h
 ·rename_i gi b hg
  rw [hg]
  split at h
  ·rename_i og hog
   split at h
   ·rename_i dg hdg
    split at h
    ·rename_i b' hl
     refine ⟨dg, og, hog, hdg, .inl ⟨b', dO hl, ?_⟩⟩
     have : ¬ b' = b := by simpa using h
     rw [if_neg this]; exact ⟨rfl, rfl, rfl⟩
    ·rename_i hl
     exact ⟨dg, og, hog, hdg, .inr ⟨dO hl, rfl, rfl, rfl⟩⟩
    ·cases h
   ·cases h
  ·cases h
def dC (P : Program) (Fn : FnT) (ops : List Oper) : List Oper → List H → List (Nat × PV) → EH → Nat → Option (List Prop × List OTe × List (Nat × PV) × EH × Nat)
 | [], _, l, g, nx => some ([], [], l, g, nx)
 | o :: os, hs, l, g, nx => match stepG ops l o with
  | some true => match hs with
   | h :: hs => match k1z P Fn h l g nx o.op with
    | some (ps, t) => match dC P Fn ops os hs (aB o t.u ++ l) (t.wr ++ g) (nx + t.news.length) with
     | some (ps', ts, r) => some (ps ++ ps', t :: ts, r)
     | none => none
    | none => none
   | [] => none
  | some false => match dC P Fn ops os hs (aB o (.tup []) ++ l) g nx with
   | some (ps', ts, r) => some (ps', ⟨.tup [], [], [], []⟩ :: ts, r)
   | none => none
  | none => none
theorem bX {cx : Cx} {ops : List Oper} : ∀ {os : List Oper} {hs : List H} {l lf : List (Nat × PV)} {g gf : EH} {nx nf : Nat} {ps : List Prop} {ts : List OTe}, dC Try.prog Fun ops os hs l g nx = some (ps, ts, lf, gf, nf) → (∀ p ∈ ps, p) → Steps cx ops os (ts.map OTe.to) l (kC g) lf (kC gf)
 | [], _, _, _, _, _, _, _, _, _, h, _ => by cases h; exact .nil _ _
 | o :: os, hs, l, lf, g, gf, nx, nf, ps, ts, h, hp => by
  unfold dC at h
  split at h
  ·rename_i hg
   split at h
   ·split at h
    ·rename_i he
     split at h
     ·rename_i hr
      cases h
      rw [kd2]
      refine .cons (n7 hg (zU rfl _ _ he ((kI _).2 fun p h => hp p (kd0 _ h)))) ?_
      have := bX (cx := cx) hr (fun p h => hp p (kb6 _ h))
      rw [mU] at this
      exact this
     ·cases h
    ·cases h
   ·cases h
  ·rename_i hg
   split at h
   ·rename_i hr
    cases h
    rw [kd2]
    exact .cons (pS hg) (bX (cx := cx) hr hp)
   ·cases h
  ·cases h
def pT (lf : List (Nat × PV)) : List Nat → List (Nat × PV)
 | [] => []
 | t :: ts => match lf.lookup t with
  | some u => (t, u) :: pT lf ts
  | none => pT lf ts
theorem gA {lf : List (Nat × PV)} {t : Nat} {u : PV} : ∀ {ts : List Nat}, (pT lf ts).lookup t = some u → lf.lookup t = some u
 | [], h => by cases h
 | a :: ts, h => by
  unfold pT at h
  split at h
  ·rename_i v hv
   rw [kc1] at h
   split at h
   ·rename_i hb; simp at hb; subst hb; cases h; exact hv
   ·exact gA h
  ·exact gA h
def pU (gf : EH) : List Nat → EH
 | [] => []
 | t :: ts => match gf.lookup t with
  | some (some u) => (t, some u) :: pU gf ts
  | _ => pU gf ts
theorem gB {gf : EH} {t : Nat} {u : EBk} : ∀ {ts : List Nat}, (pU gf ts).lookup t = some (some u) → gf.lookup t = some (some u)
 | [], h => by cases h
 | a :: ts, h => by
  unfold pU at h
  split at h
  ·rename_i v hv
   rw [kc1] at h
   split at h
   ·rename_i hb; simp at hb; subst hb; cases h; exact hv
   ·exact gB h
  ·exact gB h
theorem Mod.weak {cx : Cx} {n nx : Nat} {l l' : List (Nat × PV)} {g g' : EH} (hl : ∀ t u, l'.lookup t = some u → l.lookup t = some u) (hg : ∀ t u, g'.lookup t = some (some u) → g.lookup t = some (some u)) {a : Act} {w : World} (h : Mod cx n l (kC g) nx a w) : Mod cx n l' (kC g') nx a w := by
 obtain ⟨ρ, h1, h2, h3, h4, h5, h6, h9⟩ := h
 have hgg : ∀ b x, S (kC g') b = some x → S (kC g) b = some x := by
  intro b x hx
  unfold Proofs.Ytkjmlililpgamaa.S at hx ⊢
  rw [aO] at hx ⊢
  cases hb : g'.lookup b with
  | none => rw [hb] at hx; cases hx
  | some o =>
   cases o with
   | none => rw [hb] at hx; cases hx
   | some v => rw [hg b v hb]; rw [hb] at hx; exact hx
 refine ⟨ρ, h1, ⟨fun b T cs hb => h2.row b T cs (hgg b _ hb), fun b b' m m' hb hb' => h2.inj b b' m m' ?_ ?_, fun b m hb => h2.zf b m ?_, h2.zm, h2.zl⟩, ?_, h4, h5, h6, h9⟩
 ·obtain ⟨x, hx⟩ := Option.ne_none_iff_exists'.1 hb; rw [hgg b x hx]; simp
 ·obtain ⟨x, hx⟩ := Option.ne_none_iff_exists'.1 hb'; rw [hgg b' x hx]; simp
 ·obtain ⟨x, hx⟩ := Option.ne_none_iff_exists'.1 hb; rw [hgg b x hx]; simp
 ·intro t
  unfold Proofs.Ytkjmlililpgamaa.S
  cases hb : l'.lookup t with
  | none => exact trivial
  | some u => have := h3 t; rw [dO (hl t u hb)] at this; exact this
def dB (P : Program) (Fn : FnT) (n : Nat) (ops : List Oper) (hs : List H) (l : List (Nat × PV)) (g : EH) (nx : Nat) (live kb : List Nat) : Option (Prop × List (Nat × PV) × EH × Nat) := match iA ops n with
 | true => match dC P Fn ops ops hs l g nx with
  | some (ps, ts, lf, gf, nf) => match bY ops (ts.map OTe.to) nx nf with
   | true => some (AllP ps, pT lf live, pU gf kb, nf)
   | false => none
  | none => none
 | false => none
theorem lD {cx : Cx} {n id nx nx' : Nat} {draw : Bool} {ops : List Oper} {Q : qS} {l l' : List (Nat × PV)} {g g' : EH} (hs : List H) (live kb : List Nat) {P : Prop} (h : dB Try.prog Fun n ops hs l g nx live kb = some (P, l', g', nx')) (hP : P) (hQ : Q .normal ⟨l', kC g', nx'⟩) : AW cx n (.region id ops.toArray draw) Q ⟨l, kC g, nx⟩ := by
 unfold dB at h
 split at h
 ·rename_i hd
  split at h
  ·rename_i hr
   split at h
   ·rename_i hc
    cases h
    intro a w hm
    exact eX (by kernel_rfl) hd (bX (cx := cx) hr ((kI _).1 hP)) hc (fun a' w' h => ⟨_, hQ, h.weak (fun t u => gA) (fun t u => gB)⟩) hm
   ·cases h
  ·cases h
 ·cases h
theorem iJ {cx : Cx} {n id nx nx' : Nat} {draw : Bool} {ops : List Oper} {Q : qS} {c : Code} {l l' : List (Nat × PV)} {g g' : EH} (hs : List H) (live kb : List Nat) {P : Prop} (h : dB Try.prog Fun n ops hs l g nx live kb = some (P, l', g', nx')) (hP : P) (hQ : AW cx n c Q ⟨l', kC g', nx'⟩) : AW cx n (.seq (.region id ops.toArray draw) c) Q ⟨l, kC g, nx⟩ :=
 AW.seq (lD hs live kb h hP hQ)
/-! what is the same -/
def eqB (σ : Nat → Nat) : BC → BC → Option (List Prop)
 | .ds x, .ds y => some [x = y]
 | .cs x, .cs y => eqL σ x y
 | _, _ => none
theorem k2g {σ : Nat → Nat} {v v' : BC} {ps : List Prop} (h : eqB σ v v' = some ps) (hp : ∀ p ∈ ps, p) : v.to.map (uS σ) = v'.to := by
 unfold eqB at h
 split at h
 ·cases h
  have e := hp (_ = _) (ka4 ..)
  subst e
  show kc4 _ (kc4 C.d _) = kc4 C.d _
  rw [kj1]; rfl
 ·exact mK h hp
 ·cases h
def sg (m : List (Nat × Nat)) (b : Nat) : Nat := match m.lookup b with
 | some c => c
 | none => b
def mW (σ : Nat → Nat) (nx2 : Nat) (l : List (Nat × PV)) : List (Nat × PV) → Option (List Prop)
 | [] => some []
 | (t, u) :: l2 => match l.lookup t, fC nx2 u with
  | some v, true => j2 (z5 σ u v) (mW σ nx2 l l2)
  | _, _ => none
theorem iX {σ : Nat → Nat} {nx2 : Nat} {l : List (Nat × PV)} : ∀ {l2 : List (Nat × PV)} {ps : List Prop}, mW σ nx2 l l2 = some ps → (∀ p ∈ ps, p) → RenS σ nx2 l l2
 | [], _, _, _ => trivial
 | (t, u) :: l2, _, h, hp => by
  unfold mW at h
  split at h
  ·rename_i h1 h2
   obtain ⟨p, q, e1, e2, e3, e4⟩ := v7 h hp
   exact ⟨⟨h2, _, qL h1, nP e1 e3⟩, iX e2 e4⟩
  ·cases h
def k3s (n : Nat) : BC → Bool
 | .ds _ => true
 | .cs l => l.all (vR n)
theorem x8 {n : Nat} {b : BC} (h : k3s n b = true) : b.to.all (vR n) = true := by
 cases b with
 | ds l => show (kc4 C.d l).all _ = true; rw [List.all_map]; exact List.all_eq_true.2 fun _ _ => rfl
 | cs l => exact h
def c8 (σ : Nat → Nat) (nx2 : Nat) (g : EH) : EH → Option (List Prop)
 | [] => some []
 | (b, some (T, bc)) :: g2 => match Nat.blt b nx2 && (k3s nx2 bc && g2.all fun y => !(σ y.1 == σ b)), g.lookup (σ b) with
  | true, some (some (T', bc')) => match kd5 T T' with
   | true => j2 (eqB σ bc bc') (c8 σ nx2 g g2)
   | false => none
  | _, _ => none
 | (b, none) :: g2 => match g2.all fun y => !(σ y.1 == σ b) with
  | true => c8 σ nx2 g g2
  | false => none
theorem RenG.gone {n0 : Nat} {σ : Nat → Nat} {g g2 : List (Nat × Option Bk)} {nx2 b : Nat} (h : RenG n0 σ g g2 nx2) (hi : (g2.all fun y => !(σ y.1 == σ b)) = true) : RenG n0 σ g ((b, none) :: g2) nx2 := by
 rw [List.all_eq_true] at hi
 refine ⟨?_, ?_, h.fix, h.low⟩
 ·intro x hx T' cs' he
  rcases List.mem_cons.1 hx with rfl | hx
  ·cases he
  ·exact h.blk x hx T' cs' he
 ·intro x hx y hy he
  rcases List.mem_cons.1 hx with rfl | hx
  ·rcases List.mem_cons.1 hy with rfl | hy
   ·rfl
   ·have := hi y hy; simp [he] at this
  ·rcases List.mem_cons.1 hy with rfl | hy
   ·have := hi x hx; simp [he] at this
   ·exact h.inj x hx y hy he
theorem f4 (p : Nat → Bool) : ∀ g : EH, ((kC g).all fun y => p y.1) = g.all fun y => p y.1
 | [] => rfl
 | x :: g => by show ((x.1, iU x.2) :: kC g).all _ = _; rw [ke9, ke9, f4 p g]
theorem aY {n0 : Nat} {σ : Nat → Nat} {nx2 : Nat} {g : EH} (hf : ∀ b, b < n0 → σ b = b) (hl : n0 ≤ nx2) : ∀ {g2 : EH} {ps : List Prop}, c8 σ nx2 g g2 = some ps → (∀ p ∈ ps, p) → RenG n0 σ (kC g) (kC g2) nx2
 | [], _, _, _ => .base hf hl
 | (b, some (T, bc)) :: g2, _, h, hp => by
  unfold c8 at h
  split at h
  ·rename_i h1 h2
   simp only [kb2] at h1
   obtain ⟨c1, c2, c3⟩ := h1
   split at h
   ·rename_i hT
    have hT := kb3 hT
    subst hT
    obtain ⟨p, q, e1, e2, e3, e4⟩ := v7 h hp
    exact .cons (aY hf hl e2 e4) c1 rfl (kQ h2) (k2g e1 e3) (x8 c2) (by rw [f4 (fun y => !(σ y == σ b))]; exact c3)
   ·cases h
  ·cases h
 | (b, none) :: g2, _, h, hp => by
  unfold c8 at h
  split at h
  ·rename_i h1
   exact (aY hf hl h hp).gone (by rw [f4 (fun y => !(σ y == σ b))]; exact h1)
  ·cases h
structure ES where
 l : List (Nat × PV)
 g : EH
 nx : Nat
def ES.st (s : ES) : St := ⟨s.l, kC s.g, s.nx⟩
def zN (n0 : Nat) (m : List (Nat × Nat)) : Bool := m.all fun x => Nat.ble n0 x.1
theorem g8 {n0 : Nat} : ∀ {m : List (Nat × Nat)}, zN n0 m = true → ∀ b, b < n0 → sg m b = b
 | [], _, _, _ => rfl
 | (k, c) :: m, h, b, hb => by
  unfold zN at h
  rw [ke9, kb2] at h
  have h1 : n0 ≤ k := ka3 h.1
  unfold sg
  rw [kc1, show (b == k) = false by simp; omega]
  exact g8 (m := m) h.2 b hb
def mX (n0 : Nat) (m : List (Nat × Nat)) (l : List (Nat × PV)) (g : EH) (s : ES) : Option Prop := match zN n0 m && Nat.ble n0 s.nx with
 | true => match j2 (mW (sg m) s.nx l s.l) (c8 (sg m) s.nx g s.g) with
  | some ps => some (AllP ps)
  | none => none
 | false => none
theorem iY {n0 : Nat} {m : List (Nat × Nat)} {l : List (Nat × PV)} {g : EH} {nx : Nat} {s : ES} {P : Prop} (h : mX n0 m l g s = some P) (hP : P) : w7 n0 ⟨l, kC g, nx⟩ s.st := by
 unfold mX at h
 split at h
 ·rename_i hc
  rw [kb2] at hc
  split at h
  ·rename_i hb
   cases h
   obtain ⟨p, q, e1, e2, e3, e4⟩ := v7 hb ((kI _).1 hP)
   exact ⟨sg m, iX e1 e3, aY (g8 hc.1) (ka3 hc.2) e2 e4⟩
  ·cases h
 ·cases h
def Rd {α : Type} (n0 : Nat) (I : α → ES) (dec : α → Prop) (s : St) : Prop := ∃ y, w7 n0 s (I y).st ∧ dec y
theorem kW {α : Type} {cx : Cx} {n nx : Nat} {c : Code} {Q : qS} {l : List (Nat × PV)} {g : EH} (n0 : Nat) (hn : cx.n0 = n0) (I : α → ES) (μ : α → Nat) (x0 : α) (m : List (Nat × Nat)) {P : Prop} (h0 : mX n0 m l g (I x0) = some P) (hP : P) (round : ∀ x, AW cx n c (c4 (Rd n0 I (fun y => μ y < μ x)) Q) (I x).st) : AW cx n (.loop c) Q ⟨l, kC g, nx⟩ :=
 AW.loop n0 hn (fun x => (I x).st) μ x0 (iY h0 hP) (fun x => (round x).mono fun e s' h => by
  cases e with
  | normal => exact h
  | _ => exact h)
theorem k8 {α : Type} {n0 nx : Nat} {I : α → ES} {dec : α → Prop} {l : List (Nat × PV)} {g : EH} (y : α) (m : List (Nat × Nat)) {P : Prop} (h : mX n0 m l g (I y) = some P) (hP : P) (hd : dec y) : Rd n0 I dec ⟨l, kC g, nx⟩ := ⟨y, iY h hP, hd⟩
/-! results -/
def k0x (P : Program) (l : List (Nat × PV)) (g : EH) : ResultVar → Option E1
 | .tmp t => match l.lookup t with
  | some (.e e) => some e
  | _ => none
 | .cell a ty => match l.lookup a, qE P ty with
  | some (.e (.c (.ptr b off))), some (false, 1) => match g.lookup b with
   | some (some (_, bc)) => match bc.to[off]? with
    | some c => some (.c c)
    | none => none
   | _ => none
  | some (.e (.c (.ptr b off))), some (true, n) => match g.lookup b with
   | some (some (_, bc)) => match kd5 ((bc.to.drop off).take n).length n with
    | true => some (.agg ((bc.to.drop off).take n))
    | false => none
   | _ => none
  | _, _ => none
theorem xM {l : List (Nat × PV)} {g : EH} {r : ResultVar} {e : E1} (h : k0x Try.prog l g r = some e) : ResE l (kC g) r e := by
 unfold k0x at h
 split at h
 ·split at h
  ·rename_i hl; cases h; exact .tmp (qL hl)
  ·cases h
 ·split at h
  ·rename_i hl ht
   split at h
   ·rename_i hb
    split at h
    ·rename_i hc; cases h; exact .cell (qL hl) ht (kQ hb) hc
    ·cases h
   ·cases h
  ·rename_i hl ht
   split at h
   ·rename_i hb
    split at h
    ·rename_i hc; cases h; exact .agg (qL hl) ht (kQ hb) rfl (kb3 hc)
    ·cases h
   ·cases h
  ·cases h
def xL (P : Program) (l : List (Nat × PV)) (g : EH) : List ResultVar → Option (List E1)
 | [] => some []
 | r :: rs => match k0x P l g r, xL P l g rs with
  | some e, some es => some (e :: es)
  | _, _ => none
theorem mZ {l : List (Nat × PV)} {g : EH} : ∀ {rs : List ResultVar} {es : List E1}, xL Try.prog l g rs = some es → ResL l (kC g) rs es
 | [], _, h => by cases h; exact .nil
 | r :: rs, _, h => by
  unfold xL at h
  split at h
  ·rename_i h1 h2; cases h; exact .cons (xM h1) (mZ h2)
  ·cases h
def k33 (P : Program) (n0 : Nat) (m : List (Nat × Nat)) (rs : List ResultVar) (l : List (Nat × PV)) (g : EH) (y : PV) (g1 : EH) (nx1 : Nat) : Option Prop := match xL P l g rs, zN n0 m && (Nat.ble n0 nx1 && fC nx1 y) with
 | some es, true => match j2 (z5 (sg m) y (k13 es)) (c8 (sg m) nx1 g g1) with
  | some ps => some (AllP ps)
  | none => none
 | _, _ => none
theorem kA {n0 nx nx1 : Nat} {e : Exit} (he : e = .normal ∨ e = .ret) {rs : List ResultVar} {l : List (Nat × PV)} {g g1 : EH} {y : PV} (m : List (Nat × Nat)) {P : Prop} (h : k33 Try.prog n0 m rs l g y g1 nx1 = some P) (hP : P) : EndP n0 rs y (kC g1) nx1 e ⟨l, kC g, nx⟩ := by
 unfold k33 at h
 split at h
 ·rename_i h1 hc
  simp only [kb2] at hc
  obtain ⟨c1, c2, c3⟩ := hc
  split at h
  ·rename_i hb
   cases h
   obtain ⟨p, q, e1, e2, e3, e4⟩ := v7 hb ((kI _).1 hP)
   exact ⟨he, _, sg m, mZ h1, nP e1 e3, c3, aY (g8 c1) (ka3 c2) e2 e4⟩
  ·cases h
 ·cases h
end Go.Proofs.Ytkjmlililpgamaa
