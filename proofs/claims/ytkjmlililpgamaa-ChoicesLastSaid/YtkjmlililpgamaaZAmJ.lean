/- A memory told by names: whole regions, loops and results that are computed. No statement is proved here. -/
import Derived.Test.YtkjmlililpgamaaZAmI
import Derived.Test.YtkjmlililpgamaaZAmL
import Derived.Test.YtkjmlililpgamaaZAmT
import Derived.Test.YtkjmlililpgamaaZAmX
import Derived.Test.YtkjmlililpgamaaZAmP
namespace Go.Proofs.Ytkjmlililpgamaa
open Go.ChangeShapes Go.WideShapes Go.ChangeAt Go.RowKit
open Bool renaming and_eq_true → kb1
open List renaming all_cons → ke7, length_append → ka4, length_drop → kc0, length_flatten → kj6, length_take → kb8, lookup_cons → kc2, map → kc3, map_append → ke1, map_cons → kd5, map_map → ki9, map_nil → kg0, map_replicate → kj8, map_toArray → ke0, mem_append_left → kc7, mem_append_right → kb4, mem_cons_self → ka7, replicate → kb0, sum_replicate_nat → ki6
open Nat renaming beq → kd4, eq_of_beq_eq_true → kb7, le_of_ble_eq_true → ka3
set_option linter.unusedVariables false
set_option linter.unusedSimpArgs false
abbrev FnT := FuncId → List E1 → List (Nat × Option Bk) → Nat → PV → List (Nat × Option Bk) → Nat → Prop
theorem aP (z : Array Value) : ∀ n : Nat, (Builtin.zeroCells z n).toList = (kb0 n z.toList).flatten
 | 0 => by simp [Builtin.zeroCells]
 | n + 1 => by
  have ih := aP z n
  unfold Builtin.zeroCells at ih ⊢
  rw [Array.toList_map, Array.toList_range] at ih ⊢
  rw [List.replicate_succ', List.flatten_append, ← ih, Nat.succ_mul, List.range_add, ke1, ki9]
  congr 1
  simp only [List.flatten_cons, List.flatten_nil, List.append_nil]
  apply List.ext_getElem (by simp)
  intro j h1 h2
  have hj : j < z.size := by simpa using h2
  have e : (n * z.size + j) % z.size = j := by rw [Nat.mul_comm, Nat.mul_add_mod]; exact Nat.mod_eq_of_lt hj
  simp [e, hj]
theorem jS (w : World) (t e ty : TypeId) (ad : Option Addr) (cap : Nat) (hu : Try.prog.underlying t = some (.slice e)) :
  (Builtin.clear_ #[t] ty #[.slice ad 0 cap]).run Try.prog w = .ok (.tuple #[]) w := by
 cases ad <;> simp [Builtin.clear_, run_underlying hu]
theorem jR (w : World) (t e ty : TypeId) (z : Value) (g o n cap s : Nat) (cur : Array Value) (T : TypeId) (fz : Nat × Nat) (hu : Try.prog.underlying t = some (.slice e)) (hz : (zeroValue e).run Try.prog w = .ok z w) (hs : z.cells.size = s) (h1 : z.cells.toList.all Value.oneCell' = true)
  (hg : w.heap[g]? = some (.cells cur T fz)) (hfz : Hm fz cur.size) (hfit : o + n * s ≤ cur.size) (hn : n ≠ 0) :
  (Builtin.clear_ #[t] ty #[.slice (some ⟨g, o, none⟩) n cap]).run Try.prog w = .ok (.tuple #[]) (w.setRow g (cur.toList.take o ++ (kb0 n z.cells.toList).flatten ++ cur.toList.drop (o + n * s)).toArray) := by
 have hl : ((kb0 n z.cells.toList).flatten).length = n * s := by
  rw [kj6, kj8, ki6, Array.length_toList, hs]
 have hst := qE Try.prog g o T fz (Builtin.zeroCells z.cells n).toList 0 cur w hg hfz (by rw [aP, hl]; omega) (by
  intro v hv
  rw [aP, List.mem_flatten] at hv
  obtain ⟨l, hl, hv⟩ := hv
  rw [(List.mem_replicate.1 hl).2] at hv
  exact List.all_eq_true.1 h1 v hv)
 rw [aP, hl] at hst
 simp only [Nat.add_zero] at hst
 obtain ⟨m, rfl⟩ : ∃ m, n = m + 1 := ⟨n - 1, by omega⟩
 simp [Builtin.clear_, run_underlying hu, hz, aP, hst]
theorem pF {cx : Cx} {o : Oper} {l : List (Nat × PV)} {g : List (Nat × Option Bk)} {t e : TypeId} {b off n s bs : Nat} {wh : Bool} {x : Operand} {T : TypeId} {z : Value} {cs cs' : List C} (ho : o.op = .call { callee := .builtin .clear, args := #[x], argTypes := #[t] }) (hu : Try.prog.underlying t = some (.slice e)) (hi : (Try.prog.info? e).map (fun i => (i.zero, i.size, i.bytes)) = some (some z, s, bs)) (hz : z.cells.size = s) (hz1 : z.cells.toList.all Value.oneCell' = true)
  (hx : Ev l x (.e (.c (.own b off n s wh)))) (hb : Look g b (some (T, cs))) (hfit : off + n * s ≤ cs.length) (hc : cs.take off ++ ((kb0 n (z.cells.toList.map D.lit)).flatten).map C.d ++ cs.drop (off + n * s) = cs') : OpOK cx o (S l) (S g) ⟨.tup [], [(b, some (T, cs'))], [], [b]⟩ := by
 intro Q ρ a w hL hs hf hnews hh hk hdf K hK
 have hrep := hx.rep hs (by rw [ho]; simp [Op.operands, Call.operands])
 have hb' : hL b = some (T, cs) := by rw [hf b (by simp), hb.S]
 obtain ⟨i, i2, i3, i4, i5⟩ := info_parts hi
 have hzv : (zeroValue e).run Try.prog w = .ok z w := by simp [zeroValue, typeInfo, i2, i3]
 by_cases h0 : n = 0
 ·subst h0
  obtain ⟨ad2, cap2, e1, r1, r2, r3⟩ := uN hrep
  have hr := jS w t e o.type ad2 cap2 hu
  have hcs : cs' = cs := by rw [← hc]; simp
  unfold Oper.wp execOp
  simp only [ho, resolve, invoke, builtin, Sem.run_bind, Sem.run_pure, Result.andThen_ok, ke0, kd5, kg0, e1, hr]
  refine hK _ w ρ (Goes.refl _ _ _) (fun _ _ h => h) ?_ hk ⟨[], rfl, trivial⟩
  have e : (fun x => (([(b, some (T, cs'))] : List (Nat × Option Bk)).lookup x).getD (hL x)) = hL := by
   funext x'
   by_cases hx' : x' = b
   ·subst hx'; simp [hcs, hb']
   ·simp [kc2, show (x' == b) = false by simpa using hx']
  rw [e]
  exact hh
 ·obtain ⟨mm, cap2, hm, hnl, e1, r1, r2, r3⟩ := uY (by omega) hrep
  obtain ⟨⟨vs, rest, ⟨fz, s1, sf⟩, s2, s3⟩, s4⟩ := hh.at hb' hm hnl
  have hul : ((kb0 n z.cells.toList).flatten).length = n * s := by
   rw [kj6, kj8, ki6, Array.length_toList, hz]
  have hcl : cs.length = vs.length := s3.len
  have hr := jR w t e o.type z mm.g off n cap2 s (vs ++ rest).toArray T fz hu hzv hz hz1 s1 (by rw [List.size_toArray]; exact sf) (by simp; omega) h0
  have e5 : (vs ++ rest).take off ++ (kb0 n z.cells.toList).flatten ++ (vs ++ rest).drop (off + n * s) = (vs.take off ++ (kb0 n z.cells.toList).flatten ++ vs.drop (off + n * s)) ++ rest := by
   rw [List.take_append_of_le_length (by omega), List.drop_append_of_le_length (by omega)]; simp only [List.append_assoc]
  have hB : (w.setRow mm.g ((vs.take off ++ (kb0 n z.cells.toList).flatten ++ vs.drop (off + n * s)) ++ rest).toArray).heap[mm.g]? = some (.cells ((vs.take off ++ (kb0 n z.cells.toList).flatten ++ vs.drop (off + n * s)) ++ rest).toArray T fz) := setRow_heap w mm.g (vs ++ rest).toArray _ T fz s1
  have hO : Only mm.g w (w.setRow mm.g ((vs.take off ++ (kb0 n z.cells.toList).flatten ++ vs.drop (off + n * s)) ++ rest).toArray) := ⟨rfl, rfl, rfl, by simp [World.setRow], fun k' _ hk => setRow_other w mm.g k' _ hk⟩
  have hgo : Goes cx.p ρ ρ w (w.setRow mm.g ((vs.take off ++ (kb0 n z.cells.toList).flatten ++ vs.drop (off + n * s)) ++ rest).toArray) := ⟨fun _ _ h => h, fun _ h => h, hO.size, fun k hp hlt => hO.block k hlt (fun e => hp.elim (fun hp => cx.pm k hp (e ▸ s4)) (fun hz => hh.zf b mm (by rw [hb']; simp) hm hnl (e ▸ hz)))⟩
  have hrow : Row cx.p ρ (w.setRow mm.g ((vs.take off ++ (kb0 n z.cells.toList).flatten ++ vs.drop (off + n * s)) ++ rest).toArray) mm T cs' := by
   have hll : ((vs.take off ++ (kb0 n z.cells.toList).flatten ++ vs.drop (off + n * s)) ++ rest).length = (vs ++ rest).length := by
    simp only [ka4, hul, kb8, kc0]; omega
   refine ⟨_, rest, ⟨fz, hB, by rw [hll]; exact sf⟩, ?_, ?_⟩
   ·rw [← s2]; simp only [ka4, hul, kb8, kc0]; omega
   ·rw [← hc]
    exact (All2.app (All2.app ((s3.take off).imp fun _ _ => RepC.mono hgo) (fN hz1 n)) ((s3.drop (off + n * s)).imp fun _ _ => RepC.mono hgo))
  obtain ⟨p1, p2, p3⟩ := HRep.write hh hk hb' hm hnl hO hrow
  unfold Oper.wp execOp
  simp only [List.toList_toArray, e5] at hr
  simp only [ho, resolve, invoke, builtin, Sem.run_bind, Sem.run_pure, Result.andThen_ok, ke0, kd5, kg0, e1, hr]
  exact hK _ _ ρ p1 (fun _ _ h => h) p2 p3 ⟨[], rfl, trivial⟩
def sM (P : Program) (h : H) (g : EH) (t : TypeId) : PV → R
 | .e (.c (.own b off n s _)) => match P.underlying t, h with
  | some (.slice e), .mk _ _ r => match lO P e, g.lookup b with
   | some (z, s', _), some (some (T, .ds l)) => match kd4 s' s && (kd4 z.cells.size s && z.cells.toList.all Value.oneCell') with
    | true => some ([off + n * s ≤ l.length, l.take off ++ (kb0 n (z.cells.toList.map D.lit)).flatten ++ l.drop (off + n * s) = r], ⟨.tup [], [(b, some (T, .ds r))], [], [b]⟩)
    | false => none
   | _, _ => none
  | _, _ => none
 | _ => none
theorem sL {cx : Cx} {o : Oper} {l : List (Nat × PV)} {g : EH} {h : H} {x : Operand} {t : TypeId} (ho : o.op = .call { callee := .builtin .clear, args := #[x], argTypes := #[t] }) {u : PV} (hu : Ev l x u) : OKR cx o l g (sM Try.prog h g t u) := by
 unfold sM
 split
 ·split
  ·rename_i ht
   split
   ·rename_i he hb
    split
    ·rename_i hs
     rw [kb1, kb1] at hs
     have h0 := kb7 hs.1
     subst h0
     refine OKR.some fun hp => ?_
     obtain ⟨h1, h2⟩ := hp
     have h2 : _ = _ := h2
     have h1 : _ ≤ _ := h1
     exact pF ho ht (y7 he) (kb7 hs.2.1) hs.2.2 hu (kX hb) (by show _ ≤ (kc3 C.d _).length; rw [List.length_map]; exact h1) (by
      show List.take _ (kc3 C.d _) ++ _ ++ List.drop _ (kc3 C.d _) = kc3 C.d _
      rw [← List.map_take, ← List.map_drop, ← ke1, ← ke1, h2])
    ·exact OKR.none
   ·exact OKR.none
  ·exact OKR.none
 ·exact OKR.none
def k16 (P : Program) (h : H) (l : List (Nat × PV)) (g : EH) (nx : Nat) (b : Builtin) (args : List Operand) (ts : List TypeId) : R := match b, args, ts with
 | .len, [x], [st] => bo (uA l x) fun u => dV (r9 P st u) (lF P h st u)
 | .min, [x, y], _ => bo (uA l x) fun u => bo (uA l y) fun v => rW h u v
 | .max, [x, y], _ => bo (uA l x) fun u => bo (uA l y) fun v => rZ h u v
 | .max, [x, y, z], _ => bo (uA l x) fun u => bo (uA l y) fun v => bo (uA l z) fun w => rY h u v w
 | .append, [x, y], [t, t'] => match kd4 t t' with
  | true => bo (uA l x) fun u => bo (uA l y) fun v => k17 P h g nx t u v
  | false => bo (uA l x) fun u => bo (uA l y) fun v => dV (zS P h g nx t t' u v) (dV (rD P h nx t t' u v) (k0t P h g nx t t' u v))
 | .copy, [x, y], [t, _] => bo (uA l x) fun u => bo (uA l y) fun v => k13 P h g t u v
 | .cap, [x], [st] => bo (uA l x) (sP P st)
 | .clear, [x], [st] => bo (uA l x) (sM P h g st)
 | .unsafeSliceData, [x], [_] => bo (uA l x) k2u
 | .unsafeString, [x, y], [pt, _] => bo (uA l x) fun u => bo (uA l y) fun v => k2t P h g pt u v
 | _, _, _ => none
def sG (P : Program) (h : H) (f : FuncId) (us : Option (List E1)) : R := none
theorem nP {cx : Cx} {o : Oper} {l : List (Nat × PV)} {g : EH} {h : H} {f : FuncId} {args : Array Operand} {ts : Array TypeId} (ho : o.op = .call { callee := .value (.func f), args := args, argTypes := ts }) : OKR cx o l g (sG Try.prog h f (bL l args.toList)) := OKR.none
theorem lG {cx : Cx} {o : Oper} {l : List (Nat × PV)} {g : EH} {h : H} {f : FuncId} {args : Array Operand} {ts : Array TypeId} (ho : o.op = .call { callee := .value (.func f), args := args, argTypes := ts }) : OKR cx o l g (sI Try.prog h f (bL l args.toList)) := OKR.none
def evC (P : Program) (Fn : FnT) (h : H) (l : List (Nat × PV)) (g : EH) (nx : Nat) (c : Call) : R := match c with
 | ⟨.builtin b, args, ts⟩ => k16 P h l g nx b args.toList ts.toList
 | ⟨.value (.func f), args, _⟩ => dV (sI P h f (bL l args.toList)) (dV (sG P h f (bL l args.toList)) (vN P Fn h g nx f (bL l args.toList)))
 | ⟨.value x, args, _⟩ => bo (uA l x) fun u => match k0q u with
  | some (f, qs) => match Nat.blt f d3 with
   | true => vN P Fn h g nx f (s5 l args.toList qs)
   | false => vN P Fn h g nx (zI f) (s0 l args.toList qs)
  | none => none
 | _ => none
theorem k07 {cx : Cx} {o : Oper} {l : List (Nat × PV)} {g : List (Nat × Option Bk)} {xt : TypeId} {x : Operand} {n r : Int} (ho : o.op = .unOp .xor xt x) (hx : Ev l x (LV (.int .u32 n))) (hc : dK .xor .u32 4294967295 n = r) : OpOK cx o (S l) (S g) ⟨LV (.int .u32 r), [], [], []⟩ :=
 kJ fun ρ a w hs => ⟨.int .u32 r, by
  have e := kG (hx.rep hs (by rw [ho]; simp [Op.operands]))
  subst hc
  unfold execOp; simp only [ho, e]; rfl, qC rfl⟩
def rF (h : H) : PV → R
 | .e (.c (.d (.lit (.int .u32 n)))) => match h with
  | .i r => dO [dK .xor .u32 4294967295 n = r] (LV (.int .u32 r))
  | _ => none
 | _ => none
theorem rE {cx : Cx} {o : Oper} {l : List (Nat × PV)} {g : EH} {h : H} {xt : TypeId} {x : Operand} (ho : o.op = .unOp .xor xt x) {u : PV} (hu : Ev l x u) : OKR cx o l g (rF h u) := by
 unfold rF
 split
 ·split
  ·refine OKR.some fun hp => ?_
   exact k07 ho hu hp
  ·exact OKR.none
 ·exact OKR.none
def mL (P : Program) (Fn : FnT) (h : H) (l : List (Nat × PV)) (g : EH) (nx : Nat) : Op → R
 | .move x => bo (uA l x) pv
 | .assign x => bo (uA l x) pv
 | .nilCheck x => bo (uA l x) fun u => match u with
  | .e (.c (.ptr b off)) => pv (.e (.c (.ptr b off)))
  | _ => none
 | .unOp .not _ x => bo (uA l x) (rO h)
 | .unOp .neg _ x => bo (uA l x) (rS h)
 | .unOp .xor _ x => bo (uA l x) (rF h)
 | .pick c x y => bo (uA l c) fun u => lC h u (uA l x) (uA l y)
 | .binOp op xt x y _ => bo (uA l x) fun u => bo (uA l y) fun v => dV (rQ P op xt u v) (dV (zQ P op xt u v) (dV (lL P op h xt u v) (zR P op h u v)))
 | .convert s d x => bo (uA l x) fun u => dV (rI P h g s d u) (dV (sR P h nx s d u) (dV (lD P g s d u) (dV (zL P g s d u) (lH P h s d u))))
 | .extract x i => bo (uA l x) (sJ i)
 | .fieldAddr t x i => bo (uA l x) (k12 P t i)
 | .field t x i => bo (uA l x) (sF P t i)
 | .load ty x => bo (uA l x) (lE P h g ty)
 | .store ty x y => bo (uA l x) fun u => bo (uA l y) fun v => gD P h g ty u v
 | .alloc T => gH P nx T
 | .box T x => bo (uA l x) (sU nx T)
 | .build t ps => dV (gG P l t ps) (iW P l t ps)
 | .buildSlice t n ps => dV (sZ P nx t n ps) (k15 P l nx t n ps)
 | .makeSlice t x y => bo (uA l x) fun u => bo (uA l y) fun v => k0y P h nx t u v
 | .indexAddr t x y => bo (uA l x) fun u => bo (uA l y) fun v => dV (zO P h t u v) (k10 P h t u v)
 | .index t x y => bo (uA l x) fun u => bo (uA l y) fun v => dV (zP P h t u v) (sC P h t u v)
 | .slice t x lo hi mx => bo (uA l x) fun u => dV (zN P t lo hi mx u) <| dV (rK P h l g t lo hi mx u) (dV (k0v P h l t lo hi mx u) (zM P h l t lo hi mx u))
 | .call c => evC P Fn h l g nx c
 | .makeFunc (.func f) first caps => match first.toList with
  | [] => k0z l f caps.toList
  | _ => match caps.toList with
   | [] => r6 l f first.toList
   | _ => none
 | _ => none
section
variable {cx : Cx} {o : Oper} {l : List (Nat × PV)} {g : EH}
theorem vO {α : Type} {a : Array α} {l : List α} (h : a.toList = l) : a = l.toArray := by subst h; simp
theorem xR {h : H} {nx : Nat} {b : Builtin} {args : Array Operand} {ts : Array TypeId} (ho : o.op = .call { callee := .builtin b, args := args, argTypes := ts }) : OKR cx o l g (k16 Try.prog h l g nx b args.toList ts.toList) := by
 unfold k16
 split
 ·rename_i h1 h2
  rw [vO h1, vO h2] at ho
  exact OKR.bo fun u hu => OKR.or (r8 ho hu) (nO ho hu)
 ·rename_i h1
  rw [vO h1] at ho
  exact OKR.bo fun u hu => OKR.bo fun v hv => rU ho hu hv
 ·rename_i h1
  rw [vO h1] at ho
  exact OKR.bo fun u hu => OKR.bo fun v hv => rX ho hu hv
 ·rename_i h1
  rw [vO h1] at ho
  exact OKR.bo fun u hu => OKR.bo fun v hv => OKR.bo fun w hw => nL ho hu hv hw
 ·rename_i h1 h2
  rw [vO h1, vO h2] at ho
  split
  ·rename_i ht
   have ht := kb7 ht
   subst ht
   exact OKR.bo fun u hu => OKR.bo fun v hv => xS ho hu hv
  ·exact OKR.bo fun u hu => OKR.bo fun v hv => OKR.or (s6 ho hu hv) (OKR.or (rC ho hu hv) (xD ho hu hv))
 ·rename_i h1 h2
  rw [vO h1, vO h2] at ho
  exact OKR.bo fun u hu => OKR.bo fun v hv => xO ho hu hv
 ·rename_i h1 h2
  rw [vO h1, vO h2] at ho
  exact OKR.bo fun u hu => sO ho hu
 ·rename_i h1 h2
  rw [vO h1, vO h2] at ho
  exact OKR.bo fun u hu => sL ho hu
 ·rename_i h1 h2
  rw [vO h1, vO h2] at ho
  exact OKR.bo fun u hu => xI ho hu
 ·rename_i h1 h2
  rw [vO h1, vO h2] at ho
  exact OKR.bo fun u hu => OKR.bo fun v hv => xE ho hu hv
 ·exact OKR.none
theorem iT {h : H} {nx : Nat} {op : Op} (ho : o.op = op) : OKR cx o l g (mL Try.prog Fun h l g nx op) := by
 unfold mL
 split
 ·exact OKR.bo fun u hu => OKR.some fun _ => wM ho hu
 ·exact OKR.bo fun u hu => OKR.some fun _ => nC ho hu
 ·refine OKR.bo fun u hu => ?_
  split
  ·exact OKR.some fun _ => iA ho hu
  ·exact OKR.none
 ·exact OKR.bo fun u hu => rN ho hu
 ·exact OKR.bo fun u hu => rR ho hu
 ·exact OKR.bo fun u hu => rE ho hu
 ·exact OKR.bo fun u hu => nK ho hu
 ·exact OKR.bo fun u hu => OKR.bo fun v hv => OKR.or (rP ho hu hv) (OKR.or (sK ho hu hv) (OKR.or (nT ho hu hv) (sN ho hu hv)))
 ·exact OKR.bo fun u hu => OKR.or (rH ho hu) (OKR.or (sQ ho hu) (OKR.or (nM ho hu) (OKR.or (rG ho hu) (nQ ho hu))))
 ·exact OKR.bo fun u hu => sH ho hu
 ·exact OKR.bo fun u hu => xN ho hu
 ·exact OKR.bo fun u hu => sE ho hu
 ·exact OKR.bo fun u hu => nN ho hu
 ·exact OKR.bo fun u hu => OKR.bo fun v hv => lB ho hu hv
 ·exact lM ho
 ·exact OKR.bo fun u hu => sS ho hu
 ·exact OKR.or (lK ho) (iU ho)
 ·exact OKR.or (sY ho) (xQ ho)
 ·exact OKR.bo fun u hu => OKR.bo fun v hv => xK ho hu hv
 ·exact OKR.bo fun u hu => OKR.bo fun v hv => OKR.or (sA ho hu hv) (xM ho hu hv)
 ·exact OKR.bo fun u hu => OKR.bo fun v hv => OKR.or (sD ho hu hv) (sB ho hu hv)
 ·exact OKR.bo fun u hu => OKR.or (rM ho hu) <| OKR.or (rJ ho hu) (OKR.or (xF ho hu) (rL ho hu))
 ·unfold evC
  split
  ·exact xR ho
  ·exact OKR.or (lG ho) (OKR.or (nP ho) (nR ho))
  ·refine OKR.bo fun u hu => ?_
   split
   ·rename_i hf
    have := xB hf
    subst this
    split
    ·rename_i hlo; exact lI ho hu hlo
    ·rename_i hlo; exact lJ ho hu hlo
   ·exact OKR.none
  ·exact OKR.none
 ·split
  ·rename_i h0; exact xL ho h0
  ·split
   ·rename_i h1; exact r5 ho h1
   ·exact OKR.none
 ·exact OKR.none
theorem jD {ds : List D} {T : TypeId} {n s nx : Nat} {wr : List (Nat × Option Bk)} {news foot : List Nat} {h0 : Hp} {τ : Nat → PV} (hnx : wr.lookup nx = none) (hl : ds.length = n * s) (h : OpOK cx o τ h0 ⟨.e (.c (.own nx 0 n s true)), wr ++ [(nx, some (T, ds.map .d))], news, foot⟩) :
  OpOK cx o τ h0 ⟨.e (.c (.d (.sl ds n))), wr ++ [(nx, none)], news, foot⟩ := by
 intro Q ρ a w hL hs hf hn hh hk hd K hK
 refine h Q ρ a w hL hs hf hn hh hk hd K ?_
 intro v w' ρ' g1 g2 g3 g4 g5
 have hx : ((wr ++ [(nx, some (T, ds.map C.d))]).lookup nx).getD (hL nx) = some (T, ds.map C.d) := by rw [qU, hnx]; simp
 have hx' : ((wr ++ [(nx, none)]).lookup nx).getD (hL nx) = none := by rw [qU, hnx]; simp
 have hne : ∀ x, x ≠ nx → ((wr ++ [(nx, none)]).lookup x).getD (hL x) = ((wr ++ [(nx, some (T, ds.map C.d))]).lookup x).getD (hL x) := by
  intro x hxn
  rw [qU, qU]
  simp only [kc2, show (x == nx) = false by simpa using hxn, List.lookup_nil]
 have hsub : ∀ x, ((wr ++ [(nx, none)]).lookup x).getD (hL x) ≠ none → x ≠ nx ∧ ((wr ++ [(nx, some (T, ds.map C.d))]).lookup x).getD (hL x) ≠ none := by
  intro x hq
  have : x ≠ nx := fun e => hq (by rw [e]; exact hx')
  exact ⟨this, by rw [← hne x this]; exact hq⟩
 have hsub2 : ∀ x T' cs, ((wr ++ [(nx, none)]).lookup x).getD (hL x) = some (T', cs) → x ≠ nx ∧ ((wr ++ [(nx, some (T, ds.map C.d))]).lookup x).getD (hL x) = some (T', cs) := by
  intro x T' cs hq
  have hq2 := hsub x (by rw [hq]; simp)
  exact ⟨hq2.1, by rw [← hne x hq2.1]; exact hq⟩
 obtain ⟨m, k1, k2⟩ := g3.row nx T _ hx
 rcases k2 with ⟨k2, k3⟩ | ⟨k2, ⟨vs, rest, r1, r2, r3⟩, k4⟩
 ·have hds : ds = [] := List.map_eq_nil_iff.1 k3
  subst hds
  refine hK v w' ρ' g1 g2 ⟨fun b T' cs hb => g3.row b T' cs (hsub2 b T' cs hb).2, fun b b' m m' hb hb' => g3.inj b b' m m' (hsub b hb).2 (hsub b' hb').2, fun b m hb => g3.zf b m (hsub b hb).2, g3.zm, g3.zl⟩ g4 ?_
  have g5' : RepC cx.p ρ' w' (.own nx 0 n s true) v := g5
  cases g5' with
  | own _ _ _ _ _ m2 cap hm hn' => rw [k1] at hm; cases hm; rw [k2] at hn'; cases hn'
  | ownn => exact .d (.nil none 0 (Nat.zero_le _) (fun _ => rfl))
 ·have hgo : Goes cx.p ρ' ⟨ρ'.f, fun k => ρ'.z k ∨ k = m.g⟩ w' w' := ⟨fun _ _ h => h, fun _ h => .inl h, Nat.le_refl _, fun _ _ _ => rfl⟩
  have hg1 : Goes cx.p ρ ⟨ρ'.f, fun k => ρ'.z k ∨ k = m.g⟩ w w' := ⟨g1.ext, fun k hz => .inl (g1.zext k hz), g1.size, g1.old⟩
  refine hK v w' ⟨ρ'.f, fun k => ρ'.z k ∨ k = m.g⟩ hg1 g2 ⟨?_, fun b b' m m' hb hb' => g3.inj b b' m m' (hsub b hb).2 (hsub b' hb').2, ?_, ?_, ?_⟩ g4 ?_
  ·intro b T' cs hb
   obtain ⟨m', p1, p2⟩ := g3.row b T' cs (hsub2 b T' cs hb).2
   exact ⟨m', p1, p2.imp id fun p => ⟨p.1, p.2.1.mono hgo rfl, p.2.2⟩⟩
  ·intro b m1 hb hm1 hn1 hz
   rcases hz with hz | hz
   ·exact g3.zf b m1 (hsub b hb).2 hm1 hn1 hz
   ·exact (hsub b hb).1 (g3.inj b nx m1 m (hsub b hb).2 (by rw [hx]; simp) hm1 k1 hn1 k2 hz)
  ·intro k hz
   rcases hz with hz | hz
   ·exact g3.zm k hz
   ·exact hz ▸ k4
  ·intro k hz
   rcases hz with hz | hz
   ·exact g3.zl k hz
   ·exact hz ▸ r1.lt
  ·have g5' : RepC cx.p ρ' w' (.own nx 0 n s true) v := g5
   cases g5' with
   | own _ _ _ _ _ m2 cap hm hn' h1 h2 h3 =>
    rw [k1] at hm; cases hm
    have hvl : vs.length = ds.length := by have := r3.len; simpa using this.symm
    refine .d (.sl ds vs m.g 0 n cap hvl ?_ ?_ (.inr (.inr rfl)) r1.lt h1 h2)
    ·intro i u hu
     rw [Nat.zero_add]
     exact BlkM.cell (vs := vs ++ rest) r1 i (by rw [List.getElem?_append_left (List.getElem?_eq_some_iff.1 hu).1]; exact hu)
    ·intro i d u hd' hu
     have := (r3.imp fun _ _ => RepC.mono hgo).get i (.d d) u (by rw [List.getElem?_map, hd']; rfl) hu
     cases this with
     | d h => exact h
   | ownn _ _ m2 hm hn' => rw [k1] at hm; cases hm; rw [k2] at hn'; cases hn'
def fzR : R → R
 | some (ps, ⟨.e (.c (.own b 0 n s true)), wr, news, foot⟩) => match wr with
  | [(b', some (T, .ds ds))] => match kd4 b' b with
   | true => some (ps ++ [ds.length = n * s], ⟨.e (.c (.d (.sl ds n))), [(b, none)], news, foot⟩)
   | false => none
  | [(b0, none), (b', some (T, .ds ds))] => match kd4 b' b, kd4 b b0 with
   | true, false => some (ps ++ [ds.length = n * s], ⟨.e (.c (.d (.sl ds n))), [(b0, none), (b, none)], news, foot⟩)
   | _, _ => none
  | _ => none
 | _ => none
theorem k0o {r : R} (h : OKR cx o l g r) : OKR cx o l g (fzR r) := by
 unfold fzR
 split
 ·rename_i ps b n s wr news foot
  split
  ·split
   ·rename_i hb
    refine OKR.some fun hp => ?_
    have hp := (kN _).1 hp
    have hl : _ = _ := hp _ (kb4 _ (ka7 ..))
    obtain rfl := kb7 hb
    exact jD (wr := []) rfl hl (h _ _ rfl ((kN _).2 fun p hpp => hp p (kc7 _ hpp)))
   ·exact OKR.none
  ·split
   ·rename_i hb hb0
    refine OKR.some fun hp => ?_
    have hp := (kN _).1 hp
    have hl : _ = _ := hp _ (kb4 _ (ka7 ..))
    obtain rfl := kb7 hb
    refine jD (wr := [(_, none)]) ?_ hl (h _ _ rfl ((kN _).2 fun p hpp => hp p (kc7 _ hpp)))
    have hne := Nat.ne_of_beq_eq_false hb0
    have e9 := beq_eq_false_iff_ne.2 hne
    rw [kc2, e9]; rfl
   ·exact OKR.none
  ·exact OKR.none
 ·exact OKR.none
def k0x (P : Program) (Fn : FnT) (h : H) (l : List (Nat × PV)) (g : EH) (nx : Nat) (op : Op) : R := match h with
 | .fz h' => fzR (mL P Fn h' l g nx op)
 | h => mL P Fn h l g nx op
theorem xJ {h : H} {nx : Nat} {op : Op} (ho : o.op = op) : OKR cx o l g (k0x Try.prog Fun h l g nx op) := by
 unfold k0x
 split
 ·exact k0o (iT ho)
 ·exact iT ho
end
def stepG (ops : List Oper) (l : List (Nat × PV)) (o : Oper) : Option Bool := match o.guard with
 | none => some true
 | some (gi, b) => match ops[gi]? with
  | some og => match og.dst with
   | some dg => match l.lookup dg with
    | some (.e (.c (.d (.lit (.bool b'))))) => some (b' == b)
    | some (.tup []) => some false
    | _ => none
   | none => none
  | none => none
theorem c8 {X : Type} [Inhabited X] {l : List (Nat × X)} {t : Nat} {u : X} (h : l.lookup t = some u) : S l t = u := (qJ h).S
theorem m5 {cx : Cx} {ops : List Oper} {l : List (Nat × PV)} {g : List (Nat × Option Bk)} {o : Oper} {t : OT} (h : stepG ops l o = some true) (hok : OpOK cx o (S l) (S g) t) : StepO cx ops o l g t := by
 unfold stepG at h
 unfold StepO
 split at h
 ·rename_i hg; rw [hg]; exact hok
 ·rename_i gi b hg
  rw [hg]
  split at h
  ·rename_i og hog
   split at h
   ·rename_i dg hdg
    split at h
    ·rename_i b' hl
     refine ⟨dg, og, hog, hdg, .inl ⟨b', c8 hl, ?_⟩⟩
     have : b' = b := by simpa using h
     rw [if_pos this]; exact hok
    ·cases h
    ·cases h
   ·cases h
  ·cases h
theorem oP {cx : Cx} {ops : List Oper} {l : List (Nat × PV)} {g : List (Nat × Option Bk)} {o : Oper} (h : stepG ops l o = some false) : StepO cx ops o l g ⟨.tup [], [], [], []⟩ := by
 unfold stepG at h
 unfold StepO
 split at h
 ·cases h
 ·rename_i gi b hg
  rw [hg]
  split at h
  ·rename_i og hog
   split at h
   ·rename_i dg hdg
    split at h
    ·rename_i b' hl
     refine ⟨dg, og, hog, hdg, .inl ⟨b', c8 hl, ?_⟩⟩
     have : ¬ b' = b := by simpa using h
     rw [if_neg this]; exact ⟨rfl, rfl, rfl⟩
    ·rename_i hl
     exact ⟨dg, og, hog, hdg, .inr ⟨c8 hl, rfl, rfl, rfl⟩⟩
    ·cases h
   ·cases h
  ·cases h
def cT (P : Program) (Fn : FnT) (ops : List Oper) : List Oper → List H → List (Nat × PV) → EH → Nat → Option (List Prop × List OTe × List (Nat × PV) × EH × Nat)
 | [], _, l, g, nx => some ([], [], l, g, nx)
 | o :: os, hs, l, g, nx => match stepG ops l o with
  | some true => match hs with
   | h :: hs => match k0x P Fn h l g nx o.op with
    | some (ps, t) => match cT P Fn ops os hs (v6 o t.u ++ l) (t.wr ++ g) (nx + t.news.length) with
     | some (ps', ts, r) => some (ps ++ ps', t :: ts, r)
     | none => none
    | none => none
   | [] => none
  | some false => match cT P Fn ops os hs (v6 o (.tup []) ++ l) g nx with
   | some (ps', ts, r) => some (ps', ⟨.tup [], [], [], []⟩ :: ts, r)
   | none => none
  | none => none
theorem bG {cx : Cx} {ops : List Oper} : ∀ {os : List Oper} {hs : List H} {l lf : List (Nat × PV)} {g gf : EH} {nx nf : Nat} {ps : List Prop} {ts : List OTe}, cT Try.prog Fun ops os hs l g nx = some (ps, ts, lf, gf, nf) → (∀ p ∈ ps, p) → Steps cx ops os (ts.map OTe.to) l (kC g) lf (kC gf)
 | [], _, _, _, _, _, _, _, _, _, h, _ => by cases h; exact .nil _ _
 | o :: os, hs, l, lf, g, gf, nx, nf, ps, ts, h, hp => by
  unfold cT at h
  split at h
  ·rename_i hg
   split at h
   ·split at h
    ·rename_i he
     split at h
     ·rename_i hr
      cases h
      rw [kd5]
      refine .cons (m5 hg (xJ rfl _ _ he ((kN _).2 fun p h => hp p (kc7 _ h)))) ?_
      have := bG (cx := cx) hr (fun p h => hp p (kb4 _ h))
      rw [lY] at this
      exact this
     ·cases h
    ·cases h
   ·cases h
  ·rename_i hg
   split at h
   ·rename_i hr
    cases h
    rw [kd5]
    exact .cons (oP hg) (bG (cx := cx) hr hp)
   ·cases h
  ·cases h
def oQ (lf : List (Nat × PV)) : List Nat → List (Nat × PV)
 | [] => []
 | t :: ts => match lf.lookup t with
  | some u => (t, u) :: oQ lf ts
  | none => oQ lf ts
theorem fI {lf : List (Nat × PV)} {t : Nat} {u : PV} : ∀ {ts : List Nat}, (oQ lf ts).lookup t = some u → lf.lookup t = some u
 | [], h => by cases h
 | a :: ts, h => by
  unfold oQ at h
  split at h
  ·rename_i v hv
   rw [kc2] at h
   split at h
   ·rename_i hb; simp at hb; subst hb; cases h; exact hv
   ·exact fI h
  ·exact fI h
def oR (gf : EH) : List Nat → EH
 | [] => []
 | t :: ts => match gf.lookup t with
  | some (some u) => (t, some u) :: oR gf ts
  | _ => oR gf ts
theorem fJ {gf : EH} {t : Nat} {u : EBk} : ∀ {ts : List Nat}, (oR gf ts).lookup t = some (some u) → gf.lookup t = some (some u)
 | [], h => by cases h
 | a :: ts, h => by
  unfold oR at h
  split at h
  ·rename_i v hv
   rw [kc2] at h
   split at h
   ·rename_i hb; simp at hb; subst hb; cases h; exact hv
   ·exact fJ h
  ·exact fJ h
theorem Mod.weak {cx : Cx} {n nx : Nat} {l l' : List (Nat × PV)} {g g' : EH} (hl : ∀ t u, l'.lookup t = some u → l.lookup t = some u) (hg : ∀ t u, g'.lookup t = some (some u) → g.lookup t = some (some u)) {a : Act} {w : World} (h : Mod cx n l (kC g) nx a w) : Mod cx n l' (kC g') nx a w := by
 obtain ⟨ρ, h1, h2, h3, h4, h5, h6, h9⟩ := h
 have hgg : ∀ b x, S (kC g') b = some x → S (kC g) b = some x := by
  intro b x hx
  unfold Proofs.Ytkjmlililpgamaa.S at hx ⊢
  rw [aJ] at hx ⊢
  cases hb : g'.lookup b with
  | none => rw [hb] at hx; cases hx
  | some o =>
   cases o with
   | none => rw [hb] at hx; cases hx
   | some v => rw [hg b v hb]; rw [hb] at hx; exact hx
 refine ⟨ρ, h1, ⟨fun b T cs hb => h2.row b T cs (hgg b _ hb), fun b b' m m' hb hb' => h2.inj b b' m m' ?_ ?_, fun b m hb => h2.zf b m ?_, h2.zm, h2.zl⟩, ?_, h4, h5, h6, h9⟩
 ·obtain ⟨x, hx⟩ := Option.ne_none_iff_exists'.1 hb; rw [hgg b x hx]; simp
 ·obtain ⟨x, hx⟩ := Option.ne_none_iff_exists'.1 hb'; rw [hgg b' x hx]; simp
 ·obtain ⟨x, hx⟩ := Option.ne_none_iff_exists'.1 hb; rw [hgg b x hx]; simp
 ·intro t
  unfold Proofs.Ytkjmlililpgamaa.S
  cases hb : l'.lookup t with
  | none => exact trivial
  | some u => have := h3 t; rw [c8 (hl t u hb)] at this; exact this
def cS (P : Program) (Fn : FnT) (n : Nat) (ops : List Oper) (hs : List H) (l : List (Nat × PV)) (g : EH) (nx : Nat) (live kb : List Nat) : Option (Prop × List (Nat × PV) × EH × Nat) := match gK ops n with
 | true => match cT P Fn ops ops hs l g nx with
  | some (ps, ts, lf, gf, nf) => match bH ops (ts.map OTe.to) nx nf with
   | true => some (AllP ps, oQ lf live, oR gf kb, nf)
   | false => none
  | none => none
 | false => none
theorem jJ {cx : Cx} {n id nx nx' : Nat} {draw : Bool} {ops : List Oper} {Q : qR} {l l' : List (Nat × PV)} {g g' : EH} (hs : List H) (live kb : List Nat) {P : Prop} (h : cS Try.prog Fun n ops hs l g nx live kb = some (P, l', g', nx')) (hP : P) (hQ : Q .normal ⟨l', kC g', nx'⟩) : AW cx n (.region id ops.toArray draw) Q ⟨l, kC g, nx⟩ := by
 unfold cS at h
 split at h
 ·rename_i hd
  split at h
  ·rename_i hr
   split at h
   ·rename_i hc
    cases h
    intro a w hm
    exact eB (by kernel_rfl) hd (bG (cx := cx) hr ((kN _).1 hP)) hc (fun a' w' h => ⟨_, hQ, h.weak (fun t u => fI) (fun t u => fJ)⟩) hm
   ·cases h
  ·cases h
 ·cases h
theorem gQ {cx : Cx} {n id nx nx' : Nat} {draw : Bool} {ops : List Oper} {Q : qR} {c : Code} {l l' : List (Nat × PV)} {g g' : EH} (hs : List H) (live kb : List Nat) {P : Prop} (h : cS Try.prog Fun n ops hs l g nx live kb = some (P, l', g', nx')) (hP : P) (hQ : AW cx n c Q ⟨l', kC g', nx'⟩) : AW cx n (.seq (.region id ops.toArray draw) c) Q ⟨l, kC g, nx⟩ :=
 AW.seq (jJ hs live kb h hP hQ)
/-! what is the same -/
def eqB (σ : Nat → Nat) : BC → BC → Option (List Prop)
 | .ds x, .ds y => some [x = y]
 | .cs x, .cs y => eqL σ x y
 | _, _ => none
theorem k1d {σ : Nat → Nat} {v v' : BC} {ps : List Prop} (h : eqB σ v v' = some ps) (hp : ∀ p ∈ ps, p) : v.to.map (uO σ) = v'.to := by
 unfold eqB at h
 split at h
 ·cases h
  have e := hp (_ = _) (ka7 ..)
  subst e
  show kc3 _ (kc3 C.d _) = kc3 C.d _
  rw [ki9]; rfl
 ·exact lN h hp
 ·cases h
def sg (m : List (Nat × Nat)) (b : Nat) : Nat := match m.lookup b with
 | some c => c
 | none => b
def l0 (σ : Nat → Nat) (nx2 : Nat) (l : List (Nat × PV)) : List (Nat × PV) → Option (List Prop)
 | [] => some []
 | (t, u) :: l2 => match l.lookup t, eJ nx2 u with
  | some v, true => i7 (xT σ u v) (l0 σ nx2 l l2)
  | _, _ => none
theorem g8 {σ : Nat → Nat} {nx2 : Nat} {l : List (Nat × PV)} : ∀ {l2 : List (Nat × PV)} {ps : List Prop}, l0 σ nx2 l l2 = some ps → (∀ p ∈ ps, p) → RenS σ nx2 l l2
 | [], _, _, _ => trivial
 | (t, u) :: l2, _, h, hp => by
  unfold l0 at h
  split at h
  ·rename_i h1 h2
   obtain ⟨p, q, e1, e2, e3, e4⟩ := vZ h hp
   exact ⟨⟨h2, _, qJ h1, mM e1 e3⟩, g8 e2 e4⟩
  ·cases h
def k2n (n : Nat) : BC → Bool
 | .ds _ => true
 | .cs l => l.all (vJ n)
theorem wU {n : Nat} {b : BC} (h : k2n n b = true) : b.to.all (vJ n) = true := by
 cases b with
 | ds l => show (kc3 C.d l).all _ = true; rw [List.all_map]; exact List.all_eq_true.2 fun _ _ => rfl
 | cs l => exact h
def cO (σ : Nat → Nat) (nx2 : Nat) (g : EH) : EH → Option (List Prop)
 | [] => some []
 | (b, some (T, bc)) :: g2 => match Nat.blt b nx2 && (k2n nx2 bc && g2.all fun y => !(σ y.1 == σ b)), g.lookup (σ b) with
  | true, some (some (T', bc')) => match kd4 T T' with
   | true => i7 (eqB σ bc bc') (cO σ nx2 g g2)
   | false => none
  | _, _ => none
 | (b, none) :: g2 => match g2.all fun y => !(σ y.1 == σ b) with
  | true => cO σ nx2 g g2
  | false => none
theorem RenG.gone {n0 : Nat} {σ : Nat → Nat} {g g2 : List (Nat × Option Bk)} {nx2 b : Nat} (h : RenG n0 σ g g2 nx2) (hi : (g2.all fun y => !(σ y.1 == σ b)) = true) : RenG n0 σ g ((b, none) :: g2) nx2 := by
 rw [List.all_eq_true] at hi
 refine ⟨?_, ?_, h.fix, h.low⟩
 ·intro x hx T' cs' he
  rcases List.mem_cons.1 hx with rfl | hx
  ·cases he
  ·exact h.blk x hx T' cs' he
 ·intro x hx y hy he
  rcases List.mem_cons.1 hx with rfl | hx
  ·rcases List.mem_cons.1 hy with rfl | hy
   ·rfl
   ·have := hi y hy; simp [he] at this
  ·rcases List.mem_cons.1 hy with rfl | hy
   ·have := hi x hx; simp [he] at this
   ·exact h.inj x hx y hy he
theorem fE (p : Nat → Bool) : ∀ g : EH, ((kC g).all fun y => p y.1) = g.all fun y => p y.1
 | [] => rfl
 | x :: g => by show ((x.1, g6 x.2) :: kC g).all _ = _; rw [ke7, ke7, fE p g]
theorem aR {n0 : Nat} {σ : Nat → Nat} {nx2 : Nat} {g : EH} (hf : ∀ b, b < n0 → σ b = b) (hl : n0 ≤ nx2) : ∀ {g2 : EH} {ps : List Prop}, cO σ nx2 g g2 = some ps → (∀ p ∈ ps, p) → RenG n0 σ (kC g) (kC g2) nx2
 | [], _, _, _ => .base hf hl
 | (b, some (T, bc)) :: g2, _, h, hp => by
  unfold cO at h
  split at h
  ·rename_i h1 h2
   simp only [kb1] at h1
   obtain ⟨c1, c2, c3⟩ := h1
   split at h
   ·rename_i hT
    have hT := kb7 hT
    subst hT
    obtain ⟨p, q, e1, e2, e3, e4⟩ := vZ h hp
    exact .cons (aR hf hl e2 e4) c1 rfl (kX h2) (k1d e1 e3) (wU c2) (by rw [fE (fun y => !(σ y == σ b))]; exact c3)
   ·cases h
  ·cases h
 | (b, none) :: g2, _, h, hp => by
  unfold cO at h
  split at h
  ·rename_i h1
   exact (aR hf hl h hp).gone (by rw [fE (fun y => !(σ y == σ b))]; exact h1)
  ·cases h
structure ES where
 l : List (Nat × PV)
 g : EH
 nx : Nat
def ES.st (s : ES) : St := ⟨s.l, kC s.g, s.nx⟩
def xC (n0 : Nat) (m : List (Nat × Nat)) : Bool := m.all fun x => Nat.ble n0 x.1
theorem gA {n0 : Nat} : ∀ {m : List (Nat × Nat)}, xC n0 m = true → ∀ b, b < n0 → sg m b = b
 | [], _, _, _ => rfl
 | (k, c) :: m, h, b, hb => by
  unfold xC at h
  rw [ke7, kb1] at h
  have h1 : n0 ≤ k := ka3 h.1
  unfold sg
  rw [kc2, show (b == k) = false by simp; omega]
  exact gA (m := m) h.2 b hb
def l1 (n0 : Nat) (m : List (Nat × Nat)) (l : List (Nat × PV)) (g : EH) (s : ES) : Option Prop := match xC n0 m && Nat.ble n0 s.nx with
 | true => match i7 (l0 (sg m) s.nx l s.l) (cO (sg m) s.nx g s.g) with
  | some ps => some (AllP ps)
  | none => none
 | false => none
theorem g9 {n0 : Nat} {m : List (Nat × Nat)} {l : List (Nat × PV)} {g : EH} {nx : Nat} {s : ES} {P : Prop} (h : l1 n0 m l g s = some P) (hP : P) : tU n0 ⟨l, kC g, nx⟩ s.st := by
 unfold l1 at h
 split at h
 ·rename_i hc
  rw [kb1] at hc
  split at h
  ·rename_i hb
   cases h
   obtain ⟨p, q, e1, e2, e3, e4⟩ := vZ hb ((kN _).1 hP)
   exact ⟨sg m, g8 e1 e3, aR (gA hc.1) (ka3 hc.2) e2 e4⟩
  ·cases h
 ·cases h
def Rd {α : Type} (n0 : Nat) (I : α → ES) (dec : α → Prop) (s : St) : Prop := ∃ y, tU n0 s (I y).st ∧ dec y
theorem kV {α : Type} {cx : Cx} {n nx : Nat} {c : Code} {Q : qR} {l : List (Nat × PV)} {g : EH} (n0 : Nat) (hn : cx.n0 = n0) (I : α → ES) (μ : α → Nat) (x0 : α) (m : List (Nat × Nat)) {P : Prop} (h0 : l1 n0 m l g (I x0) = some P) (hP : P) (round : ∀ x, AW cx n c (cK (Rd n0 I (fun y => μ y < μ x)) Q) (I x).st) : AW cx n (.loop c) Q ⟨l, kC g, nx⟩ :=
 AW.loop n0 hn (fun x => (I x).st) μ x0 (g9 h0 hP) (fun x => (round x).mono fun e s' h => by
  cases e with
  | normal => exact h
  | _ => exact h)
theorem kY {α : Type} {n0 nx : Nat} {I : α → ES} {dec : α → Prop} {l : List (Nat × PV)} {g : EH} (y : α) (m : List (Nat × Nat)) {P : Prop} (h : l1 n0 m l g (I y) = some P) (hP : P) (hd : dec y) : Rd n0 I dec ⟨l, kC g, nx⟩ := ⟨y, g9 h hP, hd⟩
/-! results -/
def z8 (P : Program) (l : List (Nat × PV)) (g : EH) : ResultVar → Option E1
 | .tmp t => match l.lookup t with
  | some (.e e) => some e
  | _ => none
 | .cell a ty => match l.lookup a, qM P ty with
  | some (.e (.c (.ptr b off))), some (false, 1) => match g.lookup b with
   | some (some (_, bc)) => match bc.to[off]? with
    | some c => some (.c c)
    | none => none
   | _ => none
  | some (.e (.c (.ptr b off))), some (true, n) => match g.lookup b with
   | some (some (_, bc)) => match kd4 ((bc.to.drop off).take n).length n with
    | true => some (.agg ((bc.to.drop off).take n))
    | false => none
   | _ => none
  | _, _ => none
theorem wA {l : List (Nat × PV)} {g : EH} {r : ResultVar} {e : E1} (h : z8 Try.prog l g r = some e) : ResE l (kC g) r e := by
 unfold z8 at h
 split at h
 ·split at h
  ·rename_i hl; cases h; exact .tmp (qJ hl)
  ·cases h
 ·split at h
  ·rename_i hl ht
   split at h
   ·rename_i hb
    split at h
    ·rename_i hc; cases h; exact .cell (qJ hl) ht (kX hb) hc
    ·cases h
   ·cases h
  ·rename_i hl ht
   split at h
   ·rename_i hb
    split at h
    ·rename_i hc; cases h; exact .agg (qJ hl) ht (kX hb) rfl (kb7 hc)
    ·cases h
   ·cases h
  ·cases h
def t9 (P : Program) (l : List (Nat × PV)) (g : EH) : List ResultVar → Option (List E1)
 | [] => some []
 | r :: rs => match z8 P l g r, t9 P l g rs with
  | some e, some es => some (e :: es)
  | _, _ => none
theorem l4 {l : List (Nat × PV)} {g : EH} : ∀ {rs : List ResultVar} {es : List E1}, t9 Try.prog l g rs = some es → ResL l (kC g) rs es
 | [], _, h => by cases h; exact .nil
 | r :: rs, _, h => by
  unfold t9 at h
  split at h
  ·rename_i h1 h2; cases h; exact .cons (wA h1) (l4 h2)
  ·cases h
def k20 (P : Program) (n0 : Nat) (m : List (Nat × Nat)) (rs : List ResultVar) (l : List (Nat × PV)) (g : EH) (y : PV) (g1 : EH) (nx1 : Nat) : Option Prop := match t9 P l g rs, xC n0 m && (Nat.ble n0 nx1 && eJ nx1 y) with
 | some es, true => match i7 (xT (sg m) y (k04 es)) (cO (sg m) nx1 g g1) with
  | some ps => some (AllP ps)
  | none => none
 | _, _ => none
theorem kA {n0 nx nx1 : Nat} {e : Exit} (he : e = .normal ∨ e = .ret) {rs : List ResultVar} {l : List (Nat × PV)} {g g1 : EH} {y : PV} (m : List (Nat × Nat)) {P : Prop} (h : k20 Try.prog n0 m rs l g y g1 nx1 = some P) (hP : P) : EndP n0 rs y (kC g1) nx1 e ⟨l, kC g, nx⟩ := by
 unfold k20 at h
 split at h
 ·rename_i h1 hc
  simp only [kb1] at hc
  obtain ⟨c1, c2, c3⟩ := hc
  split at h
  ·rename_i hb
   cases h
   obtain ⟨p, q, e1, e2, e3, e4⟩ := vZ hb ((kN _).1 hP)
   exact ⟨he, _, sg m, l4 h1, mM e1 e3, c3, aR (gA c1) (ka3 c2) e2 e4⟩
  ·cases h
 ·cases h
end Go.Proofs.Ytkjmlililpgamaa
