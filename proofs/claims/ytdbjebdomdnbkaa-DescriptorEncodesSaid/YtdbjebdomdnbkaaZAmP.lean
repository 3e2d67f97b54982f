/- A memory told by names: pointers that are compared and turned, texts behind one's own bytes and out of them, a loop's first rounds. No statement is proved here. -/
import Derived.Test.YtdbjebdomdnbkaaZAmX
import Derived.Lib.Builder
import Derived.Lib.UnsafeStr
import Derived.Lib.AppendStr
namespace Go.Proofs.Ytdbjebdomdnbkaa
open Go.ChangeShapes Go.WideShapes Go.ChangeAt Go.RowKit
open List renaming append_assoc → kb8, eq_nil_of_length_eq_zero → kc9, length_append → ka3, map_cons → kd8, map_nil → kh6, map_toArray → kf0, mem_cons_of_mem → kb7, mem_cons_self → kb0, nil_append → ke6, size_toArray → kd2, take_left → ki4
open Nat renaming eq_of_beq_eq_true → kc0, le_of_ble_eq_true → ka4, zero_add → ke4, zero_le → kd5
set_option linter.unusedVariables false
set_option linter.unusedSimpArgs false
theorem w9 {P : Program} {b : Frame} {a : Act} {k : List Item} {cs : List Frame} {w : World} {c : Code} :
  stepT P (lone (b.at a (.code (.loop c) :: k)) cs w) = (.next (lone (b.at a (.code c :: .inLoop c :: k)) cs w), #[]) := by
 rw [stepT, move_lone]
 simp [runT, lone, Array.swapAt!, stepG, stepG.exec, Frame.at, MemOp.ofEvents]
 intro h
 exact absurd rfl h
theorem bE {P : Program} {m m1 m2 : Machine} (h1 : step P m = .next m1) (h : Go.Steps P m m2) (hne : m ≠ m2) : Go.Steps P m1 m2 := by
 obtain ⟨n, hn⟩ := h
 cases n with
 | zero => simp [runN] at hn; exact absurd hn hne
 | succ n => simp only [runN, h1] at hn; exact ⟨n, hn⟩
theorem k6e {b : Frame} {a a' : Act} {k k' : List Item} {cs : List Frame} {w w' : World} (h : k ≠ k') : lone (b.at a k) cs w ≠ lone (b.at a' k') cs w' := by
 intro e
 simp only [lone, Machine.mk.injEq, Array.mk.injEq, List.cons.injEq, Goroutine.mk.injEq, Frame.at, Frame.mk.injEq] at e
 exact h e.2.1.1.1.2.2.1
theorem mI : ∀ {id : Nat} {k k' : List Item}, exitTo id k = some k' → k'.length < k.length
 | id, [], k', h => by cases h
 | id, x :: k, k', h => by
  have ih : ∀ k', exitTo id k = some k' → k'.length < k.length := fun _ h => mI h
  cases x with
  | inBlock id' =>
   simp only [exitTo] at h
   split at h
   ·cases h; simp
   ·have := ih _ h; simp; omega
  | _ => simp only [exitTo] at h; have := ih _ h; simp; omega
theorem rP {c : Code} : ∀ (x : Code) {l : Nat} {r : Code}, findLabel x l = some r → r ≠ .loop c := by
 intro x
 induction x with
 | seq a b iha ihb =>
  intro l r h
  simp only [findLabel] at h
  split at h
  ·cases h; intro e; cases e
  ·exact ihb h
 | label l' =>
  intro l r h
  simp only [findLabel] at h
  split at h
  ·cases h; intro e; cases e
  ·cases h
 | _ => intro l r h; simp [findLabel] at h
theorem oK {l : Nat} {c : Code} : ∀ {k k' : List Item}, gotoIn l k = some k' → ∀ y, k' ≠ .code (.loop c) :: y
 | [], k', h => by cases h
 | x :: k, k', h => by
  have ih : ∀ k', gotoIn l k = some k' → ∀ y, k' ≠ .code (.loop c) :: y := fun _ h => oK h
  cases x with
  | inScope body =>
   simp only [gotoIn] at h
   split at h
   ·rename_i hf
    cases h
    intro y e
    simp only [List.cons.injEq, Item.code.injEq] at e
    exact rP _ hf e.1
   ·exact ih _ h
  | _ => simp only [gotoIn] at h; exact ih _ h
theorem nI {P : Program} {m m1 : Machine} (h1 : stepT P m = (.next m1, #[])) (h : Outgrown P m) : Outgrown P m1 := by
 obtain ⟨n, o, ho, h2, h3⟩ := h
 cases n with
 | zero => simp [runNT] at ho
 | succ n =>
  simp only [runNT, h1] at ho
  exact ⟨n, o, by simpa using ho, h2, h3⟩
theorem o9 {P : Program} {Q : Exit → Act → World → Prop} {a : Act} {w : World} {c : Code} (h : c.wp P (Exit.then ((Code.loop c).wp P Q) Q) a w) : (Code.loop c).wp P Q a w := by
 intro b k cs
 obtain ⟨e, a₁, w₁, hq, harr⟩ := h b (.inLoop c :: k) cs
 cases e with
 | normal =>
  obtain ⟨e₂, a₂, w₂, hq₂, harr₂⟩ := hq b k cs
  refine ⟨e₂, a₂, w₂, hq₂, .of_steps (.one step_loop) ?_⟩
  have h2 : Arrives P (lone (b.at a₁ (.code c :: .inLoop c :: k)) cs w₁) b k cs e₂ a₂ w₂ := by
   cases e₂ with
   | normal => exact bE step_loop harr₂ (k6e (fun e => by have := congrArg List.length e; simp at this))
   | exit id => exact fun k' hk => bE step_loop (harr₂ k' hk) (k6e (fun e => by have := congrArg List.length e; have := mI hk; simp at *; omega))
   | goto l => exact fun k' hk => bE step_loop (harr₂ k' hk) (k6e (fun e => oK hk _ e.symm))
   | ret =>
    obtain ⟨todo, hs⟩ := harr₂
    exact ⟨todo, bE step_loop hs (by intro e; simp [lone, Frame.at] at e)⟩
   | panic ch =>
    obtain ⟨todo, hs⟩ := harr₂
    exact ⟨todo, bE step_loop hs (by intro e; simp [lone, Frame.at] at e)⟩
   | outgrown => exact harr₂.imp id (nI w9)
  exact .of_steps (Steps.trans harr (.one step_inLoop)) h2
 | exit id => exact ⟨_, a₁, w₁, hq, .of_steps (.one step_loop) (.pass (x := .inLoop c) rfl (fun _ _ => .inl (by simp)) harr)⟩
 | goto l => exact ⟨_, a₁, w₁, hq, .of_steps (.one step_loop) (.pass (x := .inLoop c) rfl (fun _ _ => .inl (by simp)) harr)⟩
 | ret => exact ⟨_, a₁, w₁, hq, .of_steps (.one step_loop) (.pass (x := .inLoop c) rfl (fun _ _ => .inl (by simp)) harr)⟩
 | panic ch => exact ⟨_, a₁, w₁, hq, .of_steps (.one step_loop) (.pass (x := .inLoop c) rfl (fun _ _ => .inl (by simp)) harr)⟩
 | outgrown => exact ⟨_, a₁, w₁, hq, .of_steps (.one step_loop) (.pass (x := .inLoop c) rfl (fun _ _ => .inl (by simp)) harr)⟩
section
variable {cx : Cx} {o : Oper} {l : List (Nat × PV)} {g : EH}
def u0g (P : Program) (op : BinOp) (xt : TypeId) (u v : PV) : R := none
theorem k5n {op : BinOp} {xt yt : TypeId} {x y : Operand} (ho : o.op = .binOp op xt x y yt) {u v : PV} (hu : Ev l x u) (hv : Ev l y v) : OKR cx o l g (u0g Try.prog op xt u v) := OKR.none
def u0b (P : Program) (g : EH) (src dst : TypeId) (u : PV) : R := none
theorem k4p {src dst : TypeId} {x : Operand} (ho : o.op = .convert src dst x) {u : PV} (hu : Ev l x u) : OKR cx o l g (u0b Try.prog g src dst u) := OKR.none
def k5l (P : Program) (h : H) (f : FuncId) (us : Option (List E1)) : R := none
theorem dQ {t u e : TypeId} {z : Value} {bs : Nat} (hu : Try.prog.underlying t = some (.slice e)) (hsu : Try.prog.underlying u = some .string) (hi : (Try.prog.info? e).map (fun i => (i.zero, i.size, i.bytes)) = some (some z, 1, bs)) (hzs : z.cells.size = 1) {w : World} {v : Value} {n : Nat} {xs : List Value} (hown : OwnM w 0 e 1 v n xs)
  (s : ByteArray) (h63 : n + s.size ≤ maxLen) (hbytes : (n + s.size) * bs ≤ 140737488355328) (ty : TypeId) :
  ∃ v' w', (Builtin.append_ #[t, u] ty #[v, .string s]).run Try.prog w = .ok v' w' ∧ OwnM w' 0 e 1 v' (n + s.size) (xs ++ Lib.strCells s) ∧ w.grownBy w' v.ownBlock ∧ (v'.ownBlock = v.ownBlock ∨ ∀ g, v'.ownBlock = some g → w.heap.size ≤ g) := by
 obtain ⟨i, h2, h3, h4, h5⟩ := info_parts hi
 have hsl := Lib.strCells_length s
 have hlen : (xs ++ Lib.strCells s).length = (n + s.size) * 1 := by rw [ka3, hown.1, hsl]; omega
 have hf := Lib.run_firstCells_string (P := Try.prog) w 1 s
 have hsmall : n + s.size ≤ 9223372036854775807 := by simp only [maxLen] at h63; omega
 rcases hown.2 with ⟨rfl, rfl⟩ | ⟨g, cap, cur, fz, rfl, hbg, hg, hfz, hnc, hcm, hcs, htake⟩
 ·obtain rfl : xs = [] := kc9 (by simpa using hown.1)
  by_cases hm : s.size = 0
  ·have hn : Lib.strCells s = [] := kc9 (by rw [hsl]; exact hm)
   refine ⟨.slice none 0 0, w, ?_, by rw [hm, hn]; exact ⟨rfl, .inl ⟨rfl, rfl⟩⟩, World.grownBy.refl _ _, .inl rfl⟩
   rw [hm] at hf
   simp [Builtin.append_, run_underlying hu, run_underlying hsu, sizeOf, typeInfo, h2, h4, Builtin.lenOf, hm, hf]
  ·have hr := run_append_nil_string (P := Try.prog) w t u ty e i z hu hsu h2 h3 s (by omega) (by omega) (by rw [h5]; have : s.size * bs ≤ (0 + s.size) * bs := Nat.mul_le_mul_right _ (by omega); omega)
   have e1 : (s.data.map fun b => Value.int .u8 b.toNat) = (Lib.strCells s).toArray := by
    apply Array.ext'
    simp [Lib.strCells]
   rw [e1] at hr
   have hge := grownCap_ge w s.size 0 e
   have hcm2 : grownCap w s.size 0 e ≤ maxLen := grownCap_le_maxLen w s.size 0 e (by omega)
   refine ⟨_, _, hr, ⟨hlen, .inr ⟨w.heap.size, _, _, (0, 0), by rw [ke4], kd5 _, heap_alloc_new w.drew _, .inl rfl, by omega, hcm2, ?_, ?_⟩⟩, ⟨rfl, rfl, rfl, by simp, fun k hk _ => Below.heap_alloc w.drew _ k hk⟩, .inr (fun k hk => by simp [Value.ownBlock] at hk; omega)⟩
   ·simp only [Array.size_append, kd2, size_zeroCells, hzs, hsl]
    omega
   ·simp only [Array.toList_append, ke6]
    rw [show (0 + s.size) * 1 = (Lib.strCells s).length by rw [hsl]; omega]
    exact ki4
 ·by_cases hroom : n + s.size ≤ cap
  ·have hfit : n + (Lib.strCells s).length ≤ cur.size := by rw [hsl]; omega
   have hst := uW Try.prog g n e fz (Lib.strCells s) 0 cur w hg hfz (by simpa using hfit) (Lib.strCells_oneCell s)
   simp only [Nat.add_zero] at hst
   have hr : (Builtin.append_ #[t, u] ty #[.slice (some ⟨g, 0, none⟩) n cap, .string s]).run Try.prog w = .ok (.slice (some ⟨g, 0, none⟩) (n + s.size) cap) (w.setRow g (cur.toList.take n ++ Lib.strCells s ++ cur.toList.drop (n + (Lib.strCells s).length)).toArray) := by
    simp [Builtin.append_, run_underlying hu, run_underlying hsu, sizeOf, typeInfo, h2, h4, Builtin.lenOf, hroom, hf, Addr.add_lit, hst]
   have hsz : (cur.toList.take n ++ Lib.strCells s ++ cur.toList.drop (n + (Lib.strCells s).length)).length = cur.size := by
    simp only [ka3, List.length_take, List.length_drop, Array.length_toList]; omega
   refine ⟨_, _, hr, ⟨hlen, .inr ⟨g, cap, _, fz, rfl, hbg, setRow_heap w g cur _ e _ hg, by rw [kd2, hsz]; exact hfz, hroom, hcm, by rw [kd2, hsz]; exact hcs, ?_⟩⟩, ⟨rfl, rfl, rfl, by simp [World.setRow], fun k _ hk => setRow_other w g k _ (fun e => hk (by simp [Value.ownBlock, e]))⟩, .inl rfl⟩
   have ht' : cur.toList.take n = xs := by rw [← htake, Nat.mul_one]
   rw [ht', ← hlen]
   exact ki4
  ·have holds : ∀ j u, xs[j]? = some u → w.cell? ((⟨g, 0, none⟩ : Addr).add j) = some u := hown.cells (g := g) rfl
   have hr := Lib.run_append_grow_string (P := Try.prog) w t u ty e i z hu hsu h2 h3 ⟨g, 0, none⟩ n cap xs (by rw [h4]; exact hown.1) holds s (by omega) (by omega) (growslice_fits (by omega) (by rw [h5]; exact hbytes))
   have hge := grownCap_ge w (n + s.size) cap e
   have hcm2 : grownCap w (n + s.size) cap e ≤ maxLen := grownCap_le_maxLen w (n + s.size) cap e h63
   refine ⟨_, _, hr, ⟨hlen, .inr ⟨w.heap.size, _, _, (0, 0), rfl, kd5 _, heap_alloc_new w.drew _, .inl rfl, hge, hcm2, ?_, ?_⟩⟩, ⟨rfl, rfl, rfl, by simp, fun k hk _ => Below.heap_alloc w.drew _ k hk⟩, .inr (fun k hk => by simp [Value.ownBlock] at hk; omega)⟩
   ·have h6 := hown.1
    simp only [Array.size_append, kd2, size_zeroCells, hzs, hsl]
    omega
   ·simp only [Array.toList_append, kb8]
    rw [← kb8, ← hlen]
    exact ki4
theorem nO {p : Nat → Prop} {ρ : Rh} {w : World} (s : ByteArray) : All2 (RepC p ρ w) ((dI .u8 (uY s)).map .d) (Lib.strCells s) := by
 unfold dI uY Lib.strCells
 refine All2.mk (by simp) ?_
 intro i c v hc hv
 simp only [List.map_map, List.getElem?_map] at hc hv
 cases hi : s.data.toList[i]? with
 | none => rw [hi] at hc; cases hc
 | some z =>
  rw [hi] at hc hv
  cases hc; cases hv
  exact .d (.lit _ rfl)
theorem m9 {g : List (Nat × Option Bk)} {t u e : TypeId} {z : Value} {bs n b nx : Nat} {x y : Operand} {cs : List C} {s : ByteArray} (ho : o.op = .call { callee := .builtin .append, args := #[x, y], argTypes := #[t, u] }) (hu : Try.prog.underlying t = some (.slice e)) (hsu : Try.prog.underlying u = some .string) (hi : (Try.prog.info? e).map (fun i => (i.zero, i.size, i.bytes)) = some (some z, 1, bs)) (hzs : z.cells.size = 1)
  (hx : Ev l x (.e (.c (.own b 0 n 1 true)))) (hb : Look g b (some (e, cs))) (hcl : cs.length = n * 1) (hy : Ev l y (LV (.string s))) (h63 : n + s.size ≤ maxLen) (hbytes : (n + s.size) * bs ≤ 140737488355328) : OpOK cx o (S l) (S g) ⟨.e (.c (.own nx 0 (n + s.size) 1 true)), [(b, none), (nx, some (e, cs ++ (dI .u8 (uY s)).map .d))], [nx], [b]⟩ := by
 intro Q ρ a w hL hs hf hnews hh hk hdf K hK
 have e2 := qC (hy.rep hs (by rw [ho]; simp [Op.operands, Call.operands]))
 have hrep := hx.rep hs (by rw [ho]; simp [Op.operands, Call.operands])
 have hb' : hL b = some (e, cs) := by rw [hf b (by simp), hb.S]
 obtain ⟨vx, e1⟩ : ∃ vx, a.eval x = vx := ⟨_, rfl⟩
 rw [e1] at hrep
 have hfirst : ∃ xs : List Value, OwnM w 0 e 1 vx n xs ∧ All2 (RepC cx.p ρ w) cs xs ∧ ρ b ≠ none ∧ ∀ g', vx.ownBlock = some g' → (cx.may g' ∧ ¬ ρ.z g') ∧ ∀ x' m', x' ≠ b → hL x' ≠ none → ρ x' = some m' → m'.nl = false → m'.g ≠ g' := by
  have hrep' : RepC cx.p ρ w (.own b 0 n 1 true) vx := hrep
  cases hrep' with
  | own _ _ _ _ _ mm cap hm hnl q1 q2 q3 =>
   obtain ⟨⟨vs, rest, ⟨fz, r1, rf⟩, r2, r3⟩, r4⟩ := hh.at hb' hm hnl
   obtain ⟨_, q4⟩ := q3 rfl
   have hvl : vs.length = n * 1 := by rw [← r3.len]; exact hcl
   refine ⟨vs, ⟨hvl, .inr ⟨mm.g, cap, (vs ++ rest).toArray, fz, rfl, kd5 _, r1, by rw [kd2]; exact rf, q1, q2, by rw [kd2, r2]; exact q4.symm, by simp [hvl]⟩⟩, r3, by rw [hm]; simp, ?_⟩
   intro g' hg'
   have : mm.g = g' := by simpa [Value.ownBlock] using hg'
   subst this
   refine ⟨⟨r4, hh.zf b mm (by rw [hb']; simp) hm hnl⟩, fun x' m' hx' h8 h9 h10 h11 => ?_⟩
   exact hx' (hh.inj x' b m' mm h8 (by rw [hb']; simp) h9 hm h10 hnl h11)
  | ownn _ _ mm hm hnl =>
   have hc0 : cs = [] := kc9 (by rw [hcl])
   subst hc0
   exact ⟨[], ⟨by simp, .inl ⟨rfl, rfl⟩⟩, trivial, by rw [hm]; simp, fun g' hg' => by cases hg'⟩
 obtain ⟨xs, hown, hxs, hbn, hfr⟩ := hfirst
 obtain ⟨v', w', hr, q1, q2, q3⟩ := dQ hu hsu hi hzs hown s h63 hbytes o.type
 have hbnx : b ≠ nx := fun e => hbn (by rw [e]; exact hnews nx (by simp))
 have hlkb : ∀ x', ([(b, none)] : List (Nat × Option Bk)).lookup x' = if x' = b then some none else none := by
  intro x'
  by_cases hx' : x' = b
  ·subst hx'; simp
  ·simp [List.lookup_cons, show (x' == b) = false by simpa using hx', hx']
 obtain ⟨ρ', p1, p2, p3, p4, p5⟩ := hh.regrow hk (hnews nx (by simp)) (kill := [(b, none)]) (fun x' => by rw [hlkb]; by_cases h : x' = b <;> simp [h]) (by rw [hlkb, if_neg (Ne.symm hbnx)]) q1 q2 q3 (fun g' hg' => ⟨(hfr g' hg').1.1, fun x' m' h8 h9 h10 => by
  rw [hlkb] at h8
  by_cases h : x' = b
  ·rw [if_pos h] at h8; exact absurd rfl h8
  ·rw [if_neg h] at h8; exact (hfr g' hg').2 x' m' h h8 h9 h10⟩) (All2.app hxs (nO s)) (fun g' hg' => (hfr g' hg').1.2)
 unfold Oper.wp execOp
 simp only [ho, resolve, invoke, builtin, Sem.run_bind, Sem.run_pure, Result.andThen_ok, kf0, kd8, kh6, e1, e2, hr]
 exact hK v' w' ρ' p1 (fun b hb hn => p2 b (by simpa using hb) hn) p3 p4 p5
theorem lZ {g : List (Nat × Option Bk)} {t u e : TypeId} {z : Value} {bs nx : Nat} {x y : Operand} {s : ByteArray} (ho : o.op = .call { callee := .builtin .append, args := #[x, y], argTypes := #[t, u] }) (hu : Try.prog.underlying t = some (.slice e)) (hsu : Try.prog.underlying u = some .string) (hi : (Try.prog.info? e).map (fun i => (i.zero, i.size, i.bytes)) = some (some z, 1, bs)) (hzs : z.cells.size = 1)
  (hx : Ev l x (LV aT)) (hy : Ev l y (LV (.string s))) (h63 : s.size ≤ maxLen) (hbytes : s.size * bs ≤ 140737488355328) : OpOK cx o (S l) (S g) ⟨.e (.c (.own nx 0 s.size 1 true)), [(nx, some (e, (dI .u8 (uY s)).map .d))], [nx], []⟩ := by
 intro Q ρ a w hL hs hf hnews hh hk hdf K hK
 have e2 := qC (hy.rep hs (by rw [ho]; simp [Op.operands, Call.operands]))
 have e1 := qC (hx.rep hs (by rw [ho]; simp [Op.operands, Call.operands]))
 obtain ⟨v', w', hr, q1, q2, q3⟩ := dQ (w := w) (v := aT) (n := 0) (xs := []) hu hsu hi hzs ⟨rfl, .inl ⟨rfl, rfl⟩⟩ s (by omega) (by rw [ke4]; exact hbytes) o.type
 rw [ke4, ke6] at q1
 obtain ⟨ρ', p1, p2, p3, p4, p5⟩ := hh.regrow hk (hnews nx (by simp)) (kill := []) (fun x => .inl rfl) rfl q1 q2 q3 (fun g h => by cases h) (nO s) (fun g h => by cases h)
 unfold Oper.wp execOp
 simp only [ho, resolve, invoke, builtin, Sem.run_bind, Sem.run_pure, Result.andThen_ok, kf0, kd8, kh6, e1, e2, hr]
 exact hK v' w' ρ' p1 (fun b hb hn => p2 b (by simpa using hb) hn) p3 p4 p5
def k62 (P : Program) (h : H) (g : EH) (nx : Nat) (t tn : TypeId) : PV → PV → R
 | u, .e (.c (.d (.lit (.string s)))) => match P.underlying t, P.underlying tn, h with
  | some (.slice e), some .string, .ap none n' r => match zK P e with
   | some (z, 1, bs) => match Nat.beq z.cells.size 1 && Nat.ble 1 bs, u with
    | true, .e (.c (.own b 0 n 1 true)) => match g.lookup b with
     | some (some (T, .ds l)) => match Nat.beq T e with
      | true => some ([l.length = n, (n + s.size) * bs ≤ 140737488355328, n + s.size = n', l ++ dI .u8 (uY s) = r], ⟨.e (.c (.own nx 0 n' 1 true)), [(b, none), (nx, some (e, .ds r))], [nx], [b]⟩)
      | false => none
     | _ => none
    | true, .e (.c (.d (.lit (.slice none 0 0)))) => some ([s.size * bs ≤ 140737488355328, s.size = n', dI .u8 (uY s) = r], ⟨.e (.c (.own nx 0 n' 1 true)), [(nx, some (e, .ds r))], [nx], []⟩)
    | _, _ => none
   | _ => none
  | _, _, _ => none
 | _, _ => none
theorem k61 {h : H} {nx : Nat} {t tn : TypeId} {x y : Operand} (ho : o.op = .call { callee := .builtin .append, args := #[x, y], argTypes := #[t, tn] }) {u v : PV} (hu : Ev l x u) (hv : Ev l y v) : OKR cx o l g (k62 Try.prog h g nx t tn u v) := by
 unfold k62
 split
 ·split
  ·rename_i h1 h2
   split
   ·rename_i h3
    split
    ·rename_i h4
     rw [Bool.and_eq_true] at h4
     have h5 := kc0 h4.1
     have h6 := ka4 h4.2
     split
     ·rename_i h7
      split
      ·rename_i h8
       obtain rfl := kc0 h8
       refine OKR.some fun hp => ?_
       have hp := (qI _).1 hp
       have p1 := hp (_ = _) (kb0 ..)
       have p2 := hp (_ ≤ _) (kb7 _ (kb0 ..))
       have p3 := hp (_ = _) (kb7 _ (kb7 _ (kb0 ..)))
       have p4 := hp (_ = _) (kb7 _ (kb7 _ (kb7 _ (kb0 ..))))
       subst p3
       have hq := m9 (cx := cx) (g := kF g) (nx := nx) ho h1 h2 (bY h3) h5 hu (qV h7) (by show (List.map C.d _).length = _; rw [List.length_map, Nat.mul_one]; exact p1) hv (bL p2 h6) p2
       subst p4
       have e1 : ∀ (l d : List D), BC.to (.ds l) ++ d.map .d = BC.to (.ds (l ++ d)) := fun l d => List.map_append.symm
       rw [e1] at hq
       exact hq
      ·exact OKR.none
     ·exact OKR.none
    ·rename_i h4
     rw [Bool.and_eq_true] at h4
     have h5 := kc0 h4.1
     have h6 := ka4 h4.2
     refine OKR.some fun hp => ?_
     have hp := (qI _).1 hp
     have p2 := hp (_ ≤ _) (kb0 ..)
     have p3 := hp (_ = _) (kb7 _ (kb0 ..))
     have p4 := hp (_ = _) (kb7 _ (kb7 _ (kb0 ..)))
     subst p3
     subst p4
     exact lZ (g := kF g) (nx := nx) ho h1 h2 (bY h3) h5 hu hv (bL p2 h6) p2
    ·exact OKR.none
   ·exact OKR.none
  ·exact OKR.none
 ·exact OKR.none
def u65 : PV → R := fun _ => none
theorem k8m {x : Operand} {st : TypeId} (ho : o.op = .call { callee := .builtin .unsafeSliceData, args := #[x], argTypes := #[st] }) {u : PV} (hu : Ev l x u) : OKR cx o l g (u65 u) := OKR.none
def u63 (P : Program) (h : H) (g : EH) (pt : TypeId) (u v : PV) : R := none
theorem k8i {h : H} {pt it : TypeId} {x y : Operand} (ho : o.op = .call { callee := .builtin .unsafeString, args := #[x, y], argTypes := #[pt, it] }) {u v : PV} (hu : Ev l x u) (hv : Ev l y v) : OKR cx o l g (u63 Try.prog h g pt u v) := OKR.none
def AWp (cx : Cx) (n : Nat) (c : Code) (Q : yP) : Nat → St → Prop
 | 0, s => AW cx n (.loop c) Q s
 | k + 1, s => AW cx n c (i6 (AWp cx n c Q k) Q) s
theorem AWp.s {cx : Cx} {n : Nat} {c : Code} {Q : yP} {k : Nat} {s : St} (h : AW cx n c (i6 (AWp cx n c Q k) Q) s) : AWp cx n c Q (k + 1) s := h
theorem AWp.z {cx : Cx} {n : Nat} {c : Code} {Q : yP} {s : St} (h : AW cx n (.loop c) Q s) : AWp cx n c Q 0 s := h
theorem AWp.ok {cx : Cx} {n : Nat} {c : Code} {Q : yP} : ∀ {k : Nat} {s : St}, AWp cx n c Q k s → AW cx n (.loop c) Q s
 | 0, _, h => h
 | k + 1, s, h => fun a w hm => by
  refine o9 (wp_mono (h a w hm) ?_)
  rintro e a' w' ⟨s', h1, h2⟩
  cases e with
  | normal => exact AWp.ok (k := k) h1 a' w' h2
  | _ => exact ⟨s', h1, h2⟩
end
end Go.Proofs.Ytdbjebdomdnbkaa
