/- A memory told by names: append of zeros; an empty slice taken over. No statement is proved here. -/
import Derived.Test.YtkjmlililpgamaaZAmB
import Derived.Lib.AppendZeros
import Derived.Lib.AppendZerosOnto
namespace Go.Proofs.Ytkjmlililpgamaa
open Go.ChangeShapes Go.WideShapes Go.ChangeAt Go.RowKit
open List renaming append_assoc → kf3, eq_nil_of_length_eq_zero → kc9, mem_replicate → kj7, replicate → kb0, size_toArray → kd0, take_append → kk4, take_append_of_le_length → kf0, take_length → kk5, take_of_length_le → kc5, toList_toArray → kg2
open Nat renaming mul_le_mul_right → kj3, zero_le → ke8
set_option linter.unusedVariables false
set_option linter.unusedSimpArgs false
theorem qS (z : Value) (m : Nat) : (Builtin.zeroCells #[z] m).toList = kb0 m z := by
 unfold Builtin.zeroCells
 rw [Array.toList_map]
 apply List.ext_getElem?
 intro j
 by_cases hj : j < m
 ·simp [hj, Nat.mod_one]
 ·simp [hj]
theorem yO {t tn e : TypeId} {z : Value} {bs : Nat} {kn kq : IntKind} (hu : Try.prog.underlying t = some (.slice e)) (htn : Try.prog.underlying tn = some (.int kn)) (hi : (Try.prog.info? e).map (fun i => (i.zero, i.size, i.bytes)) = some (some z, 1, bs)) (hz1 : z.oneCell' = true) {w : World} {v : Value} {n : Nat} {xs : List Value} (hown : w.ownsRow 0 e 1 v n xs)
  (m : Nat) (h63 : n + m ≤ maxLen) (hbytes : (n + m) * bs ≤ 140737488355328) (ty : TypeId) :
  ∃ v' w', (Builtin.append_ #[t, tn] ty #[v, .int kq (m : Int)]).run Try.prog w = .ok v' w' ∧ w'.ownsRow 0 e 1 v' (n + m) (xs ++ kb0 m z) ∧ w.grownBy w' v.ownBlock ∧ (v'.ownBlock = v.ownBlock ∨ ∀ g, v'.ownBlock = some g → w.heap.size ≤ g) := by
 obtain ⟨i, h2, h3, h4, h5⟩ := info_parts hi
 have hzc : z.cells = #[z] := by cases z <;> first | rfl | (simp [Value.oneCell'] at hz1)
 have hm63 : (m : Int) ≤ 9223372036854775807 := by unfold maxLen at h63; omega
 have hw : IntKind.i64.wrap (m : Int) = m := by rw [IntKind.wrap_i64]; omega
 have hmb : m * bs ≤ 140737488355328 := Nat.le_trans (kj3 _ (by omega)) hbytes
 have hmn : ¬ ((m : Int) < 0) := by omega
 have hmi : ¬ (281474976710656 < (m : Int) * (i.bytes : Int)) := by rw [h5, ← Int.natCast_mul]; omega
 by_cases h0 : m = 0
 ·subst h0
  rcases hown.2 with ⟨rfl, rfl⟩ | ⟨g, cap, cur, rfl, hbg, hg, hnc, hcm, hcs, htake⟩
  ·exact ⟨.slice none 0 0, w, by simp [Builtin.append_, run_underlying hu, run_underlying htn, sizeOf, typeInfo, h2, h4, asInt, asIntOf, show IntKind.i64.wrap 0 = 0 by decide], by simpa using hown, World.grownBy.refl _ _, .inl rfl⟩
  ·exact ⟨.slice (some ⟨g, 0, none⟩) n cap, w, by simp [Builtin.append_, run_underlying hu, run_underlying htn, sizeOf, typeInfo, h2, h4, asInt, asIntOf, show IntKind.i64.wrap 0 = 0 by decide, hnc, storeCells], by simpa using hown, World.grownBy.refl _ _, .inl rfl⟩
 ·rcases hown.2 with ⟨rfl, rfl⟩ | ⟨g, cap, cur, rfl, hbg, hg, hnc, hcm, hcs, htake⟩
  ·have hx0 : xs = [] := kc9 (by have := hown.1; simpa using this)
   subst hx0
   have hr := Go.Lib.run_append_nil_zeros (P := Try.prog) w t tn ty e i z kq kn hu htn h2 h3 m (by omega) (by omega) hm63 (by rw [h5]; omega)
   have hge := grownCap_ge w m 0 e
   have hcm := grownCap_le_maxLen w m 0 e (by omega)
   refine ⟨_, _, hr, ⟨by simp, .inr ⟨w.heap.size, _, _, by rw [Nat.zero_add], ke8 _, heap_alloc_new w.drew _, by omega, hcm, ?_, ?_⟩⟩, ⟨rfl, rfl, rfl, by simp, fun k hk _ => Below.heap_alloc w.drew _ k hk⟩, .inr ?_⟩
   ·simp only [Array.size_append, size_zeroCells, hzc]; simp; omega
   ·rw [Array.toList_append, hzc, qS, qS]; simp
   ·intro g hg; simp [Value.ownBlock] at hg; omega
  ·by_cases hroom : n + m ≤ cap
   ·have hst := run_storeCells_at Try.prog g n e (kb0 m z) 0 cur w hg (by simp; omega) (by intro u hu; rw [kj7] at hu; rw [hu.2]; exact hz1)
    simp only [Nat.add_zero] at hst
    have hr : (Builtin.append_ #[t, tn] ty #[.slice (some ⟨g, 0, none⟩) n cap, .int kq (m : Int)]).run Try.prog w = .ok (.slice (some ⟨g, 0, none⟩) (n + m) cap) (w.setRow g (cur.toList.take n ++ kb0 m z ++ cur.toList.drop (n + (kb0 m z).length)).toArray) := by
     simp [Builtin.append_, run_underlying hu, run_underlying htn, sizeOf, typeInfo, zeroValue, h2, h3, h4, h5, hzc, asInt, asIntOf, hw, hroom, hmn, show ¬ (281474976710656 < (m : Int) * (bs : Int)) by rw [← h5]; exact hmi, h0, Addr.add_lit, qS, hst]
    refine ⟨_, _, hr, ⟨by simp [hown.1], .inr ⟨g, cap, _, rfl, ke8 _, setRow_heap w g cur _ e (0, 0) hg, by omega, hcm, ?_, ?_⟩⟩, ⟨rfl, rfl, rfl, by simp [World.setRow], fun k hk hne => setRow_other w g k _ (fun e => hne (by rw [e]; rfl))⟩, .inl rfl⟩
    ·simp; omega
    ·have h8 : cur.toList.take n = xs := by simpa using htake
     rw [h8]
     have h9 : xs.length = n := by simpa using hown.1
     rw [kf3, kk4, h9, kc5 (by omega)]
     simp
   ·have hfo := run_firstCells_some (P := Try.prog) w.drew i.size n ⟨g, 0, none⟩ n cap xs (by rw [h4]; exact hown.1) (by simpa using fun j u h => hown.cells (g := g) rfl j u h)
    have hr := Go.Lib.run_append_grow_zeros (P := Try.prog) w t tn ty e i z kq kn hu htn h2 h3 (some ⟨g, 0, none⟩) n cap xs hfo m (by omega) (by omega) (by omega) (by unfold maxLen at h63; omega) (by rw [h5]; omega) (growslice_fits (by omega) (by rw [h5]; exact hbytes))
    have hge := grownCap_ge w (n + m) cap e
    have hcm2 := grownCap_le_maxLen w (n + m) cap e h63
    have h9 : xs.length = n := by simpa using hown.1
    refine ⟨_, _, hr, ⟨by simp [h9], .inr ⟨w.heap.size, _, _, rfl, ke8 _, heap_alloc_new w.drew _, by omega, hcm2, ?_, ?_⟩⟩, ⟨rfl, rfl, rfl, by simp, fun k hk _ => Below.heap_alloc w.drew _ k hk⟩, .inr ?_⟩
    ·simp only [Array.size_append, size_zeroCells, hzc]; simp [h9]; omega
    ·rw [Array.toList_append, Array.toList_append, hzc, qS, qS, kg2]
     have h10 : (xs ++ kb0 m z).length = (n + m) * 1 := by simp [h9]
     rw [← h10, kf0 (Nat.le_refl _), kk5]
    ·intro g' hg'; simp [Value.ownBlock] at hg'; omega
theorem cP {t tn e : TypeId} {z : Value} {bs : Nat} {kn kq : IntKind} (hu : Try.prog.underlying t = some (.slice e)) (htn : Try.prog.underlying tn = some (.int kn)) (hi : (Try.prog.info? e).map (fun i => (i.zero, i.size, i.bytes)) = some (some z, 1, bs)) (hz1 : z.oneCell' = true) {w : World} {v : Value} {n : Nat} {xs : List Value} (hown : OwnM w 0 e 1 v n xs)
  (m : Nat) (h63 : n + m ≤ maxLen) (hbytes : (n + m) * bs ≤ 140737488355328) (ty : TypeId) :
  ∃ v' w', (Builtin.append_ #[t, tn] ty #[v, .int kq (m : Int)]).run Try.prog w = .ok v' w' ∧ OwnM w' 0 e 1 v' (n + m) (xs ++ kb0 m z) ∧ w.grownBy w' v.ownBlock ∧ (v'.ownBlock = v.ownBlock ∨ ∀ g, v'.ownBlock = some g → w.heap.size ≤ g) := by
 rcases hown.2 with ⟨rfl, rfl⟩ | ⟨g, cap, cur, fz, rfl, hbg, hg, hf, hnc, hcm, hcs, htake⟩
 ·obtain ⟨v', w', q1, q2, q3, q4⟩ := yO (kq := kq) hu htn hi hz1 (v := .slice none 0 0) (n := 0) (w := w) ⟨hown.1, .inl ⟨rfl, rfl⟩⟩ m h63 hbytes ty
  exact ⟨v', w', q1, v4 q2, q3, q4⟩
 by_cases hfz : fz = (0, 0)
 ·subst hfz
  obtain ⟨v', w', q1, q2, q3, q4⟩ := yO (kq := kq) hu htn hi hz1 (w := w) ⟨hown.1, .inr ⟨g, cap, cur, rfl, hbg, hg, hnc, hcm, hcs, htake⟩⟩ m h63 hbytes ty
  exact ⟨v', w', q1, v4 q2, q3, q4⟩
 obtain ⟨i, h2, h3, h4, h5⟩ := info_parts hi
 have hzc : z.cells = #[z] := by cases z <;> first | rfl | (simp [Value.oneCell'] at hz1)
 have hm63 : (m : Int) ≤ 9223372036854775807 := by unfold maxLen at h63; omega
 have hw : IntKind.i64.wrap (m : Int) = m := by rw [IntKind.wrap_i64]; omega
 have hmb : m * bs ≤ 140737488355328 := Nat.le_trans (kj3 _ (by omega)) hbytes
 have hmn : ¬ ((m : Int) < 0) := by omega
 have hmi : ¬ (281474976710656 < (m : Int) * (i.bytes : Int)) := by rw [h5, ← Int.natCast_mul]; omega
 have h9 : xs.length = n := by simpa using hown.1
 by_cases h0 : m = 0
 ·subst h0
  exact ⟨.slice (some ⟨g, 0, none⟩) n cap, w, by simp [Builtin.append_, run_underlying hu, run_underlying htn, sizeOf, typeInfo, h2, h4, asInt, asIntOf, show IntKind.i64.wrap 0 = 0 by decide, hnc, storeCells], by simpa using hown, World.grownBy.refl _ _, .inl rfl⟩
 ·by_cases hroom : n + m ≤ cap
  ·have hst := qE Try.prog g n e fz (kb0 m z) 0 cur w hg hf (by simp; omega) (by intro u hu; rw [kj7] at hu; rw [hu.2]; exact hz1)
   simp only [Nat.add_zero] at hst
   have hr : (Builtin.append_ #[t, tn] ty #[.slice (some ⟨g, 0, none⟩) n cap, .int kq (m : Int)]).run Try.prog w = .ok (.slice (some ⟨g, 0, none⟩) (n + m) cap) (w.setRow g (cur.toList.take n ++ kb0 m z ++ cur.toList.drop (n + (kb0 m z).length)).toArray) := by
    simp [Builtin.append_, run_underlying hu, run_underlying htn, sizeOf, typeInfo, zeroValue, h2, h3, h4, h5, hzc, asInt, asIntOf, hw, hroom, hmn, show ¬ (281474976710656 < (m : Int) * (bs : Int)) by rw [← h5]; exact hmi, h0, Addr.add_lit, qS, hst]
   have hsz : (cur.toList.take n ++ kb0 m z ++ cur.toList.drop (n + (kb0 m z).length)).length = cur.size := by
    simp only [List.length_append, List.length_take, List.length_drop, Array.length_toList, List.length_replicate]; omega
   refine ⟨_, _, hr, ⟨by simp [hown.1], .inr ⟨g, cap, _, fz, rfl, ke8 _, setRow_heap w g cur _ e fz hg, by rw [kd0, hsz]; exact hf, by omega, hcm, by rw [kd0, hsz]; exact hcs, ?_⟩⟩, ⟨rfl, rfl, rfl, by simp [World.setRow], fun k hk hne => setRow_other w g k _ (fun e => hne (by rw [e]; rfl))⟩, .inl rfl⟩
   have h8 : cur.toList.take n = xs := by simpa using htake
   rw [h8]
   rw [kf3, kk4, h9, kc5 (by omega)]
   simp
  ·have hfo := run_firstCells_some (P := Try.prog) w.drew i.size n ⟨g, 0, none⟩ n cap xs (by rw [h4]; exact hown.1) (by simpa using fun j u h => hown.cells (g := g) rfl j u h)
   have hr := Go.Lib.run_append_grow_zeros (P := Try.prog) w t tn ty e i z kq kn hu htn h2 h3 (some ⟨g, 0, none⟩) n cap xs hfo m (by omega) (by omega) (by omega) (by unfold maxLen at h63; omega) (by rw [h5]; omega) (growslice_fits (by omega) (by rw [h5]; exact hbytes))
   have hge := grownCap_ge w (n + m) cap e
   have hcm2 := grownCap_le_maxLen w (n + m) cap e h63
   refine ⟨_, _, hr, ⟨by simp [h9], .inr ⟨w.heap.size, _, _, (0, 0), rfl, ke8 _, heap_alloc_new w.drew _, .inl rfl, by omega, hcm2, ?_, ?_⟩⟩, ⟨rfl, rfl, rfl, by simp, fun k hk _ => Below.heap_alloc w.drew _ k hk⟩, .inr ?_⟩
   ·simp only [Array.size_append, size_zeroCells, hzc]; simp [h9]; omega
   ·rw [Array.toList_append, Array.toList_append, hzc, qS, qS, kg2]
    have h10 : (xs ++ kb0 m z).length = (n + m) * 1 := by simp [h9]
    rw [← h10, kf0 (Nat.le_refl _), kk5]
   ·intro g' hg'; simp [Value.ownBlock] at hg'; omega
section
variable {cx : Cx} {o : Oper} {l : List (Nat × PV)} {g : List (Nat × Option Bk)}
theorem o6 {t tn e : TypeId} {z : Value} {bs m n n' b nx : Nat} {kn kq : IntKind} {x y : Operand} {iy : Int} {cs cs' : List C} (ho : o.op = .call { callee := .builtin .append, args := #[x, y], argTypes := #[t, tn] }) (hu : Try.prog.underlying t = some (.slice e)) (htn : Try.prog.underlying tn = some (.int kn)) (hi : (Try.prog.info? e).map (fun i => (i.zero, i.size, i.bytes)) = some (some z, 1, bs)) (hz1 : z.oneCell' = true)
  (hx : Ev l x (.e (.c (.own b 0 n 1 true)))) (hb : Look g b (some (e, cs))) (hcl : cs.length = n) (hy : Ev l y (LV (.int kq iy))) (ey : iy = (m : Int)) (h63 : n + m ≤ maxLen) (hbytes : (n + m) * bs ≤ 140737488355328) (hcat : cs ++ kb0 m (LC z) = cs') (hnm : n + m = n') : OpOK cx o (S l) (S g) ⟨.e (.c (.own nx 0 n' 1 true)), [(b, none), (nx, some (e, cs'))], [nx], [b]⟩ := by
 subst hcat; subst hnm; subst ey
 intro Q ρ a w hL hs hf hnews hh hk hdf K hK
 have e2 := kG (hy.rep hs (by rw [ho]; simp [Op.operands, Call.operands]))
 have hrep := hx.rep hs (by rw [ho]; simp [Op.operands, Call.operands])
 have hb' : hL b = some (e, cs) := by rw [hf b (by simp), hb.S]
 obtain ⟨vx, e1⟩ : ∃ vx, a.eval x = vx := ⟨_, rfl⟩
 rw [e1] at hrep
 have hfirst : ∃ xs : List Value, OwnM w 0 e 1 vx n xs ∧ All2 (RepC cx.p ρ w) cs xs ∧ ρ b ≠ none ∧ ∀ g', vx.ownBlock = some g' → (cx.may g' ∧ ¬ ρ.z g') ∧ ∀ x' m', x' ≠ b → hL x' ≠ none → ρ x' = some m' → m'.nl = false → m'.g ≠ g' := by
  have hrep' : RepC cx.p ρ w (.own b 0 n 1 true) vx := hrep
  cases hrep' with
  | own _ _ _ _ _ mm cap hm hnl q1 q2 q3 =>
   obtain ⟨⟨vs, rest, ⟨fz, r1, rf⟩, r2, r3⟩, r4⟩ := hh.at hb' hm hnl
   obtain ⟨_, q4⟩ := q3 rfl
   have hvl : vs.length = n * 1 := by rw [← r3.len, hcl]; omega
   refine ⟨vs, ⟨hvl, .inr ⟨mm.g, cap, (vs ++ rest).toArray, fz, rfl, ke8 _, r1, by rw [kd0]; exact rf, q1, q2, by rw [kd0, r2]; exact q4.symm, by rw [kg2, kf0 (by omega), kc5 (by omega)]⟩⟩, r3, by rw [hm]; simp, ?_⟩
   intro g' hg'
   have : mm.g = g' := by simpa [Value.ownBlock] using hg'
   subst this
   refine ⟨⟨r4, hh.zf b mm (by rw [hb']; simp) hm hnl⟩, fun x' m' hx' h8 h9 h10 h11 => ?_⟩
   exact hx' (hh.inj x' b m' mm h8 (by rw [hb']; simp) h9 hm h10 hnl h11)
  | ownn _ _ mm hm hnl =>
   have hc0 : cs = [] := kc9 (by rw [hcl])
   subst hc0
   exact ⟨[], ⟨by simp, .inl ⟨rfl, rfl⟩⟩, trivial, by rw [hm]; simp, fun g' hg' => by cases hg'⟩
 obtain ⟨xs, hown, hxs, hbn, hfr⟩ := hfirst
 obtain ⟨v', w', hr, q1, q2, q3⟩ := cP (kq := kq) hu htn hi hz1 hown m h63 hbytes o.type
 have hbnx : b ≠ nx := fun e => hbn (by rw [e]; exact hnews nx (by simp))
 have hlkb : ∀ x', ([(b, none)] : List (Nat × Option Bk)).lookup x' = if x' = b then some none else none := by
  intro x'
  by_cases hx' : x' = b
  ·subst hx'; simp
  ·simp [List.lookup_cons, show (x' == b) = false by simpa using hx', hx']
 have hz0 : All2 (RepC cx.p ρ w) (kb0 m (LC z)) (kb0 m z) := by
  refine All2.mk (by simp) ?_
  intro j p q hj hq
  rw [List.getElem?_replicate] at hj hq
  split at hj
  ·rename_i hlt
   rw [if_pos hlt] at hq
   cases hj; cases hq
   exact .d (.lit _ hz1)
  ·cases hj
 obtain ⟨ρ', p1, p2, p3, p4, p5⟩ := hh.regrow hk (hnews nx (by simp)) (kill := [(b, none)]) (fun x' => by rw [hlkb]; by_cases h : x' = b <;> simp [h]) (by rw [hlkb, if_neg (Ne.symm hbnx)]) q1 q2 q3 (fun g' hg' => ⟨(hfr g' hg').1.1, fun x' m' h8 h9 h10 => by
  rw [hlkb] at h8
  by_cases h : x' = b
  ·rw [if_pos h] at h8; exact absurd rfl h8
  ·rw [if_neg h] at h8; exact (hfr g' hg').2 x' m' h h8 h9 h10⟩) (All2.app hxs hz0) (fun g' hg' => (hfr g' hg').1.2)
 unfold Oper.wp execOp
 simp only [ho, resolve, invoke, builtin, Sem.run_bind, Sem.run_pure, Result.andThen_ok, List.map_toArray, List.map_cons, List.map_nil, e1, e2, hr]
 exact hK v' w' ρ' p1 (fun b hb hn => p2 b (by simpa using hb) hn) p3 p4 p5
theorem pC {nx n c bs : Nat} {t e : TypeId} {z : Value} {x y : Operand} {kx ky : IntKind} {ix iy : Int} {cs : List C} (ho : o.op = .makeSlice t x y) (hu : Try.prog.underlying t = some (.slice e)) (hi : (Try.prog.info? e).map (fun i => (i.zero, i.size, i.bytes)) = some (some z, 1, bs)) (hz : z.oneCell' = true) (hx : Ev l x (LV (.int kx ix))) (hy : Ev l y (LV (.int ky iy))) (ex : ix = (n : Int)) (ey : iy = (c : Int)) (hn : n ≤ c) (hm : c ≤ maxLen) (hb : bs * c ≤ 281474976710656) (hcs : kb0 n (LC z) = cs) :
  OpOK cx o (S l) (S g) ⟨.e (.c (.own nx 0 n 1 true)), [(nx, some (e, cs))], [nx], []⟩ := by subst hcs; exact wO ho hu hi hz hx hy ex ey hn hm hb
end
end Go.Proofs.Ytkjmlililpgamaa
