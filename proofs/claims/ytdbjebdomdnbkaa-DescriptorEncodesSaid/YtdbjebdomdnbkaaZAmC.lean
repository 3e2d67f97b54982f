/- Merged texts. -/
import Derived.Test.YtdbjebdomdnbkaaZAmA
import Derived.Lib.AppendZeros
import Derived.Lib.AppendZerosOnto
namespace Go.Proofs.Ytdbjebdomdnbkaa
open Go.ChangeShapes Go.WideShapes Go.ChangeAt Go.RowKit
set_option linter.unusedVariables false
set_option linter.unusedSimpArgs false
section
variable {cx : Cx} {ops os : List Oper} {o : Oper} {ts : List OT} {l lf : List (Nat × PV)} {g gf : List (Nat × Option Bk)} {u : PV} {d : Nat} {foot news : List Nat}
theorem eR {t : OT} (hg : o.guard = none) (h : OpOK cx o (S l) (S g) t) : StepO cx ops o l g t := by unfold StepO; rw [hg]; exact h
theorem oL (hd : o.dst = some d) (u : PV) : fG o u = [(d, u)] := by unfold fG; rw [hd]
theorem k25 (hd : o.dst = none) (u : PV) : fG o u = [] := by unfold fG; rw [hd]
def SK (cx : Cx) (ops os : List Oper) (l : List (Nat × PV)) (g : List (Nat × Option Bk)) (K : List OT → List (Nat × PV) → List (Nat × Option Bk) → Prop) : Prop := ∃ ts lf gf, Steps cx ops os ts l g lf gf ∧ K ts lf gf
abbrev KT := List OT → List (Nat × PV) → List (Nat × Option Bk) → Prop
variable {K : KT}
theorem SK.nil (h : K [] l g) : SK cx ops [] l g K := ⟨[], l, g, .nil l g, h⟩
theorem SK.cons {t : OT} (h : StepO cx ops o l g t) (hs : SK cx ops os (fG o t.u ++ l) (t.wr ++ g) (fun ts lf gf => K (t :: ts) lf gf)) : SK cx ops (o :: os) l g K := by
 obtain ⟨ts, lf, gf, h1, h2⟩ := hs
 exact ⟨t :: ts, lf, gf, .cons h h1, h2⟩
theorem SK.p (hg : o.guard = none) (hd : o.dst = some d) (h : OpOK cx o (S l) (S g) ⟨u, [], [], foot⟩) (hs : SK cx ops os ((d, u) :: l) g (fun ts lf gf => K (⟨u, [], [], foot⟩ :: ts) lf gf)) : SK cx ops (o :: os) l g K :=
 .cons (eR hg h) (by rw [oL hd]; exact hs)
theorem SK.w {wr g' : List (Nat × Option Bk)} (hg : o.guard = none) (hd : o.dst = some d) (h : OpOK cx o (S l) (S g) ⟨u, wr, news, foot⟩) (hg' : wr ++ g = g') (hs : SK cx ops os ((d, u) :: l) g' (fun ts lf gf => K (⟨u, wr, news, foot⟩ :: ts) lf gf)) : SK cx ops (o :: os) l g K :=
 .cons (eR hg h) (by rw [oL hd]; subst hg'; exact hs)
theorem u6o {x : List (Nat × Option Bk)} {g' : List (Nat × Option Bk)} (hg : o.guard = none) (hd : o.dst = none) (h : OpOK cx o (S l) (S g) ⟨u, x, news, foot⟩) (hg' : x ++ g = g') (hs : SK cx ops os l g' (fun ts lf gf => K (⟨u, x, news, foot⟩ :: ts) lf gf)) : SK cx ops (o :: os) l g K :=
 .cons (eR hg h) (by rw [k25 hd]; subst hg'; exact hs)
theorem SK.n {x : Nat × Option Bk} (hg : o.guard = none) (hd : o.dst = none) (h : OpOK cx o (S l) (S g) ⟨u, [x], news, foot⟩) (hs : SK cx ops os l (x :: g) (fun ts lf gf => K (⟨u, [x], news, foot⟩ :: ts) lf gf)) : SK cx ops (o :: os) l g K :=
 u6o hg hd h rfl hs
theorem StepO.yes {t : OT} {gi dg : Nat} {b : Bool} {og : Oper} (hg : o.guard = some (gi, b)) (hog : ops[gi]? = some og) (hdg : og.dst = some dg) (hv : Look l dg (LV (.bool b))) (h : OpOK cx o (S l) (S g) t) : StepO cx ops o l g t := by
 unfold StepO; rw [hg]; exact ⟨dg, og, hog, hdg, .inl ⟨b, hv.S, by rw [if_pos rfl]; exact h⟩⟩
end
section
variable {cx : Cx} {o : Oper} {l : List (Nat × PV)} {g : List (Nat × Option Bk)}
end
def dI (k : IntKind) (l : List Int) : List D := l.map fun x => .lit (.int k x)
theorem qM (k : IntKind) (l : List Int) : (dI k l).length = l.length := by unfold dI; simp
theorem qW (k : IntKind) (l : List Int) (i : Nat) (h : i < l.length) : ((dI k l).drop i)[0]? = some (.lit (.int k (l.getD i 0))) := by
 unfold dI; rw [List.getElem?_drop]; simp [List.getD_eq_getElem?_getD, h]
theorem k92 (k : IntKind) (l : List Int) (i n : Nat) : ((dI k l).drop i).take n = dI k ((l.drop i).take n) := by unfold dI; simp [List.map_drop, List.map_take]
theorem yO (k : IntKind) (l : List Int) (n : Nat) : (dI k l).take n = dI k (l.take n) := by unfold dI; simp [List.map_take]
theorem uA (k : IntKind) (l : List Int) (n : Nat) : (dI k l).drop n = dI k (l.drop n) := by unfold dI; simp [List.map_drop]
section
variable {cx : Cx} {o : Oper} {l : List (Nat × PV)} {g : List (Nat × Option Bk)}
theorem k1h {nx : Nat} {T : TypeId} {zs : List Value} {cs : List C} (ho : o.op = .alloc T) (hz : fH Try.prog T = some zs) (h1 : zs.all (·.oneCell') = true) (hc : zs.map LC = cs) : OpOK cx o (S l) (S g) ⟨.e (.c (.ptr nx 0)), [(nx, some (T, cs))], [nx], []⟩ := by subst hc; exact k3p ho hz h1
theorem Src.all {s : Nat} {y : Operand} {b m : Nat} {wh : Bool} {T : TypeId} {cs : List C} (h : Ev l y (.e (.c (.own b 0 m s wh)))) (hb : Look g b (some (T, cs))) (hl : cs.length = m * s) : Src l g s y m cs [b] :=
 .own h hb (by rw [List.drop_zero]; exact List.take_of_length_le (by omega)) hl
theorem l0 {t e : TypeId} {z : Value} {s bs m nx : Nat} {x y : Operand} {news cs' : List C} {foot : List Nat} (ho : o.op = .call { callee := .builtin .append, args := #[x, y], argTypes := #[t, t] }) (hu : Try.prog.underlying t = some (.slice e)) (hi : (Try.prog.info? e).map (fun i => (i.zero, i.size, i.bytes)) = some (some z, s, bs)) (hzs : z.cells.size = s) (hs0 : 0 < s)
  (hx : Ev l x (LV aT)) (hy : Src l g s y m news foot) (h63 : m ≤ maxLen) (hbytes : m * bs ≤ 140737488355328) (hcat : news = cs') : OpOK cx o (S l) (S g) ⟨.e (.c (.own nx 0 m s true)), [(nx, some (e, cs'))], [nx], foot⟩ := by subst hcat; exact nA ho hu hi hzs hs0 hx hy h63 hbytes
theorem xK {t e : TypeId} {z : Value} {s bs m n n' b nx : Nat} {x y : Operand} {cs news cs' : List C} {foot : List Nat} (ho : o.op = .call { callee := .builtin .append, args := #[x, y], argTypes := #[t, t] }) (hu : Try.prog.underlying t = some (.slice e)) (hi : (Try.prog.info? e).map (fun i => (i.zero, i.size, i.bytes)) = some (some z, s, bs)) (hzs : z.cells.size = s) (hs0 : 0 < s)
  (hx : Ev l x (.e (.c (.own b 0 n s true)))) (hb : Look g b (some (e, cs))) (hcl : cs.length = n * s) (hy : Src l g s y m news foot) (h63 : n + m ≤ maxLen) (hbytes : (n + m) * bs ≤ 140737488355328) (hcat : cs ++ news = cs') (hnm : n + m = n') : OpOK cx o (S l) (S g) ⟨.e (.c (.own nx 0 n' s true)), [(b, none), (nx, some (e, cs'))], [nx], b :: foot⟩ := by subst hcat; subst hnm; exact k1g ho hu hi hzs hs0 hx hb hcl hy h63 hbytes
end
end Go.Proofs.Ytdbjebdomdnbkaa
namespace Go.Proofs.Ytdbjebdomdnbkaa
open Go.ChangeShapes Go.WideShapes Go.ChangeAt Go.RowKit
set_option linter.unusedVariables false
set_option linter.unusedSimpArgs false
theorem vE (z : Value) (m : Nat) : (Builtin.zeroCells #[z] m).toList = List.replicate m z := by
 unfold Builtin.zeroCells
 rw [Array.toList_map]
 apply List.ext_getElem?
 intro j
 by_cases hj : j < m
 ·simp [hj, Nat.mod_one]
 ·simp [hj]
theorem cC {t tn e : TypeId} {z : Value} {bs : Nat} {kn kq : IntKind} (hu : Try.prog.underlying t = some (.slice e)) (htn : Try.prog.underlying tn = some (.int kn)) (hi : (Try.prog.info? e).map (fun i => (i.zero, i.size, i.bytes)) = some (some z, 1, bs)) (hz1 : z.oneCell' = true) {w : World} {v : Value} {n : Nat} {xs : List Value} (hown : w.ownsRow 0 e 1 v n xs)
  (m : Nat) (h63 : n + m ≤ maxLen) (hbytes : (n + m) * bs ≤ 140737488355328) (ty : TypeId) :
  ∃ v' w', (Builtin.append_ #[t, tn] ty #[v, .int kq (m : Int)]).run Try.prog w = .ok v' w' ∧ w'.ownsRow 0 e 1 v' (n + m) (xs ++ List.replicate m z) ∧ w.grownBy w' v.ownBlock ∧ (v'.ownBlock = v.ownBlock ∨ ∀ g, v'.ownBlock = some g → w.heap.size ≤ g) := by
 obtain ⟨i, h2, h3, h4, h5⟩ := info_parts hi
 have hzc : z.cells = #[z] := by cases z <;> first | rfl | (simp [Value.oneCell'] at hz1)
 have hm63 : (m : Int) ≤ 9223372036854775807 := by unfold maxLen at h63; omega
 have hw : IntKind.i64.wrap (m : Int) = m := by rw [IntKind.wrap_i64]; omega
 have hmb : m * bs ≤ 140737488355328 := Nat.le_trans (Nat.mul_le_mul_right _ (by omega)) hbytes
 have hmn : ¬ ((m : Int) < 0) := by omega
 have hmi : ¬ (281474976710656 < (m : Int) * (i.bytes : Int)) := by rw [h5, ← Int.natCast_mul]; omega
 by_cases h0 : m = 0
 ·subst h0
  rcases hown.2 with ⟨rfl, rfl⟩ | ⟨g, cap, cur, rfl, hbg, hg, hnc, hcm, hcs, htake⟩
  ·exact ⟨.slice none 0 0, w, by simp [Builtin.append_, run_underlying hu, run_underlying htn, sizeOf, typeInfo, h2, h4, asInt, asIntOf, show IntKind.i64.wrap 0 = 0 by decide], by simpa using hown, World.grownBy.refl _ _, .inl rfl⟩
  ·exact ⟨.slice (some ⟨g, 0, none⟩) n cap, w, by simp [Builtin.append_, run_underlying hu, run_underlying htn, sizeOf, typeInfo, h2, h4, asInt, asIntOf, show IntKind.i64.wrap 0 = 0 by decide, hnc, storeCells], by simpa using hown, World.grownBy.refl _ _, .inl rfl⟩
 ·rcases hown.2 with ⟨rfl, rfl⟩ | ⟨g, cap, cur, rfl, hbg, hg, hnc, hcm, hcs, htake⟩
  ·have hx0 : xs = [] := List.eq_nil_of_length_eq_zero (by have := hown.1; simpa using this)
   subst hx0
   have hr := Go.Lib.run_append_nil_zeros (P := Try.prog) w t tn ty e i z kq kn hu htn h2 h3 m (by omega) (by omega) hm63 (by rw [h5]; omega)
   have hge := grownCap_ge w m 0 e
   have hcm := grownCap_le_maxLen w m 0 e (by omega)
   refine ⟨_, _, hr, ⟨by simp, .inr ⟨w.heap.size, _, _, by rw [Nat.zero_add], Nat.zero_le _, heap_alloc_new w.drew _, by omega, hcm, ?_, ?_⟩⟩, ⟨rfl, rfl, rfl, by simp, fun k hk _ => Below.heap_alloc w.drew _ k hk⟩, .inr ?_⟩
   ·simp only [Array.size_append, size_zeroCells, hzc]; simp; omega
   ·rw [Array.toList_append, hzc, vE, vE]; simp
   ·intro g hg; simp [Value.ownBlock] at hg; omega
  ·by_cases hroom : n + m ≤ cap
   ·have hst := run_storeCells_at Try.prog g n e (List.replicate m z) 0 cur w hg (by simp; omega) (by intro u hu; rw [List.mem_replicate] at hu; rw [hu.2]; exact hz1)
    simp only [Nat.add_zero] at hst
    have hr : (Builtin.append_ #[t, tn] ty #[.slice (some ⟨g, 0, none⟩) n cap, .int kq (m : Int)]).run Try.prog w = .ok (.slice (some ⟨g, 0, none⟩) (n + m) cap) (w.setRow g (cur.toList.take n ++ List.replicate m z ++ cur.toList.drop (n + (List.replicate m z).length)).toArray) := by
     simp [Builtin.append_, run_underlying hu, run_underlying htn, sizeOf, typeInfo, zeroValue, h2, h3, h4, h5, hzc, asInt, asIntOf, hw, hroom, hmn, show ¬ (281474976710656 < (m : Int) * (bs : Int)) by rw [← h5]; exact hmi, h0, Addr.add_lit, vE, hst]
    refine ⟨_, _, hr, ⟨by simp [hown.1], .inr ⟨g, cap, _, rfl, Nat.zero_le _, setRow_heap w g cur _ e (0, 0) hg, by omega, hcm, ?_, ?_⟩⟩, ⟨rfl, rfl, rfl, by simp [World.setRow], fun k hk hne => setRow_other w g k _ (fun e => hne (by rw [e]; rfl))⟩, .inl rfl⟩
    ·simp; omega
    ·have h8 : cur.toList.take n = xs := by simpa using htake
     rw [h8]
     have h9 : xs.length = n := by simpa using hown.1
     rw [List.append_assoc, List.take_append, h9, List.take_of_length_le (by omega)]
     simp
   ·have hfo := run_firstCells_some (P := Try.prog) w.drew i.size n ⟨g, 0, none⟩ n cap xs (by rw [h4]; exact hown.1) (by simpa using fun j u h => hown.cells (g := g) rfl j u h)
    have hr := Go.Lib.run_append_grow_zeros (P := Try.prog) w t tn ty e i z kq kn hu htn h2 h3 (some ⟨g, 0, none⟩) n cap xs hfo m (by omega) (by omega) (by omega) (by unfold maxLen at h63; omega) (by rw [h5]; omega) (growslice_fits (by omega) (by rw [h5]; exact hbytes))
    have hge := grownCap_ge w (n + m) cap e
    have hcm2 := grownCap_le_maxLen w (n + m) cap e h63
    have h9 : xs.length = n := by simpa using hown.1
    refine ⟨_, _, hr, ⟨by simp [h9], .inr ⟨w.heap.size, _, _, rfl, Nat.zero_le _, heap_alloc_new w.drew _, by omega, hcm2, ?_, ?_⟩⟩, ⟨rfl, rfl, rfl, by simp, fun k hk _ => Below.heap_alloc w.drew _ k hk⟩, .inr ?_⟩
    ·simp only [Array.size_append, size_zeroCells, hzc]; simp [h9]; omega
    ·rw [Array.toList_append, Array.toList_append, hzc, vE, vE, List.toList_toArray]
     have h10 : (xs ++ List.replicate m z).length = (n + m) * 1 := by simp [h9]
     rw [← h10, List.take_append_of_le_length (Nat.le_refl _), List.take_length]
    ·intro g' hg'; simp [Value.ownBlock] at hg'; omega
theorem lO {t tn e : TypeId} {z : Value} {bs : Nat} {kn kq : IntKind} (hu : Try.prog.underlying t = some (.slice e)) (htn : Try.prog.underlying tn = some (.int kn)) (hi : (Try.prog.info? e).map (fun i => (i.zero, i.size, i.bytes)) = some (some z, 1, bs)) (hz1 : z.oneCell' = true) {w : World} {v : Value} {n : Nat} {xs : List Value} (hown : OwnM w 0 e 1 v n xs)
  (m : Nat) (h63 : n + m ≤ maxLen) (hbytes : (n + m) * bs ≤ 140737488355328) (ty : TypeId) :
  ∃ v' w', (Builtin.append_ #[t, tn] ty #[v, .int kq (m : Int)]).run Try.prog w = .ok v' w' ∧ OwnM w' 0 e 1 v' (n + m) (xs ++ List.replicate m z) ∧ w.grownBy w' v.ownBlock ∧ (v'.ownBlock = v.ownBlock ∨ ∀ g, v'.ownBlock = some g → w.heap.size ≤ g) := by
 rcases hown.2 with ⟨rfl, rfl⟩ | ⟨g, cap, cur, fz, rfl, hbg, hg, hf, hnc, hcm, hcs, htake⟩
 ·obtain ⟨v', w', q1, q2, q3, q4⟩ := cC (kq := kq) hu htn hi hz1 (v := .slice none 0 0) (n := 0) (w := w) ⟨hown.1, .inl ⟨rfl, rfl⟩⟩ m h63 hbytes ty
  exact ⟨v', w', q1, fE q2, q3, q4⟩
 by_cases hfz : fz = (0, 0)
 ·subst hfz
  obtain ⟨v', w', q1, q2, q3, q4⟩ := cC (kq := kq) hu htn hi hz1 (w := w) ⟨hown.1, .inr ⟨g, cap, cur, rfl, hbg, hg, hnc, hcm, hcs, htake⟩⟩ m h63 hbytes ty
  exact ⟨v', w', q1, fE q2, q3, q4⟩
 obtain ⟨i, h2, h3, h4, h5⟩ := info_parts hi
 have hzc : z.cells = #[z] := by cases z <;> first | rfl | (simp [Value.oneCell'] at hz1)
 have hm63 : (m : Int) ≤ 9223372036854775807 := by unfold maxLen at h63; omega
 have hw : IntKind.i64.wrap (m : Int) = m := by rw [IntKind.wrap_i64]; omega
 have hmb : m * bs ≤ 140737488355328 := Nat.le_trans (Nat.mul_le_mul_right _ (by omega)) hbytes
 have hmn : ¬ ((m : Int) < 0) := by omega
 have hmi : ¬ (281474976710656 < (m : Int) * (i.bytes : Int)) := by rw [h5, ← Int.natCast_mul]; omega
 have h9 : xs.length = n := by simpa using hown.1
 by_cases h0 : m = 0
 ·subst h0
  exact ⟨.slice (some ⟨g, 0, none⟩) n cap, w, by simp [Builtin.append_, run_underlying hu, run_underlying htn, sizeOf, typeInfo, h2, h4, asInt, asIntOf, show IntKind.i64.wrap 0 = 0 by decide, hnc, storeCells], by simpa using hown, World.grownBy.refl _ _, .inl rfl⟩
 ·by_cases hroom : n + m ≤ cap
  ·have hst := uW Try.prog g n e fz (List.replicate m z) 0 cur w hg hf (by simp; omega) (by intro u hu; rw [List.mem_replicate] at hu; rw [hu.2]; exact hz1)
   simp only [Nat.add_zero] at hst
   have hr : (Builtin.append_ #[t, tn] ty #[.slice (some ⟨g, 0, none⟩) n cap, .int kq (m : Int)]).run Try.prog w = .ok (.slice (some ⟨g, 0, none⟩) (n + m) cap) (w.setRow g (cur.toList.take n ++ List.replicate m z ++ cur.toList.drop (n + (List.replicate m z).length)).toArray) := by
    simp [Builtin.append_, run_underlying hu, run_underlying htn, sizeOf, typeInfo, zeroValue, h2, h3, h4, h5, hzc, asInt, asIntOf, hw, hroom, hmn, show ¬ (281474976710656 < (m : Int) * (bs : Int)) by rw [← h5]; exact hmi, h0, Addr.add_lit, vE, hst]
   have hsz : (cur.toList.take n ++ List.replicate m z ++ cur.toList.drop (n + (List.replicate m z).length)).length = cur.size := by
    simp only [List.length_append, List.length_take, List.length_drop, Array.length_toList, List.length_replicate]; omega
   refine ⟨_, _, hr, ⟨by simp [hown.1], .inr ⟨g, cap, _, fz, rfl, Nat.zero_le _, setRow_heap w g cur _ e fz hg, by rw [List.size_toArray, hsz]; exact hf, by omega, hcm, by rw [List.size_toArray, hsz]; exact hcs, ?_⟩⟩, ⟨rfl, rfl, rfl, by simp [World.setRow], fun k hk hne => setRow_other w g k _ (fun e => hne (by rw [e]; rfl))⟩, .inl rfl⟩
   have h8 : cur.toList.take n = xs := by simpa using htake
   rw [h8]
   rw [List.append_assoc, List.take_append, h9, List.take_of_length_le (by omega)]
   simp
  ·have hfo := run_firstCells_some (P := Try.prog) w.drew i.size n ⟨g, 0, none⟩ n cap xs (by rw [h4]; exact hown.1) (by simpa using fun j u h => hown.cells (g := g) rfl j u h)
   have hr := Go.Lib.run_append_grow_zeros (P := Try.prog) w t tn ty e i z kq kn hu htn h2 h3 (some ⟨g, 0, none⟩) n cap xs hfo m (by omega) (by omega) (by omega) (by unfold maxLen at h63; omega) (by rw [h5]; omega) (growslice_fits (by omega) (by rw [h5]; exact hbytes))
   have hge := grownCap_ge w (n + m) cap e
   have hcm2 := grownCap_le_maxLen w (n + m) cap e h63
   refine ⟨_, _, hr, ⟨by simp [h9], .inr ⟨w.heap.size, _, _, (0, 0), rfl, Nat.zero_le _, heap_alloc_new w.drew _, .inl rfl, by omega, hcm2, ?_, ?_⟩⟩, ⟨rfl, rfl, rfl, by simp, fun k hk _ => Below.heap_alloc w.drew _ k hk⟩, .inr ?_⟩
   ·simp only [Array.size_append, size_zeroCells, hzc]; simp [h9]; omega
   ·rw [Array.toList_append, Array.toList_append, hzc, vE, vE, List.toList_toArray]
    have h10 : (xs ++ List.replicate m z).length = (n + m) * 1 := by simp [h9]
    rw [← h10, List.take_append_of_le_length (Nat.le_refl _), List.take_length]
   ·intro g' hg'; simp [Value.ownBlock] at hg'; omega
section
variable {cx : Cx} {o : Oper} {l : List (Nat × PV)} {g : List (Nat × Option Bk)}
theorem k3e {t tn e : TypeId} {z : Value} {bs m n n' b nx : Nat} {kn kq : IntKind} {x y : Operand} {iy : Int} {cs cs' : List C} (ho : o.op = .call { callee := .builtin .append, args := #[x, y], argTypes := #[t, tn] }) (hu : Try.prog.underlying t = some (.slice e)) (htn : Try.prog.underlying tn = some (.int kn)) (hi : (Try.prog.info? e).map (fun i => (i.zero, i.size, i.bytes)) = some (some z, 1, bs)) (hz1 : z.oneCell' = true)
  (hx : Ev l x (.e (.c (.own b 0 n 1 true)))) (hb : Look g b (some (e, cs))) (hcl : cs.length = n) (hy : Ev l y (LV (.int kq iy))) (ey : iy = (m : Int)) (h63 : n + m ≤ maxLen) (hbytes : (n + m) * bs ≤ 140737488355328) (hcat : cs ++ List.replicate m (LC z) = cs') (hnm : n + m = n') : OpOK cx o (S l) (S g) ⟨.e (.c (.own nx 0 n' 1 true)), [(b, none), (nx, some (e, cs'))], [nx], [b]⟩ := by
 subst hcat; subst hnm; subst ey
 intro Q ρ a w hL hs hf hnews hh hk hdf K hK
 have e2 := qC (hy.rep hs (by rw [ho]; simp [Op.operands, Call.operands]))
 have hrep := hx.rep hs (by rw [ho]; simp [Op.operands, Call.operands])
 have hb' : hL b = some (e, cs) := by rw [hf b (by simp), hb.S]
 obtain ⟨vx, e1⟩ : ∃ vx, a.eval x = vx := ⟨_, rfl⟩
 rw [e1] at hrep
 have hfirst : ∃ xs : List Value, OwnM w 0 e 1 vx n xs ∧ All2 (RepC cx.p ρ w) cs xs ∧ ρ b ≠ none ∧ ∀ g', vx.ownBlock = some g' → (cx.may g' ∧ ¬ ρ.z g') ∧ ∀ x' m', x' ≠ b → hL x' ≠ none → ρ x' = some m' → m'.nl = false → m'.g ≠ g' := by
  have hrep' : RepC cx.p ρ w (.own b 0 n 1 true) vx := hrep
  cases hrep' with
  | own _ _ _ _ _ mm cap hm hnl q1 q2 q3 =>
   obtain ⟨⟨vs, rest, ⟨fz, r1, rf⟩, r2, r3⟩, r4⟩ := hh.at hb' hm hnl
   obtain ⟨_, q4⟩ := q3 rfl
   have hvl : vs.length = n * 1 := by rw [← r3.len, hcl]; omega
   refine ⟨vs, ⟨hvl, .inr ⟨mm.g, cap, (vs ++ rest).toArray, fz, rfl, Nat.zero_le _, r1, by rw [List.size_toArray]; exact rf, q1, q2, by rw [List.size_toArray, r2]; exact q4.symm, by rw [List.toList_toArray, List.take_append_of_le_length (by omega), List.take_of_length_le (by omega)]⟩⟩, r3, by rw [hm]; simp, ?_⟩
   intro g' hg'
   have : mm.g = g' := by simpa [Value.ownBlock] using hg'
   subst this
   refine ⟨⟨r4, hh.zf b mm (by rw [hb']; simp) hm hnl⟩, fun x' m' hx' h8 h9 h10 h11 => ?_⟩
   exact hx' (hh.inj x' b m' mm h8 (by rw [hb']; simp) h9 hm h10 hnl h11)
  | ownn _ _ mm hm hnl =>
   have hc0 : cs = [] := List.eq_nil_of_length_eq_zero (by rw [hcl])
   subst hc0
   exact ⟨[], ⟨by simp, .inl ⟨rfl, rfl⟩⟩, trivial, by rw [hm]; simp, fun g' hg' => by cases hg'⟩
 obtain ⟨xs, hown, hxs, hbn, hfr⟩ := hfirst
 obtain ⟨v', w', hr, q1, q2, q3⟩ := lO (kq := kq) hu htn hi hz1 hown m h63 hbytes o.type
 have hbnx : b ≠ nx := fun e => hbn (by rw [e]; exact hnews nx (by simp))
 have hlkb : ∀ x', ([(b, none)] : List (Nat × Option Bk)).lookup x' = if x' = b then some none else none := by
  intro x'
  by_cases hx' : x' = b
  ·subst hx'; simp
  ·simp [List.lookup_cons, show (x' == b) = false by simpa using hx', hx']
 have hz0 : All2 (RepC cx.p ρ w) (List.replicate m (LC z)) (List.replicate m z) := by
  refine All2.mk (by simp) ?_
  intro j p q hj hq
  rw [List.getElem?_replicate] at hj hq
  split at hj
  ·rename_i hlt
   rw [if_pos hlt] at hq
   cases hj; cases hq
   exact .d (.lit _ hz1)
  ·cases hj
 obtain ⟨ρ', p1, p2, p3, p4, p5⟩ := hh.regrow hk (hnews nx (by simp)) (kill := [(b, none)]) (fun x' => by rw [hlkb]; by_cases h : x' = b <;> simp [h]) (by rw [hlkb, if_neg (Ne.symm hbnx)]) q1 q2 q3 (fun g' hg' => ⟨(hfr g' hg').1.1, fun x' m' h8 h9 h10 => by
  rw [hlkb] at h8
  by_cases h : x' = b
  ·rw [if_pos h] at h8; exact absurd rfl h8
  ·rw [if_neg h] at h8; exact (hfr g' hg').2 x' m' h h8 h9 h10⟩) (All2.app hxs hz0) (fun g' hg' => (hfr g' hg').1.2)
 unfold Oper.wp execOp
 simp only [ho, resolve, invoke, builtin, Sem.run_bind, Sem.run_pure, Result.andThen_ok, List.map_toArray, List.map_cons, List.map_nil, e1, e2, hr]
 exact hK v' w' ρ' p1 (fun b hb hn => p2 b (by simpa using hb) hn) p3 p4 p5
theorem k3k {nx n c bs : Nat} {t e : TypeId} {z : Value} {x y : Operand} {kx ky : IntKind} {ix iy : Int} {cs : List C} (ho : o.op = .makeSlice t x y) (hu : Try.prog.underlying t = some (.slice e)) (hi : (Try.prog.info? e).map (fun i => (i.zero, i.size, i.bytes)) = some (some z, 1, bs)) (hz : z.oneCell' = true) (hx : Ev l x (LV (.int kx ix))) (hy : Ev l y (LV (.int ky iy))) (ex : ix = (n : Int)) (ey : iy = (c : Int)) (hn : n ≤ c) (hm : c ≤ maxLen) (hb : bs * c ≤ 281474976710656) (hcs : List.replicate n (LC z) = cs) :
  OpOK cx o (S l) (S g) ⟨.e (.c (.own nx 0 n 1 true)), [(nx, some (e, cs))], [nx], []⟩ := by subst hcs; exact k7p ho hu hi hz hx hy ex ey hn hm hb
end
theorem Mod.adopt {cx : Cx} {n nx : Nat} {l : List (Nat × PV)} {g : List (Nat × Option Bk)} {b i s : Nat} {T T2 : TypeId} {cs : List C} (hb : Look g b (some (T, cs))) (hc : cs[i]? = some (LC aT)) {a : Act} {w : World} (h : Mod cx n l g nx a w) : Mod cx n l ((b, some (T, cs.set i (.own nx 0 0 s true))) :: (nx, some (T2, [])) :: g) (nx + 1) a w := by
 obtain ⟨ρ, h1, h2, h3, h4, h5, h6, h9⟩ := h
 have hnx : ρ nx = none := h6 nx (Nat.le_refl _)
 have hgo : Goes cx.p ρ (ρ.set nx ⟨0, 0, true⟩) w w := by
  refine ⟨fun b m hb => ?_, fun _ h => h, Nat.le_refl _, fun _ _ _ => rfl⟩
  have : b ≠ nx := fun e => by rw [e, hnx] at hb; cases hb
  simp [this, hb]
 obtain ⟨m, k1, k2⟩ := h2.row b T cs hb.S
 have hbn : b ≠ nx := fun e => by rw [e, hnx] at k1; cases k1
 refine ⟨ρ.set nx ⟨0, 0, true⟩, h1, ⟨?_, ?_, ?_, h2.zm, h2.zl⟩, fun t => (h3 t).mono hgo, h4, h5, ?_, fun b m hb => hgo.ext _ _ (h9 b m hb)⟩
 ·intro x T' cs' hx
  unfold Proofs.Ytdbjebdomdnbkaa.S at hx
  rw [List.lookup_cons, List.lookup_cons] at hx
  by_cases hxb : x = b
  ·subst hxb
   simp at hx
   obtain ⟨rfl, rfl⟩ := hx
   refine ⟨m, by simp [hbn, k1], ?_⟩
   rcases k2 with ⟨k2, k3⟩ | ⟨k2, ⟨vs, rest, r1, r2, r3⟩, k4⟩
   ·rw [k3] at hc; simp at hc
   ·have hi : i < vs.length := by have := (List.getElem?_eq_some_iff.1 hc).1; rw [← r3.len]; exact this
    have hv := r3.get i _ vs[i] hc (List.getElem?_eq_getElem hi)
    have hv2 : vs[i] = aT := by
     have h := hv
     generalize vs[i] = q at h
     cases h with | d h => cases h; rfl
    refine .inr ⟨k2, ⟨vs, rest, r1, r2, ?_⟩, k4⟩
    have h8 : All2 (RepC cx.p (ρ.set nx ⟨0, 0, true⟩) w) (cs.set i (.own nx 0 0 s true)) (vs.set i aT) :=
     All2.set (.ownn nx s ⟨0, 0, true⟩ (by simp) rfl) i (r3.imp fun _ _ => RepC.mono hgo)
    rwa [← hv2, List.set_getElem_self] at h8
  ·have hxb' : (x == b) = false := by simpa using hxb
   simp only [hxb'] at hx
   by_cases hxn : x = nx
   ·subst hxn
    simp at hx
    obtain ⟨rfl, rfl⟩ := hx
    exact ⟨⟨0, 0, true⟩, by simp, .inl ⟨rfl, rfl⟩⟩
   ·have hxn' : (x == nx) = false := by simpa using hxn
    simp only [hxn'] at hx
    obtain ⟨m', q1, q2⟩ := h2.row x T' cs' hx
    refine ⟨m', by simp [hxn, q1], ?_⟩
    rcases q2 with q2 | ⟨q2, q3, q4⟩
    ·exact .inl q2
    ·exact .inr ⟨q2, q3.mono hgo rfl, q4⟩
 ·have hlive : ∀ x, x ≠ nx → S ((b, some (T, cs.set i (.own nx 0 0 s true))) :: (nx, some (T2, [])) :: g) x ≠ none → S g x ≠ none := by
   intro x hxn hx
   unfold Proofs.Ytdbjebdomdnbkaa.S at hx ⊢
   rw [List.lookup_cons, List.lookup_cons] at hx
   by_cases hxb : x = b
   ·subst hxb; rw [hb.eq]; simp
   ·simpa [show (x == b) = false by simpa using hxb, show (x == nx) = false by simpa using hxn] using hx
  intro x x' m1 m2 hx hx' hm1 hm2 hn1 hn2 he
  by_cases hxn : x = nx
  ·subst hxn; simp at hm1; subst hm1; cases hn1
  ·by_cases hxn' : x' = nx
   ·subst hxn'; simp at hm2; subst hm2; cases hn2
   ·simp [hxn] at hm1; simp [hxn'] at hm2
    exact h2.inj x x' m1 m2 (hlive x hxn hx) (hlive x' hxn' hx') hm1 hm2 hn1 hn2 he
 ·have hlive : ∀ x, x ≠ nx → S ((b, some (T, cs.set i (.own nx 0 0 s true))) :: (nx, some (T2, [])) :: g) x ≠ none → S g x ≠ none := by
   intro x hxn hx
   unfold Proofs.Ytdbjebdomdnbkaa.S at hx ⊢
   rw [List.lookup_cons, List.lookup_cons] at hx
   by_cases hxb : x = b
   ·subst hxb; rw [hb.eq]; simp
   ·simpa [show (x == b) = false by simpa using hxb, show (x == nx) = false by simpa using hxn] using hx
  intro x m1 hx hm1 hn1
  by_cases hxn : x = nx
  ·subst hxn; simp at hm1; subst hm1; cases hn1
  ·simp [hxn] at hm1; exact h2.zf x m1 (hlive x hxn hx) hm1 hn1
 ·intro x hx
  have : x ≠ nx := by omega
  simp [this, h6 x (by omega)]
theorem AW.adopt {cx : Cx} {n nx : Nat} {c : Code} {Q : yP} {l : List (Nat × PV)} {g : List (Nat × Option Bk)} {b i s : Nat} {T : TypeId} (T2 : TypeId) {cs cs' : List C} (hb : Look g b (some (T, cs))) (hc : cs[i]? = some (LC aT)) (hs : cs.set i (.own nx 0 0 s true) = cs') (h : AW cx n c Q ⟨l, (b, some (T, cs')) :: (nx, some (T2, [])) :: g, nx + 1⟩) : AW cx n c Q ⟨l, g, nx⟩ := fun a w hm => by
 subst hs; exact h a w (hm.adopt hb hc)
end Go.Proofs.Ytdbjebdomdnbkaa
