/- A memory told by names: append, copy, structs. No statement is proved here. -/
import Derived.Test.YtkjmlililpgamaaZAm6
namespace Go.Proofs.Ytkjmlililpgamaa
open Go.ChangeShapes Go.WideShapes Go.ChangeAt Go.RowKit
open List renaming append_assoc → kf3, eq_nil_of_length_eq_zero → kc9, getElem?_take → ke4, length_append → ka4, length_take → kb8, lookup_cons → kc2, map_cons → kd5, map_nil → kg0, map_toArray → ke0, mem_cons_of_mem → kb9, size_toArray → kd0, take_left → kl0
open Nat renaming add_mul → kh5, zero_le → ke8
set_option linter.unusedVariables false
set_option linter.unusedSimpArgs false
section
variable {cx : Cx} {o : Oper} {l : List (Nat × PV)} {g : List (Nat × Option Bk)}
inductive Src (l : List (Nat × PV)) (g : List (Nat × Option Bk)) (s : Nat) : Operand → Nat → List C → List Nat → Prop where
 | nil {y : Operand} (h : Ev l y (LV vI)) : Src l g s y 0 [] []
 | sl {y : Operand} {ds : List D} {m : Nat} (h : Ev l y (.e (.c (.d (.sl ds m))))) (hl : ds.length = m * s) : Src l g s y m (ds.map .d) []
 | own {y : Operand} {b off m : Nat} {wh : Bool} {T : TypeId} {cs news : List C} (h : Ev l y (.e (.c (.own b off m s wh)))) (hb : Look g b (some (T, cs))) (hn : (cs.drop off).take (m * s) = news) (hl : news.length = m * s) : Src l g s y m news [b]
theorem Src.rep {s : Nat} {y : Operand} {m : Nat} {news : List C} {foot : List Nat} (h : Src l g s y m news foot) {ρ : Rh} {a : Act} {w : World} {hL : Hp} {xs : Array Operand} (hs : uP cx.p ρ w l xs a) (hx : y ∈ xs.toList) (hf : ∀ b ∈ foot, hL b = S g b) (hh : HRep cx ρ w hL) :
  ∃ (ad : Option Addr) (c : Nat) (us : List Value), a.eval y = .slice ad m c ∧ All2 (RepC cx.p ρ w) news us ∧ us.length = m * s ∧ m ≤ c ∧ c ≤ maxLen ∧ (ad = none → m = 0 ∧ c = 0) ∧ ∀ p, ad = some p → ∀ j u, us[j]? = some u → w.cell? (p.add j) = some u := by
 cases h with
 | nil h => exact ⟨none, 0, [], kG (h.rep hs hx), trivial, by simp, by omega, by simp [maxLen], fun _ => ⟨rfl, rfl⟩, fun p h => by cases h⟩
 | @sl ds m h hl =>
  obtain ⟨ad, cap, e1, h3, h4, h5, h6⟩ := fM (h.rep hs hx)
  rcases h6 with ⟨rfl, rfl⟩ | ⟨us, b, off, rfl, hl', hc, hr, hp, hb⟩
  ·exact ⟨ad, cap, [], e1, trivial, by simp, h3, h4, fun h => ⟨rfl, h5 h⟩, fun p _ j u hj => by simp at hj⟩
  ·refine ⟨_, cap, us, e1, All2.mk (by simp [hl']) ?_, by rw [hl', hl], h3, h4, fun h => (by cases h), ?_⟩
   ·intro j c u hj hu
    rw [List.getElem?_map] at hj
    obtain ⟨d, hd, rfl⟩ := Option.map_eq_some_iff.1 hj
    exact .d (hr j d u hd hu)
   ·intro p hp' j u hj
    cases hp'
    rw [Addr.add_mid]
    exact hc j u hj
 | @own b off m wh T cs news h hb hn hl =>
  have hrep := h.rep hs hx
  obtain ⟨ad, cap, e1, h3, h4, h5⟩ := uN hrep
  by_cases h0 : m = 0
  ·subst h0
   have : news = [] := kc9 (by rw [hl]; simp)
   subst this
   exact ⟨ad, cap, [], e1, trivial, by simp, h3, h4, fun h => ⟨rfl, h5 h⟩, fun p _ j u hj => by simp at hj⟩
  ·obtain ⟨mm, cap', hm, hnl, e2, h6, h7, h8⟩ := uY (by omega) hrep
   have hb' : hL b = some (T, cs) := by rw [hf b (by simp), hb.S]
   obtain ⟨vs, rest, q1, q2, q3⟩ := (hh.at hb' hm hnl).1
   have q4 := (q3.drop off).take (m * s)
   rw [hn] at q4
   refine ⟨_, cap', (vs.drop off).take (m * s), e2, q4, by rw [← q4.len]; exact hl, h6, h7, fun h => (by cases h), ?_⟩
   intro p hp j u hj
   cases hp
   rw [Addr.add_mid]
   rw [ke4] at hj
   split at hj
   ·rw [List.getElem?_drop] at hj
    exact BlkM.cell (vs := vs ++ rest) q1 (off + j) (by rw [List.getElem?_append_left (List.getElem?_eq_some_iff.1 hj).1]; exact hj)
   ·cases hj
theorem gO {p : Nat → Prop} {ρ : Rh} {w : World} {cs : List C} {us : List Value} (h : All2 (RepC p ρ w) cs us) : ∀ u ∈ us, u.oneCell' = true := by
 intro u hu
 obtain ⟨i, hi⟩ := List.mem_iff_getElem?.1 hu
 have hil := (List.getElem?_eq_some_iff.1 hi).1
 have hic : i < cs.length := by rw [h.len]; exact hil
 exact (h.get i cs[i] u (List.getElem?_eq_getElem hic) hi).one
theorem HRep.regrow {ρ : Rh} {w w' : World} {hL : Hp} (hh : HRep cx ρ w hL) (hk : Kept cx.W cx.may w) {nx : Nat} (hρ : ρ nx = none) {kill : List (Nat × Option Bk)} (hkill : ∀ x, kill.lookup x = none ∨ kill.lookup x = some none) (hknx : kill.lookup nx = none) {v v' : Value} {n' s : Nat} {e : TypeId} {xs' : List Value} {cs' : List C}
  (hrow : OwnM w' 0 e s v' n' xs') (hgb : w.grownBy w' v.ownBlock) (hwh : v'.ownBlock = v.ownBlock ∨ ∀ g, v'.ownBlock = some g → w.heap.size ≤ g) (hfree : ∀ g, v.ownBlock = some g → cx.may g ∧ ∀ x m', (kill.lookup x).getD (hL x) ≠ none → ρ x = some m' → m'.nl = false → m'.g ≠ g) (hxs : All2 (RepC cx.p ρ w) cs' xs') (hfz : ∀ g, v.ownBlock = some g → ¬ ρ.z g) :
  ∃ ρ' : Rh, Goes cx.p ρ ρ' w w' ∧ (∀ b, b ≠ nx → ρ b = none → ρ' b = none) ∧ HRep cx ρ' w' (fun x => ((kill ++ [(nx, some (e, cs'))]).lookup x).getD (hL x)) ∧ Kept cx.W cx.may w' ∧ RepPV cx.p ρ' w' (.e (.c (.own nx 0 n' s true))) v' := by
 have hkept : Kept cx.W cx.may w' := hk.below hgb.os hgb.tape hgb.output hgb.size (fun k hk' hnm => hgb.block k (Nat.lt_of_lt_of_le hk' hk.size) (fun e => hnm (hfree k e.symm).1))
 have hgo : ∀ m0 : Nm, Goes cx.p ρ (ρ.set nx m0) w w' := by
  intro m0
  refine ⟨fun b m hb => ?_, fun _ h => h, hgb.size, fun k hp hlt => hgb.block k hlt (fun e => hp.elim (fun hp => cx.pm k hp (hfree k e.symm).1) (hfz k e.symm))⟩
  have : b ≠ nx := fun e => by rw [e, hρ] at hb; cases hb
  simp [this, hb]
 have hlk : ∀ x, x ≠ nx → ((kill ++ [(nx, some (e, cs'))]).lookup x).getD (hL x) = (kill.lookup x).getD (hL x) := by
  intro x hx
  rw [qU]
  simp only [kc2, show (x == nx) = false by simpa using hx, List.lookup_nil]
  cases kill.lookup x <;> rfl
 have hlknx : ((kill ++ [(nx, some (e, cs'))]).lookup nx).getD (hL nx) = some (e, cs') := by
  rw [qU, hknx]; simp
 have hold : ∀ x T cs, x ≠ nx → ((kill ++ [(nx, some (e, cs'))]).lookup x).getD (hL x) = some (T, cs) → hL x = some (T, cs) ∧ (kill.lookup x).getD (hL x) ≠ none := by
  intro x T cs hx h
  rw [hlk x hx] at h
  refine ⟨?_, by rw [h]; simp⟩
  rcases hkill x with h1 | h1
  ·rw [h1] at h; exact h
  ·rw [h1] at h; cases h
 have hstay : ∀ x T cs, x ≠ nx → ((kill ++ [(nx, some (e, cs'))]).lookup x).getD (hL x) = some (T, cs) → hL x = some (T, cs) ∧ ∀ m, ρ x = some m → m.nl = false → w'.heap[m.g]? = w.heap[m.g]? := by
  intro x T cs hx h
  obtain ⟨h1, h2⟩ := hold x T cs hx h
  refine ⟨h1, fun m hm hnl => ?_⟩
  exact hgb.block _ (hh.at h1 hm hnl).1.lt (fun e => (hfree m.g e.symm).2 x m h2 hm hnl rfl)
 rcases hrow.2 with ⟨rfl, rfl⟩ | ⟨g', cap, cur, fz, rfl, _, hg, hfzz, hnc, hcm, hcs, htake⟩
 ·have hcs0 : cs' = [] := by
   have h1 := hrow.1; rw [Nat.zero_mul] at h1
   exact kc9 (by rw [hxs.len]; exact h1)
  refine ⟨_, hgo ⟨0, 0, true⟩, fun b hb hn => by simp [hb, hn], hh.step (hgo ⟨0, 0, true⟩) ?_, hkept, .ownn nx s ⟨0, 0, true⟩ (by simp) rfl⟩
  intro x T cs hx
  by_cases hxn : x = nx
  ·subst hxn
   rw [hlknx] at hx
   cases hx
   exact .inr ⟨⟨0, 0, true⟩, by simp, .inl ⟨rfl, hcs0⟩⟩
  ·exact .inl (hstay x T cs hxn hx)
 ·have hmay : cx.may g' ∧ ∀ x m', x ≠ nx → ((kill ++ [(nx, some (e, cs'))]).lookup x).getD (hL x) ≠ none → ρ x = some m' → m'.nl = false → m'.g ≠ g' := by
   rcases hwh with h | h
   ·obtain ⟨q1, q2⟩ := hfree g' (by rw [← h]; rfl)
    exact ⟨q1, fun x m' hx h1 h2 h3 => q2 x m' (by rw [← hlk x hx]; exact h1) h2 h3⟩
   ·have h1 := h g' rfl
    refine ⟨cx.mayNew g' (Nat.le_trans hk.size h1), fun x m' hx h2 h3 h4 h5 => ?_⟩
    obtain ⟨⟨T, cs⟩, h6⟩ := Option.ne_none_iff_exists'.1 h2
    have := (hh.at (hold x T cs hx h6).1 h3 h4).1.lt
    omega
  have hfz' : ¬ ρ.z g' := by
   rcases hwh with h | h
   ·exact hfz g' (by rw [← h]; rfl)
   ·exact fun hz => by have := hh.zl _ hz; have := h g' rfl; omega
  have hcur : xs' ++ cur.toList.drop (n' * s) = cur.toList := by rw [← htake]; exact List.take_append_drop _ _
  have hlen : (xs' ++ cur.toList.drop (n' * s)).length = cur.size := by rw [hcur]; simp
  refine ⟨_, hgo ⟨g', cur.size, false⟩, fun b hb hn => by simp [hb, hn], hh.step (hgo ⟨g', cur.size, false⟩) ?_, hkept, .own nx 0 n' s true ⟨g', cur.size, false⟩ cap (by simp) rfl hnc hcm (fun _ => ⟨rfl, hcs.symm⟩)⟩
  intro x T cs hx
  by_cases hxn : x = nx
  ·subst hxn
   rw [hlknx] at hx
   cases hx
   refine .inr ⟨⟨g', cur.size, false⟩, by simp, .inr ⟨rfl, ⟨xs', cur.toList.drop (n' * s), ⟨fz, by rw [hcur]; simpa using hg, by rw [hlen]; exact hfzz⟩, hlen, hxs.imp fun _ _ => RepC.mono (hgo _)⟩, hmay.1, hfz', ?_⟩⟩
   intro b' m' hne h1 h2 h3
   simp [hne] at h2
   exact hmay.2 b' m' hne h1 h2 h3
  ·exact .inl (hstay x T cs hxn hx)
theorem u5 {t e : TypeId} {z : Value} {s bs : Nat} (hu : Try.prog.underlying t = some (.slice e)) (hi : (Try.prog.info? e).map (fun i => (i.zero, i.size, i.bytes)) = some (some z, s, bs)) (hzs : z.cells.size = s) (hs0 : 0 < s) {w : World} {v : Value} {n : Nat} {xs : List Value} (hown : w.ownsRow 0 e s v n xs)
  {ad : Option Addr} {m c : Nat} {us : List Value} (hl : us.length = m * s) (hn : ad = none → m = 0 ∧ c = 0) (hc : ∀ p, ad = some p → ∀ j u, us[j]? = some u → w.cell? (p.add j) = some u) (h1 : ∀ u ∈ us, u.oneCell' = true) (h63 : n + m ≤ maxLen) (hbytes : (n + m) * bs ≤ 140737488355328) (ty : TypeId) :
  ∃ v' w', (Builtin.append_ #[t, t] ty #[v, .slice ad m c]).run Try.prog w = .ok v' w' ∧ w'.ownsRow 0 e s v' (n + m) (xs ++ us) ∧ w.grownBy w' v.ownBlock ∧ (v'.ownBlock = v.ownBlock ∨ ∀ g, v'.ownBlock = some g → w.heap.size ≤ g) := by
 obtain ⟨i, h2, h3, h4, h5⟩ := info_parts hi
 cases ad with
 | none =>
  obtain ⟨rfl, rfl⟩ := hn rfl
  obtain rfl : us = [] := kc9 (by rw [hl]; simp)
  exact ⟨v, w, run_append_owned_none (P := Try.prog) (w := w) 0 t ty e i s hu h2 v n xs hown, by simpa using hown, World.grownBy.refl _ _, .inl rfl⟩
 | some p =>
  obtain ⟨v', w', hr, q1, q2, _⟩ := run_append_own (P := Try.prog) w 0 t ty e i z s bs hu h2 h3 h4 h5 hzs hs0 v n xs hown p m c us hl (hc p rfl) h1 h63 hbytes (ke8 _)
  subst h4; subst h5
  exact ⟨v', w', hr, q1, q2, nB hu h2 h3 hown p m c us hl (hc p rfl) h1 h63 hbytes hr⟩
theorem bY {t e : TypeId} {z : Value} {s bs : Nat} (hu : Try.prog.underlying t = some (.slice e)) (hi : (Try.prog.info? e).map (fun i => (i.zero, i.size, i.bytes)) = some (some z, s, bs)) (hzs : z.cells.size = s) (hs0 : 0 < s) {w : World} {v : Value} {n : Nat} {xs : List Value} (hown : OwnM w 0 e s v n xs)
  {ad : Option Addr} {m c : Nat} {us : List Value} (hl : us.length = m * s) (hn : ad = none → m = 0 ∧ c = 0) (hc : ∀ p, ad = some p → ∀ j u, us[j]? = some u → w.cell? (p.add j) = some u) (h1 : ∀ u ∈ us, u.oneCell' = true) (h63 : n + m ≤ maxLen) (hbytes : (n + m) * bs ≤ 140737488355328) (ty : TypeId) :
  ∃ v' w', (Builtin.append_ #[t, t] ty #[v, .slice ad m c]).run Try.prog w = .ok v' w' ∧ OwnM w' 0 e s v' (n + m) (xs ++ us) ∧ w.grownBy w' v.ownBlock ∧ (v'.ownBlock = v.ownBlock ∨ ∀ g, v'.ownBlock = some g → w.heap.size ≤ g) := by
 rcases hown.2 with ⟨rfl, rfl⟩ | ⟨g, cap, cur, fz, rfl, hbg, hg, hf, hnc, hcm, hcs, htake⟩
 ·obtain ⟨v', w', q1, q2, q3, q4⟩ := u5 hu hi hzs hs0 (v := .slice none 0 0) (n := 0) (w := w) ⟨hown.1, .inl ⟨rfl, rfl⟩⟩ hl hn hc h1 h63 hbytes ty
  exact ⟨v', w', q1, v4 q2, q3, q4⟩
 ·by_cases hz : fz = (0, 0)
  ·subst hz
   obtain ⟨v', w', q1, q2, q3, q4⟩ := u5 hu hi hzs hs0 (w := w) ⟨hown.1, .inr ⟨g, cap, cur, rfl, hbg, hg, hnc, hcm, hcs, htake⟩⟩ hl hn hc h1 h63 hbytes ty
   exact ⟨v', w', q1, v4 q2, q3, q4⟩
  ·obtain ⟨i, h2, h3, h4, h5⟩ := info_parts hi
   have hlen : (xs ++ us).length = (n + m) * s := by rw [ka4, hown.1, hl, kh5]
   cases ad with
   | none =>
    obtain ⟨rfl, rfl⟩ := hn rfl
    obtain rfl : us = [] := kc9 (by rw [hl]; simp)
    refine ⟨.slice (some ⟨g, 0, none⟩) n cap, w, by simp [Builtin.append_, run_underlying hu, sizeOf, typeInfo, h2, Builtin.lenOf, Builtin.firstCells, hnc, storeCells], by simpa using hown, World.grownBy.refl _ _, .inl rfl⟩
   | some p =>
    by_cases hroom : n + m ≤ cap
    ·have hfit : n * i.size + us.length ≤ cur.size := by rw [hl, hcs, h4, ← kh5]; exact Nat.mul_le_mul_right _ hroom
     have hr := bF (P := Try.prog) w t ty e i hu h2 g n cap cur fz hg hf p m c us (by rw [h4]; exact hl) (hc p rfl) h1 hroom hfit
     rw [h4] at hr hfit
     have hsz : (cur.toList.take (n * s) ++ us ++ cur.toList.drop (n * s + us.length)).length = cur.size := by
      simp only [ka4, kb8, List.length_drop, Array.length_toList]; omega
     refine ⟨_, _, hr, ⟨hlen, .inr ⟨g, cap, _, fz, rfl, hbg, setRow_heap w g cur _ e _ hg, by rw [kd0, hsz]; exact hf, hroom, hcm, by rw [kd0, hsz]; exact hcs, ?_⟩⟩, ⟨rfl, rfl, rfl, by simp [World.setRow], fun k _ hk => setRow_other w g k _ (fun e => hk (by simp [Value.ownBlock, e]))⟩, .inl rfl⟩
     rw [htake, ← hlen]
     exact kl0
    ·have holds : ∀ j u, xs[j]? = some u → w.cell? ((⟨g, 0, none⟩ : Addr).add j) = some u := hown.cells (g := g) rfl
     have hsmall : n + m ≤ 9223372036854775807 := by simp only [maxLen] at h63; omega
     have hr := run_append_grow (P := Try.prog) w t ty e i z hu h2 h3 ⟨g, 0, none⟩ n cap xs (by rw [h4]; exact hown.1) holds p m c us (by rw [h4]; exact hl) (hc p rfl) (by omega) (by omega) (growslice_fits (by omega) (by rw [h5]; exact hbytes))
     have hge := grownCap_ge w (n + m) cap e
     have hcm2 : grownCap w (n + m) cap e ≤ maxLen := grownCap_le_maxLen w (n + m) cap e h63
     refine ⟨_, _, hr, ⟨hlen, .inr ⟨w.heap.size, _, _, (0, 0), rfl, ke8 _, heap_alloc_new w.drew _, .inl rfl, hge, hcm2, ?_, ?_⟩⟩, ⟨rfl, rfl, rfl, by simp, fun k hk _ => Below.heap_alloc w.drew _ k hk⟩, .inr ?_⟩
     ·have hsz3 : n * s + m * s + (grownCap w (n + m) cap e - (n + m)) * s = grownCap w (n + m) cap e * s := by rw [← kh5, ← kh5, Nat.add_sub_of_le hge]
      rw [Array.size_append, Array.size_append, kd0, kd0, size_zeroCells, hzs, hown.1, hl]
      exact hsz3
     ·simp only [Array.toList_append, kf3]
      rw [← kf3, ← hlen]
      exact kl0
     ·intro k hk; simp [Value.ownBlock] at hk; omega
theorem dX {t e : TypeId} {z : Value} {s bs m nx : Nat} {x y : Operand} {news : List C} {foot : List Nat} (ho : o.op = .call { callee := .builtin .append, args := #[x, y], argTypes := #[t, t] }) (hu : Try.prog.underlying t = some (.slice e)) (hi : (Try.prog.info? e).map (fun i => (i.zero, i.size, i.bytes)) = some (some z, s, bs)) (hzs : z.cells.size = s) (hs0 : 0 < s)
  (hx : Ev l x (LV vI)) (hy : Src l g s y m news foot) (h63 : m ≤ maxLen) (hbytes : m * bs ≤ 140737488355328) : OpOK cx o (S l) (S g) ⟨.e (.c (.own nx 0 m s true)), [(nx, some (e, news))], [nx], foot⟩ := by
 intro Q ρ a w hL hs hf hnews hh hk hdf K hK
 obtain ⟨ad, c, us, e2, h2, h3, h4, h5, h6, h7⟩ := hy.rep hs (by rw [ho]; simp [Op.operands, Call.operands]) hf hh
 have e1 := kG (hx.rep hs (by rw [ho]; simp [Op.operands, Call.operands]))
 obtain ⟨v', w', hr, q1, q2, q3⟩ := u5 hu hi hzs hs0 (v := vI) (n := 0) (xs := []) ⟨by simp, .inl ⟨rfl, rfl⟩⟩ h3 h6 h7 (gO h2) (by omega) (by rw [Nat.zero_add]; exact hbytes) o.type
 rw [Nat.zero_add, List.nil_append] at q1
 obtain ⟨ρ', p1, p2, p3, p4, p5⟩ := hh.regrow hk (hnews nx (by simp)) (kill := []) (fun x => .inl rfl) rfl (v4 q1) q2 q3 (fun g h => by cases h) h2 (fun g h => by cases h)
 unfold Oper.wp execOp
 simp only [ho, resolve, invoke, builtin, Sem.run_bind, Sem.run_pure, Result.andThen_ok, ke0, kd5, kg0, e1, e2, hr]
 exact hK v' w' ρ' p1 (fun b hb hn => p2 b (by simpa using hb) hn) p3 p4 p5
theorem nD {t e : TypeId} {z : Value} {s bs m n b nx : Nat} {x y : Operand} {cs news : List C} {foot : List Nat} (ho : o.op = .call { callee := .builtin .append, args := #[x, y], argTypes := #[t, t] }) (hu : Try.prog.underlying t = some (.slice e)) (hi : (Try.prog.info? e).map (fun i => (i.zero, i.size, i.bytes)) = some (some z, s, bs)) (hzs : z.cells.size = s) (hs0 : 0 < s)
  (hx : Ev l x (.e (.c (.own b 0 n s true)))) (hb : Look g b (some (e, cs))) (hcl : cs.length = n * s) (hy : Src l g s y m news foot) (h63 : n + m ≤ maxLen) (hbytes : (n + m) * bs ≤ 140737488355328) : OpOK cx o (S l) (S g) ⟨.e (.c (.own nx 0 (n + m) s true)), [(b, none), (nx, some (e, cs ++ news))], [nx], b :: foot⟩ := by
 intro Q ρ a w hL hs hf hnews hh hk hdf K hK
 obtain ⟨ad, c, us, e2, h2, h3, h4, h5, h6, h7⟩ := hy.rep hs (by rw [ho]; simp [Op.operands, Call.operands]) (fun b' hb' => hf b' (kb9 _ hb')) hh
 have hrep := hx.rep hs (by rw [ho]; simp [Op.operands, Call.operands])
 have hb' : hL b = some (e, cs) := by rw [hf b (by simp), hb.S]
 obtain ⟨vx, e1⟩ : ∃ vx, a.eval x = vx := ⟨_, rfl⟩
 rw [e1] at hrep
 have hfirst : ∃ xs : List Value, OwnM w 0 e s vx n xs ∧ All2 (RepC cx.p ρ w) cs xs ∧ ρ b ≠ none ∧ ∀ g', vx.ownBlock = some g' → (cx.may g' ∧ ¬ ρ.z g') ∧ ∀ x' m', x' ≠ b → hL x' ≠ none → ρ x' = some m' → m'.nl = false → m'.g ≠ g' := by
  have hrep' : RepC cx.p ρ w (.own b 0 n s true) vx := hrep
  cases hrep' with
  | own _ _ _ _ _ mm cap hm hnl q1 q2 q3 =>
   obtain ⟨⟨vs, rest, ⟨fz, r1, rf⟩, r2, r3⟩, r4⟩ := hh.at hb' hm hnl
   obtain ⟨_, q4⟩ := q3 rfl
   have hvl : vs.length = n * s := by rw [← r3.len]; exact hcl
   refine ⟨vs, ⟨hvl, .inr ⟨mm.g, cap, (vs ++ rest).toArray, fz, rfl, ke8 _, r1, by rw [kd0]; exact rf, q1, q2, by rw [kd0, r2]; exact q4.symm, by simp [hvl]⟩⟩, r3, by rw [hm]; simp, ?_⟩
   intro g' hg'
   have : mm.g = g' := by simpa [Value.ownBlock] using hg'
   subst this
   refine ⟨⟨r4, hh.zf b mm (by rw [hb']; simp) hm hnl⟩, fun x' m' hx' h8 h9 h10 h11 => ?_⟩
   exact hx' (hh.inj x' b m' mm h8 (by rw [hb']; simp) h9 hm h10 hnl h11)
  | ownn _ _ mm hm hnl =>
   have hc0 : cs = [] := kc9 (by rw [hcl]; simp)
   subst hc0
   exact ⟨[], ⟨by simp, .inl ⟨rfl, rfl⟩⟩, trivial, by rw [hm]; simp, fun g' hg' => by cases hg'⟩
 obtain ⟨xs, hown, hxs, hbn, hfr⟩ := hfirst
 obtain ⟨v', w', hr, q1, q2, q3⟩ := bY hu hi hzs hs0 hown h3 h6 h7 (gO h2) h63 hbytes o.type
 have hbnx : b ≠ nx := fun e => hbn (by rw [e]; exact hnews nx (by simp))
 have hlkb : ∀ x', ([(b, none)] : List (Nat × Option Bk)).lookup x' = if x' = b then some none else none := by
  intro x'
  by_cases hx' : x' = b
  ·subst hx'; simp
  ·simp [kc2, show (x' == b) = false by simpa using hx', hx']
 obtain ⟨ρ', p1, p2, p3, p4, p5⟩ := hh.regrow hk (hnews nx (by simp)) (kill := [(b, none)]) (fun x' => by rw [hlkb]; by_cases h : x' = b <;> simp [h]) (by rw [hlkb, if_neg (Ne.symm hbnx)]) q1 q2 q3 (fun g' hg' => ⟨(hfr g' hg').1.1, fun x' m' h8 h9 h10 => by
  rw [hlkb] at h8
  by_cases h : x' = b
  ·rw [if_pos h] at h8; exact absurd rfl h8
  ·rw [if_neg h] at h8; exact (hfr g' hg').2 x' m' h h8 h9 h10⟩) (All2.app hxs h2) (fun g' hg' => (hfr g' hg').1.2)
 unfold Oper.wp execOp
 simp only [ho, resolve, invoke, builtin, Sem.run_bind, Sem.run_pure, Result.andThen_ok, ke0, kd5, kg0, e1, e2, hr]
 exact hK v' w' ρ' p1 (fun b hb hn => p2 b (by simpa using hb) hn) p3 p4 p5
theorem wP {t st ty e : TypeId} {b off n m k : Nat} {wh : Bool} {x y : Operand} {T : TypeId} {cs cs' news : List C} {foot : List Nat} (ho : o.op = .call { callee := .builtin .copy, args := #[x, y], argTypes := #[t, st] }) (hu : Try.prog.underlying t = some (.slice e)) (hi : (Try.prog.info? e).map (·.size) = some 1)
  (hx : Ev l x (.e (.c (.own b off n 1 wh)))) (hb : Look g b (some (T, cs))) (hfit : off + n ≤ cs.length) (hy : Src l g 1 y m news foot) (hk' : min m n = k) (hc : cs.take off ++ news.take k ++ cs.drop (off + k) = cs') : OpOK cx o (S l) (S g) ⟨LV (.int .i64 k), [(b, some (T, cs'))], [], b :: foot⟩ := by
 intro Q ρ a w hL hs hf hnews hh hk hdf K hK
 obtain ⟨ad, c, us, e2, h2, h3, h4, h5, h6, h7⟩ := hy.rep hs (by rw [ho]; simp [Op.operands, Call.operands]) (fun b' hb' => hf b' (kb9 _ hb')) hh
 have hrep := hx.rep hs (by rw [ho]; simp [Op.operands, Call.operands])
 have hb' : hL b = some (T, cs) := by rw [hf b (by simp), hb.S]
 rw [Nat.mul_one] at h3
 by_cases h0 : k = 0
 ·obtain ⟨ad2, cap2, e1, r1, r2, r3⟩ := uN hrep
  have hr := run_copy_none (P := Try.prog) w t st o.type e ad2 ad n cap2 m c hu hi (by rw [h0] at hk'; exact hk')
  have hcs : cs' = cs := by rw [← hc, h0]; simp
  unfold Oper.wp execOp
  simp only [ho, resolve, invoke, builtin, Sem.run_bind, Sem.run_pure, Result.andThen_ok, ke0, kd5, kg0, e1, e2, hr]
  subst h0
  refine hK _ w ρ (Goes.refl _ _ _) (fun _ _ h => h) ?_ hk (qC rfl)
  have e : (fun x => (([(b, some (T, cs'))] : List (Nat × Option Bk)).lookup x).getD (hL x)) = hL := by
   funext x'
   by_cases hx' : x' = b
   ·subst hx'; simp [hcs, hb']
   ·simp [kc2, show (x' == b) = false by simpa using hx']
  rw [e]
  exact hh
 ·obtain ⟨mm, cap2, hm, hnl, e1, r1, r2, r3⟩ := uY (by omega) hrep
  obtain ⟨⟨vs, rest, ⟨fz, s1, sf⟩, s2, s3⟩, s4⟩ := hh.at hb' hm hnl
  cases ad with
  | none => have := (h6 rfl).1; omega
  | some p =>
   have hul : (us.take k).length = k := by rw [kb8]; omega
   have hcl : cs.length = vs.length := s3.len
   have hr := dU (P := Try.prog) w t st o.type e mm.g off n cap2 p m c (vs ++ rest).toArray T fz (us.take k) hu hi s1 (by rw [kd0]; exact sf) (by rw [hul]; exact hk'.symm) (fun j v hj => by rw [ke4] at hj; split at hj <;> first | exact h7 p rfl j v hj | cases hj) (by rw [hul]; simp; omega) (fun u hu' => gO h2 u (List.mem_of_mem_take hu'))
   rw [hul] at hr
   have e5 : (vs ++ rest).take off ++ us.take k ++ (vs ++ rest).drop (off + k) = (vs.take off ++ us.take k ++ vs.drop (off + k)) ++ rest := by
    rw [List.take_append_of_le_length (by omega), List.drop_append_of_le_length (by omega)]; simp only [kf3]
   have hB : (w.setRow mm.g ((vs.take off ++ us.take k ++ vs.drop (off + k)) ++ rest).toArray).heap[mm.g]? = some (.cells ((vs.take off ++ us.take k ++ vs.drop (off + k)) ++ rest).toArray T fz) := setRow_heap w mm.g (vs ++ rest).toArray _ T fz s1
   have hO : Only mm.g w (w.setRow mm.g ((vs.take off ++ us.take k ++ vs.drop (off + k)) ++ rest).toArray) := ⟨rfl, rfl, rfl, by simp [World.setRow], fun k' _ hk => setRow_other w mm.g k' _ hk⟩
   have hgo : Goes cx.p ρ ρ w (w.setRow mm.g ((vs.take off ++ us.take k ++ vs.drop (off + k)) ++ rest).toArray) := ⟨fun _ _ h => h, fun _ h => h, hO.size, fun k hp hlt => hO.block k hlt (fun e => hp.elim (fun hp => cx.pm k hp (e ▸ s4)) (fun hz => hh.zf b mm (by rw [hb']; simp) hm hnl (e ▸ hz)))⟩
   have hrow : Row cx.p ρ (w.setRow mm.g ((vs.take off ++ us.take k ++ vs.drop (off + k)) ++ rest).toArray) mm T cs' := by
    have hll : ((vs.take off ++ us.take k ++ vs.drop (off + k)) ++ rest).length = (vs ++ rest).length := by simp; omega
    refine ⟨_, rest, ⟨fz, hB, by rw [hll]; exact sf⟩, ?_, ?_⟩
    ·rw [← s2]; simp; omega
    ·rw [← hc]
     exact (All2.app (All2.app (s3.take off) (h2.take k)) (s3.drop (off + k))).imp fun _ _ => RepC.mono hgo
   obtain ⟨p1, p2, p3⟩ := HRep.write hh hk hb' hm hnl hO hrow
   unfold Oper.wp execOp
   simp only [List.toList_toArray, e5] at hr
   simp only [ho, resolve, invoke, builtin, Sem.run_bind, Sem.run_pure, Result.andThen_ok, ke0, kd5, kg0, e1, e2, hr]
   exact hK _ _ ρ p1 (fun _ _ h => h) p2 p3 (qC rfl)
def mY (t : TypeId) (places : List (Nat × Nat)) : Prop := ∃ fs, Try.prog.underlying t = some (.struct fs) ∧ ∀ w, (fs.mapM (fun f => do pure (f.offset, ← sizeOf f.type)) : Sem (Array (Nat × Nat))).run Try.prog w = .ok places.toArray w
theorem pH {t : TypeId} {places : List (Nat × Nat)} {zs : List Value} {parts : Array (Nat × Operand)} {es : List (Nat × E1)} {cs : List C} (ho : o.op = .build t parts) (hp : mY t places) (hz : v7 Try.prog t = some zs) (h1 : zs.all (·.oneCell') = true) (hes : EvL l parts.toList es) (hfill : vM (fun i => places[i]?) (zs.map LC) es = some cs) : OpOK cx o (S l) (S g) ⟨.e (.agg cs), [], [], []⟩ :=
 kJ fun ρ a w hs => by
  have hr := hes.rep hs (by intro x hx; rw [ho]; simp only [Op.operands]; simp; exact ⟨x.1, by simpa using hx⟩)
  obtain ⟨z, hz1, hz2⟩ := eA hz w
  obtain ⟨fs, hfs, hmap⟩ := hp
  obtain ⟨us, hf1, hf2⟩ := dF (fun i => places[i]?) es _ _ zs.toArray cs hr (by simpa using oC h1) hfill
  refine ⟨.agg us.toArray, ?_, us, rfl, hf2⟩
  have hm := hmap w
  unfold execOp
  simp only [ho]
  simp only [Instr.build, Sem.run_bind, hz1, Result.andThen_ok, run_underlying hfs, hm, hz2]
  simp [hf1]
end
end Go.Proofs.Ytkjmlililpgamaa
