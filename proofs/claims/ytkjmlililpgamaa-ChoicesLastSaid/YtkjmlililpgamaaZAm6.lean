/- A memory told by names: slices. No statement is proved here. -/
import Derived.Test.YtkjmlililpgamaaZAm5
import Derived.Laws.AppendOwnNone
namespace Go.Proofs.Ytkjmlililpgamaa
open Go.ChangeShapes Go.WideShapes Go.ChangeAt Go.RowKit
open List renaming getD_eq_getElem?_getD → ka9, getElem?_drop → kd8, getElem?_map → ke5, getElem?_take → ke4, range → kf6, replicate → kb0
open Nat renaming add_assoc → kg6, add_zero → kh4, le_refl → kc1
open Option renaming map_some → ke9
set_option linter.unusedVariables false
set_option linter.unusedSimpArgs false
theorem nB {P : Program} {w : World} {B : Nat} {t ty e : TypeId} {i : TypeInfo} {z : Value} {v : Value} {n : Nat} {xs : List Value} (ht : P.underlying t = some (.slice e)) (hi : P.info? e = some i) (hz : i.zero = some z)
    (hown : w.ownsRow B e i.size v n xs) (a : Addr) (m c : Nat) (news : List Value) (hl : news.length = m * i.size) (hnews : ∀ j u, news[j]? = some u → w.cell? (a.add j) = some u) (h1 : ∀ u ∈ news, u.oneCell' = true)
    (h63 : n + m ≤ maxLen) (hbytes : (n + m) * i.bytes ≤ 140737488355328) {v' : Value} {w' : World} (hr : (Builtin.append_ #[t, t] ty #[v, .slice (some a) m c]).run P w = .ok v' w') :
    v'.ownBlock = v.ownBlock ∨ ∀ g, v'.ownBlock = some g → w.heap.size ≤ g := by
  have hsmall : n + m ≤ 9223372036854775807 := by simp only [maxLen] at h63; omega
  rcases hown.2 with ⟨rfl, rfl⟩ | ⟨g, cap, cur, rfl, hbg, hg, hnc, hcm, hcs, htake⟩
  · by_cases hm : m = 0
    · subst hm
      have hn : news = [] := List.eq_nil_of_length_eq_zero (by simpa using hl)
      subst hn
      left
      have : (Builtin.append_ #[t, t] ty #[.slice none 0 0, .slice (some a) 0 c]).run P w = .ok (.slice none 0 0) w := by
        simp [Builtin.append_, run_underlying ht, sizeOf, typeInfo, hi, Builtin.lenOf, Builtin.firstCells, loadCells, loadCellsFrom]
      rw [this] at hr
      cases hr
      rfl
    · right
      have h := run_append_nil (P := P) w t ty e i z ht hi hz a m c news hl hnews (by omega) (by omega) (by have hb := hbytes; simp only [Nat.zero_add] at hb; omega)
      rw [h] at hr
      cases hr
      intro g hg
      simp [Value.ownBlock] at hg
      omega
  · by_cases hroom : n + m ≤ cap
    · left
      have hfit : n * i.size + news.length ≤ cur.size := by rw [hl, hcs, ← Nat.add_mul]; exact Nat.mul_le_mul_right _ hroom
      have h := run_append_room (P := P) w t ty e i ht hi g n cap cur hg a m c news hl hnews h1 hroom hfit
      rw [h] at hr
      cases hr
      rfl
    · right
      have holds : ∀ j u, xs[j]? = some u → w.cell? ((⟨g, 0, none⟩ : Addr).add j) = some u := hown.cells (g := g) rfl
      have h := run_append_grow (P := P) w t ty e i z ht hi hz ⟨g, 0, none⟩ n cap xs hown.1 holds a m c news hl hnews (by omega) (by omega) (growslice_fits (by omega) hbytes)
      rw [h] at hr
      cases hr
      intro k hk
      simp [Value.ownBlock] at hk
      omega
def OwnM (w : World) (base : Nat) (e : TypeId) (size : Nat) (v : Value) (n : Nat) (xs : List Value) : Prop :=
  xs.length = n * size ∧
  ((v = .slice none 0 0 ∧ n = 0) ∨
   ∃ g cap cur fz, v = .slice (some ⟨g, 0, none⟩) n cap ∧ base ≤ g ∧ w.heap[g]? = some (.cells cur e fz) ∧ Hm fz cur.size ∧ n ≤ cap ∧ cap ≤ maxLen ∧ cur.size = cap * size ∧ cur.toList.take (n * size) = xs)
theorem v4 {w : World} {base : Nat} {e : TypeId} {size : Nat} {v : Value} {n : Nat} {xs : List Value} (h : w.ownsRow base e size v n xs) : OwnM w base e size v n xs := by
  refine ⟨h.1, ?_⟩
  rcases h.2 with hn | ⟨g, cap, cur, hv, hb, hg, rest⟩
  · exact .inl hn
  · exact .inr ⟨g, cap, cur, (0, 0), hv, hb, hg, .inl rfl, rest⟩
theorem OwnM.cells {w : World} {base : Nat} {e : TypeId} {size : Nat} {v : Value} {n : Nat} {xs : List Value} (h : OwnM w base e size v n xs) {g : Nat} (hg : v.ownBlock = some g) : ∀ j u, xs[j]? = some u → w.cell? ((⟨g, 0, none⟩ : Addr).add j) = some u := by
  intro j u hu
  rcases h.2 with ⟨rfl, _⟩ | ⟨g', cap, cur, fz, rfl, _, hgg, _, _, _, _, htake⟩
  · simp [Value.ownBlock] at hg
  · simp [Value.ownBlock] at hg
    subst hg
    have hadd : (⟨g', 0, none⟩ : Addr).add j = ⟨g', j, none⟩ := by unfold Addr.add; split <;> simp_all
    rw [hadd, cell_of_row w g' j cur e fz hgg]
    rw [← htake, ke4] at hu
    split at hu
    · simpa using hu
    · cases hu
theorem qE (P : Program) (g o : Nat) (t : TypeId) (fz : Nat × Nat) : ∀ (vs : List Value) (i : Nat) (cur : Array Value) (w : World), w.heap[g]? = some (.cells cur t fz) → Hm fz cur.size → o + i + vs.length ≤ cur.size → (∀ v ∈ vs, v.oneCell' = true) →
    (storeCells ⟨g, o, none⟩ vs i).run P w = .ok () (w.setRow g (cur.toList.take (o + i) ++ vs ++ cur.toList.drop (o + i + vs.length)).toArray)
  | [], i, cur, w, hg, _, _, _ => by
    simp only [storeCells, List.append_nil, List.length_nil, kh4, List.take_append_drop, Array.toArray_toList]
    rw [setRow_self w g cur t fz hg]
    rfl
  | v :: rest, i, cur, w, hg, hf, hl, h1 => by
    have hi : o + i < cur.size := by simp at hl; omega
    have hadd : (⟨g, o, none⟩ : Addr).add i = ⟨g, o + i, none⟩ := by unfold Addr.add; split <;> simp_all
    have hcell : w.cell? ⟨g, o + i, none⟩ = some cur[o + i] := by simp [World.cell?, hg, hi]
    have hfro : w.frozen? ⟨g, o + i, none⟩ = false := hf.free hg hi
    have hst : (store ((⟨g, o, none⟩ : Addr).add i) v).run P w = .ok () (w.setRow g (cur.setIfInBounds (o + i) v)) := by
      rw [hadd, run_store P w _ v _ (h1 v (by simp)), hcell]
      simp [hfro, setCell_eq_setRow w g (o + i) cur t fz v hg]
    have ih := qE P g o t fz rest (i + 1) (cur.setIfInBounds (o + i) v) (w.setRow g (cur.setIfInBounds (o + i) v)) (setRow_heap w g cur _ t _ hg) (by simpa using hf) (by simp at hl ⊢; omega) (fun x hx => h1 x (by simp [hx]))
    simp only [storeCells, Sem.run_bind, hst, Result.andThen_ok, ih, setRow_setRow]
    congr 3
    have e := list_seg_step cur.toList (o + i) v rest (by simp at hl ⊢; omega)
    simpa [Array.toList_setIfInBounds, kg6] using e
theorem bF {P : Program} (w : World) (t ty e : TypeId) (i : TypeInfo) (ht : P.underlying t = some (.slice e)) (hi : P.info? e = some i)
    (g sLen sCap : Nat) (cur : Array Value) (fz : Nat × Nat) (hg : w.heap[g]? = some (.cells cur e fz)) (hf : Hm fz cur.size)
    (a : Addr) (m c : Nat) (news : List Value) (hl : news.length = m * i.size) (hnews : ∀ j u, news[j]? = some u → w.cell? (a.add j) = some u) (h1 : ∀ u ∈ news, u.oneCell' = true)
    (hroom : sLen + m ≤ sCap) (hfit : sLen * i.size + news.length ≤ cur.size) :
    (Builtin.append_ #[t, t] ty #[.slice (some ⟨g, 0, none⟩) sLen sCap, .slice (some a) m c]).run P w =
      .ok (.slice (some ⟨g, 0, none⟩) (sLen + m) sCap) (w.setRow g (cur.toList.take (sLen * i.size) ++ news ++ cur.toList.drop (sLen * i.size + news.length)).toArray) := by
  have hf := run_firstCells_some (P := P) w i.size m a m c news hl hnews
  have hst := qE P g (sLen * i.size) e fz news 0 cur w hg (by assumption) (by simpa using hfit) h1
  simp only [kh4] at hst
  simp [Builtin.append_, run_underlying ht, sizeOf, typeInfo, hi, Builtin.lenOf, hroom, hf, Addr.add_lit, hst]
theorem dU {P : Program} (w : World) (dT sT ty elem : TypeId) (g o dLen dCap : Nat) (a : Addr) (sLen sCap : Nat) (cur : Array Value) (t : TypeId) (fz : Nat × Nat) (cs : List Value)
    (hu : P.underlying dT = some (.slice elem)) (hs : (P.info? elem).map (·.size) = some 1)
    (hg : w.heap[g]? = some (.cells cur t fz)) (hfz : Hm fz cur.size) (hn : cs.length = Nat.min sLen dLen)
    (hsrc : ∀ j v, cs[j]? = some v → w.cell? (a.add j) = some v) (hfit : o + cs.length ≤ cur.size) (h1 : ∀ v ∈ cs, v.oneCell' = true) :
    (Builtin.copy_ #[dT, sT] ty #[.slice (some ⟨g, o, none⟩) dLen dCap, .slice (some a) sLen sCap]).run P w =
      .ok (goInt cs.length) (w.setRow g (cur.toList.take o ++ cs ++ cur.toList.drop (o + cs.length)).toArray) := by
  have hl := run_loadCells_list (P := P) w a cs hsrc
  have hst := qE P g o t fz cs 0 cur w hg hfz (by simpa using hfit) h1
  simp only [kh4] at hst
  cases hq : P.info? elem with
  | none => simp [hq] at hs
  | some i =>
    have hi : i.size = 1 := by simpa [hq] using hs
    simp [Builtin.copy_, run_underlying hu, Builtin.lenOf, Builtin.firstCells, sizeOf, typeInfo, hq, hi, ← hn, hl, hst]
section
variable {cx : Cx} {o : Oper} {l : List (Nat × PV)} {g : List (Nat × Option Bk)}
theorem uY {p : Nat → Prop} {ρ : Rh} {w : World} {b off n s : Nat} {wh : Bool} {v : Value} (h0 : 0 < n) (h : RepPV p ρ w (.e (.c (.own b off n s wh))) v) : ∃ m cap, ρ b = some m ∧ m.nl = false ∧ v = .slice (some ⟨m.g, off, none⟩) n cap ∧ n ≤ cap ∧ cap ≤ maxLen ∧ (wh = true → off = 0 ∧ cap * s = m.R) := by
  cases h with
  | own b off n s wh m cap hm hn h1 h2 h3 => exact ⟨m, cap, hm, hn, rfl, h1, h2, h3⟩
  | ownn => omega
  | own0 => omega
theorem uN {p : Nat → Prop} {ρ : Rh} {w : World} {b off n s : Nat} {wh : Bool} {v : Value} (h : RepPV p ρ w (.e (.c (.own b off n s wh))) v) : ∃ a cap, v = .slice a n cap ∧ n ≤ cap ∧ cap ≤ maxLen ∧ (a = none → cap = 0) := by
  cases h with
  | own b off n s wh m cap hm hn h1 h2 h3 => exact ⟨_, cap, rfl, h1, h2, fun h => by cases h⟩
  | ownn => exact ⟨none, 0, rfl, by omega, by simp [maxLen], fun _ => rfl⟩
  | own0 b off s a cap hm ha => exact ⟨a, cap, rfl, by omega, hm, ha⟩
theorem fM {p : Nat → Prop} {ρ : Rh} {w : World} {ds : List D} {n : Nat} {v : Value} (h : RepPV p ρ w (.e (.c (.d (.sl ds n)))) v) : ∃ a cap, v = .slice a n cap ∧ n ≤ cap ∧ cap ≤ maxLen ∧ (a = none → cap = 0) ∧ ((ds = [] ∧ n = 0) ∨ ∃ (us : List Value) (b off : Nat), a = some ⟨b, off, none⟩ ∧ us.length = ds.length ∧ (∀ (i : Nat) (u : Value), us[i]? = some u → w.cell? ⟨b, off + i, none⟩ = some u) ∧ (∀ (i : Nat) (d : D) (u : Value), ds[i]? = some d → us[i]? = some u → RepD (pz p ρ) w d u) ∧ pz p ρ b ∧ b < w.heap.size) := by
  cases h with
  | d h =>
    cases h with
    | nil a cap hm ha => exact ⟨a, cap, rfl, by omega, hm, ha, .inl ⟨rfl, rfl⟩⟩
    | sl ds us b off n cap hl hc hr hp hb hn hm => exact ⟨_, cap, rfl, hn, hm, fun h => (by cases h), .inr ⟨us, b, off, rfl, hl, hc, hr, hp, hb⟩⟩
theorem uB {t e : TypeId} (hu : Try.prog.underlying t = some (.slice e)) : Try.prog.elem t = e := by simp [Program.elem, hu]
theorem y9 {t e : TypeId} {bb : Bool} {s : Nat} (hu : Try.prog.underlying t = some (.slice e)) (he : qM Try.prog e = some (bb, s)) (w : World) (b off n cap : Nat) (k : IntKind) (i : Int) (h0 : 0 ≤ i) (h1 : i < n) :
    (Instr.indexAt t (.slice (some ⟨b, off, none⟩) n cap) (.int k i)).run Try.prog w = .ok (.pointer (some ⟨b, off + i.toNat * s, none⟩)) w := by
  have h4 : Try.prog.underlying t = some (.slice (Try.prog.elem t)) := by rw [uB hu]; exact hu
  have hr := run_indexAt_slice (P := Try.prog) (w := w) t ⟨b, off, none⟩ n cap k i h4
  rw [if_pos ⟨h0, h1⟩, uB hu, k9 he] at hr
  rw [hr]
  simp [Result.andThen, Addr.add_mid]
theorem pD {t e : TypeId} {bb : Bool} {x ix : Operand} {b off n s r : Nat} {wh : Bool} {k : IntKind} {i : Int} (ho : o.op = .indexAddr t x ix) (hu : Try.prog.underlying t = some (.slice e)) (he : qM Try.prog e = some (bb, s)) (hx : Ev l x (.e (.c (.own b off n s wh)))) (hi : Ev l ix (LV (.int k i))) (h0 : 0 ≤ i) (h1 : i < n) (hr : off + i.toNat * s = r) : OpOK cx o (S l) (S g) ⟨.e (.c (.ptr b r)), [], [], []⟩ :=
  kJ fun ρ a w hs => by
    obtain ⟨m, cap, hm, hn, e1, _, _, _⟩ := uY (by omega) (hx.rep hs (by rw [ho]; simp [Op.operands]))
    have e2 := kG (hi.rep hs (by rw [ho]; simp [Op.operands]))
    subst hr
    exact ⟨_, by unfold execOp; simp [ho, e1, e2, y9 hu he w m.g off n cap k i h0 h1], .ptr b _ m hm hn⟩
theorem iB {t e : TypeId} {bb : Bool} {x ix : Operand} {n s : Nat} {ds ds' : List D} {k : IntKind} {i : Int} (ho : o.op = .indexAddr t x ix) (hu : Try.prog.underlying t = some (.slice e)) (he : qM Try.prog e = some (bb, s)) (hx : Ev l x (.e (.c (.d (.sl ds n))))) (hi : Ev l ix (LV (.int k i))) (h0 : 0 ≤ i) (h1 : i < n) (hr : ds.drop (i.toNat * s) = ds') : OpOK cx o (S l) (S g) ⟨.e (.c (.rp ds')), [], [], []⟩ :=
  kJ fun ρ a w hs => by
    obtain ⟨ad, cap, e1, h2, h3, h4, h5 | ⟨us, b, off, rfl, hl, hc, hr', hp, hb⟩⟩ := fM (hx.rep hs (by rw [ho]; simp [Op.operands]))
    · omega
    have e2 := kG (hi.rep hs (by rw [ho]; simp [Op.operands]))
    subst hr
    refine ⟨.pointer (some ⟨b, off + i.toNat * s, none⟩), by unfold execOp; simp [ho, e1, e2, y9 hu he w b off n cap k i h0 h1], .rp _ (us.drop (i.toNat * s)) b _ (by simp [hl]) ?_ ?_ hp hb⟩
    · intro j u hj; rw [kd8] at hj; rw [kg6]; exact hc _ u hj
    · intro j d u hj hu; rw [kd8] at hj hu; exact hr' _ d u hj hu
inductive Bd (l : List (Nat × PV)) (d : Nat) : Option Operand → Nat → Prop where
  | no : Bd l d none d
  | yes {x : Operand} {k : IntKind} {i : Int} {n : Nat} (h : Ev l x (LV (.int k i))) (hn : i = (n : Int)) : Bd l d (some x) n
theorem Bd.val {l : List (Nat × PV)} {d n : Nat} {x : Option Operand} (h : Bd l d x n) {p : Nat → Prop} {ρ : Rh} {w : World} {xs : Array Operand} {a : Act} (hs : uP p ρ w l xs a) (hx : ∀ y, x = some y → y ∈ xs.toList) : (x.map a.eval = none ∧ n = d) ∨ ∃ k, x.map a.eval = some (.int k (n : Int)) := by
  cases h with
  | no => exact .inl ⟨rfl, rfl⟩
  | yes h hn => subst hn; exact .inr ⟨_, by rw [ke9, kG (h.rep hs (hx _ rfl))]⟩
theorem dS {t e : TypeId} {bb : Bool} {s : Nat} (hu : Try.prog.underlying t = some (.slice e)) (he : qM Try.prog e = some (bb, s)) (w : World) (a : Option Addr) (n cap lo hi : Nat) (x y z : Option Value) (hx : (x = none ∧ lo = 0) ∨ ∃ k, x = some (.int k (lo : Int))) (hy : (y = none ∧ hi = n) ∨ ∃ k, y = some (.int k (hi : Int)))
    (hz : z = none ∨ (∃ k, z = some (.int k (hi : Int))) ∧ ∃ k, y = some (.int k (hi : Int))) (h1 : lo ≤ hi) (h2 : hi ≤ n) (h3 : n ≤ cap) :
    ∃ M, hi ≤ M ∧ M ≤ cap ∧ (M = hi ∨ M = cap) ∧ (Instr.sliceAt t (.slice a n cap) x y z).run Try.prog w = .ok (.slice (if M = lo then a else a.map (·.add (lo * s))) (hi - lo) (M - lo)) w := by
  have h4 : Try.prog.underlying t = some (.slice (Try.prog.elem t)) := by rw [uB hu]; exact hu
  rcases hz with rfl | ⟨⟨kz, rfl⟩, ⟨ky, rfl⟩⟩
  · refine ⟨cap, by omega, kc1 _, .inr rfl, ?_⟩
    rw [run_sliceAt_slice (h := h4)]
    rcases hx with ⟨rfl, rfl⟩ | ⟨kx, rfl⟩
    · rcases hy with ⟨rfl, rfl⟩ | ⟨ky, rfl⟩
      · rw [run_slice_all (ht := h4), uB hu, k9 he]; simp [sliced, Result.andThen]
      · rw [run_slice_h (ht := h4) (h0 := by omega) (h2 := by omega), uB hu, k9 he]; simp [sliced, Result.andThen]
    · rcases hy with ⟨rfl, rfl⟩ | ⟨ky, rfl⟩
      · rw [run_slice_l (ht := h4) (h0 := by omega) (h1 := by omega), uB hu, k9 he]; simp [sliced, Result.andThen]
      · rw [run_slice_lh (ht := h4) (h0 := by omega) (h1 := by omega) (h2 := by omega), uB hu, k9 he]; simp [sliced, Result.andThen]
  · refine ⟨hi, kc1 _, by omega, .inl rfl, ?_⟩
    rw [run_sliceAt_slice (h := h4)]
    rcases hx with ⟨rfl, rfl⟩ | ⟨kx, rfl⟩
    · rw [run_slice_hm (ht := h4) (h0 := by omega) (h2 := by omega) (h3 := by omega), uB hu, k9 he]; simp [sliced, Result.andThen]
    · rw [run_slice_lhm (ht := h4) (h0 := by omega) (h1 := by omega) (h2 := by omega) (h3 := by omega), uB hu, k9 he]; simp [sliced, Result.andThen]
inductive Mx (l : List (Nat × PV)) (lo hi : Option Operand) (n : Nat) : Option Operand → Prop where
  | no : Mx l lo hi n none
  | yes {x z : Operand} {k : IntKind} {i : Int} (hy : hi = some z) (h : Ev l x (LV (.int k i))) (hn : i = (n : Int)) : Mx l lo hi n (some x)
theorem y3 {t e : TypeId} {bb : Bool} {s : Nat} {x : Operand} {lo hi mx : Option Operand} {L H n : Nat} (ho : o.op = .slice t x lo hi mx) (hu : Try.prog.underlying t = some (.slice e)) (he : qM Try.prog e = some (bb, s)) (hlo : Bd l 0 lo L) (hhi : Bd l n hi H) (hmx : Mx l lo hi H mx) (h1 : L ≤ H) (h2 : H ≤ n)
    {p : Nat → Prop} {ρ : Rh} {w : World} {a : Act} (hs : uP p ρ w l o.op.operands a) {ad : Option Addr} {cap : Nat} (ev : a.eval x = .slice ad n cap) (h3 : n ≤ cap) :
    ∃ M, H ≤ M ∧ M ≤ cap ∧ (M = H ∨ M = cap) ∧ (execOp a.eval o).run Try.prog w = .ok (.value (.slice (if M = L then ad else ad.map (·.add (L * s))) (H - L) (M - L))) w := by
  have m1 : ∀ y, lo = some y → y ∈ o.op.operands.toList := by intro y hy; rw [ho, hy]; simp [Op.operands]
  have m2 : ∀ y, hi = some y → y ∈ o.op.operands.toList := by intro y hy; rw [ho, hy]; simp [Op.operands]
  have m3 : ∀ y, mx = some y → y ∈ o.op.operands.toList := by intro y hy; rw [ho, hy]; simp [Op.operands]
  have v1 := hlo.val hs m1
  have v2 := hhi.val hs m2
  have hz : mx.map a.eval = none ∨ (∃ k, mx.map a.eval = some (.int k (H : Int))) ∧ ∃ k, hi.map a.eval = some (.int k (H : Int)) := by
    cases hmx with
    | no => exact .inl rfl
    | yes hy h hn =>
      subst hn
      refine .inr ⟨⟨_, by rw [ke9, kG (h.rep hs (m3 _ rfl))]⟩, ?_⟩
      · rcases v2 with ⟨h, _⟩ | h
        · rw [hy] at h; cases h
        · exact h
  obtain ⟨M, q1, q2, q3, q4⟩ := dS hu he w ad n cap L H _ _ _ v1 v2 hz h1 h2 h3
  exact ⟨M, q1, q2, q3, by unfold execOp; simp [ho, ev, q4]⟩
theorem o7 {t e : TypeId} {bb : Bool} {x : Operand} {lo hi mx : Option Operand} {b off n s L H r k : Nat} {wh : Bool} (ho : o.op = .slice t x lo hi mx) (hu : Try.prog.underlying t = some (.slice e)) (he : qM Try.prog e = some (bb, s)) (hx : Ev l x (.e (.c (.own b off n s wh)))) (hlo : Bd l 0 lo L) (hhi : Bd l n hi H) (hmx : Mx l lo hi H mx) (h1 : L ≤ H) (h2 : H ≤ n) (hr : off + L * s = r) (hk : H - L = k) : OpOK cx o (S l) (S g) ⟨.e (.c (.own b r k s false)), [], [], []⟩ :=
  kJ fun ρ a w hs => by
    have hrep := hx.rep hs (by rw [ho]; simp [Op.operands])
    obtain ⟨ad, cap, e1, h3, h4, h5⟩ := uN hrep
    obtain ⟨M, q1, q2, q3, q4⟩ := y3 ho hu he hlo hhi hmx h1 h2 hs e1 h3
    subst hr
    subst hk
    refine ⟨_, q4, ?_⟩
    by_cases h0 : H - L = 0
    · rw [h0]
      refine .own0 b _ s _ _ (by omega) ?_
      intro hn
      split at hn
      · have := h5 hn; omega
      · cases ad with
        | none => have := h5 rfl; omega
        | some _ => cases hn
    · rw [if_neg (by omega)]
      obtain ⟨m, cap', hm, hnl, e2, h6, h7, h8⟩ := uY (by omega) hrep
      rw [e1] at e2
      cases e2
      rw [ke9, Addr.add_mid]
      exact .own b _ _ s false m _ hm hnl (by omega) (by omega) (fun h => by cases h)
theorem hZ {t e : TypeId} {bb : Bool} {x : Operand} {lo hi mx : Option Operand} {n s L H k : Nat} {ds ds' : List D} (ho : o.op = .slice t x lo hi mx) (hu : Try.prog.underlying t = some (.slice e)) (he : qM Try.prog e = some (bb, s)) (hx : Ev l x (.e (.c (.d (.sl ds n))))) (hlo : Bd l 0 lo L) (hhi : Bd l n hi H) (hmx : Mx l lo hi H mx) (h1 : L ≤ H) (h2 : H ≤ n) (hk : H - L = k) (hr : (ds.drop (L * s)).take (k * s) = ds') : OpOK cx o (S l) (S g) ⟨.e (.c (.d (.sl ds' k))), [], [], []⟩ :=
  kJ fun ρ a w hs => by
    have hrep := hx.rep hs (by rw [ho]; simp [Op.operands])
    obtain ⟨ad, cap, e1, h3, h4, h5, h6⟩ := fM hrep
    obtain ⟨M, q1, q2, q3, q4⟩ := y3 ho hu he hlo hhi hmx h1 h2 hs e1 h3
    subst hr
    subst hk
    refine ⟨_, q4, ?_⟩
    by_cases h0 : H - L = 0
    · rw [h0, Nat.zero_mul, List.take_zero]
      refine .d (.nil _ _ (by omega) ?_)
      intro hn
      split at hn
      · have := h5 hn; omega
      · cases ad with
        | none => have := h5 rfl; omega
        | some _ => cases hn
    · rw [if_neg (by omega)]
      rcases h6 with ⟨_, h6⟩ | ⟨us, b, off, rfl, hl, hc, hr', hp, hb⟩
      · omega
      rw [ke9, Addr.add_mid]
      refine .d (.sl _ ((us.drop (L * s)).take ((H - L) * s)) b _ _ _ (by simp [hl]) ?_ ?_ hp hb (by omega) (by omega))
      · intro j u hj
        rw [ke4] at hj
        split at hj
        · rw [kd8] at hj; rw [kg6]; exact hc _ u hj
        · cases hj
      · intro j d u hj hu'
        rw [ke4] at hj hu'
        split at hj
        · rename_i hlt
          rw [if_pos hlt] at hu'
          rw [kd8] at hj hu'
          exact hr' _ d u hj hu'
        · cases hj
theorem fR {t e : TypeId} {bb : Bool} {s : Nat} {x : Operand} {lo hi mx : Option Operand} (ho : o.op = .slice t x lo hi mx) (hu : Try.prog.underlying t = some (.slice e)) (he : qM Try.prog e = some (bb, s)) (hx : Ev l x (LV vI)) (hlo : Bd l 0 lo 0) (hhi : Bd l 0 hi 0) (hmx : Mx l lo hi 0 mx) : OpOK cx o (S l) (S g) ⟨LV vI, [], [], []⟩ :=
  kJ fun ρ a w hs => by
    have e1 := kG (hx.rep hs (by rw [ho]; simp [Op.operands]))
    obtain ⟨M, q1, q2, q3, q4⟩ := y3 ho hu he hlo hhi hmx (kc1 _) (kc1 _) hs e1 (kc1 _)
    have hM : M = 0 := by omega
    subst hM
    exact ⟨_, q4, qC rfl⟩
theorem vU {nx n s : Nat} {T : TypeId} {cs : List C} {xs : List Nat} (H : ∀ ρ a w, uP cx.p ρ w l o.op.operands a → ∃ (vs rest : List Value) (cap : Nat), (execOp a.eval o).run Try.prog w = .ok (.value (.slice (some ⟨w.heap.size, 0, none⟩) n cap)) (w.alloc (.cells (vs ++ rest).toArray T)) ∧ All2 (RepC cx.p ρ w) cs vs ∧ n ≤ cap ∧ cap ≤ maxLen ∧ cap * s = (vs ++ rest).length) :
    OpOK cx o (S l) (S g) ⟨.e (.c (.own nx 0 n s true)), [(nx, some (T, cs))], [nx], []⟩ := by
  intro Q ρ a w hL hs _ hnews hh hk hdf K hK
  obtain ⟨vs, rest, cap, h1, h2, h3, h4, h5⟩ := H ρ a w hs
  obtain ⟨q1, q2, q3⟩ := hh.new hk (nx := nx) (gn := w.heap.size) (T := T) (rest := rest) (hnews nx (by simp)) h2 (w' := w.alloc (.cells (vs ++ rest).toArray T)) (mZ (heap_alloc_new w _)) (kc1 _) rfl rfl rfl (by simp) (fun k hk => Below.heap_alloc _ _ _ hk)
  unfold Oper.wp
  rw [h1]
  refine hK _ _ _ q1 (fun b hb hn => ?_) q2 q3 ?_
  · have : b ≠ nx := by simpa using hb
    simp [this, hn]
  · exact .own nx 0 n s true ⟨w.heap.size, (vs ++ rest).length, false⟩ cap (by simp) rfl h3 h4 (fun _ => ⟨rfl, h5⟩)
theorem wO {nx n c bs : Nat} {t e : TypeId} {z : Value} {x y : Operand} {kx ky : IntKind} {ix iy : Int} (ho : o.op = .makeSlice t x y) (hu : Try.prog.underlying t = some (.slice e)) (hi : (Try.prog.info? e).map (fun i => (i.zero, i.size, i.bytes)) = some (some z, 1, bs)) (hz : z.oneCell' = true) (hx : Ev l x (LV (.int kx ix))) (hy : Ev l y (LV (.int ky iy))) (ex : ix = (n : Int)) (ey : iy = (c : Int)) (hn : n ≤ c) (hm : c ≤ maxLen) (hb : bs * c ≤ 281474976710656) :
    OpOK cx o (S l) (S g) ⟨.e (.c (.own nx 0 n 1 true)), [(nx, some (e, kb0 n (LC z)))], [nx], []⟩ :=
  vU (xs := []) fun ρ a w hs => by
    have e1 := kG (hx.rep hs (by rw [ho]; simp [Op.operands]))
    have e2 := kG (hy.rep hs (by rw [ho]; simp [Op.operands]))
    subst ex; subst ey
    obtain ⟨i, h2, h3, h4, h5⟩ := info_parts hi
    have hz1 : z.cells = #[z] := by cases z <;> first | rfl | (simp [Value.oneCell'] at hz)
    have hb' : (i.bytes : Int) * (c : Int) ≤ 281474976710656 := by
      have h : ((bs * c : Nat) : Int) ≤ 281474976710656 := by omega
      rw [h5]; rwa [Int.natCast_mul] at h
    have hr := run_make (P := Try.prog) w t e i z hu h2 h3 kx ky n c (by omega) (by omega) hb' (by unfold maxLen at hm; omega)
    simp only [Int.toNat_natCast, h4, Nat.mul_one, hz1] at hr
    have e3 : madeCells #[z] c = (kb0 n z ++ kb0 (c - n) z).toArray := by
      apply Array.ext'
      rw [toList_madeCells_one, List.replicate_append_replicate, show n + (c - n) = c by omega]
    rw [e3] at hr
    refine ⟨kb0 n z, kb0 (c - n) z, c, by unfold execOp; simp [ho, e1, e2, hr], ?_, hn, hm, by simp; omega⟩
    refine All2.mk (by simp) ?_
    intro j p q hj hq
    rw [List.getElem?_replicate] at hj hq
    split at hj
    · rename_i hlt
      rw [if_pos hlt] at hq
      cases hj; cases hq
      exact .d (.lit _ hz)
    · cases hj
/-! literals -/
theorem iQ (off : Nat) : ∀ (r : List Value) (k : Nat) (cells : Array Value), (r.zipIdx k).foldl (fun cs (x : Value × Nat) => cs.setIfInBounds (off + x.2) x.1) cells = (upd cells.toList (off + k) r).toArray
  | [], _, cells => by simp [upd]
  | v :: r, k, cells => by
    rw [List.zipIdx_cons, List.foldl_cons, iQ off r (k + 1)]
    simp [upd, kg6]
def vM (place : Nat → Option (Nat × Nat)) (cells : List C) : List (Nat × E1) → Option (List C)
  | [] => some cells
  | (i, e) :: rest => match place i with
    | none => none
    | some (off, size) => if (qL e).length = size ∧ off + size ≤ cells.length then vM place (cJ cells off (qL e)) rest else none
theorem gZ : ∀ (r : List C) (o : Nat) (vs : List C), (cJ vs o r).length = vs.length
  | [], _, _ => rfl
  | v :: r, o, vs => by show (cJ (vs.set o v) (o + 1) r).length = _; rw [gZ r]; simp
theorem dF {p : Nat → Prop} {ρ : Rh} {w : World} (place : Nat → Option (Nat × Nat)) : ∀ (pc : List (Nat × E1)) (parts : List (Nat × Value)) (cs : List C) (cells : Array Value) (cs' : List C), All2 (fun (x : Nat × E1) (y : Nat × Value) => x.1 = y.1 ∧ RepE p ρ w x.2 y.2) pc parts → All2 (RepC p ρ w) cs cells.toList → vM place cs pc = some cs' →
    ∃ us : List Value, Instr.fill place cells parts = some us.toArray ∧ All2 (RepC p ρ w) cs' us
  | [], [], cs, cells, cs', _, h2, h3 => by
    unfold vM at h3; cases h3
    exact ⟨cells.toList, by unfold Instr.fill; simp, h2⟩
  | (i, e) :: pc, (j, v) :: parts, cs, cells, cs', h1, h2, h3 => by
    obtain ⟨⟨hij, hr⟩, h1⟩ := h1
    simp only at hij
    subst hij
    unfold vM at h3
    cases hp : place i with
    | none => rw [hp] at h3; cases h3
    | some x =>
      obtain ⟨off, size⟩ := x
      simp only [hp] at h3
      split at h3
      · rename_i hc
        obtain ⟨q1, q2⟩ := hr.cells
        have hl1 : v.cells.size = size := by have := q1.len; rw [hc.1] at this; simpa using this.symm
        have hl2 : cells.size = cs.length := by have := h2.len; simpa using this.symm
        have e1 : v.cells.zipIdx.foldl (fun cs (x : Value × Nat) => cs.setIfInBounds (off + x.2) x.1) cells = (upd cells.toList off v.cells.toList).toArray := by
          rw [← Array.foldl_toList, Array.toList_zipIdx]
          exact iQ off v.cells.toList 0 cells
        obtain ⟨us, h4, h5⟩ := dF place pc parts (cJ cs off (qL e)) (upd cells.toList off v.cells.toList).toArray cs' h1 (by simpa using All2.upd off q1 h2) h3
        refine ⟨us, ?_, h5⟩
        unfold Instr.fill
        simp only [hp]
        rw [if_neg (by simp [hl1, hl2]; omega)]
        rw [e1]
        exact h4
      · cases h3
  | [], _ :: _, _, _, _, h, _, _ => h.elim
  | _ :: _, [], _, _, _, h, _, _ => h.elim
inductive EvL (l : List (Nat × PV)) : List (Nat × Operand) → List (Nat × E1) → Prop where
  | nil : EvL l [] []
  | cons {i : Nat} {x : Operand} {e : E1} {xs : List (Nat × Operand)} {es : List (Nat × E1)} (h : Ev l x (.e e)) (hs : EvL l xs es) : EvL l ((i, x) :: xs) ((i, e) :: es)
theorem EvL.rep {l : List (Nat × PV)} {xs : List (Nat × Operand)} {es : List (Nat × E1)} (h : EvL l xs es) {p : Nat → Prop} {ρ : Rh} {w : World} {ops : Array Operand} {a : Act} (hs : uP p ρ w l ops a) (hm : ∀ x ∈ xs, x.2 ∈ ops.toList) : All2 (fun (x : Nat × E1) (y : Nat × Value) => x.1 = y.1 ∧ RepE p ρ w x.2 y.2) es (xs.map fun x => (x.1, a.eval x.2)) := by
  induction h with
  | nil => trivial
  | cons h hs' ih => exact ⟨⟨rfl, h.rep hs (hm _ (List.mem_cons_self ..))⟩, ih (fun x hx => hm x (List.mem_cons_of_mem _ hx))⟩
theorem oC {p : Nat → Prop} {ρ : Rh} {w : World} {zs : List Value} (h1 : zs.all (·.oneCell') = true) : All2 (RepC p ρ w) (zs.map LC) zs := by
  refine All2.mk (by simp) ?_
  intro j c u hj hu
  rw [ke5, hu] at hj
  simp at hj
  subst hj
  exact .d (.lit _ (List.all_eq_true.1 h1 u (List.mem_of_getElem? hu)))
theorem eA {T : TypeId} {zs : List Value} (hz : v7 Try.prog T = some zs) (w : World) : ∃ z, (zeroValue T).run Try.prog w = .ok z w ∧ z.cells = zs.toArray := by
  unfold v7 at hz
  split at hz
  · rename_i i hi
    obtain ⟨z, hz1, hz2⟩ := Option.map_eq_some_iff.1 hz
    exact ⟨z, by simp [zeroValue, typeInfo, hi, hz1], by rw [← hz2]⟩
  · cases hz
theorem dW {nx n s : Nat} {t e : TypeId} {bb : Bool} {zs : List Value} {parts : Array (Nat × Operand)} {es : List (Nat × E1)} {cs : List C} (ho : o.op = .buildSlice t n parts) (hu : Try.prog.underlying t = some (.slice e)) (he : qM Try.prog e = some (bb, s)) (hz : v7 Try.prog e = some zs) (h1 : zs.all (·.oneCell') = true) (hzl : zs.length = s) (hes : EvL l parts.toList es) (hn : 0 < n * s) (hlim : n * s ≤ 16777216)
    (hfill : vM (fun i => some (i * s, s)) ((kf6 (n * s)).map fun j => LC (zs.getD (j % s) undef)) es = some cs) : OpOK cx o (S l) (S g) ⟨.e (.c (.own nx 0 n s true)), [(nx, some (e, cs))], [nx], []⟩ :=
  vU (xs := []) fun ρ a w hs => by
    have hr := hes.rep hs (by intro x hx; rw [ho]; simp only [Op.operands]; simp; exact ⟨x.1, by simpa using hx⟩)
    obtain ⟨z, hz1, hz2⟩ := eA hz w
    have hs0 : 0 < s := by rcases Nat.eq_zero_or_pos s with h | h <;> first | exact h | (subst h; simp at hn)
    have hzc : (Array.range (n * s)).map (fun j => z.cells[j % z.cells.size]!) = ((kf6 (n * s)).map fun j => zs.getD (j % s) undef).toArray := by
      apply Array.ext'
      simp only [Array.toList_map, Array.toList_range]
      apply List.map_congr_left
      intro j hj
      have hlt : j % s < zs.length := by rw [hzl]; exact Nat.mod_lt _ hs0
      have hsz : z.cells.size = s := by rw [hz2]; simpa using hzl
      rw [hsz, hz2]
      simp [hlt, ka9]
    have hz0 : All2 (RepC cx.p ρ w) ((kf6 (n * s)).map fun j => LC (zs.getD (j % s) undef)) ((kf6 (n * s)).map fun j => zs.getD (j % s) undef) := by
      refine All2.mk (by simp) ?_
      intro j c u hj hu'
      rw [ke5] at hj hu'
      obtain ⟨k, hk, rfl⟩ := Option.map_eq_some_iff.1 hj
      rw [hk] at hu'
      simp only [ke9, Option.some.injEq] at hu'
      subst hu'
      refine .d (.lit _ ?_)
      have hlt : k % s < zs.length := by rw [hzl]; exact Nat.mod_lt _ hs0
      rw [ka9, List.getElem?_eq_getElem hlt]
      exact List.all_eq_true.1 h1 _ (List.getElem_mem hlt)
    generalize ((kf6 (n * s)).map fun j => zs.getD (j % s) undef) = Z at hzc hz0
    obtain ⟨us, hf1, hf2⟩ := dF (fun i => some (i * s, s)) es _ _ Z.toArray cs hr (by simpa using hz0) hfill
    have hlen : us.length = n * s := by
      have e1 := hf2.len
      have : ∀ (pc : List (Nat × E1)) (c0 c1 : List C), vM (fun i => some (i * s, s)) c0 pc = some c1 → c1.length = c0.length := by
        intro pc
        induction pc with
        | nil => intro c0 c1 h; unfold vM at h; cases h; rfl
        | cons x pc ih =>
          intro c0 c1 h
          obtain ⟨i, e⟩ := x
          unfold vM at h
          simp only at h
          split at h
          · rw [ih _ _ h, gZ]
          · cases h
      rw [← e1, this _ _ _ hfill]
      simp
    refine ⟨us, [], n, ?_, hf2, kc1 _, by unfold maxLen; have : n ≤ n * s := Nat.le_mul_of_pos_right n hs0; omega, by simp [hlen]⟩
    have hlim' : ¬ (16777216 < n * s) := by omega
    have hn0 : ¬ (n * s = 0) := by omega
    unfold execOp
    simp only [ho]
    simp [Instr.buildSlice, run_underlying hu, k9 he, hlim', hn0, hz1, hzc, newRow]
    rw [hf1]
    simp
end
end Go.Proofs.Ytkjmlililpgamaa
