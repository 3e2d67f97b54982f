/- A memory told by names: texts out of bytes, places in arrays. No statement is proved here. -/
import Derived.Test.YtkjmlililpgamaaZAmH
import Derived.Laws.BytesArg
import Derived.Laws.Entries
namespace Go.Proofs.Ytkjmlililpgamaa
open Go.ChangeShapes Go.WideShapes Go.ChangeAt Go.RowKit
open List renaming getElem?_drop → kd7, mem_cons_self → ka4
set_option linter.unusedVariables false
set_option linter.unusedSimpArgs false
section
variable {cx : Cx} {o : Oper} {l : List (Nat × PV)} {g : EH}
theorem d3 {p : Nat → Prop} {ρ : Rh} {w : World} : ∀ {ls : List Int} {us : List Value}, All2 (RepC p ρ w) ((dI .u8 ls).map .d) us → us = ls.map (Value.int .u8)
 | [], [], _ => rfl
 | x :: ls, u :: us, h => by
  have h1 : RepC p ρ w (.d (.lit (.int .u8 x))) u := h.1
  have h2 : u = .int .u8 x := by cases h1 with | d h => cases h; rfl
  have h3 : All2 (RepC p ρ w) ((dI .u8 ls).map .d) us := h.2
  rw [h2, d3 h3]; rfl
 | [], _ :: _, h => by cases h
 | _ :: _, [], h => by cases h
theorem k19 {src dst e : TypeId} {x : Operand} {m : Nat} {foot : List Nat} {ls : List Int} {g : List (Nat × Option Bk)} (ho : o.op = .convert src dst x) (hs' : Try.prog.underlying src = some (.slice e)) (he : Try.prog.underlying e = some (.int .u8)) (hd : Try.prog.underlying dst = some .string) (hsrc : Src l g 1 x m ((dI .u8 ls).map .d) foot) :
  OpOK cx o (S l) (S g) ⟨LV (.string (strOfNums ls)), [], [], foot⟩ :=
 a4 fun ρ a w hL hs hf hh => by
  obtain ⟨ad, c, us, e1, hr, hlen, _, _, hn, hc⟩ := hsrc.rep hs (by rw [ho]; simp [Op.operands]) hf hh
  obtain rfl := d3 hr
  rw [List.length_map, Nat.mul_one] at hlen
  refine ⟨.string (strOfNums ls), ?_, kY rfl⟩
  unfold execOp
  simp only [ho, e1]
  cases ad with
  | none =>
   obtain ⟨rfl, rfl⟩ := hn rfl
   obtain rfl : ls = [] := List.eq_nil_of_length_eq_zero hlen
   have := run_convert_bytes_nil (P := Try.prog) w src e hs' he 0 0 dst hd
   simp [this]
   rfl
  | some p =>
   have hl : (loadCells p m).run Try.prog w = .ok (ls.map (Value.int .u8)).toArray w := by
    have := run_loadCells_list (P := Try.prog) w p (ls.map (Value.int .u8)) (fun j v hj => hc p rfl j v hj)
    simpa [hlen] using this
   have h2 : (convert src dst (.slice (some p) m c)).run Try.prog w = .ok (.string (strOfNums ls)) w := by
    rw [run_convert_bytes_string w src dst e _ m c hs' he hd, run_bytesToString w _ m c ls hl, foldl_push_bytes]
    simp [strOfNums, ByteArray.empty, ByteArray.emptyWithCapacity]
    rfl
   simp [h2]
def oN (P : Program) (e : TypeId) : Bool := match P.underlying e with
 | some (.int .u8) => true
 | _ => false
def sU (P : Program) (h : H) (g : EH) (src dst : TypeId) (u : PV) : R := match P.underlying dst, P.underlying src, h with
 | some .string, some (.slice e), .st snap ls => match oN P e, jT g 1 snap u with
  | true, some (ps, m, ds, foot) => some (ps ++ [ds = dI .u8 ls], ⟨LV (.string (strOfNums ls)), [], [], foot⟩)
  | _, _ => none
 | _, _, _ => none
theorem sS {h : H} {src dst : TypeId} {x : Operand} (ho : o.op = .convert src dst x) {u : PV} (hu : Ev l x u) : OKR cx o l g (sU Try.prog h g src dst u) := by
 unfold sU
 split
 ·rename_i hd hs
  split
  ·rename_i ps m ds foot he hsrc
   refine OKR.some fun hp => ?_
   have hp := (kI _).1 hp
   have hds : ds = _ := hp _ (List.mem_append_right _ (ka4 ..))
   have h1 := bF hu hsrc (fun p h => hp p (List.mem_append_left _ h))
   subst hds
   unfold oN at he
   split at he
   ·rename_i he'; exact k19 ho hs he' hd h1
   ·cases he
  ·exact OKR.none
 ·exact OKR.none
theorem aD {t e : TypeId} {bb : Bool} {s n : Nat} (hu : Try.prog.underlying t = some (.array n e)) (he : qE Try.prog e = some (bb, s)) (w : World) (b off : Nat) (k : IntKind) (i : Int) (h0 : 0 ≤ i) (h1 : i < n) :
  (Instr.indexAt t (.pointer (some ⟨b, off, none⟩)) (.int k i)).run Try.prog w = .ok (.pointer (some ⟨b, off + i.toNat * s, none⟩)) w := by
 have e1 : Try.prog.elem t = e := by simp [Program.elem, hu]
 have e2 : Try.prog.arrayLen t = n := by simp [Program.arrayLen, hu]
 have hr := run_indexAt_array (P := Try.prog) (w := w) t ⟨b, off, none⟩ k i (by rw [e1, e2]; exact hu)
 rw [e2, if_pos ⟨h0, h1⟩, e1, kX he] at hr
 rw [hr]
 simp [Result.andThen, Addr.add_mid]
theorem xN {p : Nat → Prop} {ρ : Rh} {w : World} {ds : List D} {v : Value} (h : RepPV p ρ w (.e (.c (.rp ds))) v) : ∃ (us : List Value) (b off : Nat), v = .pointer (some ⟨b, off, none⟩) ∧ us.length = ds.length ∧ (∀ (i : Nat) (u : Value), us[i]? = some u → w.cell? ⟨b, off + i, none⟩ = some u) ∧ (∀ (i : Nat) (d : D) (u : Value), ds[i]? = some d → us[i]? = some u → RepD (pz p ρ) w d u) ∧ pz p ρ b ∧ b < w.heap.size := by
 cases h with
 | rp _ us b off hl hc hr hp hb => exact ⟨us, b, off, rfl, hl, hc, hr, hp, hb⟩
theorem jE {t e : TypeId} {bb : Bool} {x ix : Operand} {n s i : Nat} {ds : List D} {k : IntKind} {g : List (Nat × Option Bk)} (ho : o.op = .indexAddr t x ix) (hu : Try.prog.underlying t = some (.array n e)) (he : qE Try.prog e = some (bb, s)) (hx : Ev l x (.e (.c (.rp ds)))) (hi : Ev l ix (LV (.int k (i : Int)))) (h1 : i < n) : OpOK cx o (S l) (S g) ⟨.e (.c (.rp (ds.drop (i * s)))), [], [], []⟩ :=
 kG fun ρ a w hs => by
  obtain ⟨us, b, off, e1, hl, hc, hr, hp, hb⟩ := xN (hx.rep hs (by rw [ho]; simp [Op.operands]))
  have e2 := kE (hi.rep hs (by rw [ho]; simp [Op.operands]))
  refine ⟨.pointer (some ⟨b, off + i * s, none⟩), ?_, .rp _ (us.drop (i * s)) b _ (by simp [hl]) ?_ ?_ hp hb⟩
  ·have h3 := aD hu he w b off k (i : Int) (by omega) (by omega)
   rw [Int.toNat_natCast] at h3
   unfold execOp
   simp only [ho, e1, e2]
   rw [Sem.run_bind, h3]; rfl
  ·intro j u hj; rw [kd7] at hj; rw [Nat.add_assoc]; exact hc _ u hj
  ·intro j d u hj hu; rw [kd7] at hj hu; exact hr _ d u hj hu
theorem gM {t e : TypeId} {bb : Bool} {x ix : Operand} {n s i b off : Nat} {k : IntKind} {g : List (Nat × Option Bk)} (ho : o.op = .indexAddr t x ix) (hu : Try.prog.underlying t = some (.array n e)) (he : qE Try.prog e = some (bb, s)) (hx : Ev l x (.e (.c (.ptr b off)))) (hi : Ev l ix (LV (.int k (i : Int)))) (h1 : i < n) : OpOK cx o (S l) (S g) ⟨.e (.c (.ptr b (off + i * s))), [], [], []⟩ :=
 kG fun ρ a w hs => by
  obtain ⟨m, hm, hn, e1⟩ := qK (hx.rep hs (by rw [ho]; simp [Op.operands]))
  have e2 := kE (hi.rep hs (by rw [ho]; simp [Op.operands]))
  refine ⟨.pointer (some ⟨m.g, off + i * s, none⟩), ?_, .ptr _ _ m hm hn⟩
  have h3 := aD hu he w m.g off k (i : Int) (by omega) (by omega)
  rw [Int.toNat_natCast] at h3
  unfold execOp
  simp only [ho, e1, e2]
  rw [Sem.run_bind, h3]; rfl
def tM (P : Program) (h : H) (t : TypeId) : PV → PV → R
 | .e (.c (.rp ds)), .e (.c (.d (.lit (.int _ i)))) => match P.underlying t, h with
  | some (.array n e), .n k => match qE P e with
   | some (_, s) => some ([i = (k : Int), k < n], ⟨.e (.c (.rp (ds.drop (x4 k s)))), [], [], []⟩)
   | none => none
  | _, _ => none
 | .e (.c (.ptr b off)), .e (.c (.d (.lit (.int _ i)))) => match P.underlying t, h with
  | some (.array n e), .n2 k r => match qE P e with
   | some (_, s) => some ([i = (k : Int), k < n, off + k * s = r], ⟨.e (.c (.ptr b r)), [], [], []⟩)
   | none => none
  | _, _ => none
 | _, _ => none
theorem tL {h : H} {t : TypeId} {x y : Operand} (ho : o.op = .indexAddr t x y) {u v : PV} (hu : Ev l x u) (hv : Ev l y v) : OKR cx o l g (tM Try.prog h t u v) := by
 unfold tM
 split
 ·split
  ·rename_i ht
   split
   ·rename_i he
    refine OKR.some fun hp => ?_
    obtain ⟨h1, h2⟩ := hp
    subst h1
    have := jE (cx := cx) (g := kC g) ho ht he hu hv h2
    rw [← nE] at this
    exact this
   ·exact OKR.none
  ·exact OKR.none
 ·split
  ·rename_i ht
   split
   ·rename_i he
    refine OKR.some fun hp => ?_
    obtain ⟨h1, h2, h3⟩ := hp
    have h3 : _ = _ := h3
    subst h1
    subst h3
    exact gM (cx := cx) (g := kC g) ho ht he hu hv h2
   ·exact OKR.none
  ·exact OKR.none
 ·exact OKR.none
end
section
variable {cx : Cx} {o : Oper} {l : List (Nat × PV)} {g : EH}
theorem oE {t e : TypeId} {bb : Bool} {s n : Nat} {zs : List Value} {parts : Array (Nat × Operand)} {es : List (Nat × E1)} {cs : List C} {g : List (Nat × Option Bk)} (ho : o.op = .build t parts) (hu : Try.prog.underlying t = some (.array n e)) (he : qE Try.prog e = some (bb, s)) (hz : vF Try.prog t = some zs) (h1 : zs.all (·.oneCell') = true) (hes : EvL l parts.toList es) (hfill : y3 (fun i => some (i * s, s)) (zs.map LC) es = some cs) : OpOK cx o (S l) (S g) ⟨.e (.agg cs), [], [], []⟩ :=
 kG fun ρ a w hs => by
  have hr := hes.rep hs (by intro x hx; rw [ho]; simp only [Op.operands]; simp; exact ⟨x.1, by simpa using hx⟩)
  obtain ⟨z, hz1, hz2⟩ := bS hz w
  obtain ⟨us, hf1, hf2⟩ := bD (fun i => some (i * s, s)) es _ _ zs.toArray cs hr (by simpa using fM h1) hfill
  refine ⟨.agg us.toArray, ?_, us, rfl, hf2⟩
  have hsz := kX he w
  unfold execOp
  simp only [ho]
  simp only [Instr.build, Sem.run_bind, hz1, Result.andThen_ok, run_underlying hu, hsz, hz2]
  simp [hf1]
def dZ (P : Program) (l : List (Nat × PV)) (t : TypeId) (parts : Array (Nat × Operand)) : R := match P.underlying t, vF P t, oR l parts.toList with
 | some (.array n e), some zs, some es => match zs.all (·.oneCell'), qE P e with
  | true, some (_, s) => match y3 (fun i => some (i * s, s)) (zs.map LC) es with
   | some cs => pv (.e (.agg cs))
   | none => none
  | _, _ => none
 | _, _, _ => none
theorem jV {t : TypeId} {parts : Array (Nat × Operand)} (ho : o.op = .build t parts) : OKR cx o l g (dZ Try.prog l t parts) := by
 unfold dZ
 split
 ·rename_i hu hz hes
  split
  ·rename_i h1 he
   split
   ·rename_i hf
    exact OKR.some fun _ => oE ho hu he hz h1 (cN hes) hf
   ·exact OKR.none
  ·exact OKR.none
 ·exact OKR.none
/-! bytes of texts -/
def vN (s : ByteArray) (i : Int) : Option Int := if 0 ≤ i then (s.data.toList[i.toNat]?).map (fun b => ((b.toNat : Nat) : Int)) else none
theorem lJ {s : ByteArray} {i z : Int} (h : vN s i = some z) : ∃ (hi : 0 ≤ i ∧ i < s.size), ((s[i.toNat]'(by omega)).toNat : Int) = z := by
 unfold vN at h
 split at h
 ·rename_i h0
  cases hb : s.data.toList[i.toNat]? with
  | none => rw [hb] at h; cases h
  | some b =>
   rw [hb] at h
   have h1 : i.toNat < s.data.toList.length := (List.getElem?_eq_some_iff.1 hb).1
   have h2 : s.data.toList.length = s.size := by cases s; rfl
   refine ⟨⟨h0, by omega⟩, ?_⟩
   have h3 := (List.getElem?_eq_some_iff.1 hb).2
   have h4 : s[i.toNat]'(by omega) = b := by
    rw [← h3]; cases s with | mk d => simp [ByteArray.getElem_eq_getElem_data]
   rw [h4]
   simpa using h
 ·cases h
theorem gL {t : TypeId} {x ix : Operand} {s : ByteArray} {k : IntKind} {i z : Int} {g : List (Nat × Option Bk)} (ho : o.op = .index t x ix) (hu : Try.prog.underlying t = some .string) (hx : Ev l x (LV (.string s))) (hi : Ev l ix (LV (.int k i))) (hz : vN s i = some z) : OpOK cx o (S l) (S g) ⟨LV (.int .u8 z), [], [], []⟩ :=
 kG fun ρ a w hs => by
  have e1 := kE (hx.rep hs (by rw [ho]; simp [Op.operands]))
  have e2 := kE (hi.rep hs (by rw [ho]; simp [Op.operands]))
  obtain ⟨h1, h2⟩ := lJ hz
  refine ⟨.int .u8 z, ?_, kY rfl⟩
  unfold execOp
  simp only [ho, e1, e2]
  have h3 := run_index_string (P := Try.prog) w t s k i hu
  rw [dif_pos h1, h2] at h3
  rw [Sem.run_bind, h3]; rfl
def fD (P : Program) (t : TypeId) : Bool := match P.underlying t with
 | some .string => true
 | _ => false
theorem a9 {t : TypeId} (h : fD Try.prog t = true) : Try.prog.underlying t = some .string := by
 unfold fD at h
 split at h
 ·rename_i e; exact e
 ·cases h
def tO (P : Program) (h : H) (t : TypeId) : PV → PV → R
 | .e (.c (.d (.lit (.string s)))), .e (.c (.d (.lit (.int _ i)))) => match fD P t, h with
  | true, .i z => some ([vN s i = some z], ⟨LV (.int .u8 z), [], [], []⟩)
  | _, _ => none
 | _, _ => none
theorem tN {h : H} {t : TypeId} {x y : Operand} (ho : o.op = .index t x y) {u v : PV} (hu : Ev l x u) (hv : Ev l y v) : OKR cx o l g (tO Try.prog h t u v) := by
 unfold tO
 split
 ·split
  ·rename_i hq
   exact OKR.some fun hp => gL ho (a9 hq) hu hv ((kI _).1 hp _ (ka4 ..))
  ·exact OKR.none
 ·exact OKR.none
theorem a5 {t e : TypeId} {x ix : Operand} {n i : Nat} {cs : List C} {c : C} {k : IntKind} {g : List (Nat × Option Bk)} (ho : o.op = .index t x ix) (hu : Try.prog.underlying t = some (.array n e)) (he : qE Try.prog e = some (false, 1)) (hx : Ev l x (.e (.agg cs))) (hi : Ev l ix (LV (.int k (i : Int)))) (h1 : i < n) (hc : cs[i]? = some c) : OpOK cx o (S l) (S g) ⟨.e (.c c), [], [], []⟩ :=
 kG fun ρ a w hs => by
  obtain ⟨us, e1, h5⟩ := hx.rep hs (by rw [ho]; simp [Op.operands])
  have e2 := kE (hi.rep hs (by rw [ho]; simp [Op.operands]))
  have hi2 : i < us.length := by have := (List.getElem?_eq_some_iff.1 hc).1; rw [← h5.len]; exact this
  refine ⟨us[i], ?_, h5.get _ c _ hc (List.getElem?_eq_getElem hi2)⟩
  have h0 : (0 : Int) ≤ (i : Int) ∧ (i : Int) < (n : Int) := by omega
  unfold execOp
  simp [ho, e1, e2, Instr.index, asIntOf, run_underlying hu, part, u7 he, kX he, h0, hi2, h1]
theorem gJ {t e : TypeId} {bb : Bool} {x : Operand} {n s b off : Nat} {g : List (Nat × Option Bk)} (ho : o.op = .slice t x none none none) (hu : Try.prog.underlying t = some (.array n e)) (he : qE Try.prog e = some (bb, s)) (hx : Ev l x (.e (.c (.ptr b off)))) (hn : n ≤ maxLen) : OpOK cx o (S l) (S g) ⟨.e (.c (.own b off n s false)), [], [], []⟩ :=
 kG fun ρ a w hs => by
  obtain ⟨m, hm, hnl, e1⟩ := qK (hx.rep hs (by rw [ho]; simp [Op.operands]))
  refine ⟨.slice (some ⟨m.g, off, none⟩) n n, ?_, .own b off n s false m n hm hnl (Nat.le_refl _) hn (fun h => by cases h)⟩
  have e3 : Try.prog.elem t = e := by simp [Program.elem, hu]
  have e4 : Try.prog.arrayLen t = n := by simp [Program.arrayLen, hu]
  have h3 := run_sliceAt_array_all (P := Try.prog) w t ⟨m.g, off, none⟩ (by rw [e3, e4]; exact hu)
  rw [e3, e4, kX he] at h3
  unfold execOp
  simp [ho, e1, h3, slicedAt, Result.andThen, Addr.add_mid]
def tQ (P : Program) (h : H) (t : TypeId) : PV → PV → R
 | .e (.agg cs), .e (.c (.d (.lit (.int _ i)))) => match P.underlying t, h with
  | some (.array n e), .n k => match qE P e, cs[k]? with
   | some (false, 1), some c => some ([i = (k : Int), k < n], ⟨.e (.c c), [], [], []⟩)
   | _, _ => none
  | some (.array n e), .mk k _ [d] => match qE P e with
   | some (false, 1) => some ([i = (k : Int), k < n, cs[k]? = some (.d d)], ⟨.e (.c (.d d)), [], [], []⟩)
   | _ => none
  | _, _ => none
 | _, _ => none
theorem tP {h : H} {t : TypeId} {x y : Operand} (ho : o.op = .index t x y) {u v : PV} (hu : Ev l x u) (hv : Ev l y v) : OKR cx o l g (tQ Try.prog h t u v) := by
 unfold tQ
 split
 ·split
  ·rename_i ht
   split
   ·rename_i he hc
    refine OKR.some fun hp => ?_
    obtain ⟨h1, h2⟩ := hp
    subst h1
    exact a5 ho ht he hu hv h2 hc
   ·exact OKR.none
  ·rename_i ht
   split
   ·rename_i he
    refine OKR.some fun hp => ?_
    obtain ⟨h1, h2, h3⟩ := hp
    subst h1
    exact a5 ho ht he hu hv h2 h3
   ·exact OKR.none
  ·exact OKR.none
 ·exact OKR.none
def s5 (P : Program) (t : TypeId) (lo hi mx : Option Operand) : PV → R
 | .e (.c (.ptr b off)) => match lo, hi, mx, P.underlying t with
  | none, none, none, some (.array n e) => match qE P e with
   | some (_, s) => match Nat.ble n 1000000 with
    | true => some ([], ⟨.e (.c (.own b off n s false)), [], [], []⟩)
    | false => none
   | none => none
  | _, _, _, _ => none
 | _ => none
theorem s0 {t : TypeId} {x : Operand} {lo hi mx : Option Operand} (ho : o.op = .slice t x lo hi mx) {u : PV} (hu : Ev l x u) : OKR cx o l g (s5 Try.prog t lo hi mx u) := by
 unfold s5
 split
 ·split
  ·rename_i ht
   split
   ·rename_i he
    split
    ·rename_i hn
     refine OKR.some fun hp => ?_
     exact gJ ho ht he hu (Nat.le_trans (Nat.le_of_ble_eq_true hn) (by unfold maxLen; decide))
    ·exact OKR.none
   ·exact OKR.none
  ·exact OKR.none
 ·exact OKR.none
end
def eG (a b : R) : R := match a with
 | some x => some x
 | none => b
theorem OKR.or {cx : Cx} {o : Oper} {l : List (Nat × PV)} {g : EH} {a b : R} (h1 : OKR cx o l g a) (h2 : OKR cx o l g b) : OKR cx o l g (eG a b) := by
 unfold eG
 cases a with
 | some x => exact h1
 | none => exact h2
end Go.Proofs.Ytkjmlililpgamaa
