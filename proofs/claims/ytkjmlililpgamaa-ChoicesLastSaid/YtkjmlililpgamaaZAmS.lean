/- A memory told by names: texts out of bytes, places in arrays. No statement is proved here. -/
import Derived.Test.YtkjmlililpgamaaZAmH
import Derived.Laws.BytesArg
import Derived.Laws.Entries
namespace Go.Proofs.Ytkjmlililpgamaa
open Go.ChangeShapes Go.WideShapes Go.ChangeAt Go.RowKit
set_option linter.unusedVariables false
set_option linter.unusedSimpArgs false
section
variable {cx : Cx} {o : Oper} {l : List (Nat × PV)} {g : EH}
theorem i6 {p : Nat → Prop} {ρ : Rh} {w : World} : ∀ {ls : List Int} {us : List Value}, All2 (RepC p ρ w) ((dI .u8 ls).map .d) us → us = ls.map (Value.int .u8)
 | [], [], _ => rfl
 | x :: ls, u :: us, h => by
  have h1 : RepC p ρ w (.d (.lit (.int .u8 x))) u := h.1
  have h2 : u = .int .u8 x := by cases h1 with | d h => cases h; rfl
  have h3 : All2 (RepC p ρ w) ((dI .u8 ls).map .d) us := h.2
  rw [h2, i6 h3]; rfl
 | [], _ :: _, h => by cases h
 | _ :: _, [], h => by cases h
theorem k08 {src dst e : TypeId} {x : Operand} {m : Nat} {foot : List Nat} {ls : List Int} {g : List (Nat × Option Bk)} (ho : o.op = .convert src dst x) (hs' : Try.prog.underlying src = some (.slice e)) (he : Try.prog.underlying e = some (.int .u8)) (hd : Try.prog.underlying dst = some .string) (hsrc : Src l g 1 x m ((dI .u8 ls).map .d) foot) :
  OpOK cx o (S l) (S g) ⟨LV (.string (strOfNums ls)), [], [], foot⟩ :=
 fS fun ρ a w hL hs hf hh => by
  obtain ⟨ad, c, us, e1, hr, hlen, _, _, hn, hc⟩ := hsrc.rep hs (by rw [ho]; simp [Op.operands]) hf hh
  obtain rfl := i6 hr
  rw [List.length_map, Nat.mul_one] at hlen
  refine ⟨.string (strOfNums ls), ?_, qC rfl⟩
  unfold execOp
  simp only [ho, e1]
  cases ad with
  | none =>
   obtain ⟨rfl, rfl⟩ := hn rfl
   obtain rfl : ls = [] := List.eq_nil_of_length_eq_zero hlen
   have := run_convert_bytes_nil (P := Try.prog) w src e hs' he 0 0 dst hd
   simp [this]
   rfl
  | some p =>
   have hl : (loadCells p m).run Try.prog w = .ok (ls.map (Value.int .u8)).toArray w := by
    have := run_loadCells_list (P := Try.prog) w p (ls.map (Value.int .u8)) (fun j v hj => hc p rfl j v hj)
    simpa [hlen] using this
   have h2 : (convert src dst (.slice (some p) m c)).run Try.prog w = .ok (.string (strOfNums ls)) w := by
    rw [run_convert_bytes_string w src dst e _ m c hs' he hd, run_bytesToString w _ m c ls hl, foldl_push_bytes]
    simp [strOfNums, ByteArray.empty, ByteArray.emptyWithCapacity]
    rfl
   simp [h2]
def nJ (P : Program) (e : TypeId) : Bool := match P.underlying e with
 | some (.int .u8) => true
 | _ => false
def rI (P : Program) (h : H) (g : EH) (src dst : TypeId) (u : PV) : R := match P.underlying dst, P.underlying src, h with
 | some .string, some (.slice e), .st snap ls => match nJ P e, iS g 1 snap u with
  | true, some (ps, m, ds, foot) => some (ps ++ [ds = dI .u8 ls], ⟨LV (.string (strOfNums ls)), [], [], foot⟩)
  | _, _ => none
 | _, _, _ => none
theorem rH {h : H} {src dst : TypeId} {x : Operand} (ho : o.op = .convert src dst x) {u : PV} (hu : Ev l x u) : OKR cx o l g (rI Try.prog h g src dst u) := by
 unfold rI
 split
 ·rename_i hd hs
  split
  ·rename_i ps m ds foot he hsrc
   refine OKR.some fun hp => ?_
   have hp := (kN _).1 hp
   have hds : ds = _ := hp _ (List.mem_append_right _ (List.mem_cons_self ..))
   have h1 := a2 hu hsrc (fun p h => hp p (List.mem_append_left _ h))
   subst hds
   unfold nJ at he
   split at he
   ·rename_i he'; exact k08 ho hs he' hd h1
   ·cases he
  ·exact OKR.none
 ·exact OKR.none
def zO (P : Program) (h : H) (t : TypeId) : PV → PV → R := fun _ _ => none
theorem sA {h : H} {t : TypeId} {x y : Operand} (ho : o.op = .indexAddr t x y) {u v : PV} (hu : Ev l x u) (hv : Ev l y v) : OKR cx o l g (zO Try.prog h t u v) := OKR.none
end
section
variable {cx : Cx} {o : Oper} {l : List (Nat × PV)} {g : EH}
def iW (P : Program) (l : List (Nat × PV)) (t : TypeId) (parts : Array (Nat × Operand)) : R := none
theorem iU {t : TypeId} {parts : Array (Nat × Operand)} (ho : o.op = .build t parts) : OKR cx o l g (iW Try.prog l t parts) := OKR.none
/-! bytes of texts -/
def vF (s : ByteArray) (i : Int) : Option Int := if 0 ≤ i then (s.data.toList[i.toNat]?).map (fun b => ((b.toNat : Nat) : Int)) else none
theorem jP {s : ByteArray} {i z : Int} (h : vF s i = some z) : ∃ (hi : 0 ≤ i ∧ i < s.size), ((s[i.toNat]'(by omega)).toNat : Int) = z := by
 unfold vF at h
 split at h
 ·rename_i h0
  cases hb : s.data.toList[i.toNat]? with
  | none => rw [hb] at h; cases h
  | some b =>
   rw [hb] at h
   have h1 : i.toNat < s.data.toList.length := (List.getElem?_eq_some_iff.1 hb).1
   have h2 : s.data.toList.length = s.size := by cases s; rfl
   refine ⟨⟨h0, by omega⟩, ?_⟩
   have h3 := (List.getElem?_eq_some_iff.1 hb).2
   have h4 : s[i.toNat]'(by omega) = b := by
    rw [← h3]; cases s with | mk d => simp [ByteArray.getElem_eq_getElem_data]
   rw [h4]
   simpa using h
 ·cases h
theorem fT {t : TypeId} {x ix : Operand} {s : ByteArray} {k : IntKind} {i z : Int} {g : List (Nat × Option Bk)} (ho : o.op = .index t x ix) (hu : Try.prog.underlying t = some .string) (hx : Ev l x (LV (.string s))) (hi : Ev l ix (LV (.int k i))) (hz : vF s i = some z) : OpOK cx o (S l) (S g) ⟨LV (.int .u8 z), [], [], []⟩ :=
 kJ fun ρ a w hs => by
  have e1 := kG (hx.rep hs (by rw [ho]; simp [Op.operands]))
  have e2 := kG (hi.rep hs (by rw [ho]; simp [Op.operands]))
  obtain ⟨h1, h2⟩ := jP hz
  refine ⟨.int .u8 z, ?_, qC rfl⟩
  unfold execOp
  simp only [ho, e1, e2]
  have h3 := run_index_string (P := Try.prog) w t s k i hu
  rw [dif_pos h1, h2] at h3
  rw [Sem.run_bind, h3]; rfl
def iM (P : Program) (t : TypeId) : Bool := match P.underlying t with
 | some .string => true
 | _ => false
theorem dC {t : TypeId} (h : iM Try.prog t = true) : Try.prog.underlying t = some .string := by
 unfold iM at h
 split at h
 ·rename_i e; exact e
 ·cases h
def sC (P : Program) (h : H) (t : TypeId) : PV → PV → R
 | .e (.c (.d (.lit (.string s)))), .e (.c (.d (.lit (.int _ i)))) => match iM P t, h with
  | true, .i z => some ([vF s i = some z], ⟨LV (.int .u8 z), [], [], []⟩)
  | _, _ => none
 | _, _ => none
theorem sB {h : H} {t : TypeId} {x y : Operand} (ho : o.op = .index t x y) {u v : PV} (hu : Ev l x u) (hv : Ev l y v) : OKR cx o l g (sC Try.prog h t u v) := by
 unfold sC
 split
 ·split
  ·rename_i hq
   exact OKR.some fun hp => fT ho (dC hq) hu hv ((kN _).1 hp _ (List.mem_cons_self ..))
  ·exact OKR.none
 ·exact OKR.none
def zP (P : Program) (h : H) (t : TypeId) : PV → PV → R := fun _ _ => none
theorem sD {h : H} {t : TypeId} {x y : Operand} (ho : o.op = .index t x y) {u v : PV} (hu : Ev l x u) (hv : Ev l y v) : OKR cx o l g (zP Try.prog h t u v) := OKR.none
def zN (P : Program) (t : TypeId) (lo hi mx : Option Operand) : PV → R := fun _ => none
theorem rM {t : TypeId} {x : Operand} {lo hi mx : Option Operand} (ho : o.op = .slice t x lo hi mx) {u : PV} (hu : Ev l x u) : OKR cx o l g (zN Try.prog t lo hi mx u) := OKR.none
end
def dV (a b : R) : R := match a with
 | some x => some x
 | none => b
theorem OKR.or {cx : Cx} {o : Oper} {l : List (Nat × PV)} {g : EH} {a b : R} (h1 : OKR cx o l g a) (h2 : OKR cx o l g b) : OKR cx o l g (dV a b) := by
 unfold dV
 cases a with
 | some x => exact h1
 | none => exact h2
end Go.Proofs.Ytkjmlililpgamaa
