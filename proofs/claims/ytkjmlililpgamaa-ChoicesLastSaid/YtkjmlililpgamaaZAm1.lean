/- A memory told by names: values, blocks, and what they stand for. No statement is proved here. -/
import Derived.Test.YtkjmlililpgamaaZGlo
namespace Go.Proofs.Ytkjmlililpgamaa
open Go.ChangeShapes Go.WideShapes Go.ChangeAt Go.RowKit
open List renaming lookup_cons → kc2
set_option linter.unusedVariables false
set_option linter.unusedSimpArgs false
theorem zo {p : Prop} (h : p := by omega) : p := h
theorem zk {p : Prop} (h : p := by kernel_rfl) : p := h
def All2 {α β : Type} (R : α → β → Prop) : List α → List β → Prop
 | [], [] => True
 | a :: xs, b :: ys => R a b ∧ All2 R xs ys
 | _, _ => False
theorem All2.imp {α β : Type} {R S : α → β → Prop} (h : ∀ a b, R a b → S a b) : ∀ {xs : List α} {ys : List β}, All2 R xs ys → All2 S xs ys
 | [], [], _ => trivial
 | _ :: _, _ :: _, hh => ⟨h _ _ hh.1, All2.imp h hh.2⟩
theorem All2.len {α β : Type} {R : α → β → Prop} : ∀ {xs : List α} {ys : List β}, All2 R xs ys → xs.length = ys.length
 | [], [], _ => rfl
 | _ :: _, _ :: _, hh => by simp [All2.len hh.2]
theorem All2.get {α β : Type} {R : α → β → Prop} : ∀ {xs : List α} {ys : List β}, All2 R xs ys → ∀ (i : Nat) (a : α) (b : β), xs[i]? = some a → ys[i]? = some b → R a b
 | _ :: _, _ :: _, hh, 0, a, b, ha, hb => by simp at ha hb; subst ha; subst hb; exact hh.1
 | _ :: _, _ :: _, hh, i + 1, a, b, ha, hb => All2.get hh.2 i a b (by simpa using ha) (by simpa using hb)
theorem All2.mk {α β : Type} {R : α → β → Prop} : ∀ {xs : List α} {ys : List β}, xs.length = ys.length → (∀ (i : Nat) (a : α) (b : β), xs[i]? = some a → ys[i]? = some b → R a b) → All2 R xs ys
 | [], [], _, _ => trivial
 | a :: xs, b :: ys, hl, h => ⟨h 0 a b rfl rfl, All2.mk (by simpa using hl) (fun i a b ha hb => h (i + 1) a b (by simpa using ha) (by simpa using hb))⟩
 | [], _ :: _, hl, _ => by simp at hl
 | _ :: _, [], hl, _ => by simp at hl
theorem All2.app {α β : Type} {R : α → β → Prop} : ∀ {xs xs' : List α} {ys ys' : List β}, All2 R xs ys → All2 R xs' ys' → All2 R (xs ++ xs') (ys ++ ys')
 | [], _, [], _, _, h => h
 | _ :: _, _, _ :: _, _, h, h' => ⟨h.1, All2.app h.2 h'⟩
inductive D where
 | lit (v : Value)
 | sl (cells : List D) (n : Nat)
inductive RepD (p : Nat → Prop) (w : World) : D → Value → Prop where
 | lit (v : Value) (h : v.oneCell' = true) : RepD p w (.lit v) v
 | nil (a : Option Addr) (cap : Nat) (hm : cap ≤ maxLen) (ha : a = none → cap = 0) : RepD p w (.sl [] 0) (.slice a 0 cap)
 | sl (ds : List D) (us : List Value) (b off n cap : Nat) (hl : us.length = ds.length) (hc : ∀ (i : Nat) (u : Value), us[i]? = some u → w.cell? ⟨b, off + i, none⟩ = some u)
   (hr : ∀ (i : Nat) (d : D) (u : Value), ds[i]? = some d → us[i]? = some u → RepD p w d u) (hp : p b) (hb : b < w.heap.size) (hn : n ≤ cap) (hm : cap ≤ maxLen) :
   RepD p w (.sl ds n) (.slice (some ⟨b, off, none⟩) n cap)
theorem RepD.one {p : Nat → Prop} {w : World} {d : D} {v : Value} (h : RepD p w d v) : v.oneCell' = true := by
 cases h with
 | lit v h => exact h
 | nil => rfl
 | sl => rfl
theorem RepD.mono {p p' : Nat → Prop} {w w' : World} (hpp : ∀ k, p k → p' k) (hs : w.heap.size ≤ w'.heap.size) (hb : ∀ k, p k → k < w.heap.size → w'.heap[k]? = w.heap[k]?) {d : D} {v : Value} (h : RepD p w d v) : RepD p' w' d v := by
 induction h with
 | lit v h => exact .lit v h
 | nil a cap hm ha => exact .nil a cap hm ha
 | sl ds us b off n cap hl hc hr hp hlt hn hm ih =>
  exact .sl ds us b off n cap hl (fun i u hu => by rw [World.cell?_of_block (a := ⟨b, off + i, none⟩) (hb b hp hlt)]; exact hc i u hu) ih (hpp b hp) (by omega) hn hm
structure Nm where
 g : Nat
 R : Nat
 nl : Bool
structure Rh where
 f : Nat → Option Nm
 z : Nat → Prop
instance : CoeFun Rh fun _ => Nat → Option Nm := ⟨Rh.f⟩
def Rh.no : Rh := ⟨fun _ => none, fun _ => False⟩
def Rh.set (ρ : Rh) (b : Nat) (m : Nm) : Rh := ⟨fun x => if x = b then some m else ρ x, ρ.z⟩
@[simp] theorem k3e (ρ : Rh) (b : Nat) (m : Nm) (x : Nat) : (ρ.set b m) x = if x = b then some m else ρ x := rfl
@[simp] theorem k3d (ρ : Rh) (b : Nat) (m : Nm) : (ρ.set b m).z = ρ.z := rfl
inductive C where
 | d (x : D)
 | own (b off len s : Nat) (wh : Bool)
 | ptr (b off : Nat)
 | rp (ds : List D)
 | fn (f : FuncId) (qs : List (Nat × Nat))
def tV (ρ : Rh) (q : Nat × Nat) (v : Value) : Prop := ∃ m : Nm, ρ q.1 = some m ∧ m.nl = false ∧ v = .pointer (some ⟨m.g, q.2, none⟩)
def pz (p : Nat → Prop) (ρ : Rh) : Nat → Prop := fun k => p k ∨ ρ.z k
def d3 : Nat := 2048
def zI (f : FuncId) : FuncId := f - d3
def rB (f : FuncId) (us : List Value) : Value := if f < d3 then .func (.func f) #[] us.toArray else .func (.func (zI f)) us.toArray #[]
theorem j8 {f : FuncId} (h : Nat.blt f d3 = true) (us : List Value) : rB f us = .func (.func f) #[] us.toArray := if_pos (Nat.le_of_ble_eq_true h)
theorem k0p (f : FuncId) (us : List Value) : rB (f + d3) us = .func (.func f) us.toArray #[] := by
 unfold rB
 rw [if_neg (Nat.not_lt.2 (Nat.le_add_left d3 f)), show zI (f + d3) = f from Nat.add_sub_cancel f d3]
theorem xA {f : FuncId} (h : Nat.blt f d3 = false) (us : List Value) : rB f us = .func (.func (zI f)) us.toArray #[] := if_neg (fun h9 => by rw [show Nat.blt f d3 = true from Nat.ble_eq_true_of_le h9] at h; cases h)
inductive RepC (p : Nat → Prop) (ρ : Rh) (w : World) : C → Value → Prop where
 | d {x : D} {v : Value} (h : RepD (pz p ρ) w x v) : RepC p ρ w (.d x) v
 | own (b off len s : Nat) (wh : Bool) (m : Nm) (cap : Nat) (hm : ρ b = some m) (hn : m.nl = false) (h1 : len ≤ cap) (h2 : cap ≤ maxLen) (h3 : wh = true → off = 0 ∧ cap * s = m.R) : RepC p ρ w (.own b off len s wh) (.slice (some ⟨m.g, off, none⟩) len cap)
 | ownn (b s : Nat) (m : Nm) (hm : ρ b = some m) (hn : m.nl = true) : RepC p ρ w (.own b 0 0 s true) (.slice none 0 0)
 | own0 (b off s : Nat) (a : Option Addr) (cap : Nat) (hm : cap ≤ maxLen) (ha : a = none → cap = 0) : RepC p ρ w (.own b off 0 s false) (.slice a 0 cap)
 | ptr (b off : Nat) (m : Nm) (hm : ρ b = some m) (hn : m.nl = false) : RepC p ρ w (.ptr b off) (.pointer (some ⟨m.g, off, none⟩))
 | rp (ds : List D) (us : List Value) (b off : Nat) (hl : us.length = ds.length) (hc : ∀ (i : Nat) (u : Value), us[i]? = some u → w.cell? ⟨b, off + i, none⟩ = some u)
   (hr : ∀ (i : Nat) (d : D) (u : Value), ds[i]? = some d → us[i]? = some u → RepD (pz p ρ) w d u) (hp : pz p ρ b) (hb : b < w.heap.size) : RepC p ρ w (.rp ds) (.pointer (some ⟨b, off, none⟩))
 | fn (f : FuncId) (qs : List (Nat × Nat)) (us : List Value) (hq : All2 (tV ρ) qs us) : RepC p ρ w (.fn f qs) (rB f us)
theorem RepC.one {p : Nat → Prop} {ρ : Rh} {w : World} {c : C} {v : Value} (h : RepC p ρ w c v) : v.oneCell' = true := by
 cases h with
 | d h => exact h.one
 | own => rfl
 | ownn => rfl
 | own0 => rfl
 | ptr => rfl
 | rp => rfl
 | fn f qs us hq => unfold rB; split <;> rfl
structure Goes (p : Nat → Prop) (ρ ρ' : Rh) (w w' : World) : Prop where
 ext : ∀ b m, ρ b = some m → ρ' b = some m
 zext : ∀ k, ρ.z k → ρ'.z k
 size : w.heap.size ≤ w'.heap.size
 old : ∀ k, pz p ρ k → k < w.heap.size → w'.heap[k]? = w.heap[k]?
theorem Goes.pz {p : Nat → Prop} {ρ ρ' : Rh} {w w' : World} (g : Goes p ρ ρ' w w') : ∀ k, pz p ρ k → pz p ρ' k := fun k h => h.imp id (g.zext k)
theorem Goes.refl (p : Nat → Prop) (ρ : Rh) (w : World) : Goes p ρ ρ w w := ⟨fun _ _ h => h, fun _ h => h, Nat.le_refl _, fun _ _ _ => rfl⟩
theorem RepC.mono {p : Nat → Prop} {ρ ρ' : Rh} {w w' : World} (g : Goes p ρ ρ' w w') {c : C} {v : Value} (h : RepC p ρ w c v) : RepC p ρ' w' c v := by
 cases h with
 | d h => exact .d (h.mono g.pz g.size g.old)
 | own b off len s wh m cap hm hn h1 h2 h3 => exact .own b off len s wh m cap (g.ext _ _ hm) hn h1 h2 h3
 | ownn b s m hm hn => exact .ownn b s m (g.ext _ _ hm) hn
 | own0 b off s a cap hm ha => exact .own0 b off s a cap hm ha
 | ptr b off m hm hn => exact .ptr b off m (g.ext _ _ hm) hn
 | rp ds us b off hl hc hr hp hlt =>
  exact .rp ds us b off hl (fun i u hu => by rw [World.cell?_of_block (a := ⟨b, off + i, none⟩) (g.old b hp hlt)]; exact hc i u hu) (fun i d u h1 h2 => (hr i d u h1 h2).mono g.pz g.size g.old) (g.pz _ hp) (by have := g.size; omega)
 | fn f qs us hq => exact .fn f qs us (hq.imp fun q v ⟨m, h1, h2, h3⟩ => ⟨m, g.ext _ _ h1, h2, h3⟩)
inductive E1 where
 | c (x : C)
 | agg (cs : List C)
inductive PV where
 | e (x : E1)
 | tup (l : List E1)
 | any
def RepE (p : Nat → Prop) (ρ : Rh) (w : World) : E1 → Value → Prop
 | .c x, v => RepC p ρ w x v
 | .agg cs, v => ∃ us : List Value, v = .agg us.toArray ∧ All2 (RepC p ρ w) cs us
def RepPV (p : Nat → Prop) (ρ : Rh) (w : World) : PV → Value → Prop
 | .e x, v => RepE p ρ w x v
 | .tup l, v => ∃ us : List Value, v = .tuple us.toArray ∧ All2 (RepE p ρ w) l us
 | .any, _ => True
theorem RepE.mono {p : Nat → Prop} {ρ ρ' : Rh} {w w' : World} (g : Goes p ρ ρ' w w') : ∀ {x : E1} {v : Value}, RepE p ρ w x v → RepE p ρ' w' x v
 | .c _, _, h => RepC.mono g h
 | .agg _, _, ⟨us, e, h⟩ => ⟨us, e, h.imp fun _ _ => RepC.mono g⟩
theorem RepPV.mono {p : Nat → Prop} {ρ ρ' : Rh} {w w' : World} (g : Goes p ρ ρ' w w') : ∀ {x : PV} {v : Value}, RepPV p ρ w x v → RepPV p ρ' w' x v
 | .e _, _, h => RepE.mono g h
 | .tup _, _, ⟨us, e, h⟩ => ⟨us, e, h.imp fun _ _ => RepE.mono g⟩
 | .any, _, _ => trivial
def GlOK (p : Nat → Prop) (w : World) : Prop := ∀ q, q ∈ f7 → p q.1 ∧ q.1 < w.heap.size ∧ (∃ T fz, w.heap[q.1]? = some (.cells q.2.toArray T fz)) ∧ ∀ (i : Nat) (u : Value), q.2[i]? = some u → u.oneCell' = true ∧ w.cell? ⟨q.1, i, none⟩ = some u
theorem GlOK.mono {p p' : Nat → Prop} {w w' : World} (h : GlOK p w) (hpp : ∀ k, p k → p' k) (hs : w.heap.size ≤ w'.heap.size) (hb : ∀ k, p k → k < w.heap.size → w'.heap[k]? = w.heap[k]?) : GlOK p' w' := by
 intro q hq
 obtain ⟨h1, h2, ⟨T, fz, h4⟩, h3⟩ := h q hq
 refine ⟨hpp _ h1, by omega, ⟨T, fz, (hb _ h1 h2).trans h4⟩, fun i u hu => ⟨(h3 i u hu).1, ?_⟩⟩
 rw [World.cell?_of_block (a := ⟨q.1, i, none⟩) (hb _ h1 h2)]; exact (h3 i u hu).2
abbrev Bk := TypeId × List C
abbrev Hp := Nat → Option Bk
structure Cx where
 p : Nat → Prop
 W : World
 may : Nat → Prop
 pm : ∀ k, p k → ¬ may k
 mayNew : ∀ k, W.heap.size ≤ k → may k
 pW : ∀ k, p k → k < W.heap.size
 ρ0 : Rh
 n0 : Nat
 hn0 : ∀ b m, ρ0 b = some m → b < n0
 gl : GlOK p W
structure Kept (W : World) (may : Nat → Prop) (w : World) : Prop where
 os : w.os = W.os
 tape : w.tape = W.tape
 output : w.output = W.output
 size : W.heap.size ≤ w.heap.size
 block : ∀ k, k < W.heap.size → ¬ may k → w.heap[k]? = W.heap[k]?
theorem Cx.glo (cx : Cx) {w : World} (h : Kept cx.W cx.may w) : GlOK cx.p w := cx.gl.mono (fun _ h => h) h.size (fun k hk hlt => h.block k hlt (cx.pm k hk))
def Hm (fz : Nat × Nat) (n : Nat) : Prop := fz = (0, 0) ∨ n ≤ fz.1
theorem Hm.free {fz : Nat × Nat} {n : Nat} (h : Hm fz n) {w : World} {g i : Nat} {cur : Array Value} {T : TypeId} (hg : w.heap[g]? = some (.cells cur T fz)) (hi : i < n) : w.frozen? ⟨g, i, none⟩ = false := by
 rcases h with rfl | h
 ·simp [World.frozen?, hg]
 ·obtain ⟨lo, hi'⟩ := fz
  have h' : n ≤ lo := h
  simp only [World.frozen?, hg, Bool.and_eq_false_iff, decide_eq_false_iff_not]
  left
  omega
def BlkM (w : World) (b : Nat) (vs : List Value) (T : TypeId) : Prop := ∃ fz : Nat × Nat, w.heap[b]? = some (.cells vs.toArray T fz) ∧ Hm fz vs.length
theorem mZ {w : World} {b : Nat} {vs : List Value} {T : TypeId} (h : w.heap[b]? = some (.cells vs.toArray T (0, 0))) : BlkM w b vs T := ⟨_, h, .inl rfl⟩
theorem BlkM.lt {w : World} {b : Nat} {vs : List Value} {T : TypeId} (h : BlkM w b vs T) : b < w.heap.size := by
 obtain ⟨fz, h, _⟩ := h
 exact (Array.getElem?_eq_some_iff.1 h).1
theorem BlkM.heap {w w' : World} {b : Nat} {vs : List Value} {T : TypeId} (hb : w'.heap[b]? = w.heap[b]?) (h : BlkM w b vs T) : BlkM w' b vs T := by
 obtain ⟨fz, h, h2⟩ := h
 exact ⟨fz, hb.trans h, h2⟩
theorem BlkM.cell {w : World} {b : Nat} {vs : List Value} {T : TypeId} (h : BlkM w b vs T) (i : Nat) {v : Value} (hv : vs[i]? = some v) : w.cell? ⟨b, i, none⟩ = some v := by
 obtain ⟨fz, h, _⟩ := h
 exact (cell_of_row w b i vs.toArray T fz h).trans (by simpa using hv)
theorem BlkM.there {w : World} {b : Nat} {vs : List Value} {T : TypeId} (h : BlkM w b vs T) (o n : Nat) (hn : o + n ≤ vs.length) : w.there b o n := by
 intro j hj
 refine ⟨by rw [h.cell (o + j) (List.getElem?_eq_getElem (by omega))]; rfl, ?_⟩
 obtain ⟨fz, h, h2⟩ := h
 exact h2.free h (by omega)
theorem BlkM.set {w : World} {b : Nat} {vs : List Value} {T : TypeId} (h : BlkM w b vs T) (i : Nat) (v : Value) : BlkM (w.setCell ⟨b, i, none⟩ v) b (vs.set i v) T := by
 obtain ⟨fz, h, h2⟩ := h
 refine ⟨fz, ?_, by rw [List.length_set]; exact h2⟩
 rw [setCell_eq_setRow w b i vs.toArray T fz v h]
 have := setRow_heap w b vs.toArray (vs.toArray.setIfInBounds i v) T fz h
 simpa using this
theorem BlkM.setCells {b : Nat} {T : TypeId} : ∀ (r : List Value) (o : Nat) (w : World) (cur : List Value), BlkM w b cur T → BlkM (w.setCells b o r) b (upd cur o r) T
 | [], _, _, _, h => h
 | v :: r, o, w, cur, h => BlkM.setCells r (o + 1) _ _ (h.set o v)
def Row (p : Nat → Prop) (ρ : Rh) (w : World) (m : Nm) (T : TypeId) (cs : List C) : Prop :=
 ∃ vs rest : List Value, BlkM w m.g (vs ++ rest) T ∧ (vs ++ rest).length = m.R ∧ All2 (RepC p ρ w) cs vs
theorem Row.lt {p : Nat → Prop} {ρ : Rh} {w : World} {m : Nm} {T : TypeId} {cs : List C} (h : Row p ρ w m T cs) : m.g < w.heap.size := by
 obtain ⟨vs, rest, h, _⟩ := h
 exact h.lt
theorem Row.mono {p : Nat → Prop} {ρ ρ' : Rh} {w w' : World} (g : Goes p ρ ρ' w w') {m : Nm} {T : TypeId} {cs : List C} (h : Row p ρ w m T cs) (hb : w'.heap[m.g]? = w.heap[m.g]?) : Row p ρ' w' m T cs := by
 obtain ⟨vs, rest, h1, h2, h3⟩ := h
 exact ⟨vs, rest, BlkM.heap hb h1, h2, h3.imp fun _ _ => RepC.mono g⟩
structure HRep (cx : Cx) (ρ : Rh) (w : World) (h : Hp) : Prop where
 row : ∀ b T cs, h b = some (T, cs) → ∃ m, ρ b = some m ∧ ((m.nl = true ∧ cs = []) ∨ (m.nl = false ∧ Row cx.p ρ w m T cs ∧ cx.may m.g))
 inj : ∀ b b' m m', h b ≠ none → h b' ≠ none → ρ b = some m → ρ b' = some m' → m.nl = false → m'.nl = false → m.g = m'.g → b = b'
 zf : ∀ b m, h b ≠ none → ρ b = some m → m.nl = false → ¬ ρ.z m.g
 zm : ∀ k, ρ.z k → cx.may k
 zl : ∀ k, ρ.z k → k < w.heap.size
theorem HRep.step {cx : Cx} {ρ ρ' : Rh} {w w' : World} {h h' : Hp} (hh : HRep cx ρ w h) (g : Goes cx.p ρ ρ' w w')
  (hnew : ∀ b T cs, h' b = some (T, cs) → (h b = some (T, cs) ∧ ∀ m, ρ b = some m → m.nl = false → w'.heap[m.g]? = w.heap[m.g]?) ∨ ∃ m, ρ' b = some m ∧ ((m.nl = true ∧ cs = []) ∨ (m.nl = false ∧ Row cx.p ρ' w' m T cs ∧ cx.may m.g ∧ ¬ ρ.z m.g ∧ ∀ b' m', b' ≠ b → h' b' ≠ none → ρ' b' = some m' → m'.nl = false → m'.g ≠ m.g))) (hz : ∀ k, ρ'.z k → ρ.z k ∨ (cx.may k ∧ k < w'.heap.size ∧ ∀ b m, h' b ≠ none → ρ' b = some m → m.nl = false → m.g ≠ k) := by intro k hk; exact .inl hk) : HRep cx ρ' w' h' := by
 refine ⟨?_, ?_, ?_, fun k hk => (hz k hk).elim (hh.zm k) (fun h => h.1), fun k hk => (hz k hk).elim (fun h => Nat.lt_of_lt_of_le (hh.zl k h) g.size) (fun h => h.2.1)⟩
 ·intro b T cs hb
  rcases hnew b T cs hb with ⟨h1, h2⟩ | ⟨m, h1, h2 | ⟨h2, h3, h4, _, _⟩⟩
  ·obtain ⟨m, k1, k2 | ⟨k2, k3, k4⟩⟩ := hh.row b T cs h1
   ·exact ⟨m, g.ext _ _ k1, .inl k2⟩
   ·exact ⟨m, g.ext _ _ k1, .inr ⟨k2, k3.mono g (h2 m k1 k2), k4⟩⟩
  ·exact ⟨m, h1, .inl h2⟩
  ·exact ⟨m, h1, .inr ⟨h2, h3, h4⟩⟩
 ·intro b b' m m' hb hb' hm hm' hnl hnl' he
  by_cases hbb : b = b'
  ·exact hbb
  ·exfalso
   obtain ⟨⟨T, cs⟩, h1⟩ := Option.ne_none_iff_exists'.1 hb
   obtain ⟨⟨T', cs'⟩, h1'⟩ := Option.ne_none_iff_exists'.1 hb'
   rcases hnew b T cs h1 with ⟨h2, h3⟩ | ⟨m2, h2, h3 | ⟨_, _, _, _, h3⟩⟩
   ·rcases hnew b' T' cs' h1' with ⟨h2', h3'⟩ | ⟨m2', h2', h3' | ⟨_, _, _, _, h3'⟩⟩
    ·obtain ⟨k, k1, _⟩ := hh.row b T cs h2
     obtain ⟨k', k1', _⟩ := hh.row b' T' cs' h2'
     have e1 := g.ext _ _ k1
     have e2 := g.ext _ _ k1'
     rw [hm] at e1; rw [hm'] at e2; cases e1; cases e2
     exact hbb (hh.inj b b' _ _ (by rw [h2]; simp) (by rw [h2']; simp) k1 k1' hnl hnl' he)
    ·rw [hm'] at h2'; cases h2'
     rw [h3'.1] at hnl'; cases hnl'
    ·rw [hm'] at h2'; cases h2'
     exact h3' b m hbb hb hm hnl he
   ·rw [hm] at h2; cases h2
    rw [h3.1] at hnl; cases hnl
   ·rw [hm] at h2; cases h2
    exact h3 b' m' (Ne.symm hbb) hb' hm' hnl' he.symm
 ·intro b m hb hm hn hzz
  rcases hz _ hzz with hz' | hz'
  rotate_left
  ·exact hz'.2.2 b m hb hm hn rfl
  obtain ⟨⟨T, cs⟩, h1⟩ := Option.ne_none_iff_exists'.1 hb
  rcases hnew b T cs h1 with ⟨h2, h3⟩ | ⟨m2, h2, h3 | ⟨_, _, _, h3, _⟩⟩
  ·obtain ⟨k, k1, _⟩ := hh.row b T cs h2
   have e1 := g.ext _ _ k1
   rw [hm] at e1; cases e1
   exact hh.zf b _ (by rw [h2]; simp) k1 hn hz'
  ·rw [hm] at h2; cases h2
   rw [h3.1] at hn; cases hn
  ·rw [hm] at h2; cases h2
   exact h3 hz'
theorem Kept.below {W w w' : World} {may : Nat → Prop} (h : Kept W may w) (hos : w'.os = w.os) (htape : w'.tape = w.tape) (hout : w'.output = w.output) (hs : w.heap.size ≤ w'.heap.size) (hb : ∀ k, k < W.heap.size → ¬ may k → w'.heap[k]? = w.heap[k]?) : Kept W may w' :=
 ⟨hos.trans h.os, htape.trans h.tape, hout.trans h.output, Nat.le_trans h.size hs, fun k hk hm => (hb k hk hm).trans (h.block k hk hm)⟩
/-! states that are written in some order -/
def S {X : Type} [Inhabited X] (l : List (Nat × X)) (b : Nat) : X := (l.lookup b).getD default
instance : Inhabited PV := ⟨.any⟩
def qH {X : Type} (L : Nat → Bool) : Nat → List (List (Nat × X)) → (Nat → X) → Nat → X
 | _, [], f => f
 | k, wr :: l, f => qH L (k + 1) l (if L k then (fun b => (wr.lookup b).getD (f b)) else f)
def yB {X : Type} (wr : List (Nat × X)) (b : Nat) : Bool := (wr.lookup b).isSome
theorem q6 {X : Type} {L L' : Nat → Bool} {b : Nat} : ∀ (l : List (List (Nat × X))) (k : Nat) (f f' : Nat → X), f b = f' b → (∀ j wr, l[j]? = some wr → yB wr b = true → L (k + j) = L' (k + j)) → qH L k l f b = qH L' k l f' b
 | [], _, _, _, h, _ => h
 | wr :: l, k, f, f', h, hl => by
  unfold qH
  refine q6 l (k + 1) _ _ ?_ (fun j wr' hj hk => by have := hl (j + 1) wr' (by simpa using hj) hk; rwa [show k + (j + 1) = k + 1 + j by omega] at this)
  by_cases hk : yB wr b = true
  ·have := hl 0 wr rfl hk
   simp only [Nat.add_zero] at this
   rw [this]
   cases L' k <;> simp [h]
  ·unfold yB at hk
   have hk : wr.lookup b = none := by
    cases h9 : wr.lookup b with
    | none => rfl
    | some _ => rw [h9] at hk; simp at hk
   cases L k <;> cases L' k <;> simp [h, hk]
theorem aM {X : Type} {L : Nat → Bool} {b : Nat} {x : X} : ∀ (l : List (List (Nat × X))) (k : Nat) (f : Nat → X) (i : Nat) (wr : List (Nat × X)), l[i]? = some wr → wr.lookup b = some x → L (k + i) = true → (∀ j wr', i < j → l[j]? = some wr' → yB wr' b = true → L (k + j) = false) → qH L k l f b = x
 | [], _, _, i, wr, h, _, _, _ => by simp at h
 | wr0 :: l, k, f, 0, wr, h, hx, hL, hlast => by
  simp at h; subst h
  unfold qH
  rw [q6 (L' := fun _ => false) l (k + 1) _ (fun _ => x) ?_ ?_]
  ·clear hlast
   have : ∀ (l : List (List (Nat × X))) (k : Nat), qH (fun _ => false) k l (fun _ => x) b = x := by
    intro l
    induction l with
    | nil => intro k; rfl
    | cons y l ih => intro k; unfold qH; simpa using ih (k + 1)
   exact this l (k + 1)
  ·simp only [Nat.add_zero] at hL
   simp [hL, hx]
  ·intro j wr' hj hk
   have := hlast (j + 1) wr' (by omega) (by simpa using hj) hk
   rwa [show k + (j + 1) = k + 1 + j by omega] at this
 | wr0 :: l, k, f, i + 1, wr, h, hx, hL, hlast => by
  unfold qH
  exact aM l (k + 1) _ i wr (by simpa using h) hx (by rwa [show k + 1 + i = k + (i + 1) by omega]) (fun j wr' hj h1 h2 => by
   have := hlast (j + 1) wr' (by omega) (by simpa using h1) h2
   rwa [show k + (j + 1) = k + 1 + j by omega] at this)
theorem qU {X : Type} (b : Nat) : ∀ (l l' : List (Nat × X)), (l ++ l').lookup b = (l.lookup b).or (l'.lookup b)
 | [], l' => by simp
 | (k, x) :: l, l' => by
  simp only [List.cons_append, kc2]
  cases b == k <;> simp [qU b l l']
theorem mV {X : Type} [Inhabited X] (wr l : List (Nat × X)) : (fun b => (wr.lookup b).getD (S l b)) = S (wr ++ l) := by
 funext b
 unfold S
 rw [qU]
 cases wr.lookup b <;> simp
inductive Look {X : Type} : List (Nat × X) → Nat → X → Prop where
 | here {t : Nat} {u : X} {l : List (Nat × X)} : Look ((t, u) :: l) t u
 | there {t t' : Nat} {u u' : X} {l : List (Nat × X)} (hn : (t == t') = false) (h : Look l t u) : Look ((t', u') :: l) t u
theorem Look.eq {X : Type} {l : List (Nat × X)} {t : Nat} {u : X} (h : Look l t u) : l.lookup t = some u := by
 induction h with
 | here => simp
 | there hn h ih => rw [kc2, hn]; exact ih
theorem qJ {X : Type} : ∀ {l : List (Nat × X)} {t : Nat} {u : X}, l.lookup t = some u → Look l t u
 | (k, x) :: l, t, u, h => by
  rw [kc2] at h
  cases hb : t == k with
  | true => rw [hb] at h; simp at h hb; subst h; subst hb; exact .here
  | false => rw [hb] at h; exact .there hb (qJ h)
theorem Look.mem {X : Type} {l : List (Nat × X)} {t : Nat} {u : X} (h : Look l t u) : (t, u) ∈ l := by
 induction h with
 | here => exact List.mem_cons_self ..
 | there hn h ih => exact List.mem_cons_of_mem _ ih
theorem Look.S {X : Type} [Inhabited X] {l : List (Nat × X)} {t : Nat} {u : X} (h : Look l t u) : S l t = u := by unfold Proofs.Ytkjmlililpgamaa.S; rw [h.eq]; rfl
end Go.Proofs.Ytkjmlililpgamaa
