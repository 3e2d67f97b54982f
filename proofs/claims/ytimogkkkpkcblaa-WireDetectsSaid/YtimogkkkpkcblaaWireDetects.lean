/- The law WireDetects returns true: the walk. -/
import Derived.Test.YtimogkkkpkcblaaWireSane
import Derived.WalkSmall
namespace Go.Proofs.Ytimogkkkpkcblaa
open Go.ChangeShapes Go.WideShapes Go.ChangeAt Go.RowKit
set_option linter.unusedVariables false

theorem bit1_xor (a b : Nat) : bit1 (a ^^^ b) = bit1 a ^^^ bit1 b := by
  have h2 : (a ^^^ b) / 2 = a / 2 ^^^ b / 2 := Nat.xor_div_two
  have h1 : (a ^^^ b) % 2 = 1 ↔ ¬ (a % 2 = 1 ↔ b % 2 = 1) := Nat.xor_mod_two_eq_one
  have hx : ∀ x y k : Nat, (x ^^^ k) ^^^ (y ^^^ k) = x ^^^ y := by
    intro x y k; apply Nat.eq_of_testBit_eq; intro i; simp [Nat.testBit_xor]
    cases x.testBit i <;> cases y.testBit i <;> cases k.testBit i <;> rfl
  have hl : ∀ x y k : Nat, (x ^^^ k) ^^^ y = (x ^^^ y) ^^^ k := by
    intro x y k; apply Nat.eq_of_testBit_eq; intro i; simp [Nat.testBit_xor]
    cases x.testBit i <;> cases y.testBit i <;> cases k.testBit i <;> rfl
  unfold bit1
  rw [h2]
  by_cases ha : a % 2 = 1 <;> by_cases hb : b % 2 = 1
  · rw [if_neg (by rw [h1]; simp [ha, hb]), if_pos ha, if_pos hb, hx]
  · rw [if_pos (by rw [h1]; simp [ha, hb]), if_pos ha, if_neg hb, hl]
  · rw [if_pos (by rw [h1]; simp [ha, hb]), if_neg ha, if_pos hb, Nat.xor_assoc]
  · rw [if_neg (by rw [h1]; simp [ha, hb]), if_neg ha, if_neg hb]
theorem iter8_xor (n a b : Nat) : iter8 n (a ^^^ b) = iter8 n a ^^^ iter8 n b := by
  induction n with
  | zero => rfl
  | succ n ih => rw [iter8_succ, iter8_succ, iter8_succ, ih, bit1_xor]
theorem crcStep_xor (r s c d : Nat) : crcStep (r ^^^ s) (c ^^^ d) = crcStep r c ^^^ crcStep s d := by
  unfold crcStep
  rw [← iter8_xor]
  congr 1
  apply Nat.eq_of_testBit_eq; intro i; simp [Nat.testBit_xor]
  cases r.testBit i <;> cases s.testBit i <;> cases c.testBit i <;> cases d.testBit i <;> rfl
theorem bit1_ne (r : Nat) (h : r < 4294967296) (h0 : r ≠ 0) : bit1 r ≠ 0 := by
  unfold bit1; split
  · intro hx
    have h3 : (r / 2 ^^^ 3988292384) ^^^ 3988292384 = r / 2 := by rw [Nat.xor_assoc, Nat.xor_self, Nat.xor_zero]
    rw [hx, Nat.zero_xor] at h3
    omega
  · omega
theorem iter8_ne (n r : Nat) (h : r < 4294967296) (h0 : r ≠ 0) : iter8 n r ≠ 0 := by
  induction n with
  | zero => exact h0
  | succ n ih => rw [iter8_succ]; exact bit1_ne _ (iter8_lt n r h) ih
theorem crcStep_zero : crcStep 0 0 = 0 := by decide

def cgF (f : Nat → Nat → Nat) : Nat → List Nat → Nat
  | r, [] => r
  | r, c :: l => cgF f (f r c) l
def cg (r : Nat) (l : List Nat) : Nat := cgF crcStep r l
theorem cg_nil (r : Nat) : cg r [] = r := by unfold cg; rw [cgF]
theorem cg_cons (r c : Nat) (l : List Nat) : cg r (c :: l) = cg (crcStep r c) l := by unfold cg; rw [cgF]
theorem fold_cgF (f : Nat → Nat → Nat) (l : List Int) : ∀ r, l.foldl (fun r c => f r c.toNat) r = cgF f r (l.map Int.toNat) := by
  induction l with
  | nil => intro r; rw [List.foldl_nil, List.map_nil, cgF]
  | cons x l ih => intro r; rw [List.foldl_cons, ih, List.map_cons, cgF]
theorem crcReg_cg (l : List Int) : crcReg l = cg 4294967295 (l.map Int.toNat) := by
  unfold crcReg cg
  exact fold_cgF crcStep l _
theorem cg_xor (l : List Nat) : ∀ (m : List Nat) (r s : Nat), l.length = m.length → cg (r ^^^ s) (List.zipWith (· ^^^ ·) l m) = cg r l ^^^ cg s m := by
  induction l with
  | nil => intro m r s h; cases m with
    | nil => rw [List.zipWith_nil_left, cg_nil, cg_nil, cg_nil]
    | cons _ _ => simp at h
  | cons x l ih => intro m r s h; cases m with
    | nil => simp at h
    | cons y m => rw [List.zipWith_cons_cons, cg_cons, cg_cons, cg_cons, crcStep_xor]; exact ih m _ _ (by simpa using h)
def delta : Nat → Nat → Nat → List Nat
  | 0, _, _ => []
  | n + 1, 0, p => p :: List.replicate n 0
  | n + 1, i + 1, p => 0 :: delta n i p
theorem delta_length (n i p : Nat) : (delta n i p).length = n := by
  induction n generalizing i with
  | zero => rfl
  | succ n ih => cases i with
    | zero => simp [delta]
    | succ i => simp [delta, ih]
theorem set_delta (m : List Nat) : ∀ (i p : Nat), i < m.length → m.set i (m.getD i 0 ^^^ p) = List.zipWith (· ^^^ ·) m (delta m.length i p) := by
  induction m with
  | nil => intro i p h; simp at h
  | cons x m ih =>
    intro i p h
    have hz : ∀ l : List Nat, List.zipWith (· ^^^ ·) l (List.replicate l.length 0) = l := by
      intro l; induction l with
      | nil => rfl
      | cons y l ih => rw [List.length_cons, List.replicate_succ, List.zipWith_cons_cons, ih, Nat.xor_zero]
    cases i with
    | zero => simp only [List.set_cons_zero, List.getD_cons_zero, List.length_cons, delta, List.zipWith_cons_cons, hz]
    | succ i =>
      rw [List.set_cons_succ, List.getD_cons_succ, ih i p (by simpa using h), List.length_cons, delta, List.zipWith_cons_cons, Nat.xor_zero]
theorem cg_zeros (n : Nat) : ∀ r : Nat, r < 4294967296 → r ≠ 0 → cg r (List.replicate n 0) ≠ 0 := by
  induction n with
  | zero => intro r _ h; rw [List.replicate_zero, cg_nil]; exact h
  | succ n ih =>
    intro r h h0
    rw [List.replicate_succ, cg_cons]
    refine ih _ (crcStep_lt _ _ h (by omega)) ?_
    unfold crcStep
    rw [Nat.xor_zero]
    exact iter8_ne 8 r h h0
theorem cg_delta (n : Nat) : ∀ i p : Nat, i < n → p < 256 → p ≠ 0 → cg 0 (delta n i p) ≠ 0 := by
  induction n with
  | zero => intro i p h; omega
  | succ n ih =>
    intro i p h hp h0
    cases i with
    | zero =>
      rw [delta, cg_cons]
      refine cg_zeros n _ (crcStep_lt _ _ (by omega) hp) ?_
      unfold crcStep
      rw [Nat.zero_xor]
      exact iter8_ne 8 p (by omega) h0
    | succ i => rw [delta, cg_cons, crcStep_zero]; exact ih i p (by omega) hp h0
theorem cg_set (m : List Nat) (i p : Nat) (h : i < m.length) : cg 4294967295 (m.set i (m.getD i 0 ^^^ p)) = cg 4294967295 m ^^^ cg 0 (delta m.length i p) := by
  rw [set_delta m i p h]
  have := cg_xor m (delta m.length i p) 4294967295 0 (delta_length _ _ _).symm
  rwa [Nat.xor_zero] at this

/-- one byte of a list changed -/
def flip (l : List Int) (i p : Nat) : List Int := l.set i (((l.getD i 0).toNat ^^^ p : Nat) : Int)
theorem flip_map (l : List Int) (i p : Nat) : (flip l i p).map Int.toNat = (l.map Int.toNat).set i ((l.map Int.toNat).getD i 0 ^^^ p) := by
  unfold flip
  rw [List.map_set]
  congr 1
  simp [List.getD_eq_getElem?_getD]
  cases l[i]? <;> rfl
theorem flip_length (l : List Int) (i p : Nat) : (flip l i p).length = l.length := by simp [flip]
theorem crc_flip (l : List Int) (i p : Nat) (h : i < l.length) : crcReg (flip l i p) = crcReg l ^^^ cg 0 (delta l.length i p) := by
  rw [crcReg_cg, crcReg_cg, flip_map, cg_set _ _ _ (by simpa using h), List.length_map]
theorem flip_byte {l : List Int} (hb : Byte l) (i p : Nat) (hp : p < 256) : Byte (flip l i p) := by
  intro n hn
  rcases List.mem_or_eq_of_mem_set hn with h | h
  · exact hb n h
  · have hx := byte_getD hb i
    have : (l.getD i 0).toNat ^^^ p < 256 := Nat.xor_lt_two_pow (n := 8) (by omega) (by omega)
    omega
theorem detects (l : List Int) (i j p q : Nat) (hi : i < l.length) (hj : j < l.length) (hp : p < 256) (hp0 : p ≠ 0) :
    crc (flip l i p) ≠ crc l ∧ crc (flip l i p) ^^^ crc (flip l j q) ^^^ crc l = crc (flip (flip l i p) j q) := by
  unfold crc
  rw [crc_flip (flip l i p) j q (by rw [flip_length]; exact hj), flip_length, crc_flip l i p hi, crc_flip l j q hj]
  have hd := cg_delta l.length i p hi hp hp0
  generalize crcReg l = R at *
  generalize cg 0 (delta l.length i p) = D at *
  generalize cg 0 (delta l.length j q) = E at *
  constructor
  · intro h
    apply hd
    have h2 : ∀ a : Nat, (4294967295 ^^^ (R ^^^ a)) ^^^ (4294967295 ^^^ R) = a := by
      intro a; apply Nat.eq_of_testBit_eq; intro k; simp only [Nat.testBit_xor]
      cases R.testBit k <;> cases a.testBit k <;> cases Nat.testBit 4294967295 k <;> rfl
    have h3 := h2 D
    rw [h, Nat.xor_self] at h3
    exact h3.symm
  · apply Nat.eq_of_testBit_eq; intro k; simp only [Nat.testBit_xor]
    cases R.testBit k <;> cases D.testBit k <;> cases E.testBit k <;> cases Nat.testBit 4294967295 k <;> rfl

theorem own_row {w : World} {B : Nat} {e : TypeId} {v : Value} {n : Nat} {xs : List Value} (h : w.ownsRow B e 1 v n xs) (hn : 0 < n) :
    ∃ g cap cur, v = .slice (some ⟨g, 0, none⟩) n cap ∧ B ≤ g ∧ Hid (w.heap[g]? = some (.cells cur e (0, 0)) ∧ n ≤ cap ∧ cap ≤ maxLen ∧ cur.size = cap ∧ cur.toList.take n = xs) := by
  rcases h.2 with ⟨_, h0⟩ | ⟨g, cap, cur, hv, hb, hg, h1, h2, h3, h4⟩
  · omega
  · exact ⟨g, cap, cur, hv, hb, hg, h1, h2, by omega, by simpa using h4⟩
/-- a slice over a row in which a cell was changed -/
theorem sl_row {w : World} {g n cap : Nat} {e : TypeId} {cur : Array Value} {l : List Int} (hg : w.heap[g]? = some (.cells cur e (0, 0))) (h1 : n ≤ cap) (h2 : cap ≤ maxLen) (hl : l.length = n) (hx : cur.toList.take n = l.map (Value.int .u8)) (hb : Byte l) :
    Sl .u8 w (some ⟨g, 0, none⟩) n cap l := by
  refine ⟨hl, h1, h2, fun x hx => wf_byte (hb x hx), fun h => (by cases h), .inr ⟨g, 0, rfl, (Array.getElem?_eq_some_iff.1 hg).1, fun i hi => ?_⟩⟩
  rw [cell_of_row _ g (0 + i) _ e (0, 0) hg, Nat.zero_add]
  have h : (cur.toList.take n)[i]? = (l.map (Value.int .u8))[i]? := by rw [hx]
  rw [List.getElem?_take, if_pos hi] at h
  rw [← Array.getElem?_toList, h]
  simp [List.getD_eq_getElem?_getD, show i < l.length by omega]
theorem set_row {cur : Array Value} {n i : Nat} {l : List Int} {x : Int} (hx : cur.toList.take n = l.map (Value.int .u8)) : (cur.setIfInBounds i (.int .u8 x)).toList.take n = (l.set i x).map (Value.int .u8) := by
  rw [Array.toList_setIfInBounds, List.take_set, hx, List.map_set]
theorem row_cell {w : World} {g n i : Nat} {e : TypeId} {cur : Array Value} {l : List Int} (hg : w.heap[g]? = some (.cells cur e (0, 0))) (hx : cur.toList.take n = l.map (Value.int .u8)) (hl : l.length = n) (hi : i < n) : w.cell? ⟨g, i, none⟩ = some (.int .u8 (l.getD i 0)) := by
  rw [cell_of_row _ g i _ e (0, 0) hg]
  have h : (cur.toList.take n)[i]? = (l.map (Value.int .u8))[i]? := by rw [hx]
  rw [List.getElem?_take, if_pos hi] at h
  rw [← Array.getElem?_toList, h]
  simp [List.getD_eq_getElem?_getD, show i < l.length by omega]

theorem three_rows {W1 w2 w3 w4 : World} {g1 g2 g3 : Nat} {o1 o2 o3 : Obj} (h2 : Below W1.heap.size W1 w2) (h3 : Below w2.heap.size w2 w3) (h4 : Below w3.heap.size w3 w4) (e1 : W1.heap.size ≤ g1) (e2 : w2.heap.size ≤ g2) (e3 : w3.heap.size ≤ g3)
    (k1 : w2.heap[g1]? = some o1) (k2 : w3.heap[g2]? = some o2) (k3 : w4.heap[g3]? = some o3) : g1 < g2 ∧ g2 < g3 ∧ Hid (w4.heap[g1]? = some o1) ∧ Hid (w4.heap[g2]? = some o2) ∧ Hid (w4.heap[g3]? = some o3) := by
  have l1 : g1 < w2.heap.size := (Array.getElem?_eq_some_iff.1 k1).1
  have l2 : g2 < w3.heap.size := (Array.getElem?_eq_some_iff.1 k2).1
  have s3 := h3.size
  exact ⟨by omega, by omega, (h4.block g1 (by omega)).trans ((h3.block g1 l1).trans k1), (h4.block g2 l2).trans k2, k3⟩

/-- block g holds the numbers of l, and room for more -/
def RowOf (l : List Int) (len : Nat) (w : World) (g c : Nat) (cur : Array Value) : Prop :=
  w.heap[g]? = some (.cells cur 5 (0, 0)) ∧ len ≤ c ∧ c ≤ maxLen ∧ cur.toList.take len = l.map (Value.int .u8)
theorem RowOf.cell {l : List Int} {len : Nat} {w : World} {g c : Nat} {cur : Array Value} (h : RowOf l len w g c cur) (hz : l.length = len) {i : Nat} (hi : i < len) {x : Int} (hx : l.getD i 0 = x) : w.cell? ⟨g, i, none⟩ = some (.int .u8 x) := by
  have := row_cell h.1 h.2.2.2 hz hi
  rw [hx] at this; exact this
theorem RowOf.frozen {l : List Int} {len : Nat} {w : World} {g c : Nat} {cur : Array Value} (h : RowOf l len w g c cur) (o : Nat) : w.frozen? ⟨g, o, none⟩ = false := frozen_of_row w g o cur 5 h.1
def OwnAt (l : List Int) (len : Nat) (w : World) (g c : Nat) (cur : Array Value) : Prop :=
  Hid (w.heap[g]? = some (.cells cur 5 (0, 0)) ∧ 0 + len ≤ c ∧ c ≤ maxLen ∧ cur.size = c ∧ cur.toList.take (0 + len) = [] ++ l.map (Value.int .u8))
theorem detects_setup {W1 w2 w3 w4 : World} {g1 g2 g3 c1 c2 c3 : Nat} {cur1 cur2 cur3 : Array Value} {l : List Int} {len : Nat} (h2 : Below W1.heap.size W1 w2) (h3 : Below w2.heap.size w2 w3) (h4 : Below w3.heap.size w3 w4) (e1 : W1.heap.size ≤ g1) (e2 : w2.heap.size ≤ g2) (e3 : w3.heap.size ≤ g3)
    (H1 : OwnAt l len w2 g1 c1 cur1) (H2 : OwnAt l len w3 g2 c2 cur2) (H3 : OwnAt l len w4 g3 c3 cur3) :
    g1 < g2 ∧ g2 < g3 ∧ Hid (RowOf l len w4 g1 c1 cur1) ∧ Hid (RowOf l len w4 g2 c2 cur2) ∧ Hid (RowOf l len w4 g3 c3 cur3) := by
  unfold OwnAt at H1 H2 H3
  obtain ⟨a, b, k1, k2, k3⟩ := three_rows h2 h3 h4 e1 e2 e3 H1.out.1 H2.out.1 H3.out.1
  obtain ⟨_, r2, r3, _, r5⟩ := H1.out
  obtain ⟨_, s2, s3, _, s5⟩ := H2.out
  obtain ⟨_, t2, t3, _, t5⟩ := H3.out
  rw [Nat.zero_add, List.nil_append] at r5 s5 t5
  rw [Nat.zero_add] at r2 s2 t2
  exact ⟨a, b, ⟨k1, r2, r3, r5⟩, ⟨k2, s2, s3, s5⟩, ⟨k3, t2, t3, t5⟩⟩

theorem detects_final {l : List Int} {len : Nat} {w4 : World} {g1 g2 g3 c1 c2 c3 : Nat} {cur1 cur2 cur3 : Array Value} (hz : l.length = len) (h12 : g1 < g2) (h23 : g2 < g3)
    (K1 : RowOf l len w4 g1 c1 cur1) (K2 : RowOf l len w4 g2 c2 cur2) (K3 : RowOf l len w4 g3 c3 cur3) (i j : Nat) (U1 U2 U4 : Int) (b1 : Byte (l.set i U1)) (b2 : Byte (l.set j U2)) (b3 : Byte ((l.set i U1).set j U4)) :
    ∃ W8, (((w4.setCell ⟨g1, i, none⟩ (.int .u8 U1)).setCell ⟨g2, j, none⟩ (.int .u8 U2)).setCell ⟨g3, i, none⟩ (.int .u8 U1)).setCell ⟨g3, j, none⟩ (.int .u8 U4) = W8 ∧
      Hid (Sl .u8 W8 (some ⟨g1, 0, none⟩) len c1 (l.set i U1)) ∧ Hid (Sl .u8 W8 (some ⟨g2, 0, none⟩) len c2 (l.set j U2)) ∧ Hid (Sl .u8 W8 (some ⟨g3, 0, none⟩) len c3 ((l.set i U1).set j U4)) ∧ (∀ B, B ≤ g1 → Below B w4 W8) := by
  refine ⟨_, rfl, ?_, ?_, ?_, fun B hB => (((Below.refl _ _).setCell (by simpa using hB) _).setCell (by simp; omega) _).setCell (by simp; omega) _ |>.setCell (by simp; omega) _⟩
  · have e : ((((w4.setCell ⟨g1, i, none⟩ (.int .u8 U1)).setCell ⟨g2, j, none⟩ (.int .u8 U2)).setCell ⟨g3, i, none⟩ (.int .u8 U1)).setCell ⟨g3, j, none⟩ (.int .u8 U4)).heap[g1]? = some (.cells (cur1.setIfInBounds i (.int .u8 U1)) 5 (0, 0)) := by
      rw [heap_setCell_other _ _ _ _ (by simp; omega), heap_setCell_other _ _ _ _ (by simp; omega), heap_setCell_other _ _ _ _ (by simp; omega)]
      exact heap_setCell_same w4 g1 i cur1 5 _ K1.1
    exact sl_row e K1.2.1 K1.2.2.1 (by simpa using hz) (set_row K1.2.2.2) b1
  · have e : ((((w4.setCell ⟨g1, i, none⟩ (.int .u8 U1)).setCell ⟨g2, j, none⟩ (.int .u8 U2)).setCell ⟨g3, i, none⟩ (.int .u8 U1)).setCell ⟨g3, j, none⟩ (.int .u8 U4)).heap[g2]? = some (.cells (cur2.setIfInBounds j (.int .u8 U2)) 5 (0, 0)) := by
      rw [heap_setCell_other _ _ _ _ (by simp; omega), heap_setCell_other _ _ _ _ (by simp; omega)]
      exact heap_setCell_same _ g2 j cur2 5 _ (by rw [heap_setCell_other _ _ _ _ (by simp; omega)]; exact K2.1)
    exact sl_row e K2.2.1 K2.2.2.1 (by simpa using hz) (set_row K2.2.2.2) b2
  · have e : ((((w4.setCell ⟨g1, i, none⟩ (.int .u8 U1)).setCell ⟨g2, j, none⟩ (.int .u8 U2)).setCell ⟨g3, i, none⟩ (.int .u8 U1)).setCell ⟨g3, j, none⟩ (.int .u8 U4)).heap[g3]? = some (.cells ((cur3.setIfInBounds i (.int .u8 U1)).setIfInBounds j (.int .u8 U4)) 5 (0, 0)) := by
      exact heap_setCell_same _ g3 j _ 5 _ (heap_setCell_same _ g3 i cur3 5 _ (by rw [heap_setCell_other _ _ _ _ (by simp; omega), heap_setCell_other _ _ _ _ (by simp; omega)]; exact K3.1))
    exact sl_row e K3.2.1 K3.2.2.1 (by simpa using hz) (set_row (set_row K3.2.2.2)) b3

theorem xor_u8 {a b : Nat} (ha : a < 256) (hb : b < 256) : bits BinOp.xor IntKind.u8 (a : Int) (b : Int) = ((a ^^^ b : Nat) : Int) := u8_xor_nat a b ha hb
theorem xor_bd {a b : Nat} (ha : a < 256) (hb : b < 256) : a ^^^ b < 256 := Nat.xor_lt_two_pow (n := 8) ha hb
theorem flip_eq {l : List Int} {i p x : Nat} (hx : l.getD i 0 = x) : flip l i p = l.set i ((x ^^^ p : Nat) : Int) := by unfold flip; rw [hx, Int.toNat_natCast]
/-- what is said of the four sums -/
theorem detects_sums {l : List Int} {i j p q : Nat} (hb : Byte l) (hi : i < l.length) (hj : j < l.length) (hp : p < 256) (hq : q < 256) (hp0 : p ≠ 0) :
    ∃ X Y Z B : Nat, crc (flip l i p) = X ∧ crc (flip l j q) = Y ∧ crc (flip (flip l i p) j q) = Z ∧ crc l = B ∧ ((X : Int) == (B : Int)) = false ∧ ((X : Int) != (B : Int)) = true ∧ bits BinOp.xor IntKind.u32 (bits BinOp.xor IntKind.u32 (X : Int) (Y : Int)) (B : Int) = (Z : Int) := by
  obtain ⟨d1, d2⟩ := detects l i j p q hi hj hp hp0
  refine ⟨_, _, _, _, rfl, rfl, rfl, rfl, ?_, ?_, ?_⟩
  · simp; omega
  · simp; omega
  · have x1 := crc_lt _ (flip_byte hb i p hp)
    have x2 := crc_lt _ (flip_byte hb j q hq)
    have x3 := crc_lt _ hb
    have e1 : bits BinOp.xor IntKind.u32 (crc (flip l i p) : Int) (crc (flip l j q) : Int) = ((crc (flip l i p) ^^^ crc (flip l j q) : Nat) : Int) := u32_xor_nat _ _ x1 x2
    rw [e1, ← d2]
    exact u32_xor_nat _ _ (Nat.xor_lt_two_pow (n := 32) x1 x2) x3

set_option maxRecDepth 100000 in
set_option maxHeartbeats 8000000 in
theorem wireDetects_walk (ad : Option Addr) (len cap : Nat) (l : List Int) (at' by' also : Nat) (ha : at' < 65536) (hb : by' < 65536) (hc : also < 65536) (w : World) (hs : Sl .u8 w ad len cap l) :
    Calls Try.prog 7 #[.slice ad len cap, .int .u16 at', .int .u16 by', .int .u16 also] w fun e w' => e = .returned (.bool true) ∧ Below w.heap.size w w' := by
  have hm : Hid (len ≤ 9223372036854775807) := by have h1 := hs.2.1; have h2 := hs.2.2.1; unfold maxLen at h2; show _ ≤ _; omega
  have HS := hid hs
  have HZ := hid hs.1
  have HY := hid (byte_of_wf hs.2.2.2.1)
  clear hs
  by_cases h0 : len = 0
  · subst h0
    go_enter Try.func7, Try.ntmps7
    go_wp2_with (go_at_call 9; refine (sane_any w).mono ?_; rintro e w1 ⟨rfl, hb⟩; have HB := hid hb; clear hb)
    go_ret
    exact ⟨rfl, HB.out⟩
  have hl0 : ((len : Int) == 0) = false := by simp; omega
  by_cases h3 : 300 < len
  · have hd : 300 < (len : Int) := by omega
    go_enter Try.func7, Try.ntmps7
    go_wp2_with (go_at_call 9; refine (sane_any w).mono ?_; rintro e w1 ⟨rfl, hb⟩; have HB := hid hb; clear hb)
    go_ret
    exact ⟨rfl, HB.out⟩
  have hd : ¬ (300 < (len : Int)) := by omega
  by_cases hp0 : by' % 256 = 0
  · have hq : (by' : Int) % 256 = 0 := by omega
    go_enter Try.func7, Try.ntmps7
    go_wp2_with (go_at_call 9; refine (sane_any w).mono ?_; rintro e w1 ⟨rfl, hb⟩; have HB := hid hb; clear hb)
    go_ret
    exact ⟨rfl, HB.out⟩
  have hq : ((by' : Int) % 256 == 0) = false := by simp; omega
  have hlp : (0 : Int) < (len : Int) := by omega
  obtain ⟨i, hi⟩ : ∃ i : Nat, (at' : Int) % (len : Int) = i := ⟨at' % len, by omega⟩
  obtain ⟨j, hj⟩ : ∃ i : Nat, (also : Int) % (len : Int) = i := ⟨also % len, by omega⟩
  have hil : i < len := by have := Int.emod_lt_of_pos (at' : Int) hlp; omega
  have hjl : j < len := by have := Int.emod_lt_of_pos (also : Int) hlp; omega
  have hxi := byte_getD HY.out i
  have hxj := byte_getD HY.out j
  obtain ⟨xi, hxii⟩ : ∃ x : Nat, l.getD i 0 = x := ⟨(l.getD i 0).toNat, by omega⟩
  obtain ⟨xj, hxjj⟩ : ∃ x : Nat, l.getD j 0 = x := ⟨(l.getD j 0).toNat, by omega⟩
  have HXI := hid hxii
  have HXJ := hid hxjj
  rw [hxii] at hxi
  rw [hxjj] at hxj
  obtain ⟨xi1, xi2⟩ := hxi
  obtain ⟨xj1, xj2⟩ := hxj
  clear hxii hxjj
  have hij : (i = j) ∨ (¬ i = j ∧ ¬ j = i) := by omega
  rcases hij with rfl | ⟨hij, hji⟩
  · go_enter Try.func7, Try.ntmps7
    go_wp2_with (go_at_call 9; refine (sane_any w).mono ?_; rintro e w1 ⟨rfl, hb⟩; have HB := hid hb; clear hb)
    go_quiet (fail)
    have HB1 := hid (below_drewN HB.out nq)
    obtain ⟨W1, hW1⟩ : ∃ W1, w1.drewN nq = W1 := ⟨_, rfl⟩
    rw [hW1] at HB1 ⊢
    rw [hi, hj]
    clear hW1 HB hi hj
    go_wp2_with (first
      | (at_builtin; refine wpList_append_sl _ rfl (.const (.slice none 0 0)) (.tmp 39) 22 rfl .u8 5 (.int .u8 0) 1 Try.underlying22 info_u8 rfl W1.heap.size (.slice none 0 0) 0 [] (World.ownsRow_nil _ _ 5 1) rfl ad len cap l rfl (HS.out.below HB1.out) (by unfold maxLen; omega) (by omega) (Nat.le_refl _) ?_; intro v2 w2 ho2 hg2; have HB2 := hid ((Below.refl W1.heap.size W1).grown hg2.out (Nat.le_refl _) (by intro k hk; cases hk)); clear hg2; obtain ⟨g1, c1, cur1, rfl, hg1, H1⟩ := own_row ho2.out (by omega); clear ho2)
      | (at_builtin; refine wpList_append_sl _ rfl (.const (.slice none 0 0)) (.tmp 41) 22 rfl .u8 5 (.int .u8 0) 1 Try.underlying22 info_u8 rfl w2.heap.size (.slice none 0 0) 0 [] (World.ownsRow_nil _ _ 5 1) rfl ad len cap l rfl (HS.out.below (HB1.out.trans (HB2.out.mono HB1.out.size))) (by unfold maxLen; omega) (by omega) (Nat.le_refl _) ?_; intro v3 w3 ho3 hg3; have HB3 := hid ((Below.refl w2.heap.size w2).grown hg3.out (Nat.le_refl _) (by intro k hk; cases hk)); clear hg3; obtain ⟨g2, c2, cur2, rfl, hg2, H2⟩ := own_row ho3.out (by omega); clear ho3)
      | (at_builtin; refine wpList_append_sl _ rfl (.const (.slice none 0 0)) (.tmp 43) 22 rfl .u8 5 (.int .u8 0) 1 Try.underlying22 info_u8 rfl w3.heap.size (.slice none 0 0) 0 [] (World.ownsRow_nil _ _ 5 1) rfl ad len cap l rfl (HS.out.below (HB1.out.trans ((HB2.out.trans (HB3.out.mono HB2.out.size)).mono HB1.out.size))) (by unfold maxLen; omega) (by omega) (Nat.le_refl _) ?_; intro v4 w4 ho4 hg4; have HB4 := hid ((Below.refl w3.heap.size w3).grown hg4.out (Nat.le_refl _) (by intro k hk; cases hk)); clear hg4; obtain ⟨g3, c3, cur3, rfl, hg3, H3⟩ := own_row ho4.out (by omega); clear ho4; obtain ⟨l12, l23, K1, K2, K3⟩ := detects_setup HB2.out HB3.out HB4.out hg1 hg2 hg3 H1 H2 H3; have kx := K1.out.cell HZ.out hil HXI.out; have ky := K2.out.cell HZ.out hjl HXJ.out; have kz := K3.out.cell HZ.out hil HXI.out; have kt := K3.out.cell HZ.out hjl HXJ.out; have fx := K1.out.frozen; have fy := K2.out.frozen; have fz := K3.out.frozen; clear H1 H2 H3; have n1 : ¬ g1 = g2 := (by omega); have n2 : ¬ g1 = g3 := (by omega); have n3 : ¬ g2 = g3 := (by omega); have n4 : ¬ g2 = g1 := (by omega); have n5 : ¬ g3 = g1 := (by omega); have n6 : ¬ g3 = g2 := (by omega)))
    have hp1 : by' % 256 < 256 := Nat.mod_lt _ (by omega)
    have hq1 : by' / 256 < 256 := by omega
    have ep : (by' : Int) % 256 = ((by' % 256 : Nat) : Int) := by omega
    have eq : (by' : Int) / 256 = ((by' / 256 : Nat) : Int) := by omega
    rw [ep, eq]
    have f1 := flip_eq (p := by' % 256) HXI.out
    have f2 := flip_eq (p := by' / 256) HXJ.out
    have y1 := flip_byte HY.out i (by' % 256) hp1
    have y2 := flip_byte HY.out i (by' / 256) hq1
    have y3 := flip_byte y1 i (by' / 256) hq1
    obtain ⟨X, Y, Z, B, sX, sY, sZ, sB, ne1, ne2, hxx⟩ := detects_sums HY.out (by rw [HZ.out]; exact hil) (by rw [HZ.out]; exact hjl) hp1 hq1 hp0
    rw [xor_u8 (by omega) hp1, xor_u8 (a := xj) (by omega) hq1, xor_u8 (a := xi ^^^ (by' % 256)) (xor_bd (by omega) hp1) hq1]
    have f3 := flip_eq (l := flip l i (by' % 256)) (i := i) (p := by' / 256) (x := xi ^^^ (by' % 256)) (by rw [f1]; simp [List.getD_eq_getElem?_getD, HZ.out, hil])
    rw [f1] at y1 sX y3 sZ f3
    rw [f2] at y2 sY
    rw [f3] at y3 sZ
    obtain ⟨W8, hW8, S1, S2, S3, hB8⟩ := detects_final HZ.out l12 l23 K1.out K2.out K3.out i i _ _ _ y1 y2 y3
    rw [hW8]
    have HB8 := hid (((HB1.out.trans (HB2.out.mono HB1.out.size)).trans (HB3.out.mono (Nat.le_trans HB1.out.size HB2.out.size))).trans (HB4.out.mono (Nat.le_trans (Nat.le_trans HB1.out.size HB2.out.size) HB3.out.size)) |>.trans (hB8 _ (Nat.le_trans HB1.out.size hg1)))
    have cX := hid (sum_any _ _ _ _ _ S1.out)
    have cY := hid (sum_any _ _ _ _ _ S2.out)
    have cZ := hid (sum_any _ _ _ _ _ S3.out)
    have cB := hid (sum_any _ _ _ _ _ (HS.out.below HB8.out))
    rw [sX] at cX
    rw [sY] at cY
    rw [sZ] at cZ
    rw [sB] at cB
    clear hW8 f1 f2 f3 y1 y2 y3 sX sY sZ sB kx ky kz kt fx fy fz S1 S2 S3 hB8 ep eq
    go_wp2_with (first
      | (go_at_call 26; ((with_reducible refine cX.out.mono ?_); rintro e w5 ⟨rfl, rfl⟩))
      | (go_at_call 26; ((with_reducible refine cY.out.mono ?_); rintro e w5 ⟨rfl, rfl⟩))
      | (go_at_call 26; ((with_reducible refine cZ.out.mono ?_); rintro e w5 ⟨rfl, rfl⟩))
      | (go_at_call 26; ((with_reducible refine cB.out.mono ?_); rintro e w5 ⟨rfl, rfl⟩)))
    go_ret
    exact ⟨rfl, HB8.out⟩
  · go_enter Try.func7, Try.ntmps7
    go_wp2_with (go_at_call 9; refine (sane_any w).mono ?_; rintro e w1 ⟨rfl, hb⟩; have HB := hid hb; clear hb)
    go_quiet (fail)
    have HB1 := hid (below_drewN HB.out nq)
    obtain ⟨W1, hW1⟩ : ∃ W1, w1.drewN nq = W1 := ⟨_, rfl⟩
    rw [hW1] at HB1 ⊢
    rw [hi, hj]
    clear hW1 HB hi hj
    go_wp2_with (first
      | (at_builtin; refine wpList_append_sl _ rfl (.const (.slice none 0 0)) (.tmp 39) 22 rfl .u8 5 (.int .u8 0) 1 Try.underlying22 info_u8 rfl W1.heap.size (.slice none 0 0) 0 [] (World.ownsRow_nil _ _ 5 1) rfl ad len cap l rfl (HS.out.below HB1.out) (by unfold maxLen; omega) (by omega) (Nat.le_refl _) ?_; intro v2 w2 ho2 hg2; have HB2 := hid ((Below.refl W1.heap.size W1).grown hg2.out (Nat.le_refl _) (by intro k hk; cases hk)); clear hg2; obtain ⟨g1, c1, cur1, rfl, hg1, H1⟩ := own_row ho2.out (by omega); clear ho2)
      | (at_builtin; refine wpList_append_sl _ rfl (.const (.slice none 0 0)) (.tmp 41) 22 rfl .u8 5 (.int .u8 0) 1 Try.underlying22 info_u8 rfl w2.heap.size (.slice none 0 0) 0 [] (World.ownsRow_nil _ _ 5 1) rfl ad len cap l rfl (HS.out.below (HB1.out.trans (HB2.out.mono HB1.out.size))) (by unfold maxLen; omega) (by omega) (Nat.le_refl _) ?_; intro v3 w3 ho3 hg3; have HB3 := hid ((Below.refl w2.heap.size w2).grown hg3.out (Nat.le_refl _) (by intro k hk; cases hk)); clear hg3; obtain ⟨g2, c2, cur2, rfl, hg2, H2⟩ := own_row ho3.out (by omega); clear ho3)
      | (at_builtin; refine wpList_append_sl _ rfl (.const (.slice none 0 0)) (.tmp 43) 22 rfl .u8 5 (.int .u8 0) 1 Try.underlying22 info_u8 rfl w3.heap.size (.slice none 0 0) 0 [] (World.ownsRow_nil _ _ 5 1) rfl ad len cap l rfl (HS.out.below (HB1.out.trans ((HB2.out.trans (HB3.out.mono HB2.out.size)).mono HB1.out.size))) (by unfold maxLen; omega) (by omega) (Nat.le_refl _) ?_; intro v4 w4 ho4 hg4; have HB4 := hid ((Below.refl w3.heap.size w3).grown hg4.out (Nat.le_refl _) (by intro k hk; cases hk)); clear hg4; obtain ⟨g3, c3, cur3, rfl, hg3, H3⟩ := own_row ho4.out (by omega); clear ho4; obtain ⟨l12, l23, K1, K2, K3⟩ := detects_setup HB2.out HB3.out HB4.out hg1 hg2 hg3 H1 H2 H3; have kx := K1.out.cell HZ.out hil HXI.out; have ky := K2.out.cell HZ.out hjl HXJ.out; have kz := K3.out.cell HZ.out hil HXI.out; have kt := K3.out.cell HZ.out hjl HXJ.out; have fx := K1.out.frozen; have fy := K2.out.frozen; have fz := K3.out.frozen; clear H1 H2 H3; have n1 : ¬ g1 = g2 := (by omega); have n2 : ¬ g1 = g3 := (by omega); have n3 : ¬ g2 = g3 := (by omega); have n4 : ¬ g2 = g1 := (by omega); have n5 : ¬ g3 = g1 := (by omega); have n6 : ¬ g3 = g2 := (by omega)))
    have hp1 : by' % 256 < 256 := Nat.mod_lt _ (by omega)
    have hq1 : by' / 256 < 256 := by omega
    have ep : (by' : Int) % 256 = ((by' % 256 : Nat) : Int) := by omega
    have eq : (by' : Int) / 256 = ((by' / 256 : Nat) : Int) := by omega
    rw [ep, eq]
    have f1 := flip_eq (p := by' % 256) HXI.out
    have f2 := flip_eq (p := by' / 256) HXJ.out
    have y1 := flip_byte HY.out i (by' % 256) hp1
    have y2 := flip_byte HY.out j (by' / 256) hq1
    have y3 := flip_byte y1 j (by' / 256) hq1
    obtain ⟨X, Y, Z, B, sX, sY, sZ, sB, ne1, ne2, hxx⟩ := detects_sums HY.out (by rw [HZ.out]; exact hil) (by rw [HZ.out]; exact hjl) hp1 hq1 hp0
    rw [xor_u8 (by omega) hp1, xor_u8 (a := xj) (by omega) hq1]
    have f3 := flip_eq (l := flip l i (by' % 256)) (i := j) (p := by' / 256) (x := xj) (by rw [f1]; have h := HXJ.out; simp only [List.getD_eq_getElem?_getD] at h ⊢; rw [List.getElem?_set_ne hij]; exact h)
    rw [f1] at y1 sX y3 sZ f3
    rw [f2] at y2 sY
    rw [f3] at y3 sZ
    obtain ⟨W8, hW8, S1, S2, S3, hB8⟩ := detects_final HZ.out l12 l23 K1.out K2.out K3.out i j _ _ _ y1 y2 y3
    rw [hW8]
    have HB8 := hid (((HB1.out.trans (HB2.out.mono HB1.out.size)).trans (HB3.out.mono (Nat.le_trans HB1.out.size HB2.out.size))).trans (HB4.out.mono (Nat.le_trans (Nat.le_trans HB1.out.size HB2.out.size) HB3.out.size)) |>.trans (hB8 _ (Nat.le_trans HB1.out.size hg1)))
    have cX := hid (sum_any _ _ _ _ _ S1.out)
    have cY := hid (sum_any _ _ _ _ _ S2.out)
    have cZ := hid (sum_any _ _ _ _ _ S3.out)
    have cB := hid (sum_any _ _ _ _ _ (HS.out.below HB8.out))
    rw [sX] at cX
    rw [sY] at cY
    rw [sZ] at cZ
    rw [sB] at cB
    clear hW8 f1 f2 f3 y1 y2 y3 sX sY sZ sB kx ky kz kt fx fy fz S1 S2 S3 hB8 ep eq
    go_wp2_with (first
      | (go_at_call 26; ((with_reducible refine cX.out.mono ?_); rintro e w5 ⟨rfl, rfl⟩))
      | (go_at_call 26; ((with_reducible refine cY.out.mono ?_); rintro e w5 ⟨rfl, rfl⟩))
      | (go_at_call 26; ((with_reducible refine cZ.out.mono ?_); rintro e w5 ⟨rfl, rfl⟩))
      | (go_at_call 26; ((with_reducible refine cB.out.mono ?_); rintro e w5 ⟨rfl, rfl⟩)))
    go_ret
    exact ⟨rfl, HB8.out⟩

theorem wireDetects_int (ad : Option Addr) (len cap : Nat) (l : List Int) (a b c : Int) (ha : 0 ≤ a ∧ a ≤ 65535) (hb : 0 ≤ b ∧ b ≤ 65535) (hc : 0 ≤ c ∧ c ≤ 65535) (w : World) (hs : Sl .u8 w ad len cap l) :
    Calls Try.prog 7 #[.slice ad len cap, .int .u16 a, .int .u16 b, .int .u16 c] w fun e w' => e = .returned (.bool true) ∧ Below w.heap.size w w' := by
  obtain ⟨a', rfl⟩ : ∃ x : Nat, a = x := ⟨a.toNat, by omega⟩
  obtain ⟨b', rfl⟩ : ∃ x : Nat, b = x := ⟨b.toNat, by omega⟩
  obtain ⟨c', rfl⟩ : ∃ x : Nat, c = x := ⟨c.toNat, by omega⟩
  exact wireDetects_walk ad len cap l a' b' c' (by omega) (by omega) (by omega) w hs
end Go.Proofs.Ytimogkkkpkcblaa
