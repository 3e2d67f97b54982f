/- Merged texts. -/
import Derived.Test.YtalbpleglapihaaZD11P
namespace Go.Proofs.Ytalbpleglapihaa
open Go.ChangeShapes Go.WideShapes Go.ChangeAt Go.RowKit
set_option linter.unusedVariables false
set_option linter.unusedSimpArgs false
/-! chapter 11: a beginning is never a whole -/
def Mo (F G : RS → RS) : Prop := ∀ u, kU (F u) = 0 → kU u = 0 ∧ G u = F u
theorem Mo.comp {F G F' G' : RS → RS} (h : Mo F G) (h2 : Mo F' G') : Mo (fun u => F' (F u)) (fun u => G' (G u)) := fun u hq => by
  have h3 := h2 _ hq
  have h4 := h u h3.1
  exact ⟨h4.1, by show G' (G u) = F' (F u); rw [h4.2, h3.2]⟩
theorem Mo.it {F G : RS → RS} (h : Mo F G) : ∀ n, Mo (nQ F n) (nQ G n)
  | 0 => fun u hq => ⟨hq, rfl⟩
  | n + 1 => fun u hq => by
    by_cases h0 : kU u = 0
    · rw [rI h0] at hq ⊢
      rw [rI h0]
      have h3 := Mo.it h n _ hq
      have h4 := h u h3.1
      exact ⟨h0, by rw [h4.2]; exact h3.2⟩
    · rw [k2k h0] at hq; exact absurd hq h0
theorem bW (s : Nat) (p r : List Int) : Mo (kD s p) (kD s (p ++ r)) := fun u hq => by
  by_cases h : kU u = 0
  · by_cases h1 : kL u + s ≤ p.length
    · refine ⟨h, ?_⟩
      have h2 : u.q = 0 := h
      have h3 : u.a + s ≤ p.length := h1
      unfold kD
      rw [if_pos h2, if_pos h2, if_pos h3, if_pos (by rw [List.length_append]; omega)]
    · have := nU rfl h h1; omega
  · rw [rQ h] at hq; exact absurd hq h
theorem k90 {p r : List Int} {u : RS} (h : kU (kD 2 p u) = 0) : kV (p ++ r) u = kV p u := by
  have h0 := (bW 2 p r u h).1
  by_cases h1 : kL u + 2 ≤ p.length
  · have h2 : u.q = 0 := h0
    have h3 : u.a + 2 ≤ p.length := h1
    unfold kV
    rw [if_pos (show u.q = 0 ∧ u.a + 2 ≤ (p ++ r).length from ⟨h2, by rw [List.length_append]; omega⟩), if_pos (show u.q = 0 ∧ u.a + 2 ≤ p.length from ⟨h2, h3⟩)]
    have e0 : List.getD (p ++ r) (u.a + 0) 0 = List.getD p (u.a + 0) 0 := v6 (by omega)
    have e1 : List.getD (p ++ r) (u.a + 1) 0 = List.getD p (u.a + 1) 0 := v6 (by omega)
    unfold g16; rw [e0, e1]
  · have := nU rfl h0 h1; omega
theorem u20 (p r : List Int) : Mo (qO p) (qO (p ++ r)) := fun u hq => by
  by_cases h : kU u = 0
  · by_cases h1 : fD p (kL u) = 0
    · refine ⟨h, ?_⟩
      have h2 := k0p rfl h1
      have h3 : u.q = 0 := h
      have h4 : fD p u.a = 0 := h1
      by_cases h5 : kL u < p.length
      · have e0 : uN (p ++ r) u.a = uN p u.a := by
          have e1 : List.getD (p ++ r) u.a 0 = List.getD p u.a 0 := v6 h5
          unfold uN; rw [e1]
        have h7 : uN p u.a ≤ 64 ∧ u.a + 1 + uN p u.a ≤ p.length := h2.2
        have h6 : fD (p ++ r) u.a = 0 := k0o rfl (by rw [List.length_append]; have : u.a < p.length := h5; omega) (by rw [e0]; omega) (by rw [e0, List.length_append]; omega)
        unfold qO
        rw [if_pos h3, if_pos h3, if_pos h4, if_pos h6, e0]
      · omega
    · have h2 := hC h h1; omega
  · rw [(k0m h).1] at hq; exact absurd hq h
theorem xM {F G : RS → RS} {p r : List Int} (h : Mo F G) : Mo (fun u => nQ F (kV p u) (kD 2 p u)) (fun u => nQ G (kV (p ++ r) u) (kD 2 (p ++ r) u)) := fun u hq => by
  have h1 := h.it (kV p u) _ hq
  have h2 := bW 2 p r u h1.1
  exact ⟨h2.1, by show nQ G (kV (p ++ r) u) (kD 2 (p ++ r) u) = nQ F (kV p u) (kD 2 p u); rw [k90 h1.1, h2.2, h1.2]⟩
theorem k7v (p r : List Int) : Mo (uW p) (uW (p ++ r)) := xM ((bW 4 p r).comp (bW 4 p r))
theorem u3r (p r : List Int) : Mo (eY p) (eY (p ++ r)) := xM (bW 2 p r)
theorem u30 (p r : List Int) : Mo (vT p) (vT (p ++ r)) := xM (u3r p r)
theorem u3s (p r : List Int) : Mo (lW p) (lW (p ++ r)) := xM ((((bW 2 p r).comp (k7v p r)).comp (u30 p r)).comp (k7v p r))
theorem u3q (p r : List Int) : Mo (dG p) (dG (p ++ r)) :=
  (((((((bW 8 p r).comp (u20 p r)).comp (bW 2 p r)).comp (bW 2 p r)).comp (bW 4 p r)).comp (bW 2 p r)).comp (bW 2 p r)).comp (u3s p r)
theorem DeB.len {B : List Int} (h : DeB B) : 26 ≤ B.length ∧ B.length ≤ 20000 := by
  obtain ⟨id, nm, d1, d2, d3, d4, d5, bs, n, hD, rfl⟩ := h
  have h1 := hD.l; have h2 := hD.r.2
  rw [oK]; omega
theorem DeB.byt {B : List Int} (h : DeB B) : Byt B := by
  obtain ⟨id, nm, d1, d2, d3, d4, d5, bs, n, hD, rfl⟩ := h
  exact xZ hD.y hD.l.2
theorem DeB.head {B : List Int} (h : DeB B) (r : List Int) : List.take 4 (B ++ r) = [83, 78, 68, 49] := by
  obtain ⟨id, nm, d1, d2, d3, d4, d5, bs, n, hD, rfl⟩ := h
  unfold sI; rfl
theorem DeB.rd {B : List Int} (h : DeB B) (r : List Int) : dG (B ++ r) qB = ⟨B.length, 0⟩ := by
  obtain ⟨id, nm, d1, d2, d3, d4, d5, bs, n, hD, rfl⟩ := h
  exact (m7 hD r rfl).1
theorem DeB.val {B : List Int} (h : DeB B) : deV B = true := by
  obtain ⟨id, nm, d1, d2, d3, d4, d5, bs, n, hD, rfl⟩ := h
  have h1 := m7 (l := sI id nm d1 d2 d3 d4 d5 bs) hD [] (List.append_nil _).symm
  unfold deV
  rw [h1.2.2.1, h1.2.2.2.1, h1.2.2.2.2.1, h1.2.2.2.2.2.1, h1.2.2.2.2.2.2.1, h1.2.2.2.2.2.2.2.1, h1.2.2.2.2.2.2.2.2]
  exact hD.vd
theorem DeB.cut {B : List Int} (h : DeB B) {k : Nat} (hk : k < B.length) : ¬ (kU (dG (List.take k B) qB) = 0 ∧ kL (dG (List.take k B) qB) = k) := fun ⟨h1, h2⟩ => by
  have h3 := (u3q (List.take k B) (List.drop k B) qB h1).2
  rw [List.take_append_drop] at h3
  have h4 := h.rd []
  rw [List.append_nil] at h4
  rw [← h3, h4] at h2
  have h5 : B.length = k := h2
  omega
theorem u5p {x : List Int} (h : ¬ yC x = 0) : List.length (gB x) = 0 ∧ List.length (vV x) = 0 := by
  have h1 := wA h
  rw [h1.2.1, h1.2.2.2.2.2.2.2]; exact ⟨rfl, rfl⟩
end Go.Proofs.Ytalbpleglapihaa
namespace Go.Proofs.Ytalbpleglapihaa
open Go.ChangeShapes Go.WideShapes Go.ChangeAt Go.RowKit
set_option linter.unusedVariables false
set_option linter.unusedSimpArgs false
/-! chapter 11: two in a row -/
theorem tA (l : List Int) (s : Int) : (l ++ pbL s 4).length = l.length + 4 := by rw [List.length_append, pbL_len]
theorem k14 (l : List Int) : g32 (l ++ pbL (kY l) 4) l.length = kY l := k7y ⟨l, [], by rw [List.append_nil], rfl⟩ (gF l)
theorem mX (l : List Int) (s : Int) : List.take (l.length + 4 - 4) (l ++ pbL s 4) = l := by
  rw [show l.length + 4 - 4 = l.length by omega, List.take_left]
theorem u24 {B : List Int} (h : DeB B) : yC (B ++ pbL (kY B) 4) = 0 := by
  have hl := h.len
  have h1 := h.rd []
  rw [List.append_nil] at h1
  refine u3n (tA B _) (by omega) ?_ ?_ ?_ ?_
  · rw [mX, show B.length + 4 - 4 = B.length by omega]; exact k14 B
  · exact h.head _
  · rw [mX, h1]; exact ⟨rfl, by show B.length = B.length + 4 - 4; omega⟩
  · rw [mX]; exact h.val
end Go.Proofs.Ytalbpleglapihaa
namespace Go.Proofs.Ytalbpleglapihaa
open Go.ChangeShapes Go.WideShapes Go.ChangeAt Go.RowKit
set_option linter.unusedVariables false
set_option linter.unusedSimpArgs false
/-! chapter 11: one changed byte -/
theorem k9s {a : Int} (h : 0 ≤ a ∧ a ≤ 4294967295) : (BitVec.ofInt 32 a).toNat = a.toNat := by
  rw [BitVec.toNat_ofInt]; omega
theorem g7 {a b : Int} (ha : 0 ≤ a ∧ a ≤ 4294967295) (hb : 0 ≤ b ∧ b ≤ 4294967295) : vM a b = ((a.toNat ^^^ b.toNat : Nat) : Int) := by
  rw [k0f, BitVec.toNat_xor, k9s ha, k9s hb]
theorem mG {a b c : Nat} (h : a ^^^ c = b ^^^ c) : a = b := by
  have e := congrArg (fun x => x ^^^ c) h
  simp only [Nat.xor_assoc, Nat.xor_self, Nat.xor_zero] at e
  exact e
theorem u1a {a b c : Int} (ha : 0 ≤ a ∧ a ≤ 4294967295) (hb : 0 ≤ b ∧ b ≤ 4294967295) (hc : 0 ≤ c ∧ c ≤ 4294967295) (h : vM a c = vM b c) : a = b := by
  rw [g7 ha hc, g7 hb hc] at h
  have := mG (Int.ofNat_inj.1 h); omega
theorem u1b {a b c : Int} (ha : 0 ≤ a ∧ a ≤ 4294967295) (hb : 0 ≤ b ∧ b ≤ 4294967295) (hc : 0 ≤ c ∧ c ≤ 4294967295) (h : vM c a = vM c b) : a = b := by
  rw [g7 hc ha, g7 hc hb] at h
  have h1 := Int.ofNat_inj.1 h
  rw [Nat.xor_comm c.toNat, Nat.xor_comm c.toNat] at h1
  have := mG h1; omega
theorem k4r {a : Int} (ha : 0 ≤ a ∧ a ≤ 4294967295) : wB a = a % 2 := by
  have e : wB a = IntKind.u32.wrap (((BitVec.ofInt 32 a &&& BitVec.ofInt 32 1).toNat : Nat) : Int) := rfl
  have e1 : (BitVec.ofInt 32 1).toNat = 1 := rfl
  rw [e, BitVec.toNat_and, k9s ha, e1, Nat.and_one_is_mod, vE (by simp only [oZ]; omega)]; omega
theorem u25 {x : Nat} (h : x < 2147483648) : 2147483648 ≤ x ^^^ 3988292384 := by
  have h1 : (x ^^^ 3988292384).testBit 31 = true := by
    rw [Nat.testBit_xor, Nat.testBit_lt_two_pow (show x < 2 ^ 31 from h)]; rfl
  exact Nat.ge_two_pow_of_testBit h1
def stW (r : Int) : Int := if wB r = 1 then vM (r / 2) 3988292384 else r / 2
theorem k94 {r : Int} (h : 0 ≤ r ∧ r ≤ 4294967295) : 0 ≤ stW r ∧ stW r ≤ 4294967295 := by
  unfold stW; split
  · exact y5 _ _
  · omega
theorem k5c {r : Int} (h : 0 ≤ r ∧ r ≤ 4294967295) (h1 : r % 2 = 1) : stW r = vM (r / 2) 3988292384 ∧ 2147483648 ≤ stW r := by
  have e : stW r = vM (r / 2) 3988292384 := if_pos (by rw [k4r h]; exact h1)
  refine ⟨e, ?_⟩
  rw [e, g7 (by omega) (by omega)]
  have := u25 (x := (r / 2).toNat) (by omega)
  show (2147483648 : Int) ≤ _
  have e3 : (3988292384 : Int).toNat = 3988292384 := rfl
  rw [e3]; omega
theorem k5d {r : Int} (h : 0 ≤ r ∧ r ≤ 4294967295) (h1 : ¬ r % 2 = 1) : stW r = r / 2 := if_neg (by rw [k4r h]; exact h1)
theorem k95 {r s : Int} (hr : 0 ≤ r ∧ r ≤ 4294967295) (hs : 0 ≤ s ∧ s ≤ 4294967295) (h : stW r = stW s) : r = s := by
  by_cases h1 : r % 2 = 1
  · by_cases h2 : s % 2 = 1
    · rw [(k5c hr h1).1, (k5c hs h2).1] at h
      have := u1a (a := r / 2) (b := s / 2) (by omega) (by omega) (by omega) h
      omega
    · have := (k5c hr h1).2; rw [h, k5d hs h2] at this; omega
  · by_cases h2 : s % 2 = 1
    · have := (k5c hs h2).2; rw [← h, k5d hr h1] at this; omega
    · rw [k5d hr h1, k5d hs h2] at h; omega
theorem oI {r : Int} (h : 0 ≤ r ∧ r ≤ 4294967295) : ∀ k, 0 ≤ yL r k ∧ yL r k ≤ 4294967295
  | 0 => h
  | k + 1 => k94 (oI h k)
theorem k4j {r s : Int} (hr : 0 ≤ r ∧ r ≤ 4294967295) (hs : 0 ≤ s ∧ s ≤ 4294967295) : ∀ k, yL r k = yL s k → r = s
  | 0, h => h
  | k + 1, h => k4j hr hs k (k95 (oI hr k) (oI hs k) h)
theorem bQ {l : List Int} (h : Byt l) (j : Nat) : 0 ≤ List.getD l j 0 ∧ List.getD l j 0 ≤ 255 := by
  by_cases hj : j < l.length
  · exact h.at j hj
  · rw [List.getD_eq_getElem?_getD, List.getElem?_eq_none (by omega)]; exact ⟨by decide, by decide⟩
theorem hX (l : List Int) : ∀ k, 0 ≤ gG l k ∧ gG l k ≤ 4294967295
  | 0 => ⟨by show (0 : Int) ≤ 4294967295; decide, by show (4294967295 : Int) ≤ 4294967295; decide⟩
  | k + 1 => oI (y5 _ _) 8
theorem k13 {l m : List Int} : ∀ k, (∀ j, j < k → List.getD l j 0 = List.getD m j 0) → gG l k = gG m k
  | 0, _ => rfl
  | k + 1, h => by
    show yL (vM (gG l k) (List.getD l k 0)) 8 = yL (vM (gG m k) (List.getD m k 0)) 8
    rw [k13 k fun j hj => h j (by omega), h k (by omega)]
theorem k7t {l m : List Int} (hl : Byt l) (hm : Byt m) {q : Nat} (he : ∀ j, ¬ j = q → List.getD l j 0 = List.getD m j 0) (hq : ¬ List.getD l q 0 = List.getD m q 0) : ∀ k, q < k → ¬ gG l k = gG m k
  | 0, h => absurd h (Nat.not_lt_zero q)
  | k + 1, h => fun e => by
    have e1 : vM (gG l k) (List.getD l k 0) = vM (gG m k) (List.getD m k 0) := k4j (y5 _ _) (y5 _ _) 8 e
    have b1 := bQ hl k; have b2 := bQ hm k
    by_cases h1 : k = q
    · subst h1
      rw [k13 k fun j hj => he j (by omega)] at e1
      exact hq (u1b (by omega) (by omega) (hX m k) e1)
    · rw [he k h1] at e1
      exact k7t hl hm he hq k (by omega) (u1a (hX l k) (hX m k) (by omega) e1)
theorem u26 {l m : List Int} (hl : Byt l) (hm : Byt m) (hlen : l.length = m.length) {q : Nat} (hk : q < l.length) (he : ∀ j, ¬ j = q → List.getD l j 0 = List.getD m j 0) (hq : ¬ List.getD l q 0 = List.getD m q 0) : ¬ kY l = kY m := fun e => by
  unfold kY at e
  rw [hlen] at e
  exact k7t hl hm he hq m.length (by omega) (u1b (hX _ _) (hX _ _) (by omega) e)
theorem i6 {l : List Int} {k j : Nat} {v : Int} (hk : k < l.length) : List.getD (List.set l k v) j 0 = if j = k then v else List.getD l j 0 := by
  rw [List.getD_eq_getElem?_getD, List.getD_eq_getElem?_getD, List.getElem?_set]
  by_cases e : k = j
  · subst e; rw [if_pos rfl, if_pos rfl, if_pos hk]; rfl
  · rw [if_neg e, if_neg fun h => e h.symm]
theorem u67 {B : List Int} {z k : Nat} {v : Int} (h : DeB B) (hz : B.length = z) (hk : k < z + 4) (hv : 0 ≤ v ∧ v ≤ 255) (hne : ¬ v = List.getD (B ++ pbL (kY B) 4) k 0) : ¬ yC (List.set (B ++ pbL (kY B) 4) k v) = 0 := by
  subst hz
  have hl := h.len
  have hE := tA B (kY B)
  have hb := h.byt
  have hbE : Byt (B ++ pbL (kY B) 4) := hb.app (pbL_byt _ _)
  have hc : (List.set (B ++ pbL (kY B) 4) k v).length = B.length + 4 := by rw [List.length_set]; exact hE
  have hs := k14 B
  have hkE : k < (B ++ pbL (kY B) 4).length := by omega
  have hn : ¬ g32 (List.set (B ++ pbL (kY B) 4) k v) (B.length + 4 - 4) = kY (List.take (B.length + 4 - 4) (List.set (B ++ pbL (kY B) 4) k v)) := by
    rw [show B.length + 4 - 4 = B.length by omega]
    have g := fun j => i6 (l := B ++ pbL (kY B) 4) (k := k) (j := j) (v := v) hkE
    by_cases h1 : k < B.length
    · have e1 : List.take B.length (List.set (B ++ pbL (kY B) 4) k v) = List.set B k v := by
        rw [List.set_append_left _ _ h1, List.take_left' (by rw [List.length_set])]
      have e2 : g32 (List.set (B ++ pbL (kY B) 4) k v) B.length = kY B := by
        refine Eq.trans ?_ hs
        unfold g32
        rw [g, g, g, g, if_neg (by omega), if_neg (by omega), if_neg (by omega), if_neg (by omega)]
      rw [e1, e2]
      have e3 : List.getD (B ++ pbL (kY B) 4) k 0 = List.getD B k 0 := v6 h1
      intro e
      refine u26 hb (hb.set k hv) (by rw [List.length_set]) (q := k) h1 (fun j hj => ?_) ?_ e
      · rw [i6 h1, if_neg hj]
      · rw [i6 h1, if_pos rfl]; rw [e3] at hne; exact fun e => hne e.symm
    · have e1 : List.take B.length (List.set (B ++ pbL (kY B) 4) k v) = B := by
        rw [List.set_append_right _ _ (by omega), List.take_left]
      rw [e1]
      intro e
      have e4 := e.trans hs.symm
      unfold g32 at e4
      rw [g, g, g, g] at e4
      have b0 := bQ hbE (B.length + 0); have b1 := bQ hbE (B.length + 1); have b2 := bQ hbE (B.length + 2); have b3 := bQ hbE (B.length + 3)
      rcases (show k = B.length + 0 ∨ k = B.length + 1 ∨ k = B.length + 2 ∨ k = B.length + 3 by omega) with e | e | e | e
      · subst e; rw [if_pos rfl, if_neg (by omega), if_neg (by omega), if_neg (by omega)] at e4; omega
      · subst e; rw [if_neg (by omega), if_pos rfl, if_neg (by omega), if_neg (by omega)] at e4; omega
      · subst e; rw [if_neg (by omega), if_neg (by omega), if_pos rfl, if_neg (by omega)] at e4; omega
      · subst e; rw [if_neg (by omega), if_neg (by omega), if_neg (by omega), if_pos rfl] at e4; omega
  rw [u0t hc (by omega) hn]; decide
def vP (a b : Int) : Int := qM .xor .u8 a b
theorem u1d (a b : Int) : qM .xor .u8 a b = vP a b := rfl
theorem k7g (a b : Int) : vP a b = ((BitVec.ofInt 8 a ^^^ BitVec.ofInt 8 b).toNat : Int) := by
  show IntKind.u8.wrap _ = _
  exact vE (by simp only [oZ]; have := (BitVec.ofInt 8 a ^^^ BitVec.ofInt 8 b).isLt; exact ⟨by omega, by show (((BitVec.ofInt 8 a ^^^ BitVec.ofInt 8 b).toNat : Nat) : Int) ≤ 255; omega⟩)
theorem k0h (a b : Int) : 0 ≤ vP a b ∧ vP a b ≤ 255 := by
  rw [k7g]; have := (BitVec.ofInt 8 a ^^^ BitVec.ofInt 8 b).isLt; omega
theorem of8 {a : Int} (h : 0 ≤ a ∧ a ≤ 255) : (BitVec.ofInt 8 a).toNat = a.toNat := by
  rw [BitVec.toNat_ofInt]; omega
theorem u1c {a b : Int} (ha : 0 ≤ a ∧ a ≤ 255) (hb : 0 ≤ b ∧ b ≤ 255) (h : ¬ b = 0) : ¬ vP a b = a := fun e => by
  rw [k7g, BitVec.toNat_xor, of8 ha, of8 hb] at e
  have e1 : a.toNat ^^^ b.toNat = a.toNat := by omega
  have e2 : b.toNat ^^^ a.toNat = 0 ^^^ a.toNat := by rw [Nat.xor_comm, e1, Nat.zero_xor]
  have := mG e2; omega
theorem u66 {B : List Int} {z k : Nat} {y : Int} (h : DeB B) (hz : B.length = z) (hk : k < z + 4) (hy : 0 ≤ y ∧ y ≤ 255) : y = 0 ∨ (¬ yC (List.set (B ++ pbL (kY B) 4) k (vP (List.getD (B ++ pbL (kY B) 4) k 0) y)) = 0 ∧ (List.length (gB (List.set (B ++ pbL (kY B) 4) k (vP (List.getD (B ++ pbL (kY B) 4) k 0) y))) = 0 ∧ List.length (vV (List.set (B ++ pbL (kY B) 4) k (vP (List.getD (B ++ pbL (kY B) 4) k 0) y))) = 0)) := by
  by_cases e : y = 0
  · exact .inl e
  · have hb := bQ (h.byt.app (pbL_byt (kY B) 4)) k
    have h1 := u67 h hz hk (k0h _ y) (u1c hb hy e)
    exact .inr ⟨h1, u5p h1⟩
theorem u65 {id : Int} {nm : List Int} {d1 d2 d3 d4 d5 : Int} {bs : List Bx} {n : Nat} {B : List Int} (hD : DeW id nm d1 d2 d3 d4 d5 bs n) (hB : B = sI id nm d1 d2 d3 d4 d5 bs) : o2 (B ++ pbL (kY B) 4) = id ∧ gB (B ++ pbL (kY B) 4) = nm ∧ o7 (B ++ pbL (kY B) 4) = d1 ∧ o6 (B ++ pbL (kY B) 4) = d2 ∧ o5 (B ++ pbL (kY B) 4) = d3 ∧ o4 (B ++ pbL (kY B) 4) = d4 ∧ o3 (B ++ pbL (kY B) 4) = d5 ∧ vV (B ++ pbL (kY B) 4) = bs := by
  have hd : DeB B := ⟨id, nm, d1, d2, d3, d4, d5, bs, n, hD, hB⟩
  obtain ⟨a1, a2, a3, a4, a5, a6, a7, a8⟩ := u3m (tA B (kY B)) (mX B (kY B)) (u24 hd)
  obtain ⟨_, b1, b2, b3, b4, b5, b6, b7, b8⟩ := m7 (l := B) hD [] (by rw [List.append_nil]; exact hB)
  exact ⟨a1.trans b1, a2.trans b2, a3.trans b3, a4.trans b4, a5.trans b5, a6.trans b6, a7.trans b7, a8.trans b8⟩
end Go.Proofs.Ytalbpleglapihaa
