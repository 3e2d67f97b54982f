/- What was written is read again. No statement is proved here. -/
import Derived.Test.YtalbpleglapihaaZD11G
namespace Go.Proofs.Ytalbpleglapihaa
open Go.ChangeShapes Go.WideShapes Go.ChangeAt Go.RowKit
open Int renaming toNat_natCast → kg6, toNat_of_nonneg → kk6
open List renaming append_assoc → kb7, append_nil → kc8, getD → ka0, getD_cons_succ → kk3, getD_cons_zero → kk2, getD_eq_getElem?_getD → ka8, getElem?_eq_getElem → ka9, length → ka1, length_append → ka4, take → ka2, take_add_one → kh1, take_length → kg3
open Nat renaming add_assoc → ke1, le_refl → kc9, not_lt_zero → ke5
set_option linter.unusedVariables false
set_option linter.unusedSimpArgs false
/-! chapter 11: what was written is read again -/
def Pf (l : List Int) (a : Nat) (E : List Int) : Prop := ∃ x r, l = x ++ (E ++ r) ∧ x.length = a
theorem Pf.l {l E F : List Int} {a : Nat} (h : Pf l a (E ++ F)) : Pf l a E := by
  obtain ⟨x, r, e, hx⟩ := h
  exact ⟨x, F ++ r, by rw [e, kb7], hx⟩
theorem Pf.r {l E F : List Int} {a : Nat} (h : Pf l a (E ++ F)) : Pf l (a + E.length) F := by
  obtain ⟨x, r, e, hx⟩ := h
  exact ⟨x ++ E, r, by rw [e]; simp only [kb7], by rw [ka4, hx]⟩
theorem Pf.le {l E : List Int} {a : Nat} (h : Pf l a E) : a + E.length ≤ l.length := by
  obtain ⟨x, r, e, hx⟩ := h
  rw [e, ka4, ka4]; omega
theorem Pf.at {l E : List Int} {a : Nat} (h : Pf l a E) {i : Nat} (hi : i < E.length) : ka0 l (a + i) 0 = ka0 E i 0 := by
  obtain ⟨x, r, e, hx⟩ := h
  rw [e, tT (by omega), show a + i - x.length = i by omega, v6 hi]
theorem Pf.sl {l E : List Int} {a : Nat} (h : Pf l a E) : ka2 E.length (List.drop a l) = E := by
  obtain ⟨x, r, e, hx⟩ := h
  subst hx
  rw [e, List.drop_left, List.take_left]
theorem u5k (n : Int) : pbL n 2 = [n % 256, n / 256 % 256] := by simp [pbL]
theorem u5j (n : Int) : pbL n 4 = [n % 256, n / 256 % 256, n / 65536 % 256, n / 16777216 % 256] := by simp [pbL]
theorem u5i (n : Int) : pbL n 8 = [n % 256, n / 256 % 256, n / 65536 % 256, n / 16777216 % 256, n / 4294967296 % 256, n / 1099511627776 % 256, n / 281474976710656 % 256, n / 72057594037927936 % 256] := by simp [pbL]
theorem u2u {l : List Int} {a : Nat} {n : Int} (h : Pf l a (pbL n 2)) (hn : 0 ≤ n ∧ n ≤ 65535) : g16 l a = n := by
  rw [u5k] at h
  have h0 := h.at (i := 0) (by simp); have h1 := h.at (i := 1) (by simp)
  have e0 : ka0 [n % 256, n / 256 % 256] 0 0 = n % 256 := rfl
  have e1 : ka0 [n % 256, n / 256 % 256] 1 0 = n / 256 % 256 := rfl
  unfold g16; omega
theorem k7y {l : List Int} {a : Nat} {n : Int} (h : Pf l a (pbL n 4)) (hn : 0 ≤ n ∧ n ≤ 4294967295) : g32 l a = n := by
  rw [u5j] at h
  have h0 := h.at (i := 0) (by simp); have h1 := h.at (i := 1) (by simp); have h2 := h.at (i := 2) (by simp); have h3 := h.at (i := 3) (by simp)
  simp only [kk2, kk3] at h0 h1 h2 h3
  unfold g32; omega
theorem u2t {l : List Int} {a : Nat} {n : Int} (h : Pf l a (pbL n 8)) (hn : 0 ≤ n ∧ n ≤ 18446744073709551615) : g64 l a = n := by
  rw [u5i] at h
  have h0 := h.at (i := 0) (by simp); have h1 := h.at (i := 1) (by simp); have h2 := h.at (i := 2) (by simp); have h3 := h.at (i := 3) (by simp)
  have h4 := h.at (i := 4) (by simp); have h5 := h.at (i := 5) (by simp); have h6 := h.at (i := 6) (by simp); have h7 := h.at (i := 7) (by simp)
  simp only [kk2, kk3] at h0 h1 h2 h3 h4 h5 h6 h7
  unfold g64; omega
theorem k9f {l E : List Int} {a s : Nat} (h : Pf l a E) (hs : E.length = s) : kD s l ⟨a, 0⟩ = ⟨a + s, 0⟩ := by
  have := h.le
  unfold kD; rw [if_pos rfl, if_pos (by show a + s ≤ _; omega)]
theorem iI {l : List Int} {a : Nat} {n : Int} (h : Pf l a (pbL n 2)) (hn : 0 ≤ n ∧ n ≤ 65535) : kV l ⟨a, 0⟩ = n.toNat ∧ kD 2 l ⟨a, 0⟩ = ⟨a + 2, 0⟩ := by
  have h1 := h.le; rw [pbL_len] at h1
  refine ⟨?_, k9f h (pbL_len _ _)⟩
  unfold kV; rw [if_pos ⟨rfl, h1⟩]; show Int.toNat (g16 l a) = _; rw [u2u h hn]
theorem k5n {l : List Int} {a n : Nat} (h : Pf l a (pbL ((n : Nat) : Int) 2)) (hn : n ≤ 65535) : kV l ⟨a, 0⟩ = n ∧ kD 2 l ⟨a, 0⟩ = ⟨a + 2, 0⟩ := by
  have h1 := iI h (by omega)
  exact ⟨by rw [h1.1]; exact kg6 n, h1.2⟩
theorem k1b {l : List Int} {a : Nat} {n : Int} (h : Pf l a (pbL n 4)) (hn : 0 ≤ n ∧ n ≤ 4294967295) : u7 l ⟨a, 0⟩ = n ∧ kD 4 l ⟨a, 0⟩ = ⟨a + 4, 0⟩ := by
  have h1 := h.le; rw [pbL_len] at h1
  refine ⟨?_, k9f h (pbL_len _ _)⟩
  unfold u7; rw [if_pos ⟨rfl, h1⟩]; exact k7y h hn
theorem u2g {l : List Int} {a : Nat} {n : Int} (h : Pf l a (pbL n 8)) (hn : 0 ≤ n ∧ n ≤ 18446744073709551615) : vQ l ⟨a, 0⟩ = n ∧ kD 8 l ⟨a, 0⟩ = ⟨a + 8, 0⟩ := by
  have h1 := h.le; rw [pbL_len] at h1
  refine ⟨?_, k9f h (pbL_len _ _)⟩
  unfold vQ; rw [if_pos ⟨rfl, h1⟩]; exact u2t h hn
theorem u2e {l s : List Int} {a : Nat} (h : Pf l a (y2 s)) (hs : ka1 s ≤ 64) : qO l ⟨a, 0⟩ = ⟨a + (1 + s.length), 0⟩ ∧ aA l ⟨a, 0⟩ = s := by
  have h1 := h.le; rw [qT] at h1
  have h2 : ka0 l a 0 = ((ka1 s : Nat) : Int) := h.at (i := 0) (by rw [qT]; omega)
  have h3 : uN l a = s.length := by unfold uN; rw [h2]; exact kg6 _
  have h4 : fD l a = 0 := k0o rfl (by omega) (by omega) (by omega)
  have h5 : Pf l a ([((ka1 s : Nat) : Int)] ++ s) := h
  have h6 := h5.r.sl
  unfold qO aA
  rw [if_pos rfl, if_pos h4, if_pos ⟨rfl, h4⟩]
  show (⟨a + 1 + uN l a, 0⟩ : RS) = _ ∧ ka2 (uN l a) (List.drop (a + 1) l) = s
  rw [h3]; exact ⟨by rw [ke1], h6⟩
def eK {α : Type} (h : Nat → List α) : Nat → List α
  | 0 => []
  | n + 1 => eK h n ++ h n
theorem k2q {α : Type} : ∀ (n : Nat) (h : Nat → List α), eK h (n + 1) = h 0 ++ eK (fun i => h (i + 1)) n
  | 0, h => by show [] ++ h 0 = h 0 ++ []; rw [kc8]; rfl
  | n + 1, h => by
    show eK h (n + 1) ++ h (n + 1) = h 0 ++ (eK (fun i => h (i + 1)) n ++ h (n + 1))
    rw [k2q n h, kb7]
theorem iZ {α : Type} {f : RS → RS} {v : RS → List α} : ∀ (n : Nat) (g : Nat → RS), (∀ i, i < n → kU (g i) = 0 ∧ f (g i) = g (i + 1)) → nQ f n (g 0) = g n ∧ xO f v n (g 0) = eK (fun i => v (g i)) n
  | 0, g, _ => ⟨rfl, rfl⟩
  | n + 1, g, h => by
    have h0 := h 0 (by omega)
    have h1 := iZ (f := f) (v := v) n (fun i => g (i + 1)) fun i hi => h (i + 1) (by omega)
    rw [rI h0.1, xN h0.1, k2q n, h0.2]
    exact ⟨h1.1, by rw [h1.2]⟩
theorem jB {α : Type} {h k : Nat → List α} : ∀ n, (∀ i, i < n → h i = k i) → eK h n = eK k n
  | 0, _ => rfl
  | n + 1, e => by show eK h n ++ h n = eK k n ++ k n; rw [jB n fun i hi => e i (by omega), e n (by omega)]
theorem n6 {α : Type} {l : List α} {d : α} : ∀ n, n ≤ l.length → eK (fun i => [ka0 l i d]) n = ka2 n l
  | 0, _ => rfl
  | n + 1, h => by
    show eK _ n ++ [ka0 l n d] = _
    rw [n6 n (by omega), kh1, ka9 (by omega), ka8, ka9 (by omega)]; rfl
theorem k2r {l : List Int} : ∀ n, n * 2 ≤ l.length → eK (fun i => [ka0 l (i * 2) 0, ka0 l (i * 2 + 1) 0]) n = ka2 (n * 2) l
  | 0, _ => rfl
  | n + 1, h => by
    show eK _ n ++ [ka0 l (n * 2) 0, ka0 l (n * 2 + 1) 0] = _
    rw [k2r n (by omega), show (n + 1) * 2 = n * 2 + 1 + 1 by omega, kh1, kh1, ka9 (show n * 2 < l.length by omega), ka9 (show n * 2 + 1 < l.length by omega), ka8, ka9 (show n * 2 < l.length by omega), ka8, ka9 (show n * 2 + 1 < l.length by omega)]
    rw [kb7]; rfl
theorem k7h (r : List Int) (k : Nat) : ∀ n, k < n → ∃ t, pB r n = pB r k ++ ((pbL (ka0 r (k * 2) 0) 4 ++ pbL (ka0 r (k * 2 + 1) 0) 4) ++ t)
  | 0, h => absurd h (ke5 k)
  | n + 1, h => by
    by_cases e : k = n
    · subst e; exact ⟨[], by rw [pB, kc8]⟩
    · obtain ⟨t, ht⟩ := k7h r k n zo
      exact ⟨t ++ (pbL (ka0 r (n * 2) 0) 4 ++ pbL (ka0 r (n * 2 + 1) 0) 4), by rw [pB, ht]; simp only [kb7]⟩
theorem k19 {l r : List Int} {a rn : Nat} (h : Pf l a (eX r rn)) (hr : r.length = rn * 2) (hn : rn ≤ 65535) (hR : R32 r) : uW l ⟨a, 0⟩ = ⟨a + (2 + rn * 8), 0⟩ ∧ dZ l ⟨a, 0⟩ = r ∧ aJ l ⟨a, 0⟩ = rn := by
  have h1 := k5n h.l hn
  have h2 := h.r; rw [pbL_len] at h2
  have h3 : ∀ i, i < rn → u7 l ⟨a + 2 + i * 8, 0⟩ = ka0 r (i * 2) 0 ∧ kD 4 l ⟨a + 2 + i * 8, 0⟩ = ⟨a + 2 + i * 8 + 4, 0⟩ ∧ u7 l ⟨a + 2 + i * 8 + 4, 0⟩ = ka0 r (i * 2 + 1) 0 ∧ kD 4 l ⟨a + 2 + i * 8 + 4, 0⟩ = ⟨a + 2 + (i + 1) * 8, 0⟩ := fun i hi => by
    obtain ⟨t, ht⟩ := k7h r i rn hi
    rw [ht] at h2
    have h4 := h2.r.l; rw [mH] at h4
    have h5 := k1b h4.l (hR.at (by omega))
    have h6 := h4.r; rw [pbL_len] at h6
    have h7 := k1b h6 (hR.at (by omega))
    exact ⟨h5.1, h5.2, h7.1, by rw [h7.2, show a + 2 + i * 8 + 4 + 4 = a + 2 + (i + 1) * 8 by omega]⟩
  have h8 := iZ (f := seF l) (v := seX l) rn (fun i => ⟨a + 2 + i * 8, 0⟩) fun i hi => ⟨rfl, by unfold seF; rw [(h3 i hi).2.1, (h3 i hi).2.2.2]⟩
  have e2 : dZ l ⟨a, 0⟩ = r := by
    unfold dZ; rw [h1.1, h1.2]
    refine h8.2.trans ((jB (k := fun i => [ka0 r (i * 2) 0, ka0 r (i * 2 + 1) 0]) rn fun i hi => ?_).trans ?_)
    · show [u7 l _, u7 l (kD 4 l _)] = _
      rw [(h3 i hi).1, (h3 i hi).2.1, (h3 i hi).2.2.1]
    · rw [k2r rn (by omega), ← hr, kg3]
  refine ⟨?_, e2, k5g e2 hr⟩
  unfold uW; rw [h1.1, h1.2]
  exact h8.1.trans (by show (⟨a + 2 + rn * 8, 0⟩ : RS) = _; rw [ke1])
theorem k7i (r : List Int) (k : Nat) : ∀ n, k < n → ∃ t, pC r n = pC r k ++ (pbL (ka0 r k 0) 2 ++ t)
  | 0, h => absurd h (ke5 k)
  | n + 1, h => by
    by_cases e : k = n
    · subst e; exact ⟨[], by rw [pC, kc8]⟩
    · obtain ⟨t, ht⟩ := k7i r k n zo
      exact ⟨t ++ pbL (ka0 r n 0) 2, by rw [pC, ht]; simp only [kb7]⟩
theorem k9e {l m : List Int} {a : Nat} (h : Pf l a (wpL m)) (hn : m.length ≤ 65535) (hR : R16 m) : eY l ⟨a, 0⟩ = ⟨a + (2 + m.length * 2), 0⟩ ∧ dH l ⟨a, 0⟩ = m := by
  have h1 := k5n h.l hn
  have h2 := h.r; rw [pbL_len] at h2
  have h3 : ∀ i, i < m.length → kV l ⟨a + 2 + i * 2, 0⟩ = (ka0 m i 0).toNat ∧ kD 2 l ⟨a + 2 + i * 2, 0⟩ = ⟨a + 2 + (i + 1) * 2, 0⟩ := fun i hi => by
    obtain ⟨t, ht⟩ := k7i m i m.length hi
    rw [ht] at h2
    have h4 := h2.r.l; rw [mL] at h4
    have h5 := iI h4 (hR.at hi)
    exact ⟨h5.1, by rw [h5.2, show a + 2 + i * 2 + 2 = a + 2 + (i + 1) * 2 by omega]⟩
  have h8 := iZ (f := kD 2 l) (v := dcX l) m.length (fun i => ⟨a + 2 + i * 2, 0⟩) fun i hi => ⟨rfl, (h3 i hi).2⟩
  refine ⟨?_, ?_⟩
  · unfold eY; rw [h1.1, h1.2]
    exact h8.1.trans (by show (⟨a + 2 + m.length * 2, 0⟩ : RS) = _; rw [ke1])
  · unfold dH; rw [h1.1, h1.2]
    refine h8.2.trans ((jB (k := fun i => [ka0 m i 0]) m.length fun i hi => ?_).trans ?_)
    · show [((kV l _ : Nat) : Int)] = _
      rw [(h3 i hi).1, kk6 (hR.at hi).1]
    · rw [n6 _ (kc9 _), kg3]
theorem k7j (r : List (List Int)) (k : Nat) : ∀ n, k < n → ∃ t, bS r n = bS r k ++ (wpL (ka0 r k []) ++ t)
  | 0, h => absurd h (ke5 k)
  | n + 1, h => by
    by_cases e : k = n
    · subst e; exact ⟨[], by rw [bS, kc8]⟩
    · obtain ⟨t, ht⟩ := k7j r k n zo
      exact ⟨t ++ wpL (ka0 r n []), by rw [bS, ht]; simp only [kb7]⟩
theorem k5o {l : List Int} {m : List (List Int)} {a : Nat} (h : Pf l a (a9 m)) (hn : m.length ≤ 65535) (hR : RmW m) : vT l ⟨a, 0⟩ = ⟨a + ka1 (a9 m), 0⟩ ∧ bZ l ⟨a, 0⟩ = m := by
  have h1 := k5n h.l hn
  have h2 := h.r; rw [pbL_len] at h2
  have h3 : ∀ i, i < m.length → dH l ⟨a + 2 + ka1 (bS m i), 0⟩ = ka0 m i [] ∧ eY l ⟨a + 2 + ka1 (bS m i), 0⟩ = ⟨a + 2 + ka1 (bS m (i + 1)), 0⟩ := fun i hi => by
    obtain ⟨t, ht⟩ := k7j m i m.length hi
    rw [ht] at h2
    have h5 := k9e h2.r.l (hR.at i).2 (hR.at i).1
    exact ⟨h5.2, by rw [h5.1, u1e, ke1 (a + 2)]⟩
  have h8 := iZ (f := eY l) (v := mzX l) m.length (fun i => ⟨a + 2 + ka1 (bS m i), 0⟩) fun i hi => ⟨rfl, (h3 i hi).2⟩
  refine ⟨?_, ?_⟩
  · unfold vT; rw [h1.1, h1.2]
    exact h8.1.trans (by show (⟨a + 2 + ka1 (bS m m.length), 0⟩ : RS) = _; unfold a9; rw [ka4, pbL_len, ke1])
  · unfold bZ; rw [h1.1, h1.2]
    refine h8.2.trans ((jB (k := fun i => [ka0 m i []]) m.length fun i hi => ?_).trans ?_)
    · show [dH l _] = _
      rw [(h3 i hi).1]
    · rw [n6 _ (kc9 _), kg3]
theorem k7l (r : List Bx) (k : Nat) : ∀ n, k < n → ∃ t, bF r n = bF r k ++ (wbX (fO r k) ++ t)
  | 0, h => absurd h (ke5 k)
  | n + 1, h => by
    by_cases e : k = n
    · subst e; exact ⟨[], by rw [bF, kc8]⟩
    · obtain ⟨t, ht⟩ := k7l r k n zo
      exact ⟨t ++ wbX (fO r n), by rw [bF, ht]; simp only [kb7]⟩
theorem k9g {l : List Int} {b : Bx} {a : Nat} (h : Pf l a (wbX b)) (hR : RbX b) (hW : BxW b) : dbX l ⟨a, 0⟩ = [b] ∧ dbF l ⟨a, 0⟩ = ⟨a + ka1 (wbX b), 0⟩ := by
  obtain ⟨r1, r2, r3, r4, r5, r6, r7⟩ := hR
  have h1 := iI h.l r1
  have h2 := h.r; rw [pbL_len] at h2
  have h3 := k19 h2.l hW.1 r3 r2
  have h4 := h2.r; rw [qJ] at h4
  have h5 := k5o h4.l r6 r7
  have h6 := h4.r
  have h7 := k19 h6 hW.2.1 r5 r4
  constructor
  · unfold dbX; rw [h1.1, h1.2, h3.2.1, h3.2.2, h3.1, h5.2, h5.1, h7.2.1, h7.2.2, kk6 r1.1]; rfl
  · unfold dbF wbX; rw [h1.2, h3.1, h5.1, h7.1, ka4, ka4, ka4, pbL_len, qJ, qJ]
    show RS.mk _ _ = RS.mk _ _
    congr 1; omega
theorem k1a {l : List Int} {m : List Bx} {a : Nat} (h : Pf l a (vF m)) (hn : m.length ≤ 65535) (hR : RbW m) (hW : BsW m) : lW l ⟨a, 0⟩ = ⟨a + ka1 (vF m), 0⟩ ∧ yX l ⟨a, 0⟩ = m := by
  have h1 := k5n h.l hn
  have h2 := h.r; rw [pbL_len] at h2
  have h3 : ∀ i, i < m.length → dbX l ⟨a + 2 + ka1 (bF m i), 0⟩ = [fO m i] ∧ dbF l ⟨a + 2 + ka1 (bF m i), 0⟩ = ⟨a + 2 + ka1 (bF m (i + 1)), 0⟩ := fun i hi => by
    obtain ⟨t, ht⟩ := k7l m i m.length hi
    rw [ht] at h2
    have h5 := k9g h2.r.l (hR _ (eO hi)) (hW _ (eO hi))
    exact ⟨h5.1, by rw [h5.2, bF, ka4, ke1 (a + 2)]⟩
  have h8 := iZ (f := dbF l) (v := dbX l) m.length (fun i => ⟨a + 2 + ka1 (bF m i), 0⟩) fun i hi => ⟨rfl, (h3 i hi).2⟩
  refine ⟨?_, ?_⟩
  · unfold lW; rw [h1.1, h1.2]
    exact h8.1.trans (by show (⟨a + 2 + ka1 (bF m m.length), 0⟩ : RS) = _; unfold vF; rw [ka4, pbL_len, ke1])
  · unfold yX; rw [h1.1, h1.2]
    refine h8.2.trans ((jB (k := fun i => [ka0 m i bx0]) m.length fun i hi => (h3 i hi).1).trans ?_)
    rw [n6 _ (kc9 _), kg3]
theorem m7 {id : Int} {nm : List Int} {d1 d2 d3 d4 d5 : Int} {bs : List Bx} {n : Nat} (h : DeW id nm d1 d2 d3 d4 d5 bs n) {l : List Int} (r : List Int) (hl : l = sI id nm d1 d2 d3 d4 d5 bs ++ r) :
    dG l qB = ⟨ka1 (sI id nm d1 d2 d3 d4 d5 bs), 0⟩ ∧ vQ l qB = id ∧ aA l (dz1 l qB) = nm ∧ ((kV l (jH l qB) : Nat) : Int) = d1 ∧ ((kV l (jG l qB) : Nat) : Int) = d2 ∧ u7 l (jF l qB) = d3 ∧ ((kV l (jE l qB) : Nat) : Int) = d4 ∧ ((kV l (jD l qB) : Nat) : Int) = d5 ∧ yX l (aS l qB) = bs := by
  have hd := h.d; have hi := h.i; have hm := h.l; have hn := h.n; have hr := h.r
  have p0 : Pf l 0 ([83, 78, 68, 49] ++ (pbL id 8 ++ (y2 nm ++ (pbL d1 2 ++ (pbL d2 2 ++ (pbL d3 4 ++ (pbL d4 2 ++ (pbL d5 2 ++ vF bs)))))))) := ⟨[], r, by rw [hl]; unfold sI; simp only [kb7, List.nil_append], rfl⟩
  have p1 : Pf l 4 (pbL id 8 ++ (y2 nm ++ (pbL d1 2 ++ (pbL d2 2 ++ (pbL d3 4 ++ (pbL d4 2 ++ (pbL d5 2 ++ vF bs))))))) := p0.r
  have q1 := u2g p1.l (by omega)
  have p2 := p1.r; rw [pbL_len] at p2
  have q2 := u2e p2.l hm.2
  have p3 := p2.r; rw [qT] at p3
  have q3 := iI p3.l (by omega)
  have p4 := p3.r; rw [pbL_len] at p4
  have q4 := iI p4.l (by omega)
  have p5 := p4.r; rw [pbL_len] at p5
  have q5 := k1b p5.l (by omega)
  have p6 := p5.r; rw [pbL_len] at p6
  have q6 := iI p6.l (by omega)
  have p7 := p6.r; rw [pbL_len] at p7
  have q7 := iI p7.l (by omega)
  have p8 := p7.r; rw [pbL_len] at p8
  have q8 := k1a p8 (by omega) hr.1 h.w
  have e1 : dz1 l qB = ⟨4 + 8, 0⟩ := q1.2
  have e2 : jH l qB = ⟨4 + 8 + (1 + nm.length), 0⟩ := by unfold jH; rw [e1]; exact q2.1
  have e3 : jG l qB = ⟨4 + 8 + (1 + nm.length) + 2, 0⟩ := by unfold jG; rw [e2]; exact q3.2
  have e4 : jF l qB = ⟨4 + 8 + (1 + nm.length) + 2 + 2, 0⟩ := by unfold jF; rw [e3]; exact q4.2
  have e5 : jE l qB = ⟨4 + 8 + (1 + nm.length) + 2 + 2 + 4, 0⟩ := by unfold jE; rw [e4]; exact q5.2
  have e6 : jD l qB = ⟨4 + 8 + (1 + nm.length) + 2 + 2 + 4 + 2, 0⟩ := by unfold jD; rw [e5]; exact q6.2
  have e7 : aS l qB = ⟨4 + 8 + (1 + nm.length) + 2 + 2 + 4 + 2 + 2, 0⟩ := by unfold aS; rw [e6]; exact q7.2
  refine ⟨?_, q1.1, ?_, ?_, ?_, ?_, ?_, ?_, ?_⟩
  · unfold dG; rw [e7, q8.1, oK]
    show RS.mk _ _ = RS.mk _ _
    congr 1; omega
  · rw [e1]; exact q2.2
  · rw [e2, q3.1]; omega
  · rw [e3, q4.1]; omega
  · rw [e4, q5.1]
  · rw [e5, q6.1]; omega
  · rw [e6, q7.1]; omega
  · rw [e7]; exact q8.2
end Go.Proofs.Ytalbpleglapihaa
