/- What was written is read again. No statement is proved here. -/
import Derived.Test.YtdbjebdomdnbkaaGreatZD11G
namespace Go.Proofs.YtdbjebdomdnbkaaGreat
open Go.ChangeShapes Go.WideShapes Go.ChangeAt Go.RowKit
open Int renaming toNat_natCast → kg4, toNat_of_nonneg → kk9
open List renaming append_assoc → kc2, append_nil → kd1, getD → ka0, getD_cons_succ → kk6, getD_cons_zero → kk5, getD_eq_getElem?_getD → ka8, getElem?_eq_getElem → ka9, length → ka1, length_append → ka4, take → ka2, take_add_one → kh0, take_length → kg1
open Nat renaming add_assoc → ke2, le_refl → kc7, not_lt_zero → kd5
set_option linter.unusedVariables false
set_option linter.unusedSimpArgs false
/-! chapter 11: what was written is read again -/
def Pf (l : List Int) (a : Nat) (E : List Int) : Prop := ∃ x r, l = x ++ (E ++ r) ∧ x.length = a
theorem Pf.l {l E F : List Int} {a : Nat} (h : Pf l a (E ++ F)) : Pf l a E := by
  obtain ⟨x, r, e, hx⟩ := h
  exact ⟨x, F ++ r, by rw [e, kc2], hx⟩
theorem Pf.r {l E F : List Int} {a : Nat} (h : Pf l a (E ++ F)) : Pf l (a + E.length) F := by
  obtain ⟨x, r, e, hx⟩ := h
  exact ⟨x ++ E, r, by rw [e]; simp only [kc2], by rw [ka4, hx]⟩
theorem Pf.le {l E : List Int} {a : Nat} (h : Pf l a E) : a + E.length ≤ l.length := by
  obtain ⟨x, r, e, hx⟩ := h
  rw [e, ka4, ka4]; omega
theorem Pf.at {l E : List Int} {a : Nat} (h : Pf l a E) {i : Nat} (hi : i < E.length) : ka0 l (a + i) 0 = ka0 E i 0 := by
  obtain ⟨x, r, e, hx⟩ := h
  rw [e, xM (by omega), show a + i - x.length = i by omega, c5 hi]
theorem Pf.sl {l E : List Int} {a : Nat} (h : Pf l a E) : ka2 E.length (List.drop a l) = E := by
  obtain ⟨x, r, e, hx⟩ := h
  subst hx
  rw [e, List.drop_left, List.take_left]
theorem u8j (n : Int) : pbL n 2 = [n % 256, n / 256 % 256] := by simp [pbL]
theorem u8i (n : Int) : pbL n 4 = [n % 256, n / 256 % 256, n / 65536 % 256, n / 16777216 % 256] := by simp [pbL]
theorem u8h (n : Int) : pbL n 8 = [n % 256, n / 256 % 256, n / 65536 % 256, n / 16777216 % 256, n / 4294967296 % 256, n / 1099511627776 % 256, n / 281474976710656 % 256, n / 72057594037927936 % 256] := by simp [pbL]
theorem u5u {l : List Int} {a : Nat} {n : Int} (h : Pf l a (pbL n 2)) (hn : 0 ≤ n ∧ n ≤ 65535) : g16 l a = n := by
  rw [u8j] at h
  have h0 := h.at (i := 0) (by simp); have h1 := h.at (i := 1) (by simp)
  have e0 : ka0 [n % 256, n / 256 % 256] 0 0 = n % 256 := rfl
  have e1 : ka0 [n % 256, n / 256 % 256] 1 0 = n / 256 % 256 := rfl
  unfold g16; omega
theorem u5t {l : List Int} {a : Nat} {n : Int} (h : Pf l a (pbL n 4)) (hn : 0 ≤ n ∧ n ≤ 4294967295) : g32 l a = n := by
  rw [u8i] at h
  have h0 := h.at (i := 0) (by simp); have h1 := h.at (i := 1) (by simp); have h2 := h.at (i := 2) (by simp); have h3 := h.at (i := 3) (by simp)
  simp only [kk5, kk6] at h0 h1 h2 h3
  unfold g32; omega
theorem u5s {l : List Int} {a : Nat} {n : Int} (h : Pf l a (pbL n 8)) (hn : 0 ≤ n ∧ n ≤ 18446744073709551615) : g64 l a = n := by
  rw [u8h] at h
  have h0 := h.at (i := 0) (by simp); have h1 := h.at (i := 1) (by simp); have h2 := h.at (i := 2) (by simp); have h3 := h.at (i := 3) (by simp)
  have h4 := h.at (i := 4) (by simp); have h5 := h.at (i := 5) (by simp); have h6 := h.at (i := 6) (by simp); have h7 := h.at (i := 7) (by simp)
  simp only [kk5, kk6] at h0 h1 h2 h3 h4 h5 h6 h7
  unfold g64; omega
theorem u24 {l E : List Int} {a s : Nat} (h : Pf l a E) (hs : E.length = s) : kE s l ⟨a, 0⟩ = ⟨a + s, 0⟩ := by
  have := h.le
  unfold kE; rw [if_pos rfl, if_pos (by show a + s ≤ _; omega)]
theorem j0 {l : List Int} {a : Nat} {n : Int} (h : Pf l a (pbL n 2)) (hn : 0 ≤ n ∧ n ≤ 65535) : kK l ⟨a, 0⟩ = n.toNat ∧ kE 2 l ⟨a, 0⟩ = ⟨a + 2, 0⟩ := by
  have h1 := h.le; rw [pbL_len] at h1
  refine ⟨?_, u24 h (pbL_len _ _)⟩
  unfold kK; rw [if_pos ⟨rfl, h1⟩]; show Int.toNat (g16 l a) = _; rw [u5u h hn]
theorem k7n {l : List Int} {a n : Nat} (h : Pf l a (pbL ((n : Nat) : Int) 2)) (hn : n ≤ 65535) : kK l ⟨a, 0⟩ = n ∧ kE 2 l ⟨a, 0⟩ = ⟨a + 2, 0⟩ := by
  have h1 := j0 h (by omega)
  exact ⟨by rw [h1.1]; exact kg4 n, h1.2⟩
theorem k2o {l : List Int} {a : Nat} {n : Int} (h : Pf l a (pbL n 4)) (hn : 0 ≤ n ∧ n ≤ 4294967295) : qU l ⟨a, 0⟩ = n ∧ kE 4 l ⟨a, 0⟩ = ⟨a + 4, 0⟩ := by
  have h1 := h.le; rw [pbL_len] at h1
  refine ⟨?_, u24 h (pbL_len _ _)⟩
  unfold qU; rw [if_pos ⟨rfl, h1⟩]; exact u5t h hn
theorem u5f {l : List Int} {a : Nat} {n : Int} (h : Pf l a (pbL n 8)) (hn : 0 ≤ n ∧ n ≤ 18446744073709551615) : uW l ⟨a, 0⟩ = n ∧ kE 8 l ⟨a, 0⟩ = ⟨a + 8, 0⟩ := by
  have h1 := h.le; rw [pbL_len] at h1
  refine ⟨?_, u24 h (pbL_len _ _)⟩
  unfold uW; rw [if_pos ⟨rfl, h1⟩]; exact u5s h hn
theorem u5d {l s : List Int} {a : Nat} (h : Pf l a (yB s)) (hs : ka1 s ≤ 64) : uA l ⟨a, 0⟩ = ⟨a + (1 + s.length), 0⟩ ∧ aP l ⟨a, 0⟩ = s := by
  have h1 := h.le; rw [qP] at h1
  have h2 : ka0 l a 0 = ((ka1 s : Nat) : Int) := h.at (i := 0) (by rw [qP]; omega)
  have h3 : uI l a = s.length := by unfold uI; rw [h2]; exact kg4 _
  have h4 : vC l a = 0 := zI rfl (by omega) (by omega) (by omega)
  have h5 : Pf l a ([((ka1 s : Nat) : Int)] ++ s) := h
  have h6 := h5.r.sl
  unfold uA aP
  rw [if_pos rfl, if_pos h4, if_pos ⟨rfl, h4⟩]
  show (⟨a + 1 + uI l a, 0⟩ : RS) = _ ∧ ka2 (uI l a) (List.drop (a + 1) l) = s
  rw [h3]; exact ⟨by rw [ke2], h6⟩
def fV {α : Type} (h : Nat → List α) : Nat → List α
  | 0 => []
  | n + 1 => fV h n ++ h n
theorem k49 {α : Type} : ∀ (n : Nat) (h : Nat → List α), fV h (n + 1) = h 0 ++ fV (fun i => h (i + 1)) n
  | 0, h => by show [] ++ h 0 = h 0 ++ []; rw [kd1]; rfl
  | n + 1, h => by
    show fV h (n + 1) ++ h (n + 1) = h 0 ++ (fV (fun i => h (i + 1)) n ++ h (n + 1))
    rw [k49 n h, kc2]
theorem lG {α : Type} {f : RS → RS} {v : RS → List α} : ∀ (n : Nat) (g : Nat → RS), (∀ i, i < n → qC (g i) = 0 ∧ f (g i) = g (i + 1)) → mI f n (g 0) = g n ∧ wD f v n (g 0) = fV (fun i => v (g i)) n
  | 0, g, _ => ⟨rfl, rfl⟩
  | n + 1, g, h => by
    have h0 := h 0 (by omega)
    have h1 := lG (f := f) (v := v) n (fun i => g (i + 1)) fun i hi => h (i + 1) (by omega)
    rw [lH h0.1, s8 h0.1, k49 n, h0.2]
    exact ⟨h1.1, by rw [h1.2]⟩
theorem lO {α : Type} {h k : Nat → List α} : ∀ n, (∀ i, i < n → h i = k i) → fV h n = fV k n
  | 0, _ => rfl
  | n + 1, e => by show fV h n ++ h n = fV k n ++ k n; rw [lO n fun i hi => e i (by omega), e n (by omega)]
theorem pO {α : Type} {l : List α} {d : α} : ∀ n, n ≤ l.length → fV (fun i => [ka0 l i d]) n = ka2 n l
  | 0, _ => rfl
  | n + 1, h => by
    show fV _ n ++ [ka0 l n d] = _
    rw [pO n (by omega), kh0, ka9 (by omega), ka8, ka9 (by omega)]; rfl
theorem k4a {l : List Int} : ∀ n, n * 2 ≤ l.length → fV (fun i => [ka0 l (i * 2) 0, ka0 l (i * 2 + 1) 0]) n = ka2 (n * 2) l
  | 0, _ => rfl
  | n + 1, h => by
    show fV _ n ++ [ka0 l (n * 2) 0, ka0 l (n * 2 + 1) 0] = _
    rw [k4a n (by omega), show (n + 1) * 2 = n * 2 + 1 + 1 by omega, kh0, kh0, ka9 (show n * 2 < l.length by omega), ka9 (show n * 2 + 1 < l.length by omega), ka8, ka9 (show n * 2 < l.length by omega), ka8, ka9 (show n * 2 + 1 < l.length by omega)]
    rw [kc2]; rfl
theorem k9m (r : List Int) (k : Nat) : ∀ n, k < n → ∃ t, nY r n = nY r k ++ ((pbL (ka0 r (k * 2) 0) 4 ++ pbL (ka0 r (k * 2 + 1) 0) 4) ++ t)
  | 0, h => absurd h (kd5 k)
  | n + 1, h => by
    by_cases e : k = n
    · subst e; exact ⟨[], by rw [nY, kd1]⟩
    · obtain ⟨t, ht⟩ := k9m r k n zo
      exact ⟨t ++ (pbL (ka0 r (n * 2) 0) 4 ++ pbL (ka0 r (n * 2 + 1) 0) 4), by rw [nY, ht]; simp only [kc2]⟩
theorem k2m {l r : List Int} {a rn : Nat} (h : Pf l a (aS r rn)) (hr : r.length = rn * 2) (hn : rn ≤ 65535) (hR : R32 r) : yD l ⟨a, 0⟩ = ⟨a + (2 + rn * 8), 0⟩ ∧ eX l ⟨a, 0⟩ = r ∧ bP l ⟨a, 0⟩ = rn := by
  have h1 := k7n h.l hn
  have h2 := h.r; rw [pbL_len] at h2
  have h3 : ∀ i, i < rn → qU l ⟨a + 2 + i * 8, 0⟩ = ka0 r (i * 2) 0 ∧ kE 4 l ⟨a + 2 + i * 8, 0⟩ = ⟨a + 2 + i * 8 + 4, 0⟩ ∧ qU l ⟨a + 2 + i * 8 + 4, 0⟩ = ka0 r (i * 2 + 1) 0 ∧ kE 4 l ⟨a + 2 + i * 8 + 4, 0⟩ = ⟨a + 2 + (i + 1) * 8, 0⟩ := fun i hi => by
    obtain ⟨t, ht⟩ := k9m r i rn hi
    rw [ht] at h2
    have h4 := h2.r.l; rw [nX] at h4
    have h5 := k2o h4.l (hR.at (by omega))
    have h6 := h4.r; rw [pbL_len] at h6
    have h7 := k2o h6 (hR.at (by omega))
    exact ⟨h5.1, h5.2, h7.1, by rw [h7.2, show a + 2 + i * 8 + 4 + 4 = a + 2 + (i + 1) * 8 by omega]⟩
  have h8 := lG (f := seF l) (v := seX l) rn (fun i => ⟨a + 2 + i * 8, 0⟩) fun i hi => ⟨rfl, by unfold seF; rw [(h3 i hi).2.1, (h3 i hi).2.2.2]⟩
  have e2 : eX l ⟨a, 0⟩ = r := by
    unfold eX; rw [h1.1, h1.2]
    refine h8.2.trans ((lO (k := fun i => [ka0 r (i * 2) 0, ka0 r (i * 2 + 1) 0]) rn fun i hi => ?_).trans ?_)
    · show [qU l _, qU l (kE 4 l _)] = _
      rw [(h3 i hi).1, (h3 i hi).2.1, (h3 i hi).2.2.1]
    · rw [k4a rn (by omega), ← hr, kg1]
  refine ⟨?_, e2, k7g e2 hr⟩
  unfold yD; rw [h1.1, h1.2]
  exact h8.1.trans (by show (⟨a + 2 + rn * 8, 0⟩ : RS) = _; rw [ke2])
theorem k9n (r : List Int) (k : Nat) : ∀ n, k < n → ∃ t, oC r n = oC r k ++ (pbL (ka0 r k 0) 2 ++ t)
  | 0, h => absurd h (kd5 k)
  | n + 1, h => by
    by_cases e : k = n
    · subst e; exact ⟨[], by rw [oC, kd1]⟩
    · obtain ⟨t, ht⟩ := k9n r k n zo
      exact ⟨t ++ pbL (ka0 r n 0) 2, by rw [oC, ht]; simp only [kc2]⟩
theorem u23 {l m : List Int} {a : Nat} (h : Pf l a (wpL m)) (hn : m.length ≤ 65535) (hR : R16 m) : fZ l ⟨a, 0⟩ = ⟨a + (2 + m.length * 2), 0⟩ ∧ eH l ⟨a, 0⟩ = m := by
  have h1 := k7n h.l hn
  have h2 := h.r; rw [pbL_len] at h2
  have h3 : ∀ i, i < m.length → kK l ⟨a + 2 + i * 2, 0⟩ = (ka0 m i 0).toNat ∧ kE 2 l ⟨a + 2 + i * 2, 0⟩ = ⟨a + 2 + (i + 1) * 2, 0⟩ := fun i hi => by
    obtain ⟨t, ht⟩ := k9n m i m.length hi
    rw [ht] at h2
    have h4 := h2.r.l; rw [oB] at h4
    have h5 := j0 h4 (hR.at hi)
    exact ⟨h5.1, by rw [h5.2, show a + 2 + i * 2 + 2 = a + 2 + (i + 1) * 2 by omega]⟩
  have h8 := lG (f := kE 2 l) (v := dcX l) m.length (fun i => ⟨a + 2 + i * 2, 0⟩) fun i hi => ⟨rfl, (h3 i hi).2⟩
  refine ⟨?_, ?_⟩
  · unfold fZ; rw [h1.1, h1.2]
    exact h8.1.trans (by show (⟨a + 2 + m.length * 2, 0⟩ : RS) = _; rw [ke2])
  · unfold eH; rw [h1.1, h1.2]
    refine h8.2.trans ((lO (k := fun i => [ka0 m i 0]) m.length fun i hi => ?_).trans ?_)
    · show [((kK l _ : Nat) : Int)] = _
      rw [(h3 i hi).1, kk9 (hR.at hi).1]
    · rw [pO _ (kc7 _), kg1]
theorem k9o (r : List (List Int)) (k : Nat) : ∀ n, k < n → ∃ t, bN r n = bN r k ++ (wpL (ka0 r k []) ++ t)
  | 0, h => absurd h (kd5 k)
  | n + 1, h => by
    by_cases e : k = n
    · subst e; exact ⟨[], by rw [bN, kd1]⟩
    · obtain ⟨t, ht⟩ := k9o r k n zo
      exact ⟨t ++ wpL (ka0 r n []), by rw [bN, ht]; simp only [kc2]⟩
theorem k7o {l : List Int} {m : List (List Int)} {a : Nat} (h : Pf l a (bC m)) (hn : m.length ≤ 65535) (hR : RmW m) : aW l ⟨a, 0⟩ = ⟨a + ka1 (bC m), 0⟩ ∧ dD l ⟨a, 0⟩ = m := by
  have h1 := k7n h.l hn
  have h2 := h.r; rw [pbL_len] at h2
  have h3 : ∀ i, i < m.length → eH l ⟨a + 2 + ka1 (bN m i), 0⟩ = ka0 m i [] ∧ fZ l ⟨a + 2 + ka1 (bN m i), 0⟩ = ⟨a + 2 + ka1 (bN m (i + 1)), 0⟩ := fun i hi => by
    obtain ⟨t, ht⟩ := k9o m i m.length hi
    rw [ht] at h2
    have h5 := u23 h2.r.l (hR.at i).2 (hR.at i).1
    exact ⟨h5.2, by rw [h5.1, u1l, ke2 (a + 2)]⟩
  have h8 := lG (f := fZ l) (v := mzX l) m.length (fun i => ⟨a + 2 + ka1 (bN m i), 0⟩) fun i hi => ⟨rfl, (h3 i hi).2⟩
  refine ⟨?_, ?_⟩
  · unfold aW; rw [h1.1, h1.2]
    exact h8.1.trans (by show (⟨a + 2 + ka1 (bN m m.length), 0⟩ : RS) = _; unfold bC; rw [ka4, pbL_len, ke2])
  · unfold dD; rw [h1.1, h1.2]
    refine h8.2.trans ((lO (k := fun i => [ka0 m i []]) m.length fun i hi => ?_).trans ?_)
    · show [eH l _] = _
      rw [(h3 i hi).1]
    · rw [pO _ (kc7 _), kg1]
theorem k9q (r : List Bx) (k : Nat) : ∀ n, k < n → ∃ t, aZ r n = aZ r k ++ (wbX (iB r k) ++ t)
  | 0, h => absurd h (kd5 k)
  | n + 1, h => by
    by_cases e : k = n
    · subst e; exact ⟨[], by rw [aZ, kd1]⟩
    · obtain ⟨t, ht⟩ := k9q r k n zo
      exact ⟨t ++ wbX (iB r n), by rw [aZ, ht]; simp only [kc2]⟩
theorem u25 {l : List Int} {b : Bx} {a : Nat} (h : Pf l a (wbX b)) (hR : RbX b) (hW : BxW b) : dbX l ⟨a, 0⟩ = [b] ∧ dbF l ⟨a, 0⟩ = ⟨a + ka1 (wbX b), 0⟩ := by
  obtain ⟨r1, r2, r3, r4, r5, r6, r7⟩ := hR
  have h1 := j0 h.l r1
  have h2 := h.r; rw [pbL_len] at h2
  have h3 := k2m h2.l hW.1 r3 r2
  have h4 := h2.r; rw [qI] at h4
  have h5 := k7o h4.l r6 r7
  have h6 := h4.r
  have h7 := k2m h6 hW.2.1 r5 r4
  constructor
  · unfold dbX; rw [h1.1, h1.2, h3.2.1, h3.2.2, h3.1, h5.2, h5.1, h7.2.1, h7.2.2, kk9 r1.1]; rfl
  · unfold dbF wbX; rw [h1.2, h3.1, h5.1, h7.1, ka4, ka4, ka4, pbL_len, qI, qI]
    show RS.mk _ _ = RS.mk _ _
    congr 1; omega
theorem k2n {l : List Int} {m : List Bx} {a : Nat} (h : Pf l a (vW m)) (hn : m.length ≤ 65535) (hR : RbW m) (hW : BsW m) : mM l ⟨a, 0⟩ = ⟨a + ka1 (vW m), 0⟩ ∧ vD l ⟨a, 0⟩ = m := by
  have h1 := k7n h.l hn
  have h2 := h.r; rw [pbL_len] at h2
  have h3 : ∀ i, i < m.length → dbX l ⟨a + 2 + ka1 (aZ m i), 0⟩ = [iB m i] ∧ dbF l ⟨a + 2 + ka1 (aZ m i), 0⟩ = ⟨a + 2 + ka1 (aZ m (i + 1)), 0⟩ := fun i hi => by
    obtain ⟨t, ht⟩ := k9q m i m.length hi
    rw [ht] at h2
    have h5 := u25 h2.r.l (hR _ (gA hi)) (hW _ (gA hi))
    exact ⟨h5.1, by rw [h5.2, aZ, ka4, ke2 (a + 2)]⟩
  have h8 := lG (f := dbF l) (v := dbX l) m.length (fun i => ⟨a + 2 + ka1 (aZ m i), 0⟩) fun i hi => ⟨rfl, (h3 i hi).2⟩
  refine ⟨?_, ?_⟩
  · unfold mM; rw [h1.1, h1.2]
    exact h8.1.trans (by show (⟨a + 2 + ka1 (aZ m m.length), 0⟩ : RS) = _; unfold vW; rw [ka4, pbL_len, ke2])
  · unfold vD; rw [h1.1, h1.2]
    refine h8.2.trans ((lO (k := fun i => [ka0 m i bx0]) m.length fun i hi => (h3 i hi).1).trans ?_)
    rw [pO _ (kc7 _), kg1]
theorem zW {id : Int} {nm : List Int} {d1 d2 d3 d4 d5 : Int} {bs : List Bx} {n : Nat} (h : DeW id nm d1 d2 d3 d4 d5 bs n) {l : List Int} (r : List Int) (hl : l = l8 id nm d1 d2 d3 d4 d5 bs ++ r) :
    cP l qE = ⟨ka1 (l8 id nm d1 d2 d3 d4 d5 bs), 0⟩ ∧ uW l qE = id ∧ aP l (dz1 l qE) = nm ∧ ((kK l (gR l qE) : Nat) : Int) = d1 ∧ ((kK l (gQ l qE) : Nat) : Int) = d2 ∧ qU l (gP l qE) = d3 ∧ ((kK l (gO l qE) : Nat) : Int) = d4 ∧ ((kK l (gN l qE) : Nat) : Int) = d5 ∧ vD l (bJ l qE) = bs := by
  have hd := h.d; have hi := h.i; have hm := h.l; have hn := h.n; have hr := h.r
  have p0 : Pf l 0 ([83, 78, 68, 49] ++ (pbL id 8 ++ (yB nm ++ (pbL d1 2 ++ (pbL d2 2 ++ (pbL d3 4 ++ (pbL d4 2 ++ (pbL d5 2 ++ vW bs)))))))) := ⟨[], r, by rw [hl]; unfold l8; simp only [kc2, List.nil_append], rfl⟩
  have p1 : Pf l 4 (pbL id 8 ++ (yB nm ++ (pbL d1 2 ++ (pbL d2 2 ++ (pbL d3 4 ++ (pbL d4 2 ++ (pbL d5 2 ++ vW bs))))))) := p0.r
  have q1 := u5f p1.l (by omega)
  have p2 := p1.r; rw [pbL_len] at p2
  have q2 := u5d p2.l hm.2
  have p3 := p2.r; rw [qP] at p3
  have q3 := j0 p3.l (by omega)
  have p4 := p3.r; rw [pbL_len] at p4
  have q4 := j0 p4.l (by omega)
  have p5 := p4.r; rw [pbL_len] at p5
  have q5 := k2o p5.l (by omega)
  have p6 := p5.r; rw [pbL_len] at p6
  have q6 := j0 p6.l (by omega)
  have p7 := p6.r; rw [pbL_len] at p7
  have q7 := j0 p7.l (by omega)
  have p8 := p7.r; rw [pbL_len] at p8
  have q8 := k2n p8 (by omega) hr.1 h.w
  have e1 : dz1 l qE = ⟨4 + 8, 0⟩ := q1.2
  have e2 : gR l qE = ⟨4 + 8 + (1 + nm.length), 0⟩ := by unfold gR; rw [e1]; exact q2.1
  have e3 : gQ l qE = ⟨4 + 8 + (1 + nm.length) + 2, 0⟩ := by unfold gQ; rw [e2]; exact q3.2
  have e4 : gP l qE = ⟨4 + 8 + (1 + nm.length) + 2 + 2, 0⟩ := by unfold gP; rw [e3]; exact q4.2
  have e5 : gO l qE = ⟨4 + 8 + (1 + nm.length) + 2 + 2 + 4, 0⟩ := by unfold gO; rw [e4]; exact q5.2
  have e6 : gN l qE = ⟨4 + 8 + (1 + nm.length) + 2 + 2 + 4 + 2, 0⟩ := by unfold gN; rw [e5]; exact q6.2
  have e7 : bJ l qE = ⟨4 + 8 + (1 + nm.length) + 2 + 2 + 4 + 2 + 2, 0⟩ := by unfold bJ; rw [e6]; exact q7.2
  refine ⟨?_, q1.1, ?_, ?_, ?_, ?_, ?_, ?_, ?_⟩
  · unfold cP; rw [e7, q8.1, gB]
    show RS.mk _ _ = RS.mk _ _
    congr 1; omega
  · rw [e1]; exact q2.2
  · rw [e2, q3.1]; omega
  · rw [e3, q4.1]; omega
  · rw [e4, q5.1]
  · rw [e5, q6.1]; omega
  · rw [e6, q7.1]; omega
  · rw [e7]; exact q8.2
end Go.Proofs.YtdbjebdomdnbkaaGreat
