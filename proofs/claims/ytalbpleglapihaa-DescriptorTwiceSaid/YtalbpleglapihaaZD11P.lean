/- What was written is read again. No statement is proved here. -/
import Derived.Test.YtalbpleglapihaaZD11G
namespace Go.Proofs.Ytalbpleglapihaa
open Go.ChangeShapes Go.WideShapes Go.ChangeAt Go.RowKit
open Int renaming toNat_natCast → kg4, toNat_of_nonneg → kk4
open List renaming append_assoc → kb7, append_nil → kc6, getD → ka0, getD_cons_succ → kk1, getD_cons_zero → kk0, getD_eq_getElem?_getD → ka8, getElem?_eq_getElem → ka9, length → ka1, length_append → ka4, take → ka2, take_add_one → kg9, take_length → kg1
open Nat renaming add_assoc → kd9, le_refl → kc7, not_lt_zero → ke9
set_option linter.unusedVariables false
set_option linter.unusedSimpArgs false
/-! chapter 11: what was written is read again -/
def Pf (l : List Int) (a : Nat) (E : List Int) : Prop := ∃ x r, l = x ++ (E ++ r) ∧ x.length = a
theorem Pf.l {l E F : List Int} {a : Nat} (h : Pf l a (E ++ F)) : Pf l a E := by
  obtain ⟨x, r, e, hx⟩ := h
  exact ⟨x, F ++ r, by rw [e, kb7], hx⟩
theorem Pf.r {l E F : List Int} {a : Nat} (h : Pf l a (E ++ F)) : Pf l (a + E.length) F := by
  obtain ⟨x, r, e, hx⟩ := h
  exact ⟨x ++ E, r, by rw [e]; simp only [kb7], by rw [ka4, hx]⟩
theorem Pf.le {l E : List Int} {a : Nat} (h : Pf l a E) : a + E.length ≤ l.length := by
  obtain ⟨x, r, e, hx⟩ := h
  rw [e, ka4, ka4]; omega
theorem Pf.at {l E : List Int} {a : Nat} (h : Pf l a E) {i : Nat} (hi : i < E.length) : ka0 l (a + i) 0 = ka0 E i 0 := by
  obtain ⟨x, r, e, hx⟩ := h
  rw [e, sR (by omega), show a + i - x.length = i by omega, bB hi]
theorem Pf.sl {l E : List Int} {a : Nat} (h : Pf l a E) : ka2 E.length (List.drop a l) = E := by
  obtain ⟨x, r, e, hx⟩ := h
  subst hx
  rw [e, List.drop_left, List.take_left]
theorem u44 (n : Int) : pbL n 2 = [n % 256, n / 256 % 256] := by simp [pbL]
theorem u43 (n : Int) : pbL n 4 = [n % 256, n / 256 % 256, n / 65536 % 256, n / 16777216 % 256] := by simp [pbL]
theorem u42 (n : Int) : pbL n 8 = [n % 256, n / 256 % 256, n / 65536 % 256, n / 16777216 % 256, n / 4294967296 % 256, n / 1099511627776 % 256, n / 281474976710656 % 256, n / 72057594037927936 % 256] := by simp [pbL]
theorem u1b {l : List Int} {a : Nat} {n : Int} (h : Pf l a (pbL n 2)) (hn : 0 ≤ n ∧ n ≤ 65535) : g16 l a = n := by
  rw [u44] at h
  have h0 := h.at (i := 0) (by simp); have h1 := h.at (i := 1) (by simp)
  have e0 : ka0 [n % 256, n / 256 % 256] 0 0 = n % 256 := rfl
  have e1 : ka0 [n % 256, n / 256 % 256] 1 0 = n / 256 % 256 := rfl
  unfold g16; omega
theorem k6k {l : List Int} {a : Nat} {n : Int} (h : Pf l a (pbL n 4)) (hn : 0 ≤ n ∧ n ≤ 4294967295) : g32 l a = n := by
  rw [u43] at h
  have h0 := h.at (i := 0) (by simp); have h1 := h.at (i := 1) (by simp); have h2 := h.at (i := 2) (by simp); have h3 := h.at (i := 3) (by simp)
  simp only [kk0, kk1] at h0 h1 h2 h3
  unfold g32; omega
theorem u1a {l : List Int} {a : Nat} {n : Int} (h : Pf l a (pbL n 8)) (hn : 0 ≤ n ∧ n ≤ 18446744073709551615) : g64 l a = n := by
  rw [u42] at h
  have h0 := h.at (i := 0) (by simp); have h1 := h.at (i := 1) (by simp); have h2 := h.at (i := 2) (by simp); have h3 := h.at (i := 3) (by simp)
  have h4 := h.at (i := 4) (by simp); have h5 := h.at (i := 5) (by simp); have h6 := h.at (i := 6) (by simp); have h7 := h.at (i := 7) (by simp)
  simp only [kk0, kk1] at h0 h1 h2 h3 h4 h5 h6 h7
  unfold g64; omega
theorem k80 {l E : List Int} {a s : Nat} (h : Pf l a E) (hs : E.length = s) : kD s l ⟨a, 0⟩ = ⟨a + s, 0⟩ := by
  have := h.le
  unfold kD; rw [if_pos rfl, if_pos (by show a + s ≤ _; omega)]
theorem gV {l : List Int} {a : Nat} {n : Int} (h : Pf l a (pbL n 2)) (hn : 0 ≤ n ∧ n ≤ 65535) : kV l ⟨a, 0⟩ = n.toNat ∧ kD 2 l ⟨a, 0⟩ = ⟨a + 2, 0⟩ := by
  have h1 := h.le; rw [pbL_len] at h1
  refine ⟨?_, k80 h (pbL_len _ _)⟩
  unfold kV; rw [if_pos ⟨rfl, h1⟩]; show Int.toNat (g16 l a) = _; rw [u1b h hn]
theorem k4f {l : List Int} {a n : Nat} (h : Pf l a (pbL ((n : Nat) : Int) 2)) (hn : n ≤ 65535) : kV l ⟨a, 0⟩ = n ∧ kD 2 l ⟨a, 0⟩ = ⟨a + 2, 0⟩ := by
  have h1 := gV h (by omega)
  exact ⟨by rw [h1.1]; exact kg4 n, h1.2⟩
theorem k0a {l : List Int} {a : Nat} {n : Int} (h : Pf l a (pbL n 4)) (hn : 0 ≤ n ∧ n ≤ 4294967295) : yA l ⟨a, 0⟩ = n ∧ kD 4 l ⟨a, 0⟩ = ⟨a + 4, 0⟩ := by
  have h1 := h.le; rw [pbL_len] at h1
  refine ⟨?_, k80 h (pbL_len _ _)⟩
  unfold yA; rw [if_pos ⟨rfl, h1⟩]; exact k6k h hn
theorem u0w {l : List Int} {a : Nat} {n : Int} (h : Pf l a (pbL n 8)) (hn : 0 ≤ n ∧ n ≤ 18446744073709551615) : vK l ⟨a, 0⟩ = n ∧ kD 8 l ⟨a, 0⟩ = ⟨a + 8, 0⟩ := by
  have h1 := h.le; rw [pbL_len] at h1
  refine ⟨?_, k80 h (pbL_len _ _)⟩
  unfold vK; rw [if_pos ⟨rfl, h1⟩]; exact u1a h hn
theorem u0u {l s : List Int} {a : Nat} (h : Pf l a (y4 s)) (hs : ka1 s ≤ 64) : qN l ⟨a, 0⟩ = ⟨a + (1 + s.length), 0⟩ ∧ vY l ⟨a, 0⟩ = s := by
  have h1 := h.le; rw [qX] at h1
  have h2 : ka0 l a 0 = ((ka1 s : Nat) : Int) := h.at (i := 0) (by rw [qX]; omega)
  have h3 : uN l a = s.length := by unfold uN; rw [h2]; exact kg4 _
  have h4 : eR l a = 0 := zZ rfl (by omega) (by omega) (by omega)
  have h5 : Pf l a ([((ka1 s : Nat) : Int)] ++ s) := h
  have h6 := h5.r.sl
  unfold qN vY
  rw [if_pos rfl, if_pos h4, if_pos ⟨rfl, h4⟩]
  show (⟨a + 1 + uN l a, 0⟩ : RS) = _ ∧ ka2 (uN l a) (List.drop (a + 1) l) = s
  rw [h3]; exact ⟨by rw [kd9], h6⟩
def dX {α : Type} (h : Nat → List α) : Nat → List α
  | 0 => []
  | n + 1 => dX h n ++ h n
theorem k1o {α : Type} : ∀ (n : Nat) (h : Nat → List α), dX h (n + 1) = h 0 ++ dX (fun i => h (i + 1)) n
  | 0, h => by show [] ++ h 0 = h 0 ++ []; rw [kc6]; rfl
  | n + 1, h => by
    show dX h (n + 1) ++ h (n + 1) = h 0 ++ (dX (fun i => h (i + 1)) n ++ h (n + 1))
    rw [k1o n h, kb7]
theorem hZ {α : Type} {f : RS → RS} {v : RS → List α} : ∀ (n : Nat) (g : Nat → RS), (∀ i, i < n → kT (g i) = 0 ∧ f (g i) = g (i + 1)) → mP f n (g 0) = g n ∧ wP f v n (g 0) = dX (fun i => v (g i)) n
  | 0, g, _ => ⟨rfl, rfl⟩
  | n + 1, g, h => by
    have h0 := h 0 (by omega)
    have h1 := hZ (f := f) (v := v) n (fun i => g (i + 1)) fun i hi => h (i + 1) (by omega)
    rw [o4 h0.1, wO h0.1, k1o n, h0.2]
    exact ⟨h1.1, by rw [h1.2]⟩
theorem iI {α : Type} {h k : Nat → List α} : ∀ n, (∀ i, i < n → h i = k i) → dX h n = dX k n
  | 0, _ => rfl
  | n + 1, e => by show dX h n ++ h n = dX k n ++ k n; rw [iI n fun i hi => e i (by omega), e n (by omega)]
theorem m5 {α : Type} {l : List α} {d : α} : ∀ n, n ≤ l.length → dX (fun i => [ka0 l i d]) n = ka2 n l
  | 0, _ => rfl
  | n + 1, h => by
    show dX _ n ++ [ka0 l n d] = _
    rw [m5 n (by omega), kg9, ka9 (by omega), ka8, ka9 (by omega)]; rfl
theorem k1p {l : List Int} : ∀ n, n * 2 ≤ l.length → dX (fun i => [ka0 l (i * 2) 0, ka0 l (i * 2 + 1) 0]) n = ka2 (n * 2) l
  | 0, _ => rfl
  | n + 1, h => by
    show dX _ n ++ [ka0 l (n * 2) 0, ka0 l (n * 2 + 1) 0] = _
    rw [k1p n (by omega), show (n + 1) * 2 = n * 2 + 1 + 1 by omega, kg9, kg9, ka9 (show n * 2 < l.length by omega), ka9 (show n * 2 + 1 < l.length by omega), ka8, ka9 (show n * 2 < l.length by omega), ka8, ka9 (show n * 2 + 1 < l.length by omega)]
    rw [kb7]; rfl
theorem k67 (r : List Int) (k : Nat) : ∀ n, k < n → ∃ t, n4 r n = n4 r k ++ ((pbL (ka0 r (k * 2) 0) 4 ++ pbL (ka0 r (k * 2 + 1) 0) 4) ++ t)
  | 0, h => absurd h (ke9 k)
  | n + 1, h => by
    by_cases e : k = n
    · subst e; exact ⟨[], by rw [n4, kc6]⟩
    · obtain ⟨t, ht⟩ := k67 r k n zo
      exact ⟨t ++ (pbL (ka0 r (n * 2) 0) 4 ++ pbL (ka0 r (n * 2 + 1) 0) 4), by rw [n4, ht]; simp only [kb7]⟩
theorem k08 {l r : List Int} {a rn : Nat} (h : Pf l a (eI r rn)) (hr : r.length = rn * 2) (hn : rn ≤ 65535) (hR : R32 r) : uW l ⟨a, 0⟩ = ⟨a + (2 + rn * 8), 0⟩ ∧ dE l ⟨a, 0⟩ = r ∧ aD l ⟨a, 0⟩ = rn := by
  have h1 := k4f h.l hn
  have h2 := h.r; rw [pbL_len] at h2
  have h3 : ∀ i, i < rn → yA l ⟨a + 2 + i * 8, 0⟩ = ka0 r (i * 2) 0 ∧ kD 4 l ⟨a + 2 + i * 8, 0⟩ = ⟨a + 2 + i * 8 + 4, 0⟩ ∧ yA l ⟨a + 2 + i * 8 + 4, 0⟩ = ka0 r (i * 2 + 1) 0 ∧ kD 4 l ⟨a + 2 + i * 8 + 4, 0⟩ = ⟨a + 2 + (i + 1) * 8, 0⟩ := fun i hi => by
    obtain ⟨t, ht⟩ := k67 r i rn hi
    rw [ht] at h2
    have h4 := h2.r.l; rw [lM] at h4
    have h5 := k0a h4.l (hR.at (by omega))
    have h6 := h4.r; rw [pbL_len] at h6
    have h7 := k0a h6 (hR.at (by omega))
    exact ⟨h5.1, h5.2, h7.1, by rw [h7.2, show a + 2 + i * 8 + 4 + 4 = a + 2 + (i + 1) * 8 by omega]⟩
  have h8 := hZ (f := seF l) (v := seX l) rn (fun i => ⟨a + 2 + i * 8, 0⟩) fun i hi => ⟨rfl, by unfold seF; rw [(h3 i hi).2.1, (h3 i hi).2.2.2]⟩
  have e2 : dE l ⟨a, 0⟩ = r := by
    unfold dE; rw [h1.1, h1.2]
    refine h8.2.trans ((iI (k := fun i => [ka0 r (i * 2) 0, ka0 r (i * 2 + 1) 0]) rn fun i hi => ?_).trans ?_)
    · show [yA l _, yA l (kD 4 l _)] = _
      rw [(h3 i hi).1, (h3 i hi).2.1, (h3 i hi).2.2.1]
    · rw [k1p rn (by omega), ← hr, kg1]
  refine ⟨?_, e2, k4b e2 hr⟩
  unfold uW; rw [h1.1, h1.2]
  exact h8.1.trans (by show (⟨a + 2 + rn * 8, 0⟩ : RS) = _; rw [kd9])
theorem k68 (r : List Int) (k : Nat) : ∀ n, k < n → ∃ t, n5 r n = n5 r k ++ (pbL (ka0 r k 0) 2 ++ t)
  | 0, h => absurd h (ke9 k)
  | n + 1, h => by
    by_cases e : k = n
    · subst e; exact ⟨[], by rw [n5, kc6]⟩
    · obtain ⟨t, ht⟩ := k68 r k n zo
      exact ⟨t ++ pbL (ka0 r n 0) 2, by rw [n5, ht]; simp only [kb7]⟩
theorem k7z {l m : List Int} {a : Nat} (h : Pf l a (zR m)) (hn : m.length ≤ 65535) (hR : R16 m) : eK l ⟨a, 0⟩ = ⟨a + (2 + m.length * 2), 0⟩ ∧ cV l ⟨a, 0⟩ = m := by
  have h1 := k4f h.l hn
  have h2 := h.r; rw [pbL_len] at h2
  have h3 : ∀ i, i < m.length → kV l ⟨a + 2 + i * 2, 0⟩ = (ka0 m i 0).toNat ∧ kD 2 l ⟨a + 2 + i * 2, 0⟩ = ⟨a + 2 + (i + 1) * 2, 0⟩ := fun i hi => by
    obtain ⟨t, ht⟩ := k68 m i m.length hi
    rw [ht] at h2
    have h4 := h2.r.l; rw [lQ] at h4
    have h5 := gV h4 (hR.at hi)
    exact ⟨h5.1, by rw [h5.2, show a + 2 + i * 2 + 2 = a + 2 + (i + 1) * 2 by omega]⟩
  have h8 := hZ (f := kD 2 l) (v := dcX l) m.length (fun i => ⟨a + 2 + i * 2, 0⟩) fun i hi => ⟨rfl, (h3 i hi).2⟩
  refine ⟨?_, ?_⟩
  · unfold eK; rw [h1.1, h1.2]
    exact h8.1.trans (by show (⟨a + 2 + m.length * 2, 0⟩ : RS) = _; rw [kd9])
  · unfold cV; rw [h1.1, h1.2]
    refine h8.2.trans ((iI (k := fun i => [ka0 m i 0]) m.length fun i hi => ?_).trans ?_)
    · show [((kV l _ : Nat) : Int)] = _
      rw [(h3 i hi).1, kk4 (hR.at hi).1]
    · rw [m5 _ (kc7 _), kg1]
theorem k69 (r : List (List Int)) (k : Nat) : ∀ n, k < n → ∃ t, bF r n = bF r k ++ (zR (ka0 r k []) ++ t)
  | 0, h => absurd h (ke9 k)
  | n + 1, h => by
    by_cases e : k = n
    · subst e; exact ⟨[], by rw [bF, kc6]⟩
    · obtain ⟨t, ht⟩ := k69 r k n zo
      exact ⟨t ++ zR (ka0 r n []), by rw [bF, ht]; simp only [kb7]⟩
theorem k4g {l : List Int} {m : List (List Int)} {a : Nat} (h : Pf l a (aY m)) (hn : m.length ≤ 65535) (hR : RmW m) : vN l ⟨a, 0⟩ = ⟨a + ka1 (aY m), 0⟩ ∧ bJ l ⟨a, 0⟩ = m := by
  have h1 := k4f h.l hn
  have h2 := h.r; rw [pbL_len] at h2
  have h3 : ∀ i, i < m.length → cV l ⟨a + 2 + ka1 (bF m i), 0⟩ = ka0 m i [] ∧ eK l ⟨a + 2 + ka1 (bF m i), 0⟩ = ⟨a + 2 + ka1 (bF m (i + 1)), 0⟩ := fun i hi => by
    obtain ⟨t, ht⟩ := k69 m i m.length hi
    rw [ht] at h2
    have h5 := k7z h2.r.l (hR.at i).2 (hR.at i).1
    exact ⟨h5.2, by rw [h5.1, k9t, kd9 (a + 2)]⟩
  have h8 := hZ (f := eK l) (v := mzX l) m.length (fun i => ⟨a + 2 + ka1 (bF m i), 0⟩) fun i hi => ⟨rfl, (h3 i hi).2⟩
  refine ⟨?_, ?_⟩
  · unfold vN; rw [h1.1, h1.2]
    exact h8.1.trans (by show (⟨a + 2 + ka1 (bF m m.length), 0⟩ : RS) = _; unfold aY; rw [ka4, pbL_len, kd9])
  · unfold bJ; rw [h1.1, h1.2]
    refine h8.2.trans ((iI (k := fun i => [ka0 m i []]) m.length fun i hi => ?_).trans ?_)
    · show [cV l _] = _
      rw [(h3 i hi).1]
    · rw [m5 _ (kc7 _), kg1]
theorem k6b (r : List Bx) (k : Nat) : ∀ n, k < n → ∃ t, a4 r n = a4 r k ++ (zT (fF r k) ++ t)
  | 0, h => absurd h (ke9 k)
  | n + 1, h => by
    by_cases e : k = n
    · subst e; exact ⟨[], by rw [a4, kc6]⟩
    · obtain ⟨t, ht⟩ := k6b r k n zo
      exact ⟨t ++ zT (fF r n), by rw [a4, ht]; simp only [kb7]⟩
theorem k81 {l : List Int} {b : Bx} {a : Nat} (h : Pf l a (zT b)) (hR : RbX b) (hW : BxW b) : dbX l ⟨a, 0⟩ = [b] ∧ dbF l ⟨a, 0⟩ = ⟨a + ka1 (zT b), 0⟩ := by
  obtain ⟨r1, r2, r3, r4, r5, r6, r7⟩ := hR
  have h1 := gV h.l r1
  have h2 := h.r; rw [pbL_len] at h2
  have h3 := k08 h2.l hW.1 r3 r2
  have h4 := h2.r; rw [qM] at h4
  have h5 := k4g h4.l r6 r7
  have h6 := h4.r
  have h7 := k08 h6 hW.2.1 r5 r4
  constructor
  · unfold dbX; rw [h1.1, h1.2, h3.2.1, h3.2.2, h3.1, h5.2, h5.1, h7.2.1, h7.2.2, kk4 r1.1]; rfl
  · unfold dbF zT; rw [h1.2, h3.1, h5.1, h7.1, ka4, ka4, ka4, pbL_len, qM, qM]
    show RS.mk _ _ = RS.mk _ _
    congr 1; omega
theorem k09 {l : List Int} {m : List Bx} {a : Nat} (h : Pf l a (vB m)) (hn : m.length ≤ 65535) (hR : RbW m) (hW : BsW m) : j7 l ⟨a, 0⟩ = ⟨a + ka1 (vB m), 0⟩ ∧ yY l ⟨a, 0⟩ = m := by
  have h1 := k4f h.l hn
  have h2 := h.r; rw [pbL_len] at h2
  have h3 : ∀ i, i < m.length → dbX l ⟨a + 2 + ka1 (a4 m i), 0⟩ = [fF m i] ∧ dbF l ⟨a + 2 + ka1 (a4 m i), 0⟩ = ⟨a + 2 + ka1 (a4 m (i + 1)), 0⟩ := fun i hi => by
    obtain ⟨t, ht⟩ := k6b m i m.length hi
    rw [ht] at h2
    have h5 := k81 h2.r.l (hR _ (eA hi)) (hW _ (eA hi))
    exact ⟨h5.1, by rw [h5.2, a4, ka4, kd9 (a + 2)]⟩
  have h8 := hZ (f := dbF l) (v := dbX l) m.length (fun i => ⟨a + 2 + ka1 (a4 m i), 0⟩) fun i hi => ⟨rfl, (h3 i hi).2⟩
  refine ⟨?_, ?_⟩
  · unfold j7; rw [h1.1, h1.2]
    exact h8.1.trans (by show (⟨a + 2 + ka1 (a4 m m.length), 0⟩ : RS) = _; unfold vB; rw [ka4, pbL_len, kd9])
  · unfold yY; rw [h1.1, h1.2]
    refine h8.2.trans ((iI (k := fun i => [ka0 m i bx0]) m.length fun i hi => (h3 i hi).1).trans ?_)
    rw [m5 _ (kc7 _), kg1]
theorem t5 {id : Int} {nm : List Int} {d1 d2 d3 d4 d5 : Int} {bs : List Bx} {n : Nat} (h : DeW id nm d1 d2 d3 d4 d5 bs n) {l : List Int} (r : List Int) (hl : l = rP id nm d1 d2 d3 d4 d5 bs ++ r) :
    bK l kZ = ⟨ka1 (rP id nm d1 d2 d3 d4 d5 bs), 0⟩ ∧ vK l kZ = id ∧ vY l (dz1 l kZ) = nm ∧ ((kV l (iO l kZ) : Nat) : Int) = d1 ∧ ((kV l (iN l kZ) : Nat) : Int) = d2 ∧ yA l (iM l kZ) = d3 ∧ ((kV l (iL l kZ) : Nat) : Int) = d4 ∧ ((kV l (iK l kZ) : Nat) : Int) = d5 ∧ yY l (aN l kZ) = bs := by
  have hd := h.d; have hi := h.i; have hm := h.l; have hn := h.n; have hr := h.r
  have p0 : Pf l 0 ([83, 78, 68, 49] ++ (pbL id 8 ++ (y4 nm ++ (pbL d1 2 ++ (pbL d2 2 ++ (pbL d3 4 ++ (pbL d4 2 ++ (pbL d5 2 ++ vB bs)))))))) := ⟨[], r, by rw [hl]; unfold rP; simp only [kb7, List.nil_append], rfl⟩
  have p1 : Pf l 4 (pbL id 8 ++ (y4 nm ++ (pbL d1 2 ++ (pbL d2 2 ++ (pbL d3 4 ++ (pbL d4 2 ++ (pbL d5 2 ++ vB bs))))))) := p0.r
  have q1 := u0w p1.l (by omega)
  have p2 := p1.r; rw [pbL_len] at p2
  have q2 := u0u p2.l hm.2
  have p3 := p2.r; rw [qX] at p3
  have q3 := gV p3.l (by omega)
  have p4 := p3.r; rw [pbL_len] at p4
  have q4 := gV p4.l (by omega)
  have p5 := p4.r; rw [pbL_len] at p5
  have q5 := k0a p5.l (by omega)
  have p6 := p5.r; rw [pbL_len] at p6
  have q6 := gV p6.l (by omega)
  have p7 := p6.r; rw [pbL_len] at p7
  have q7 := gV p7.l (by omega)
  have p8 := p7.r; rw [pbL_len] at p8
  have q8 := k09 p8 (by omega) hr.1 h.w
  have e1 : dz1 l kZ = ⟨4 + 8, 0⟩ := q1.2
  have e2 : iO l kZ = ⟨4 + 8 + (1 + nm.length), 0⟩ := by unfold iO; rw [e1]; exact q2.1
  have e3 : iN l kZ = ⟨4 + 8 + (1 + nm.length) + 2, 0⟩ := by unfold iN; rw [e2]; exact q3.2
  have e4 : iM l kZ = ⟨4 + 8 + (1 + nm.length) + 2 + 2, 0⟩ := by unfold iM; rw [e3]; exact q4.2
  have e5 : iL l kZ = ⟨4 + 8 + (1 + nm.length) + 2 + 2 + 4, 0⟩ := by unfold iL; rw [e4]; exact q5.2
  have e6 : iK l kZ = ⟨4 + 8 + (1 + nm.length) + 2 + 2 + 4 + 2, 0⟩ := by unfold iK; rw [e5]; exact q6.2
  have e7 : aN l kZ = ⟨4 + 8 + (1 + nm.length) + 2 + 2 + 4 + 2 + 2, 0⟩ := by unfold aN; rw [e6]; exact q7.2
  refine ⟨?_, q1.1, ?_, ?_, ?_, ?_, ?_, ?_, ?_⟩
  · unfold bK; rw [e7, q8.1, nG]
    show RS.mk _ _ = RS.mk _ _
    congr 1; omega
  · rw [e1]; exact q2.2
  · rw [e2, q3.1]; omega
  · rw [e3, q4.1]; omega
  · rw [e4, q5.1]
  · rw [e5, q6.1]; omega
  · rw [e6, q7.1]; omega
  · rw [e7]; exact q8.2
end Go.Proofs.Ytalbpleglapihaa
