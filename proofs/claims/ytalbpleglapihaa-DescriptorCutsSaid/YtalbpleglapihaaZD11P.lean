/- What was written is read again. No statement is proved here. -/
import Derived.Test.YtalbpleglapihaaZD11G
namespace Go.Proofs.Ytalbpleglapihaa
open Go.ChangeShapes Go.WideShapes Go.ChangeAt Go.RowKit
set_option linter.unusedVariables false
set_option linter.unusedSimpArgs false
/-! chapter 11: what was written is read again -/
def Pf (l : List Int) (a : Nat) (E : List Int) : Prop := ∃ x r, l = x ++ (E ++ r) ∧ x.length = a
theorem Pf.l {l E F : List Int} {a : Nat} (h : Pf l a (E ++ F)) : Pf l a E := by
  obtain ⟨x, r, e, hx⟩ := h
  exact ⟨x, F ++ r, by rw [e, List.append_assoc], hx⟩
theorem Pf.r {l E F : List Int} {a : Nat} (h : Pf l a (E ++ F)) : Pf l (a + E.length) F := by
  obtain ⟨x, r, e, hx⟩ := h
  exact ⟨x ++ E, r, by rw [e]; simp only [List.append_assoc], by rw [List.length_append, hx]⟩
theorem Pf.le {l E : List Int} {a : Nat} (h : Pf l a E) : a + E.length ≤ l.length := by
  obtain ⟨x, r, e, hx⟩ := h
  rw [e, List.length_append, List.length_append]; omega
theorem Pf.at {l E : List Int} {a : Nat} (h : Pf l a E) {i : Nat} (hi : i < E.length) : List.getD l (a + i) 0 = List.getD E i 0 := by
  obtain ⟨x, r, e, hx⟩ := h
  rw [e, sE (by omega), show a + i - x.length = i by omega, a9 hi]
theorem Pf.sl {l E : List Int} {a : Nat} (h : Pf l a E) : List.take E.length (List.drop a l) = E := by
  obtain ⟨x, r, e, hx⟩ := h
  subst hx
  rw [e, List.drop_left, List.take_left]
theorem u3t (n : Int) : pbL n 2 = [n % 256, n / 256 % 256] := by simp [pbL]
theorem u3s (n : Int) : pbL n 4 = [n % 256, n / 256 % 256, n / 65536 % 256, n / 16777216 % 256] := by simp [pbL]
theorem u3r (n : Int) : pbL n 8 = [n % 256, n / 256 % 256, n / 65536 % 256, n / 16777216 % 256, n / 4294967296 % 256, n / 1099511627776 % 256, n / 281474976710656 % 256, n / 72057594037927936 % 256] := by simp [pbL]
theorem u0z {l : List Int} {a : Nat} {n : Int} (h : Pf l a (pbL n 2)) (hn : 0 ≤ n ∧ n ≤ 65535) : g16 l a = n := by
  rw [u3t] at h
  have h0 := h.at (i := 0) (by simp); have h1 := h.at (i := 1) (by simp)
  have e0 : List.getD [n % 256, n / 256 % 256] 0 0 = n % 256 := rfl
  have e1 : List.getD [n % 256, n / 256 % 256] 1 0 = n / 256 % 256 := rfl
  unfold g16; omega
theorem u0y {l : List Int} {a : Nat} {n : Int} (h : Pf l a (pbL n 4)) (hn : 0 ≤ n ∧ n ≤ 4294967295) : g32 l a = n := by
  rw [u3s] at h
  have h0 := h.at (i := 0) (by simp); have h1 := h.at (i := 1) (by simp); have h2 := h.at (i := 2) (by simp); have h3 := h.at (i := 3) (by simp)
  simp only [List.getD_cons_zero, List.getD_cons_succ] at h0 h1 h2 h3
  unfold g32; omega
theorem u0x {l : List Int} {a : Nat} {n : Int} (h : Pf l a (pbL n 8)) (hn : 0 ≤ n ∧ n ≤ 18446744073709551615) : g64 l a = n := by
  rw [u3r] at h
  have h0 := h.at (i := 0) (by simp); have h1 := h.at (i := 1) (by simp); have h2 := h.at (i := 2) (by simp); have h3 := h.at (i := 3) (by simp)
  have h4 := h.at (i := 4) (by simp); have h5 := h.at (i := 5) (by simp); have h6 := h.at (i := 6) (by simp); have h7 := h.at (i := 7) (by simp)
  simp only [List.getD_cons_zero, List.getD_cons_succ] at h0 h1 h2 h3 h4 h5 h6 h7
  unfold g64; omega
theorem k7q {l E : List Int} {a s : Nat} (h : Pf l a E) (hs : E.length = s) : kD s l ⟨a, 0⟩ = ⟨a + s, 0⟩ := by
  have := h.le
  unfold kD; rw [if_pos rfl, if_pos (by show a + s ≤ _; omega)]
theorem gN {l : List Int} {a : Nat} {n : Int} (h : Pf l a (pbL n 2)) (hn : 0 ≤ n ∧ n ≤ 65535) : kV l ⟨a, 0⟩ = n.toNat ∧ kD 2 l ⟨a, 0⟩ = ⟨a + 2, 0⟩ := by
  have h1 := h.le; rw [pbL_len] at h1
  refine ⟨?_, k7q h (pbL_len _ _)⟩
  unfold kV; rw [if_pos ⟨rfl, h1⟩]; show Int.toNat (g16 l a) = _; rw [u0z h hn]
theorem k43 {l : List Int} {a n : Nat} (h : Pf l a (pbL ((n : Nat) : Int) 2)) (hn : n ≤ 65535) : kV l ⟨a, 0⟩ = n ∧ kD 2 l ⟨a, 0⟩ = ⟨a + 2, 0⟩ := by
  have h1 := gN h (by omega)
  exact ⟨by rw [h1.1]; exact Int.toNat_natCast n, h1.2⟩
theorem z9 {l : List Int} {a : Nat} {n : Int} (h : Pf l a (pbL n 4)) (hn : 0 ≤ n ∧ n ≤ 4294967295) : u9 l ⟨a, 0⟩ = n ∧ kD 4 l ⟨a, 0⟩ = ⟨a + 4, 0⟩ := by
  have h1 := h.le; rw [pbL_len] at h1
  refine ⟨?_, k7q h (pbL_len _ _)⟩
  unfold u9; rw [if_pos ⟨rfl, h1⟩]; exact u0y h hn
theorem u0k {l : List Int} {a : Nat} {n : Int} (h : Pf l a (pbL n 8)) (hn : 0 ≤ n ∧ n ≤ 18446744073709551615) : vJ l ⟨a, 0⟩ = n ∧ kD 8 l ⟨a, 0⟩ = ⟨a + 8, 0⟩ := by
  have h1 := h.le; rw [pbL_len] at h1
  refine ⟨?_, k7q h (pbL_len _ _)⟩
  unfold vJ; rw [if_pos ⟨rfl, h1⟩]; exact u0x h hn
theorem u0i {l s : List Int} {a : Nat} (h : Pf l a (y3 s)) (hs : List.length s ≤ 64) : qO l ⟨a, 0⟩ = ⟨a + (1 + s.length), 0⟩ ∧ vY l ⟨a, 0⟩ = s := by
  have h1 := h.le; rw [uB] at h1
  have h2 : List.getD l a 0 = ((List.length s : Nat) : Int) := h.at (i := 0) (by rw [uB]; omega)
  have h3 : uN l a = s.length := by unfold uN; rw [h2]; exact Int.toNat_natCast _
  have h4 : eI l a = 0 := zO rfl (by omega) (by omega) (by omega)
  have h5 : Pf l a ([((List.length s : Nat) : Int)] ++ s) := h
  have h6 := h5.r.sl
  unfold qO vY
  rw [if_pos rfl, if_pos h4, if_pos ⟨rfl, h4⟩]
  show (⟨a + 1 + uN l a, 0⟩ : RS) = _ ∧ List.take (uN l a) (List.drop (a + 1) l) = s
  rw [h3]; exact ⟨by rw [Nat.add_assoc], h6⟩
def dP {α : Type} (h : Nat → List α) : Nat → List α
  | 0 => []
  | n + 1 => dP h n ++ h n
theorem k1c {α : Type} : ∀ (n : Nat) (h : Nat → List α), dP h (n + 1) = h 0 ++ dP (fun i => h (i + 1)) n
  | 0, h => by show [] ++ h 0 = h 0 ++ []; rw [List.append_nil]; rfl
  | n + 1, h => by
    show dP h (n + 1) ++ h (n + 1) = h 0 ++ (dP (fun i => h (i + 1)) n ++ h (n + 1))
    rw [k1c n h, List.append_assoc]
theorem g9 {α : Type} {f : RS → RS} {v : RS → List α} : ∀ (n : Nat) (g : Nat → RS), (∀ i, i < n → kT (g i) = 0 ∧ f (g i) = g (i + 1)) → mF f n (g 0) = g n ∧ wE f v n (g 0) = dP (fun i => v (g i)) n
  | 0, g, _ => ⟨rfl, rfl⟩
  | n + 1, g, h => by
    have h0 := h 0 (by omega)
    have h1 := g9 (f := f) (v := v) n (fun i => g (i + 1)) fun i hi => h (i + 1) (by omega)
    rw [o1 h0.1, wD h0.1, k1c n, h0.2]
    exact ⟨h1.1, by rw [h1.2]⟩
theorem hY {α : Type} {h k : Nat → List α} : ∀ n, (∀ i, i < n → h i = k i) → dP h n = dP k n
  | 0, _ => rfl
  | n + 1, e => by show dP h n ++ h n = dP k n ++ k n; rw [hY n fun i hi => e i (by omega), e n (by omega)]
theorem mQ {α : Type} {l : List α} {d : α} : ∀ n, n ≤ l.length → dP (fun i => [List.getD l i d]) n = List.take n l
  | 0, _ => rfl
  | n + 1, h => by
    show dP _ n ++ [List.getD l n d] = _
    rw [mQ n (by omega), List.take_add_one, List.getElem?_eq_getElem (by omega), List.getD_eq_getElem?_getD, List.getElem?_eq_getElem (by omega)]; rfl
theorem k1d {l : List Int} : ∀ n, n * 2 ≤ l.length → dP (fun i => [List.getD l (i * 2) 0, List.getD l (i * 2 + 1) 0]) n = List.take (n * 2) l
  | 0, _ => rfl
  | n + 1, h => by
    show dP _ n ++ [List.getD l (n * 2) 0, List.getD l (n * 2 + 1) 0] = _
    rw [k1d n (by omega), show (n + 1) * 2 = n * 2 + 1 + 1 by omega, List.take_add_one, List.take_add_one, List.getElem?_eq_getElem (show n * 2 < l.length by omega), List.getElem?_eq_getElem (show n * 2 + 1 < l.length by omega), List.getD_eq_getElem?_getD, List.getElem?_eq_getElem (show n * 2 < l.length by omega), List.getD_eq_getElem?_getD, List.getElem?_eq_getElem (show n * 2 + 1 < l.length by omega)]
    rw [List.append_assoc]; rfl
theorem k5y (r : List Int) (k : Nat) : ∀ n, k < n → ∃ t, nX r n = nX r k ++ ((pbL (List.getD r (k * 2) 0) 4 ++ pbL (List.getD r (k * 2 + 1) 0) 4) ++ t)
  | 0, h => absurd h (Nat.not_lt_zero k)
  | n + 1, h => by
    by_cases e : k = n
    · subst e; exact ⟨[], by rw [nX, List.append_nil]⟩
    · obtain ⟨t, ht⟩ := k5y r k n zo
      exact ⟨t ++ (pbL (List.getD r (n * 2) 0) 4 ++ pbL (List.getD r (n * 2 + 1) 0) 4), by rw [nX, ht]; simp only [List.append_assoc]⟩
theorem z7 {l r : List Int} {a rn : Nat} (h : Pf l a (d9 r rn)) (hr : r.length = rn * 2) (hn : rn ≤ 65535) (hR : R32 r) : uU l ⟨a, 0⟩ = ⟨a + (2 + rn * 8), 0⟩ ∧ c8 l ⟨a, 0⟩ = r ∧ aC l ⟨a, 0⟩ = rn := by
  have h1 := k43 h.l hn
  have h2 := h.r; rw [pbL_len] at h2
  have h3 : ∀ i, i < rn → u9 l ⟨a + 2 + i * 8, 0⟩ = List.getD r (i * 2) 0 ∧ kD 4 l ⟨a + 2 + i * 8, 0⟩ = ⟨a + 2 + i * 8 + 4, 0⟩ ∧ u9 l ⟨a + 2 + i * 8 + 4, 0⟩ = List.getD r (i * 2 + 1) 0 ∧ kD 4 l ⟨a + 2 + i * 8 + 4, 0⟩ = ⟨a + 2 + (i + 1) * 8, 0⟩ := fun i hi => by
    obtain ⟨t, ht⟩ := k5y r i rn hi
    rw [ht] at h2
    have h4 := h2.r.l; rw [lD] at h4
    have h5 := z9 h4.l (hR.at (by omega))
    have h6 := h4.r; rw [pbL_len] at h6
    have h7 := z9 h6 (hR.at (by omega))
    exact ⟨h5.1, h5.2, h7.1, by rw [h7.2, show a + 2 + i * 8 + 4 + 4 = a + 2 + (i + 1) * 8 by omega]⟩
  have h8 := g9 (f := seF l) (v := seX l) rn (fun i => ⟨a + 2 + i * 8, 0⟩) fun i hi => ⟨rfl, by unfold seF; rw [(h3 i hi).2.1, (h3 i hi).2.2.2]⟩
  have e2 : c8 l ⟨a, 0⟩ = r := by
    unfold c8; rw [h1.1, h1.2]
    refine h8.2.trans ((hY (k := fun i => [List.getD r (i * 2) 0, List.getD r (i * 2 + 1) 0]) rn fun i hi => ?_).trans ?_)
    · show [u9 l _, u9 l (kD 4 l _)] = _
      rw [(h3 i hi).1, (h3 i hi).2.1, (h3 i hi).2.2.1]
    · rw [k1d rn (by omega), ← hr, List.take_length]
  refine ⟨?_, e2, k3y e2 hr⟩
  unfold uU; rw [h1.1, h1.2]
  exact h8.1.trans (by show (⟨a + 2 + rn * 8, 0⟩ : RS) = _; rw [Nat.add_assoc])
theorem k5z (r : List Int) (k : Nat) : ∀ n, k < n → ∃ t, nY r n = nY r k ++ (pbL (List.getD r k 0) 2 ++ t)
  | 0, h => absurd h (Nat.not_lt_zero k)
  | n + 1, h => by
    by_cases e : k = n
    · subst e; exact ⟨[], by rw [nY, List.append_nil]⟩
    · obtain ⟨t, ht⟩ := k5z r k n zo
      exact ⟨t ++ pbL (List.getD r n 0) 2, by rw [nY, ht]; simp only [List.append_assoc]⟩
theorem k7p {l m : List Int} {a : Nat} (h : Pf l a (zG m)) (hn : m.length ≤ 65535) (hR : R16 m) : eB l ⟨a, 0⟩ = ⟨a + (2 + m.length * 2), 0⟩ ∧ cO l ⟨a, 0⟩ = m := by
  have h1 := k43 h.l hn
  have h2 := h.r; rw [pbL_len] at h2
  have h3 : ∀ i, i < m.length → kV l ⟨a + 2 + i * 2, 0⟩ = (List.getD m i 0).toNat ∧ kD 2 l ⟨a + 2 + i * 2, 0⟩ = ⟨a + 2 + (i + 1) * 2, 0⟩ := fun i hi => by
    obtain ⟨t, ht⟩ := k5z m i m.length hi
    rw [ht] at h2
    have h4 := h2.r.l; rw [lH] at h4
    have h5 := gN h4 (hR.at hi)
    exact ⟨h5.1, by rw [h5.2, show a + 2 + i * 2 + 2 = a + 2 + (i + 1) * 2 by omega]⟩
  have h8 := g9 (f := kD 2 l) (v := dcX l) m.length (fun i => ⟨a + 2 + i * 2, 0⟩) fun i hi => ⟨rfl, (h3 i hi).2⟩
  refine ⟨?_, ?_⟩
  · unfold eB; rw [h1.1, h1.2]
    exact h8.1.trans (by show (⟨a + 2 + m.length * 2, 0⟩ : RS) = _; rw [Nat.add_assoc])
  · unfold cO; rw [h1.1, h1.2]
    refine h8.2.trans ((hY (k := fun i => [List.getD m i 0]) m.length fun i hi => ?_).trans ?_)
    · show [((kV l _ : Nat) : Int)] = _
      rw [(h3 i hi).1, Int.toNat_of_nonneg (hR.at hi).1]
    · rw [mQ _ (Nat.le_refl _), List.take_length]
theorem k60 (r : List (List Int)) (k : Nat) : ∀ n, k < n → ∃ t, bD r n = bD r k ++ (zG (List.getD r k []) ++ t)
  | 0, h => absurd h (Nat.not_lt_zero k)
  | n + 1, h => by
    by_cases e : k = n
    · subst e; exact ⟨[], by rw [bD, List.append_nil]⟩
    · obtain ⟨t, ht⟩ := k60 r k n zo
      exact ⟨t ++ zG (List.getD r n []), by rw [bD, ht]; simp only [List.append_assoc]⟩
theorem k44 {l : List Int} {m : List (List Int)} {a : Nat} (h : Pf l a (aW m)) (hn : m.length ≤ 65535) (hR : RmW m) : vN l ⟨a, 0⟩ = ⟨a + List.length (aW m), 0⟩ ∧ bH l ⟨a, 0⟩ = m := by
  have h1 := k43 h.l hn
  have h2 := h.r; rw [pbL_len] at h2
  have h3 : ∀ i, i < m.length → cO l ⟨a + 2 + List.length (bD m i), 0⟩ = List.getD m i [] ∧ eB l ⟨a + 2 + List.length (bD m i), 0⟩ = ⟨a + 2 + List.length (bD m (i + 1)), 0⟩ := fun i hi => by
    obtain ⟨t, ht⟩ := k60 m i m.length hi
    rw [ht] at h2
    have h5 := k7p h2.r.l (hR.at i).2 (hR.at i).1
    exact ⟨h5.2, by rw [h5.1, k9k, Nat.add_assoc (a + 2)]⟩
  have h8 := g9 (f := eB l) (v := mzX l) m.length (fun i => ⟨a + 2 + List.length (bD m i), 0⟩) fun i hi => ⟨rfl, (h3 i hi).2⟩
  refine ⟨?_, ?_⟩
  · unfold vN; rw [h1.1, h1.2]
    exact h8.1.trans (by show (⟨a + 2 + List.length (bD m m.length), 0⟩ : RS) = _; unfold aW; rw [List.length_append, pbL_len, Nat.add_assoc])
  · unfold bH; rw [h1.1, h1.2]
    refine h8.2.trans ((hY (k := fun i => [List.getD m i []]) m.length fun i hi => ?_).trans ?_)
    · show [cO l _] = _
      rw [(h3 i hi).1]
    · rw [mQ _ (Nat.le_refl _), List.take_length]
theorem k62 (r : List Bx) (k : Nat) : ∀ n, k < n → ∃ t, a2 r n = a2 r k ++ (zI (eW r k) ++ t)
  | 0, h => absurd h (Nat.not_lt_zero k)
  | n + 1, h => by
    by_cases e : k = n
    · subst e; exact ⟨[], by rw [a2, List.append_nil]⟩
    · obtain ⟨t, ht⟩ := k62 r k n zo
      exact ⟨t ++ zI (eW r n), by rw [a2, ht]; simp only [List.append_assoc]⟩
theorem k7r {l : List Int} {b : Bx} {a : Nat} (h : Pf l a (zI b)) (hR : RbX b) (hW : BxW b) : dbX l ⟨a, 0⟩ = [b] ∧ dbF l ⟨a, 0⟩ = ⟨a + List.length (zI b), 0⟩ := by
  obtain ⟨r1, r2, r3, r4, r5, r6, r7⟩ := hR
  have h1 := gN h.l r1
  have h2 := h.r; rw [pbL_len] at h2
  have h3 := z7 h2.l hW.1 r3 r2
  have h4 := h2.r; rw [qQ] at h4
  have h5 := k44 h4.l r6 r7
  have h6 := h4.r
  have h7 := z7 h6 hW.2.1 r5 r4
  constructor
  · unfold dbX; rw [h1.1, h1.2, h3.2.1, h3.2.2, h3.1, h5.2, h5.1, h7.2.1, h7.2.2, Int.toNat_of_nonneg r1.1]; rfl
  · unfold dbF zI; rw [h1.2, h3.1, h5.1, h7.1, List.length_append, List.length_append, List.length_append, pbL_len, qQ, qQ]
    show RS.mk _ _ = RS.mk _ _
    congr 1; omega
theorem z8 {l : List Int} {m : List Bx} {a : Nat} (h : Pf l a (vA m)) (hn : m.length ≤ 65535) (hR : RbW m) (hW : BsW m) : jW l ⟨a, 0⟩ = ⟨a + List.length (vA m), 0⟩ ∧ yV l ⟨a, 0⟩ = m := by
  have h1 := k43 h.l hn
  have h2 := h.r; rw [pbL_len] at h2
  have h3 : ∀ i, i < m.length → dbX l ⟨a + 2 + List.length (a2 m i), 0⟩ = [eW m i] ∧ dbF l ⟨a + 2 + List.length (a2 m i), 0⟩ = ⟨a + 2 + List.length (a2 m (i + 1)), 0⟩ := fun i hi => by
    obtain ⟨t, ht⟩ := k62 m i m.length hi
    rw [ht] at h2
    have h5 := k7r h2.r.l (hR _ (dU hi)) (hW _ (dU hi))
    exact ⟨h5.1, by rw [h5.2, a2, List.length_append, Nat.add_assoc (a + 2)]⟩
  have h8 := g9 (f := dbF l) (v := dbX l) m.length (fun i => ⟨a + 2 + List.length (a2 m i), 0⟩) fun i hi => ⟨rfl, (h3 i hi).2⟩
  refine ⟨?_, ?_⟩
  · unfold jW; rw [h1.1, h1.2]
    exact h8.1.trans (by show (⟨a + 2 + List.length (a2 m m.length), 0⟩ : RS) = _; unfold vA; rw [List.length_append, pbL_len, Nat.add_assoc])
  · unfold yV; rw [h1.1, h1.2]
    refine h8.2.trans ((hY (k := fun i => [List.getD m i bx0]) m.length fun i hi => (h3 i hi).1).trans ?_)
    rw [mQ _ (Nat.le_refl _), List.take_length]
theorem tU {id : Int} {nm : List Int} {d1 d2 d3 d4 d5 : Int} {bs : List Bx} {n : Nat} (h : DeW id nm d1 d2 d3 d4 d5 bs n) {l : List Int} (r : List Int) (hl : l = sY id nm d1 d2 d3 d4 d5 bs ++ r) :
    bI l kY = ⟨List.length (sY id nm d1 d2 d3 d4 d5 bs), 0⟩ ∧ vJ l kY = id ∧ vY l (dz1 l kY) = nm ∧ ((kV l (iH l kY) : Nat) : Int) = d1 ∧ ((kV l (iG l kY) : Nat) : Int) = d2 ∧ u9 l (iF l kY) = d3 ∧ ((kV l (iB l kY) : Nat) : Int) = d4 ∧ ((kV l (iA l kY) : Nat) : Int) = d5 ∧ yV l (aK l kY) = bs := by
  have hd := h.d; have hi := h.i; have hm := h.l; have hn := h.n; have hr := h.r
  have p0 : Pf l 0 ([83, 78, 68, 49] ++ (pbL id 8 ++ (y3 nm ++ (pbL d1 2 ++ (pbL d2 2 ++ (pbL d3 4 ++ (pbL d4 2 ++ (pbL d5 2 ++ vA bs)))))))) := ⟨[], r, by rw [hl]; unfold sY; simp only [List.append_assoc, List.nil_append], rfl⟩
  have p1 : Pf l 4 (pbL id 8 ++ (y3 nm ++ (pbL d1 2 ++ (pbL d2 2 ++ (pbL d3 4 ++ (pbL d4 2 ++ (pbL d5 2 ++ vA bs))))))) := p0.r
  have q1 := u0k p1.l (by omega)
  have p2 := p1.r; rw [pbL_len] at p2
  have q2 := u0i p2.l hm.2
  have p3 := p2.r; rw [uB] at p3
  have q3 := gN p3.l (by omega)
  have p4 := p3.r; rw [pbL_len] at p4
  have q4 := gN p4.l (by omega)
  have p5 := p4.r; rw [pbL_len] at p5
  have q5 := z9 p5.l (by omega)
  have p6 := p5.r; rw [pbL_len] at p6
  have q6 := gN p6.l (by omega)
  have p7 := p6.r; rw [pbL_len] at p7
  have q7 := gN p7.l (by omega)
  have p8 := p7.r; rw [pbL_len] at p8
  have q8 := z8 p8 (by omega) hr.1 h.w
  have e1 : dz1 l kY = ⟨4 + 8, 0⟩ := q1.2
  have e2 : iH l kY = ⟨4 + 8 + (1 + nm.length), 0⟩ := by unfold iH; rw [e1]; exact q2.1
  have e3 : iG l kY = ⟨4 + 8 + (1 + nm.length) + 2, 0⟩ := by unfold iG; rw [e2]; exact q3.2
  have e4 : iF l kY = ⟨4 + 8 + (1 + nm.length) + 2 + 2, 0⟩ := by unfold iF; rw [e3]; exact q4.2
  have e5 : iB l kY = ⟨4 + 8 + (1 + nm.length) + 2 + 2 + 4, 0⟩ := by unfold iB; rw [e4]; exact q5.2
  have e6 : iA l kY = ⟨4 + 8 + (1 + nm.length) + 2 + 2 + 4 + 2, 0⟩ := by unfold iA; rw [e5]; exact q6.2
  have e7 : aK l kY = ⟨4 + 8 + (1 + nm.length) + 2 + 2 + 4 + 2 + 2, 0⟩ := by unfold aK; rw [e6]; exact q7.2
  refine ⟨?_, q1.1, ?_, ?_, ?_, ?_, ?_, ?_, ?_⟩
  · unfold bI; rw [e7, q8.1, m6]
    show RS.mk _ _ = RS.mk _ _
    congr 1; omega
  · rw [e1]; exact q2.2
  · rw [e2, q3.1]; omega
  · rw [e3, q4.1]; omega
  · rw [e4, q5.1]
  · rw [e5, q6.1]; omega
  · rw [e6, q7.1]; omega
  · rw [e7]; exact q8.2
end Go.Proofs.Ytalbpleglapihaa
