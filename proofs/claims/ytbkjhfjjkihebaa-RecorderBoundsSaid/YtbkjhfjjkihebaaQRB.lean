/- RecorderBounds. No statement is proved here. -/
import Derived.Test.YtbkjhfjjkihebaaR38C
import Derived.Test.YtbkjhfjjkihebaaAmD
namespace Go.Proofs.Ytbkjhfjjkihebaa
open Go.ChangeShapes Go.WideShapes Go.ChangeAt Go.RowKit
set_option linter.unusedVariables false
set_option linter.unusedSimpArgs false

theorem tm_rng (v n : Int) (h : 1 ≤ n) : (-n < Int.tmod v n ∧ Int.tmod v n < n) := by
  constructor
  · have h1 := Int.lt_tmod_of_pos v (b := n) (by omega); omega
  · exact Int.tmod_lt_of_pos v (by omega)
theorem md_neg {v n : Int} (hn : 1 ≤ n) (h : Int.tmod v n < 0) : v % n = Int.tmod v n + n := by
  have h1 := tm_rng v n hn
  have h2 := Int.mul_tdiv_add_tmod v n
  have e : v % n = (Int.tmod v n + n) % n := by
    conv => lhs; rw [← h2]
    rw [Int.add_emod_right, Int.mul_add_emod_self_left]
  rw [e, Int.emod_eq_of_lt (by omega) (by omega)]
theorem md_pos {v n : Int} (hn : 1 ≤ n) (h : ¬ Int.tmod v n < 0) : v % n = Int.tmod v n := by
  have h1 := tm_rng v n hn
  have h2 := Int.mul_tdiv_add_tmod v n
  have e : v % n = (Int.tmod v n) % n := by
    conv => lhs; rw [← h2]
    rw [Int.mul_add_emod_self_left]
  rw [e, Int.emod_eq_of_lt (by omega) (by omega)]
/-- the numbers of a deck -/
def dkN (l : List Int) (a : Nat) (n : Int) : Nat := if a < l.length then (List.getD l a 0 % n).toNat else 0
def dkA (l : List Int) (a : Nat) : Nat := if a < l.length then a + 1 else a
theorem dkN_y {l : List Int} {a : Nat} {n : Int} (h : a < l.length) (hn : 1 ≤ n) : ((dkN l a n : Nat) : Int) = List.getD l a 0 % n := by
  unfold dkN; rw [if_pos h]; exact Int.toNat_of_nonneg (Int.emod_nonneg _ (by omega))
theorem dkN_n {l : List Int} {a : Nat} {n : Int} (h : ¬ a < l.length) : ((dkN l a n : Nat) : Int) = 0 := by unfold dkN; rw [if_neg h]; rfl
theorem dkA_y {l : List Int} {a : Nat} (h : a < l.length) : dkA l a = a + 1 := if_pos h
theorem dkA_n {l : List Int} {a : Nat} (h : ¬ a < l.length) : dkA l a = a := if_neg h
theorem dkA_le {l : List Int} {a m : Nat} (hm : l.length = m) (h : a ≤ m) : dkA l a ≤ m := by unfold dkA; split <;> omega
theorem dkN_lt (l : List Int) (a : Nat) {n : Int} (hn : 1 ≤ n) : ((dkN l a n : Nat) : Int) < n := by
  by_cases h : a < l.length
  · rw [dkN_y h hn]; exact Int.emod_lt_of_pos _ (by omega)
  · rw [dkN_n h]; omega
theorem emod_rng (v n : Int) (h : 1 ≤ n) : 0 ≤ v % n ∧ v % n < n := ⟨Int.emod_nonneg _ (by omega), Int.emod_lt_of_pos _ (by omega)⟩



def bkV (l : List Int) : Nat → Nat → Int
  | 0, _ => 0
  | k + 1, j => bmV (lnB (List.getD l k 0 % 4194304)) j (bkV l k j)
theorem bk_in (l : List Int) (j : Nat) : ∀ k, 0 ≤ bkV l k j ∧ bkV l k j ≤ k
  | 0 => ⟨Int.le_refl _, Int.le_refl _⟩
  | k + 1 => by
    have h := bk_in l j k
    show 0 ≤ bmV _ j (bkV l k j) ∧ bmV _ j (bkV l k j) ≤ ((k + 1 : Nat) : Int)
    unfold bmV; split <;> omega
def bkL (l : List Int) (k : Nat) : List Int := (List.range 24).map (bkV l k)
theorem bkL_at {l : List Int} {k j : Nat} (h : j < 24) : List.getD (bkL l k) j 0 = bkV l k j := by
  unfold bkL
  rw [List.getD_eq_getElem?_getD, List.getElem?_map, List.getElem?_range h]; rfl
theorem bkL_ok {l : List Int} {k : Nat} (h : k ≤ 1000) : bkOk (bkL l k) := fun j hj => by
  rw [bkL_at hj]; have := bk_in l j k; omega
theorem bk_mono (l : List Int) (j : Nat) {i : Nat} : ∀ k, i ≤ k → bkV l i j ≤ bkV l k j
  | 0, h => by obtain rfl : i = 0 := by omega
               exact Int.le_refl _
  | k + 1, h => by
    by_cases e : i = k + 1
    · subst e; exact Int.le_refl _
    · have := bk_mono l j (i := i) k (by omega)
      show _ ≤ bmV _ j (bkV l k j)
      unfold bmV; split <;> omega
theorem bk_one {l : List Int} {i n : Nat} (h : i < n) : 1 ≤ bkV l n (lnB (List.getD l i 0 % 4194304)) := by
  have h1 := bk_mono l (lnB (List.getD l i 0 % 4194304)) (i := i + 1) n h
  have h2 : bkV l (i + 1) (lnB (List.getD l i 0 % 4194304)) = bkV l i (lnB (List.getD l i 0 % 4194304)) + 1 := if_pos rfl
  have h3 := bk_in l (lnB (List.getD l i 0 % 4194304)) i
  omega
theorem su_mono {l : List Int} (h : bkOk l) {i : Nat} : ∀ k, i ≤ k → k ≤ 24 → suK l i ≤ suK l k
  | 0, hi, _ => by obtain rfl : i = 0 := by omega
                   exact Int.le_refl _
  | k + 1, hi, hk => by
    by_cases e : i = k + 1
    · subst e; exact Int.le_refl _
    · have h1 := su_mono h (i := i) k (by omega) (by omega)
      have h2 := h k (by omega)
      show _ ≤ suK l k + List.getD l k 0
      omega
theorem mo_ex (l : List Int) (p : Int) : ∀ m, ∃ k, k ≤ m ∧ (∀ i, i < k → ¬ p * suK l 24 ≤ suK l (i + 1) * 100) ∧ (k = m ∨ p * suK l 24 ≤ suK l (k + 1) * 100)
  | 0 => ⟨0, Nat.le_refl _, fun i hi => by omega, .inl rfl⟩
  | m + 1 => by
    obtain ⟨k, h1, h2, h3⟩ := mo_ex l p m
    rcases h3 with rfl | h3
    · by_cases h4 : p * suK l 24 ≤ suK l (k + 1) * 100
      · exact ⟨k, by omega, h2, .inr h4⟩
      · exact ⟨k + 1, Nat.le_refl _, fun i hi => by
          by_cases e : i = k
          · subst e; exact h4
          · exact h2 i (by omega), .inl rfl⟩
    · exact ⟨k, by omega, h2, .inr h3⟩
theorem mo_is {l : List Int} {p : Int} (h : bkOk l) (hp : 0 ≤ p ∧ p ≤ 100) (h0 : ¬ suK l 24 = 0) : ∃ k, k < 24 ∧ (∀ i, i < k → ¬ p * suK l 24 ≤ suK l (i + 1) * 100) ∧ p * suK l 24 ≤ suK l (k + 1) * 100 ∧ moV l p = 1 * ((2 ^ k : Nat) : Int) - 1 := by
  obtain ⟨k, h1, h2, h3⟩ := mo_ex l p 24
  have hs := suK_in h 24 (Nat.le_refl _)
  have hc : p * suK l 24 ≤ suK l (23 + 1) * 100 := by
    have := Int.mul_le_mul_of_nonneg_right hp.2 hs.1
    show p * suK l 24 ≤ suK l 24 * 100
    omega
  have hk : k < 24 := by
    by_cases e : k = 24
    · subst e; exact absurd hc (h2 23 (by omega))
    · omega
  have h4 : p * suK l 24 ≤ suK l (k + 1) * 100 := h3.resolve_left (by omega)
  exact ⟨k, hk, h2, h4, mo_y h0 hk h2 h4⟩
theorem p2_mono {a b : Nat} (h : a ≤ b) : ((2 ^ a : Nat) : Int) ≤ ((2 ^ b : Nat) : Int) := by
  have := Nat.pow_le_pow_right (show 0 < 2 by omega) h
  omega
theorem mo_mono {l : List Int} {p q : Int} (h : bkOk l) (hp : 0 ≤ p) (hpq : p ≤ q) (hq : q ≤ 100) : moV l p ≤ moV l q := by
  by_cases h0 : suK l 24 = 0
  · rw [mo_0 h0, mo_0 h0]; exact Int.le_refl _
  · obtain ⟨a, a1, a2, a3, a4⟩ := mo_is h ⟨hp, by omega⟩ h0
    obtain ⟨b, b1, b2, b3, b4⟩ := mo_is h ⟨by omega, hq⟩ h0
    have hs := suK_in h 24 (Nat.le_refl _)
    have hm := Int.mul_le_mul_of_nonneg_right hpq hs.1
    have hab : a ≤ b := by
      by_cases e : a ≤ b
      · exact e
      · exfalso; exact a2 b (by omega) (by omega)
    rw [a4, b4]
    have := p2_mono hab
    omega
theorem mo_ge {l : List Int} {i n : Nat} (hi : i < n) (hn : n ≤ 1000) : List.getD l i 0 % 4194304 ≤ moV (bkL l n) 100 := by
  have hv := emod_rng (List.getD l i 0) 4194304 (by omega)
  have hk := bkL_ok (l := l) hn
  have h1 := bk_one (l := l) hi
  have hc := ln_22 hv
  generalize hcc : lnB (List.getD l i 0 % 4194304) = c at *
  have e1 : suK (bkL l n) (c + 1) = suK (bkL l n) c + bkV l n c := by
    show suK (bkL l n) c + List.getD (bkL l n) c 0 = _; rw [bkL_at (by omega)]
  have s1 := suK_in hk c (by omega)
  have s2 := su_mono hk (i := c + 1) 24 (by omega) (Nat.le_refl _)
  obtain ⟨k, k1, k2, k3, k4⟩ := mo_is hk (p := 100) (by omega) (by omega)
  have hck : c ≤ k := by
    by_cases e : c ≤ k
    · exact e
    · exfalso
      have := su_mono hk (i := k + 1) c (by omega) (by omega)
      omega
  have h2 := ln_lt (List.getD l i 0 % 4194304) hv.1
  rw [hcc] at h2
  have h3 := p2_mono hck
  rw [k4]
  omega

theorem S_new : Fun 5 [iE 4] (toG []) 0 (.tup [.agg [iC 4, .d (D.lit (.slice none 0 0)), iC 0, iC 0, iC 0, iC 0, iC 0, iC 0, iC 0, iC 0, iC 0, iC 0, iC 0, iC 0, iC 0, iC 0, iC 0, iC 0, iC 0, iC 0, iC 0, iC 0, iC 0, iC 0, iC 0, iC 0, iC 0, iC 0, iC 0, iC 0, iC 0, iC 0], iE 0]) (toG []) 0 := by
  exact R_new 4 (by omega)

theorem S_m100 : Fun 6 [.agg [iC 4, .d (D.lit (.slice none 0 0)), iC 0, iC 0, iC 0, iC 0, iC 0, iC 0, iC 0, iC 0, iC 0, iC 0, iC 0, iC 0, iC 0, iC 0, iC 0, iC 0, iC 0, iC 0, iC 0, iC 0, iC 0, iC 0, iC 0, iC 0, iC 0, iC 0, iC 0, iC 0, iC 0, iC 0], iE 100] (toG []) 0 (.tup [.agg [iC 4, .d (D.lit (.slice none 0 0)), iC 0, iC 0, iC 0, iC 0, iC 0, iC 0, iC 0, iC 0, iC 0, iC 0, iC 0, iC 0, iC 0, iC 1, iC 0, iC 0, iC 0, iC 0, iC 0, iC 0, iC 0, iC 0, iC 0, iC 0, iC 0, iC 0, iC 0, iC 0, iC 0, iC 0], iE 0]) (toG []) 0 := by
  exact R_ms7 4 0 0 0 0 0 0 0 0 0 0 0 0 0 0 0 0 0 0 0 0 0 0 0 0 100 (by omega) (by unfold bkOk; decide +kernel) (by omega) (by decide +kernel)

theorem S_m200 : Fun 6 [.agg [iC 4, .d (D.lit (.slice none 0 0)), iC 0, iC 0, iC 0, iC 0, iC 0, iC 0, iC 0, iC 0, iC 0, iC 0, iC 0, iC 0, iC 0, iC 1, iC 0, iC 0, iC 0, iC 0, iC 0, iC 0, iC 0, iC 0, iC 0, iC 0, iC 0, iC 0, iC 0, iC 0, iC 0, iC 0], iE 200] (toG []) 0 (.tup [.agg [iC 4, .d (D.lit (.slice none 0 0)), iC 0, iC 0, iC 0, iC 0, iC 0, iC 0, iC 0, iC 0, iC 0, iC 0, iC 0, iC 0, iC 0, iC 1, iC 1, iC 0, iC 0, iC 0, iC 0, iC 0, iC 0, iC 0, iC 0, iC 0, iC 0, iC 0, iC 0, iC 0, iC 0, iC 0], iE 0]) (toG []) 0 := by
  exact R_ms8 4 0 0 0 0 0 0 0 1 0 0 0 0 0 0 0 0 0 0 0 0 0 0 0 0 200 (by omega) (by unfold bkOk; decide +kernel) (by omega) (by decide +kernel)

theorem S_m1000 : Fun 6 [.agg [iC 4, .d (D.lit (.slice none 0 0)), iC 0, iC 0, iC 0, iC 0, iC 0, iC 0, iC 0, iC 0, iC 0, iC 0, iC 0, iC 0, iC 0, iC 1, iC 1, iC 0, iC 0, iC 0, iC 0, iC 0, iC 0, iC 0, iC 0, iC 0, iC 0, iC 0, iC 0, iC 0, iC 0, iC 0], iE 1000] (toG []) 0 (.tup [.agg [iC 4, .d (D.lit (.slice none 0 0)), iC 0, iC 0, iC 0, iC 0, iC 0, iC 0, iC 0, iC 0, iC 0, iC 0, iC 0, iC 0, iC 0, iC 1, iC 1, iC 0, iC 1, iC 0, iC 0, iC 0, iC 0, iC 0, iC 0, iC 0, iC 0, iC 0, iC 0, iC 0, iC 0, iC 0], iE 0]) (toG []) 0 := by
  exact R_ms10 4 0 0 0 0 0 0 0 1 1 0 0 0 0 0 0 0 0 0 0 0 0 0 0 0 1000 (by omega) (by unfold bkOk; decide +kernel) (by omega) (by decide +kernel)

theorem S_most : Fun 8 [.agg [iC 4, .d (D.lit (.slice none 0 0)), iC 0, iC 0, iC 0, iC 0, iC 0, iC 0, iC 0, iC 0, iC 0, iC 0, iC 0, iC 0, iC 0, iC 1, iC 1, iC 0, iC 1, iC 0, iC 0, iC 0, iC 0, iC 0, iC 0, iC 0, iC 0, iC 0, iC 0, iC 0, iC 0, iC 0], iE 50] (toG []) 0 (iV 255) (toG []) 0 := by
  have h := R_most 4 0 0 0 0 0 0 0 1 1 0 1 0 0 0 0 0 0 0 0 0 0 0 0 0 50 (by omega) (by unfold bkOk; decide +kernel) (by omega)
  rw [show moV [0, 0, 0, 0, 0, 0, 0, 1, 1, 0, 1, 0, 0, 0, 0, 0, 0, 0, 0, 0, 0, 0, 0, 0] 50 = 255 by decide +kernel] at h
  exact h

theorem S_val : Fun 9 [.agg [iC 4, .d (D.lit (.slice none 0 0)), iC 0, iC 0, iC 0, iC 0, iC 0, iC 0, iC 0, iC 0, iC 0, iC 0, iC 0, iC 0, iC 0, iC 1, iC 1, iC 0, iC 1, iC 0, iC 0, iC 0, iC 0, iC 0, iC 0, iC 0, iC 0, iC 0, iC 0, iC 0, iC 0, iC 0]] (toG []) 0 (bV true) (toG []) 0 := by
  exact R_val 4 0 0 0 0 0 0 0 1 1 0 1 0 0 0 0 0 0 0 0 0 0 0 0 0 (by omega) (by unfold bkOk; decide +kernel)

set_option maxHeartbeats 4000000 in
set_option maxRecDepth 100000 in
theorem L_sane   : Fun 4 [] (toG []) 0 (bV true) (toG []) 0 := by
  refine Fun.mk (n := 33) Try.func4 rfl rfl (Nat.le_of_ble_eq_true rfl) ?_
  intro cx hcx
  refine AW.rgs [.no] [] [] (P := True) (l' := []) (g' := []) (nx' := 0) (by kernel_rfl) trivial ?_
  refine AW.rgs [.call [] (.tup [.agg [iC 4, .d (D.lit (.slice none 0 0)), iC 0, iC 0, iC 0, iC 0, iC 0, iC 0, iC 0, iC 0, iC 0, iC 0, iC 0, iC 0, iC 0, iC 0, iC 0, iC 0, iC 0, iC 0, iC 0, iC 0, iC 0, iC 0, iC 0, iC 0, iC 0, iC 0, iC 0, iC 0, iC 0, iC 0], iE 0]) [] 0 [] none, .no, .no, .no, .no, .no, .no] [1, 2] [0] (P := (_)) (l' := [(1, rV 0 0), (2, iV 0)]) (g' := [(0, some (28, .ds [iD 4, D.lit (.slice none 0 0), iD 0, iD 0, iD 0, iD 0, iD 0, iD 0, iD 0, iD 0, iD 0, iD 0, iD 0, iD 0, iD 0, iD 0, iD 0, iD 0, iD 0, iD 0, iD 0, iD 0, iD 0, iD 0, iD 0, iD 0, iD 0, iD 0, iD 0, iD 0, iD 0, iD 0]))]) (nx' := 1) (by kernel_rfl) (S_new) ?_
  refine AW.seq ?_
  refine AW.rgs [.no, .no, .no] [1, 2, 9, 10, 11] [0, 1] (P := True) (l' := [(1, rV 0 0), (2, iV 0), (9, oV 1 0 3 1), (10, iV 3), (11, iV 0)]) (g' := [(0, some (28, .ds [iD 4, D.lit (.slice none 0 0), iD 0, iD 0, iD 0, iD 0, iD 0, iD 0, iD 0, iD 0, iD 0, iD 0, iD 0, iD 0, iD 0, iD 0, iD 0, iD 0, iD 0, iD 0, iD 0, iD 0, iD 0, iD 0, iD 0, iD 0, iD 0, iD 0, iD 0, iD 0, iD 0, iD 0])), (1, some (3, .ds [iD 100, iD 200, iD 1000]))]) (nx' := 2) (by kernel_rfl) trivial ?_
  refine AW.block ?_
  refine AW.rounds 4 ?_
  refine AWr.s ?_
  refine AW.rgs [.b true] [1, 2, 9, 10, 11, 12] [0, 1] (P := (((0 : Int) < 3))) (l' := [(1, rV 0 0), (2, iV 0), (9, oV 1 0 3 1), (10, iV 3), (11, iV 0), (12, bV true)]) (g' := [(0, some (28, .ds [iD 4, D.lit (.slice none 0 0), iD 0, iD 0, iD 0, iD 0, iD 0, iD 0, iD 0, iD 0, iD 0, iD 0, iD 0, iD 0, iD 0, iD 0, iD 0, iD 0, iD 0, iD 0, iD 0, iD 0, iD 0, iD 0, iD 0, iD 0, iD 0, iD 0, iD 0, iD 0, iD 0, iD 0])), (1, some (3, .ds [iD 100, iD 200, iD 1000]))]) (nx' := 2) (by kernel_rfl) (by omega) ?_
  refine AW.seq ?_
  refine AW.cond_t (.tmp (Look.of rfl)) ?_
  refine AW.skip ?_
  refine AW.seq ?_
  refine AW.block ?_
  refine AW.rgs [.n2 0 0, .no, .no] [1, 2, 4, 9, 10, 11] [0, 1] (P := ((0 : Int) = 0) ∧ ((0 : Nat) < 3) ∧ ((0 : Nat) + 0 * 1 = 0)) (l' := [(1, rV 0 0), (2, iV 0), (4, iV 100), (9, oV 1 0 3 1), (10, iV 3), (11, iV 0)]) (g' := [(0, some (28, .ds [iD 4, D.lit (.slice none 0 0), iD 0, iD 0, iD 0, iD 0, iD 0, iD 0, iD 0, iD 0, iD 0, iD 0, iD 0, iD 0, iD 0, iD 0, iD 0, iD 0, iD 0, iD 0, iD 0, iD 0, iD 0, iD 0, iD 0, iD 0, iD 0, iD 0, iD 0, iD 0, iD 0, iD 0])), (1, some (3, .ds [iD 100, iD 200, iD 1000]))]) (nx' := 2) (by kernel_rfl) ⟨rfl, (by omega), (by omega)⟩ ?_
  refine AW.rg [.no, .no, .call [] (.tup [.agg [iC 4, .d (D.lit (.slice none 0 0)), iC 0, iC 0, iC 0, iC 0, iC 0, iC 0, iC 0, iC 0, iC 0, iC 0, iC 0, iC 0, iC 0, iC 1, iC 0, iC 0, iC 0, iC 0, iC 0, iC 0, iC 0, iC 0, iC 0, iC 0, iC 0, iC 0, iC 0, iC 0, iC 0, iC 0], iE 0]) [] 0 [some [D.lit (.bool true)]] none, .no, .no, .no, .no] [1, 2, 9, 10, 11] [0, 1] (P := (_)) (l' := [(1, rV 0 0), (2, iV 0), (9, oV 1 0 3 1), (10, iV 3), (11, iV 0)]) (g' := [(0, some (28, .ds [iD 4, D.lit (.slice none 0 0), iD 0, iD 0, iD 0, iD 0, iD 0, iD 0, iD 0, iD 0, iD 0, iD 0, iD 0, iD 0, iD 0, iD 1, iD 0, iD 0, iD 0, iD 0, iD 0, iD 0, iD 0, iD 0, iD 0, iD 0, iD 0, iD 0, iD 0, iD 0, iD 0, iD 0])), (1, some (3, .ds [iD 100, iD 200, iD 1000]))]) (nx' := 2) (by kernel_rfl) (S_m100) ?_
  refine AW.rg [.w, .no] [1, 2, 9, 10, 11] [0, 1] (P := ((-9223372036854775808) ≤ (1 : Int) ∧ (1 : Int) ≤ 9223372036854775807)) (l' := [(1, rV 0 0), (2, iV 0), (9, oV 1 0 3 1), (10, iV 3), (11, iV 1)]) (g' := [(0, some (28, .ds [iD 4, D.lit (.slice none 0 0), iD 0, iD 0, iD 0, iD 0, iD 0, iD 0, iD 0, iD 0, iD 0, iD 0, iD 0, iD 0, iD 0, iD 1, iD 0, iD 0, iD 0, iD 0, iD 0, iD 0, iD 0, iD 0, iD 0, iD 0, iD 0, iD 0, iD 0, iD 0, iD 0, iD 0])), (1, some (3, .ds [iD 100, iD 200, iD 1000]))]) (nx' := 2) (by kernel_rfl) ⟨by omega, by omega⟩ ?_
  refine AWr.s ?_
  refine AW.rgs [.b true] [1, 2, 9, 10, 11, 12] [0, 1] (P := (((1 : Int) < 3))) (l' := [(1, rV 0 0), (2, iV 0), (9, oV 1 0 3 1), (10, iV 3), (11, iV 1), (12, bV true)]) (g' := [(0, some (28, .ds [iD 4, D.lit (.slice none 0 0), iD 0, iD 0, iD 0, iD 0, iD 0, iD 0, iD 0, iD 0, iD 0, iD 0, iD 0, iD 0, iD 0, iD 1, iD 0, iD 0, iD 0, iD 0, iD 0, iD 0, iD 0, iD 0, iD 0, iD 0, iD 0, iD 0, iD 0, iD 0, iD 0, iD 0])), (1, some (3, .ds [iD 100, iD 200, iD 1000]))]) (nx' := 2) (by kernel_rfl) (by omega) ?_
  refine AW.seq ?_
  refine AW.cond_t (.tmp (Look.of rfl)) ?_
  refine AW.skip ?_
  refine AW.seq ?_
  refine AW.block ?_
  refine AW.rgs [.n2 1 1, .no, .no] [1, 2, 4, 9, 10, 11] [0, 1] (P := ((1 : Int) = 1) ∧ ((1 : Nat) < 3) ∧ ((0 : Nat) + 1 * 1 = 1)) (l' := [(1, rV 0 0), (2, iV 0), (4, iV 200), (9, oV 1 0 3 1), (10, iV 3), (11, iV 1)]) (g' := [(0, some (28, .ds [iD 4, D.lit (.slice none 0 0), iD 0, iD 0, iD 0, iD 0, iD 0, iD 0, iD 0, iD 0, iD 0, iD 0, iD 0, iD 0, iD 0, iD 1, iD 0, iD 0, iD 0, iD 0, iD 0, iD 0, iD 0, iD 0, iD 0, iD 0, iD 0, iD 0, iD 0, iD 0, iD 0, iD 0])), (1, some (3, .ds [iD 100, iD 200, iD 1000]))]) (nx' := 2) (by kernel_rfl) ⟨rfl, (by omega), (by omega)⟩ ?_
  refine AW.rg [.no, .no, .call [] (.tup [.agg [iC 4, .d (D.lit (.slice none 0 0)), iC 0, iC 0, iC 0, iC 0, iC 0, iC 0, iC 0, iC 0, iC 0, iC 0, iC 0, iC 0, iC 0, iC 1, iC 1, iC 0, iC 0, iC 0, iC 0, iC 0, iC 0, iC 0, iC 0, iC 0, iC 0, iC 0, iC 0, iC 0, iC 0, iC 0], iE 0]) [] 0 [some [D.lit (.bool true)]] none, .no, .no, .no, .no] [1, 2, 9, 10, 11] [0, 1] (P := (_)) (l' := [(1, rV 0 0), (2, iV 0), (9, oV 1 0 3 1), (10, iV 3), (11, iV 1)]) (g' := [(0, some (28, .ds [iD 4, D.lit (.slice none 0 0), iD 0, iD 0, iD 0, iD 0, iD 0, iD 0, iD 0, iD 0, iD 0, iD 0, iD 0, iD 0, iD 0, iD 1, iD 1, iD 0, iD 0, iD 0, iD 0, iD 0, iD 0, iD 0, iD 0, iD 0, iD 0, iD 0, iD 0, iD 0, iD 0, iD 0])), (1, some (3, .ds [iD 100, iD 200, iD 1000]))]) (nx' := 2) (by kernel_rfl) (S_m200) ?_
  refine AW.rg [.w, .no] [1, 2, 9, 10, 11] [0, 1] (P := ((-9223372036854775808) ≤ (2 : Int) ∧ (2 : Int) ≤ 9223372036854775807)) (l' := [(1, rV 0 0), (2, iV 0), (9, oV 1 0 3 1), (10, iV 3), (11, iV 2)]) (g' := [(0, some (28, .ds [iD 4, D.lit (.slice none 0 0), iD 0, iD 0, iD 0, iD 0, iD 0, iD 0, iD 0, iD 0, iD 0, iD 0, iD 0, iD 0, iD 0, iD 1, iD 1, iD 0, iD 0, iD 0, iD 0, iD 0, iD 0, iD 0, iD 0, iD 0, iD 0, iD 0, iD 0, iD 0, iD 0, iD 0])), (1, some (3, .ds [iD 100, iD 200, iD 1000]))]) (nx' := 2) (by kernel_rfl) ⟨by omega, by omega⟩ ?_
  refine AWr.s ?_
  refine AW.rgs [.b true] [1, 2, 9, 10, 11, 12] [0, 1] (P := (((2 : Int) < 3))) (l' := [(1, rV 0 0), (2, iV 0), (9, oV 1 0 3 1), (10, iV 3), (11, iV 2), (12, bV true)]) (g' := [(0, some (28, .ds [iD 4, D.lit (.slice none 0 0), iD 0, iD 0, iD 0, iD 0, iD 0, iD 0, iD 0, iD 0, iD 0, iD 0, iD 0, iD 0, iD 0, iD 1, iD 1, iD 0, iD 0, iD 0, iD 0, iD 0, iD 0, iD 0, iD 0, iD 0, iD 0, iD 0, iD 0, iD 0, iD 0, iD 0])), (1, some (3, .ds [iD 100, iD 200, iD 1000]))]) (nx' := 2) (by kernel_rfl) (by omega) ?_
  refine AW.seq ?_
  refine AW.cond_t (.tmp (Look.of rfl)) ?_
  refine AW.skip ?_
  refine AW.seq ?_
  refine AW.block ?_
  refine AW.rgs [.n2 2 2, .no, .no] [1, 2, 4, 9, 10, 11] [0, 1] (P := ((2 : Int) = 2) ∧ ((2 : Nat) < 3) ∧ ((0 : Nat) + 2 * 1 = 2)) (l' := [(1, rV 0 0), (2, iV 0), (4, iV 1000), (9, oV 1 0 3 1), (10, iV 3), (11, iV 2)]) (g' := [(0, some (28, .ds [iD 4, D.lit (.slice none 0 0), iD 0, iD 0, iD 0, iD 0, iD 0, iD 0, iD 0, iD 0, iD 0, iD 0, iD 0, iD 0, iD 0, iD 1, iD 1, iD 0, iD 0, iD 0, iD 0, iD 0, iD 0, iD 0, iD 0, iD 0, iD 0, iD 0, iD 0, iD 0, iD 0, iD 0])), (1, some (3, .ds [iD 100, iD 200, iD 1000]))]) (nx' := 2) (by kernel_rfl) ⟨rfl, (by omega), (by omega)⟩ ?_
  refine AW.rg [.no, .no, .call [] (.tup [.agg [iC 4, .d (D.lit (.slice none 0 0)), iC 0, iC 0, iC 0, iC 0, iC 0, iC 0, iC 0, iC 0, iC 0, iC 0, iC 0, iC 0, iC 0, iC 1, iC 1, iC 0, iC 1, iC 0, iC 0, iC 0, iC 0, iC 0, iC 0, iC 0, iC 0, iC 0, iC 0, iC 0, iC 0, iC 0], iE 0]) [] 0 [some [D.lit (.bool true)]] none, .no, .no, .no, .no] [1, 2, 9, 10, 11] [0, 1] (P := (_)) (l' := [(1, rV 0 0), (2, iV 0), (9, oV 1 0 3 1), (10, iV 3), (11, iV 2)]) (g' := [(0, some (28, .ds [iD 4, D.lit (.slice none 0 0), iD 0, iD 0, iD 0, iD 0, iD 0, iD 0, iD 0, iD 0, iD 0, iD 0, iD 0, iD 0, iD 0, iD 1, iD 1, iD 0, iD 1, iD 0, iD 0, iD 0, iD 0, iD 0, iD 0, iD 0, iD 0, iD 0, iD 0, iD 0, iD 0, iD 0])), (1, some (3, .ds [iD 100, iD 200, iD 1000]))]) (nx' := 2) (by kernel_rfl) (S_m1000) ?_
  refine AW.rg [.w, .no] [1, 2, 9, 10, 11] [0, 1] (P := ((-9223372036854775808) ≤ (3 : Int) ∧ (3 : Int) ≤ 9223372036854775807)) (l' := [(1, rV 0 0), (2, iV 0), (9, oV 1 0 3 1), (10, iV 3), (11, iV 3)]) (g' := [(0, some (28, .ds [iD 4, D.lit (.slice none 0 0), iD 0, iD 0, iD 0, iD 0, iD 0, iD 0, iD 0, iD 0, iD 0, iD 0, iD 0, iD 0, iD 0, iD 1, iD 1, iD 0, iD 1, iD 0, iD 0, iD 0, iD 0, iD 0, iD 0, iD 0, iD 0, iD 0, iD 0, iD 0, iD 0, iD 0])), (1, some (3, .ds [iD 100, iD 200, iD 1000]))]) (nx' := 2) (by kernel_rfl) ⟨by omega, by omega⟩ ?_
  refine AWr.s ?_
  refine AW.rgs [.b false] [1, 2, 9, 10, 11, 12] [0, 1] (P := (¬ ((3 : Int) < 3))) (l' := [(1, rV 0 0), (2, iV 0), (9, oV 1 0 3 1), (10, iV 3), (11, iV 3), (12, bV false)]) (g' := [(0, some (28, .ds [iD 4, D.lit (.slice none 0 0), iD 0, iD 0, iD 0, iD 0, iD 0, iD 0, iD 0, iD 0, iD 0, iD 0, iD 0, iD 0, iD 0, iD 1, iD 1, iD 0, iD 1, iD 0, iD 0, iD 0, iD 0, iD 0, iD 0, iD 0, iD 0, iD 0, iD 0, iD 0, iD 0, iD 0])), (1, some (3, .ds [iD 100, iD 200, iD 1000]))]) (nx' := 2) (by kernel_rfl) (by omega) ?_
  refine AW.seq ?_
  refine AW.cond_f (.tmp (Look.of rfl)) ?_
  refine AW.exit ?_
  refine AW.rgs [.no, .b true, .no, .no, .call [] (iV 255) [] 0 [some [D.lit (.bool true)]] none, .b true, .no, .no, .no, .call [] (bV true) [] 0 [some [D.lit (.bool true)]] none, .no, .no] [0] [] (P := (((0 : Int) = 0)) ∧ (_) ∧ (((255 : Int) = 255)) ∧ (_)) (l' := [(0, bV true)]) (g' := []) (nx' := 2) (by kernel_rfl) ⟨(by omega), (S_most), (by omega), (S_val)⟩ ?_
  refine AW.ret ?_
  exact EndP.of (.inr rfl) [] (P := (true = true)) (by kernel_rfl) rfl

set_option maxHeartbeats 4000000 in
set_option maxRecDepth 100000 in
theorem M_Mod (v n : Int) (hn : 1 ≤ n ∧ n ≤ 4611686018427387904) : Fun 7 [iE v, iE n] (toG []) 0 (iV (v % n)) (toG []) 0 := by
  have ht : (0 - n < Int.tmod v n ∧ Int.tmod v n < n) := (by have h9 := tm_rng v n (by omega); omega)
  refine Fun.mk (n := 15) Try.func7 rfl rfl (Nat.le_of_ble_eq_true rfl) ?_
  intro cx hcx
  refine AW.rgs [.no] [0, 1] [] (P := True) (l' := [(0, iV v), (1, iV n)]) (g' := []) (nx' := 0) (by kernel_rfl) trivial ?_
  refine AW.rgs [.no, .no, .no, .no] [1, 5] [] (P := (¬ (n : Int) = 0)) (l' := [(1, iV n), (5, iV (Int.tmod v n))]) (g' := []) (nx' := 0) (by kernel_rfl) (by omega) ?_
  refine AW.seq ?_
  by_cases hx1 : ((Int.tmod v n) < 0)
  · refine AW.rgs [.no, .b true] [1, 5, 10] [] (P := (((Int.tmod v n) < 0))) (l' := [(1, iV n), (5, iV (Int.tmod v n)), (10, bV true)]) (g' := []) (nx' := 0) (by kernel_rfl) (by omega) ?_
    refine AW.cond_t (.tmp (Look.of rfl)) ?_
    refine AW.rg [.no, .no, .w, .no] [5] [] (P := ((-9223372036854775808) ≤ ((Int.tmod v n) + n) ∧ ((Int.tmod v n) + n) ≤ 9223372036854775807)) (l' := [(5, iV ((Int.tmod v n) + n))]) (g' := []) (nx' := 0) (by kernel_rfl) ⟨by omega, by omega⟩ ?_
    refine AW.rgs [.no, .no] [4] [] (P := True) (l' := [(4, iV ((Int.tmod v n) + n))]) (g' := []) (nx' := 0) (by kernel_rfl) trivial ?_
    refine AW.ret ?_
    exact EndP.of (.inr rfl) [] (P := (((v % n) : Int) = ((Int.tmod v n) + n))) (by kernel_rfl) (by first | exact md_neg (by omega) (by assumption) | exact md_pos (by omega) (by assumption) | omega | rfl)
  · refine AW.rgs [.no, .b false] [1, 5, 10] [] (P := (¬ ((Int.tmod v n) < 0))) (l' := [(1, iV n), (5, iV (Int.tmod v n)), (10, bV false)]) (g' := []) (nx' := 0) (by kernel_rfl) (by omega) ?_
    refine AW.cond_f (.tmp (Look.of rfl)) ?_
    refine AW.skip ?_
    refine AW.rgs [.no, .no] [4] [] (P := True) (l' := [(4, iV (Int.tmod v n))]) (g' := []) (nx' := 0) (by kernel_rfl) trivial ?_
    refine AW.ret ?_
    exact EndP.of (.inr rfl) [] (P := (((v % n) : Int) = (Int.tmod v n))) (by kernel_rfl) (by first | exact md_neg (by omega) (by assumption) | exact md_pos (by omega) (by assumption) | omega | rfl)

set_option maxHeartbeats 4000000 in
set_option maxRecDepth 100000 in
theorem L_Bnd (l : List Int) (n : Nat) (p q : Int) (hl : List.length l = n) (hb : n ≤ 9223372036854775807) (hp : -9223372036854775808 ≤ p ∧ p ≤ 9223372036854775807) (hq : -9223372036854775808 ≤ q ∧ q ≤ 9223372036854775807) : Fun 3 [.c (.d (D.sl (dI .i64 l) n)), iE p, iE q] (toG []) 0 (bV true) (toG []) 0 := by
  refine Fun.mk (n := 68) Try.func3 rfl rfl (Nat.le_of_ble_eq_true rfl) ?_
  intro cx hcx
  refine AW.rgs [.no] [0, 1, 2] [] (P := True) (l' := [(0, sV .i64 l n), (1, iV p), (2, iV q)]) (g' := []) (nx' := 0) (by kernel_rfl) trivial ?_
  refine AW.seq ?_
  refine AW.rgs [.call [] (bV true) [] 0 [] none, .no] [0, 1, 2, 16] [] (P := (_)) (l' := [(0, sV .i64 l n), (1, iV p), (2, iV q), (16, bV false)]) (g' := []) (nx' := 0) (by kernel_rfl) (L_sane) ?_
  refine AW.cond_f (.tmp (Look.of rfl)) ?_
  refine AW.skip ?_
  refine AW.seq ?_
  by_cases hx1 : ((60 : Int) < ((n : Nat) : Int))
  · refine AW.rgs [.no, .no, .b true] [0, 1, 2, 19] [] (P := (((60 : Int) < ((n : Nat) : Int)))) (l' := [(0, sV .i64 l n), (1, iV p), (2, iV q), (19, bV true)]) (g' := []) (nx' := 0) (by kernel_rfl) (by omega) ?_
    refine AW.cond_t (.tmp (Look.of rfl)) ?_
    refine AW.rgs [.no] [6] [] (P := True) (l' := [(6, bV true)]) (g' := []) (nx' := 0) (by kernel_rfl) trivial ?_
    refine AW.ret ?_
    exact EndP.of (.inr rfl) [] (P := (true = true)) (by kernel_rfl) rfl
  · refine AW.rgs [.no, .no, .b false] [0, 1, 2, 19] [] (P := (¬ ((60 : Int) < ((n : Nat) : Int)))) (l' := [(0, sV .i64 l n), (1, iV p), (2, iV q), (19, bV false)]) (g' := []) (nx' := 0) (by kernel_rfl) (by omega) ?_
    refine AW.cond_f (.tmp (Look.of rfl)) ?_
    refine AW.skip ?_
    refine AW.rgs [.call [] (.tup [.agg [iC 1, .d (D.lit (.slice none 0 0)), iC 0, iC 0, iC 0, iC 0, iC 0, iC 0, iC 0, iC 0, iC 0, iC 0, iC 0, iC 0, iC 0, iC 0, iC 0, iC 0, iC 0, iC 0, iC 0, iC 0, iC 0, iC 0, iC 0, iC 0, iC 0, iC 0, iC 0, iC 0, iC 0, iC 0], iE 0]) [] 0 [] none, .no, .no, .no, .no, .no, .no] [0, 1, 2, 7] [0] (P := (_)) (l' := [(0, sV .i64 l n), (1, iV p), (2, iV q), (7, rV 0 0)]) (g' := [(0, some (28, .ds [iD 1, D.lit (.slice none 0 0), iD 0, iD 0, iD 0, iD 0, iD 0, iD 0, iD 0, iD 0, iD 0, iD 0, iD 0, iD 0, iD 0, iD 0, iD 0, iD 0, iD 0, iD 0, iD 0, iD 0, iD 0, iD 0, iD 0, iD 0, iD 0, iD 0, iD 0, iD 0, iD 0, iD 0]))]) (nx' := 1) (by kernel_rfl) (R_new 1 (by omega)) ?_
    refine AW.seq ?_
    refine AW.rgs [.no, .no, .no] [0, 1, 2, 7, 24, 25, 26] [0] (P := True) (l' := [(0, sV .i64 l n), (1, iV p), (2, iV q), (7, rV 0 0), (24, sV .i64 l n), (25, iV ↑n), (26, iV 0)]) (g' := [(0, some (28, .ds [iD 1, D.lit (.slice none 0 0), iD 0, iD 0, iD 0, iD 0, iD 0, iD 0, iD 0, iD 0, iD 0, iD 0, iD 0, iD 0, iD 0, iD 0, iD 0, iD 0, iD 0, iD 0, iD 0, iD 0, iD 0, iD 0, iD 0, iD 0, iD 0, iD 0, iD 0, iD 0, iD 0, iD 0]))]) (nx' := 1) (by kernel_rfl) trivial ?_
    refine AW.block ?_
    refine AW.loopE 0 hcx (fun (x : {x : Nat // match x with | k => (k ≤ n)}) => match x with | ⟨k, _⟩ => (⟨[(0, sV .i64 l n), (1, iV p), (2, iV q), (7, rV 0 0), (24, sV .i64 l n), (25, iV ((n : Nat) : Int)), (26, iV ((k : Nat) : Int))], [(0, some (28, .ds [iD 1, D.lit (.slice none 0 0), iD 0, iD 0, iD 0, iD 0, iD 0, iD 0, iD (bkV l k 0), iD (bkV l k 1), iD (bkV l k 2), iD (bkV l k 3), iD (bkV l k 4), iD (bkV l k 5), iD (bkV l k 6), iD (bkV l k 7), iD (bkV l k 8), iD (bkV l k 9), iD (bkV l k 10), iD (bkV l k 11), iD (bkV l k 12), iD (bkV l k 13), iD (bkV l k 14), iD (bkV l k 15), iD (bkV l k 16), iD (bkV l k 17), iD (bkV l k 18), iD (bkV l k 19), iD (bkV l k 20), iD (bkV l k 21), iD (bkV l k 22), iD (bkV l k 23)]))], 1⟩ : ES)) (fun (x : {x : Nat // match x with | k => (k ≤ n)}) => match x with | ⟨k, _⟩ => n - k) ⟨(0 : Nat), (show ((0 : Nat) ≤ n) from (by first | omega | assumption | simp))⟩ [] (P := (((dI .i64 l) : List D) = (dI .i64 l)) ∧ ((n : Nat) = n) ∧ ((p : Int) = p) ∧ ((q : Int) = q) ∧ ((0 : Nat) = 0) ∧ (((dI .i64 l) : List D) = (dI .i64 l)) ∧ ((n : Nat) = n) ∧ ((((n : Nat) : Int) : Int) = ((n : Nat) : Int)) ∧ ((0 : Int) = 0) ∧ (([iD 1, D.lit (.slice none 0 0), iD 0, iD 0, iD 0, iD 0, iD 0, iD 0, iD (bkV l 0 0), iD (bkV l 0 1), iD (bkV l 0 2), iD (bkV l 0 3), iD (bkV l 0 4), iD (bkV l 0 5), iD (bkV l 0 6), iD (bkV l 0 7), iD (bkV l 0 8), iD (bkV l 0 9), iD (bkV l 0 10), iD (bkV l 0 11), iD (bkV l 0 12), iD (bkV l 0 13), iD (bkV l 0 14), iD (bkV l 0 15), iD (bkV l 0 16), iD (bkV l 0 17), iD (bkV l 0 18), iD (bkV l 0 19), iD (bkV l 0 20), iD (bkV l 0 21), iD (bkV l 0 22), iD (bkV l 0 23)] : List D) = [iD 1, D.lit (.slice none 0 0), iD 0, iD 0, iD 0, iD 0, iD 0, iD 0, iD 0, iD 0, iD 0, iD 0, iD 0, iD 0, iD 0, iD 0, iD 0, iD 0, iD 0, iD 0, iD 0, iD 0, iD 0, iD 0, iD 0, iD 0, iD 0, iD 0, iD 0, iD 0, iD 0, iD 0])) (by kernel_rfl) ⟨rfl, rfl, rfl, rfl, rfl, rfl, rfl, rfl, rfl, rfl⟩ ?_
    rintro ⟨k, hinv0⟩
    have hk : (k ≤ n) := hinv0
    refine AW.es (l := [(0, sV .i64 l n), (1, iV p), (2, iV q), (7, rV 0 0), (24, sV .i64 l n), (25, iV ((n : Nat) : Int)), (26, iV ((k : Nat) : Int))]) (g := [(0, some (28, .ds [iD 1, D.lit (.slice none 0 0), iD 0, iD 0, iD 0, iD 0, iD 0, iD 0, iD (bkV l k 0), iD (bkV l k 1), iD (bkV l k 2), iD (bkV l k 3), iD (bkV l k 4), iD (bkV l k 5), iD (bkV l k 6), iD (bkV l k 7), iD (bkV l k 8), iD (bkV l k 9), iD (bkV l k 10), iD (bkV l k 11), iD (bkV l k 12), iD (bkV l k 13), iD (bkV l k 14), iD (bkV l k 15), iD (bkV l k 16), iD (bkV l k 17), iD (bkV l k 18), iD (bkV l k 19), iD (bkV l k 20), iD (bkV l k 21), iD (bkV l k 22), iD (bkV l k 23)]))]) (nx := 1) rfl rfl rfl ?_
    have hBk : bkOk [bkV l k 0, bkV l k 1, bkV l k 2, bkV l k 3, bkV l k 4, bkV l k 5, bkV l k 6, bkV l k 7, bkV l k 8, bkV l k 9, bkV l k 10, bkV l k 11, bkV l k 12, bkV l k 13, bkV l k 14, bkV l k 15, bkV l k 16, bkV l k 17, bkV l k 18, bkV l k 19, bkV l k 20, bkV l k 21, bkV l k 22, bkV l k 23] := bkL_ok (l := l) (k := k) (by omega)
    by_cases hx2 : (((k : Nat) : Int) < ((n : Nat) : Int))
    · refine AW.rgs [.b true] [0, 1, 2, 7, 24, 25, 26, 27] [0] (P := ((((k : Nat) : Int) < ((n : Nat) : Int)))) (l' := [(0, sV .i64 l n), (1, iV p), (2, iV q), (7, rV 0 0), (24, sV .i64 l n), (25, iV ↑n), (26, iV ↑k), (27, bV true)]) (g' := [(0, some (28, .ds [iD 1, D.lit (.slice none 0 0), iD 0, iD 0, iD 0, iD 0, iD 0, iD 0, iD (bkV l k 0), iD (bkV l k 1), iD (bkV l k 2), iD (bkV l k 3), iD (bkV l k 4), iD (bkV l k 5), iD (bkV l k 6), iD (bkV l k 7), iD (bkV l k 8), iD (bkV l k 9), iD (bkV l k 10), iD (bkV l k 11), iD (bkV l k 12), iD (bkV l k 13), iD (bkV l k 14), iD (bkV l k 15), iD (bkV l k 16), iD (bkV l k 17), iD (bkV l k 18), iD (bkV l k 19), iD (bkV l k 20), iD (bkV l k 21), iD (bkV l k 22), iD (bkV l k 23)]))]) (nx' := 1) (by kernel_rfl) (by omega) ?_
      refine AW.seq ?_
      refine AW.cond_t (.tmp (Look.of rfl)) ?_
      refine AW.skip ?_
      refine AW.seq ?_
      refine AW.block ?_
      refine AW.rgs [.n k, .d (D.lit (.int .i64 (List.getD l k 0))), .no] [0, 1, 2, 7, 10, 24, 25, 26] [0] (P := ((((k : Nat) : Int) : Int) = ((k : Nat) : Int)) ∧ (k < n) ∧ ((List.drop k (dI .i64 l))[0]? = some (D.lit (.int .i64 (List.getD l k 0))))) (l' := [(0, sV .i64 l n), (1, iV p), (2, iV q), (7, rV 0 0), (10, iV (List.getD l k 0)), (24, sV .i64 l n), (25, iV ↑n), (26, iV ↑k)]) (g' := [(0, some (28, .ds [iD 1, D.lit (.slice none 0 0), iD 0, iD 0, iD 0, iD 0, iD 0, iD 0, iD (bkV l k 0), iD (bkV l k 1), iD (bkV l k 2), iD (bkV l k 3), iD (bkV l k 4), iD (bkV l k 5), iD (bkV l k 6), iD (bkV l k 7), iD (bkV l k 8), iD (bkV l k 9), iD (bkV l k 10), iD (bkV l k 11), iD (bkV l k 12), iD (bkV l k 13), iD (bkV l k 14), iD (bkV l k 15), iD (bkV l k 16), iD (bkV l k 17), iD (bkV l k 18), iD (bkV l k 19), iD (bkV l k 20), iD (bkV l k 21), iD (bkV l k 22), iD (bkV l k 23)]))]) (nx' := 1) (by kernel_rfl) ⟨rfl, (by omega), (dI_at _ _ _ (by first | omega | (rw [dI_len]; omega) | (simp [dI_len] <;> omega) | rfl))⟩ ?_
      have hx3 : (((0 : Int) ≤ ((List.getD l k 0) % 4194304)) ∧ (((List.getD l k 0) % 4194304) < 4194304)) := emod_rng (List.getD l k 0) (4194304 : Int) (by omega)
      refine AW.rgs [.no, .no, .call [] (iV ((List.getD l k 0) % 4194304)) [] 0 [] none, .call [] (.tup [.agg [iC 1, .d (D.lit (.slice none 0 0)), iC 0, iC 0, iC 0, iC 0, iC 0, iC 0, iC (bmV (lnB ((List.getD l k 0) % 4194304)) 0 (bkV l k 0)), iC (bmV (lnB ((List.getD l k 0) % 4194304)) 1 (bkV l k 1)), iC (bmV (lnB ((List.getD l k 0) % 4194304)) 2 (bkV l k 2)), iC (bmV (lnB ((List.getD l k 0) % 4194304)) 3 (bkV l k 3)), iC (bmV (lnB ((List.getD l k 0) % 4194304)) 4 (bkV l k 4)), iC (bmV (lnB ((List.getD l k 0) % 4194304)) 5 (bkV l k 5)), iC (bmV (lnB ((List.getD l k 0) % 4194304)) 6 (bkV l k 6)), iC (bmV (lnB ((List.getD l k 0) % 4194304)) 7 (bkV l k 7)), iC (bmV (lnB ((List.getD l k 0) % 4194304)) 8 (bkV l k 8)), iC (bmV (lnB ((List.getD l k 0) % 4194304)) 9 (bkV l k 9)), iC (bmV (lnB ((List.getD l k 0) % 4194304)) 10 (bkV l k 10)), iC (bmV (lnB ((List.getD l k 0) % 4194304)) 11 (bkV l k 11)), iC (bmV (lnB ((List.getD l k 0) % 4194304)) 12 (bkV l k 12)), iC (bmV (lnB ((List.getD l k 0) % 4194304)) 13 (bkV l k 13)), iC (bmV (lnB ((List.getD l k 0) % 4194304)) 14 (bkV l k 14)), iC (bmV (lnB ((List.getD l k 0) % 4194304)) 15 (bkV l k 15)), iC (bmV (lnB ((List.getD l k 0) % 4194304)) 16 (bkV l k 16)), iC (bmV (lnB ((List.getD l k 0) % 4194304)) 17 (bkV l k 17)), iC (bmV (lnB ((List.getD l k 0) % 4194304)) 18 (bkV l k 18)), iC (bmV (lnB ((List.getD l k 0) % 4194304)) 19 (bkV l k 19)), iC (bmV (lnB ((List.getD l k 0) % 4194304)) 20 (bkV l k 20)), iC (bmV (lnB ((List.getD l k 0) % 4194304)) 21 (bkV l k 21)), iC (bmV (lnB ((List.getD l k 0) % 4194304)) 22 (bkV l k 22)), iC (bmV (lnB ((List.getD l k 0) % 4194304)) 23 (bkV l k 23))], iE 0]) [] 0 [some [D.lit (.bool true)]] none, .no, .no, .no, .no, .no, .no] [0, 1, 2, 7, 11, 12, 24, 25, 26] [0, 1] (P := (_) ∧ (_)) (l' := [(0, sV .i64 l n), (1, iV p), (2, iV q), (7, rV 0 0), (11, rV 1 0), (12, iV 0), (24, sV .i64 l n), (25, iV ↑n), (26, iV ↑k)]) (g' := [(0, some (28, .ds [iD 1, D.lit (.slice none 0 0), iD 0, iD 0, iD 0, iD 0, iD 0, iD 0, iD (bkV l k 0), iD (bkV l k 1), iD (bkV l k 2), iD (bkV l k 3), iD (bkV l k 4), iD (bkV l k 5), iD (bkV l k 6), iD (bkV l k 7), iD (bkV l k 8), iD (bkV l k 9), iD (bkV l k 10), iD (bkV l k 11), iD (bkV l k 12), iD (bkV l k 13), iD (bkV l k 14), iD (bkV l k 15), iD (bkV l k 16), iD (bkV l k 17), iD (bkV l k 18), iD (bkV l k 19), iD (bkV l k 20), iD (bkV l k 21), iD (bkV l k 22), iD (bkV l k 23)])), (1, some (28, .ds [iD 1, D.lit (.slice none 0 0), iD 0, iD 0, iD 0, iD 0, iD 0, iD 0, iD (bmV (lnB ((List.getD l k 0) % 4194304)) 0 (bkV l k 0)), iD (bmV (lnB ((List.getD l k 0) % 4194304)) 1 (bkV l k 1)), iD (bmV (lnB ((List.getD l k 0) % 4194304)) 2 (bkV l k 2)), iD (bmV (lnB ((List.getD l k 0) % 4194304)) 3 (bkV l k 3)), iD (bmV (lnB ((List.getD l k 0) % 4194304)) 4 (bkV l k 4)), iD (bmV (lnB ((List.getD l k 0) % 4194304)) 5 (bkV l k 5)), iD (bmV (lnB ((List.getD l k 0) % 4194304)) 6 (bkV l k 6)), iD (bmV (lnB ((List.getD l k 0) % 4194304)) 7 (bkV l k 7)), iD (bmV (lnB ((List.getD l k 0) % 4194304)) 8 (bkV l k 8)), iD (bmV (lnB ((List.getD l k 0) % 4194304)) 9 (bkV l k 9)), iD (bmV (lnB ((List.getD l k 0) % 4194304)) 10 (bkV l k 10)), iD (bmV (lnB ((List.getD l k 0) % 4194304)) 11 (bkV l k 11)), iD (bmV (lnB ((List.getD l k 0) % 4194304)) 12 (bkV l k 12)), iD (bmV (lnB ((List.getD l k 0) % 4194304)) 13 (bkV l k 13)), iD (bmV (lnB ((List.getD l k 0) % 4194304)) 14 (bkV l k 14)), iD (bmV (lnB ((List.getD l k 0) % 4194304)) 15 (bkV l k 15)), iD (bmV (lnB ((List.getD l k 0) % 4194304)) 16 (bkV l k 16)), iD (bmV (lnB ((List.getD l k 0) % 4194304)) 17 (bkV l k 17)), iD (bmV (lnB ((List.getD l k 0) % 4194304)) 18 (bkV l k 18)), iD (bmV (lnB ((List.getD l k 0) % 4194304)) 19 (bkV l k 19)), iD (bmV (lnB ((List.getD l k 0) % 4194304)) 20 (bkV l k 20)), iD (bmV (lnB ((List.getD l k 0) % 4194304)) 21 (bkV l k 21)), iD (bmV (lnB ((List.getD l k 0) % 4194304)) 22 (bkV l k 22)), iD (bmV (lnB ((List.getD l k 0) % 4194304)) 23 (bkV l k 23))]))]) (nx' := 2) (by kernel_rfl) ⟨(M_Mod (List.getD l k 0) 4194304 (by omega)), (R_ms 1 (bkV l k 0) (bkV l k 1) (bkV l k 2) (bkV l k 3) (bkV l k 4) (bkV l k 5) (bkV l k 6) (bkV l k 7) (bkV l k 8) (bkV l k 9) (bkV l k 10) (bkV l k 11) (bkV l k 12) (bkV l k 13) (bkV l k 14) (bkV l k 15) (bkV l k 16) (bkV l k 17) (bkV l k 18) (bkV l k 19) (bkV l k 20) (bkV l k 21) (bkV l k 22) (bkV l k 23) ((List.getD l k 0) % 4194304) (by omega) (by first | omega | with_reducible assumption | (simp <;> omega) | rfl | assumption) (by first | omega | with_reducible assumption | (simp <;> omega) | rfl | assumption))⟩ ?_
      refine AW.seq ?_
      refine AW.rgs [.no, .b false] [0, 1, 2, 7, 11, 24, 25, 26, 38] [0, 1] (P := (¬ ((0 : Int) ≠ 0))) (l' := [(0, sV .i64 l n), (1, iV p), (2, iV q), (7, rV 0 0), (11, rV 1 0), (24, sV .i64 l n), (25, iV ↑n), (26, iV ↑k), (38, bV false)]) (g' := [(0, some (28, .ds [iD 1, D.lit (.slice none 0 0), iD 0, iD 0, iD 0, iD 0, iD 0, iD 0, iD (bkV l k 0), iD (bkV l k 1), iD (bkV l k 2), iD (bkV l k 3), iD (bkV l k 4), iD (bkV l k 5), iD (bkV l k 6), iD (bkV l k 7), iD (bkV l k 8), iD (bkV l k 9), iD (bkV l k 10), iD (bkV l k 11), iD (bkV l k 12), iD (bkV l k 13), iD (bkV l k 14), iD (bkV l k 15), iD (bkV l k 16), iD (bkV l k 17), iD (bkV l k 18), iD (bkV l k 19), iD (bkV l k 20), iD (bkV l k 21), iD (bkV l k 22), iD (bkV l k 23)])), (1, some (28, .ds [iD 1, D.lit (.slice none 0 0), iD 0, iD 0, iD 0, iD 0, iD 0, iD 0, iD (bmV (lnB ((List.getD l k 0) % 4194304)) 0 (bkV l k 0)), iD (bmV (lnB ((List.getD l k 0) % 4194304)) 1 (bkV l k 1)), iD (bmV (lnB ((List.getD l k 0) % 4194304)) 2 (bkV l k 2)), iD (bmV (lnB ((List.getD l k 0) % 4194304)) 3 (bkV l k 3)), iD (bmV (lnB ((List.getD l k 0) % 4194304)) 4 (bkV l k 4)), iD (bmV (lnB ((List.getD l k 0) % 4194304)) 5 (bkV l k 5)), iD (bmV (lnB ((List.getD l k 0) % 4194304)) 6 (bkV l k 6)), iD (bmV (lnB ((List.getD l k 0) % 4194304)) 7 (bkV l k 7)), iD (bmV (lnB ((List.getD l k 0) % 4194304)) 8 (bkV l k 8)), iD (bmV (lnB ((List.getD l k 0) % 4194304)) 9 (bkV l k 9)), iD (bmV (lnB ((List.getD l k 0) % 4194304)) 10 (bkV l k 10)), iD (bmV (lnB ((List.getD l k 0) % 4194304)) 11 (bkV l k 11)), iD (bmV (lnB ((List.getD l k 0) % 4194304)) 12 (bkV l k 12)), iD (bmV (lnB ((List.getD l k 0) % 4194304)) 13 (bkV l k 13)), iD (bmV (lnB ((List.getD l k 0) % 4194304)) 14 (bkV l k 14)), iD (bmV (lnB ((List.getD l k 0) % 4194304)) 15 (bkV l k 15)), iD (bmV (lnB ((List.getD l k 0) % 4194304)) 16 (bkV l k 16)), iD (bmV (lnB ((List.getD l k 0) % 4194304)) 17 (bkV l k 17)), iD (bmV (lnB ((List.getD l k 0) % 4194304)) 18 (bkV l k 18)), iD (bmV (lnB ((List.getD l k 0) % 4194304)) 19 (bkV l k 19)), iD (bmV (lnB ((List.getD l k 0) % 4194304)) 20 (bkV l k 20)), iD (bmV (lnB ((List.getD l k 0) % 4194304)) 21 (bkV l k 21)), iD (bmV (lnB ((List.getD l k 0) % 4194304)) 22 (bkV l k 22)), iD (bmV (lnB ((List.getD l k 0) % 4194304)) 23 (bkV l k 23))]))]) (nx' := 2) (by kernel_rfl) (by omega) ?_
      refine AW.cond_f (.tmp (Look.of rfl)) ?_
      refine AW.skip ?_
      refine AW.rg [.no, .no] [0, 1, 2, 7, 24, 25, 26] [0] (P := True) (l' := [(0, sV .i64 l n), (1, iV p), (2, iV q), (7, rV 0 0), (24, sV .i64 l n), (25, iV ↑n), (26, iV ↑k)]) (g' := [(0, some (28, .ds [iD 1, D.lit (.slice none 0 0), iD 0, iD 0, iD 0, iD 0, iD 0, iD 0, iD (bmV (lnB ((List.getD l k 0) % 4194304)) 0 (bkV l k 0)), iD (bmV (lnB ((List.getD l k 0) % 4194304)) 1 (bkV l k 1)), iD (bmV (lnB ((List.getD l k 0) % 4194304)) 2 (bkV l k 2)), iD (bmV (lnB ((List.getD l k 0) % 4194304)) 3 (bkV l k 3)), iD (bmV (lnB ((List.getD l k 0) % 4194304)) 4 (bkV l k 4)), iD (bmV (lnB ((List.getD l k 0) % 4194304)) 5 (bkV l k 5)), iD (bmV (lnB ((List.getD l k 0) % 4194304)) 6 (bkV l k 6)), iD (bmV (lnB ((List.getD l k 0) % 4194304)) 7 (bkV l k 7)), iD (bmV (lnB ((List.getD l k 0) % 4194304)) 8 (bkV l k 8)), iD (bmV (lnB ((List.getD l k 0) % 4194304)) 9 (bkV l k 9)), iD (bmV (lnB ((List.getD l k 0) % 4194304)) 10 (bkV l k 10)), iD (bmV (lnB ((List.getD l k 0) % 4194304)) 11 (bkV l k 11)), iD (bmV (lnB ((List.getD l k 0) % 4194304)) 12 (bkV l k 12)), iD (bmV (lnB ((List.getD l k 0) % 4194304)) 13 (bkV l k 13)), iD (bmV (lnB ((List.getD l k 0) % 4194304)) 14 (bkV l k 14)), iD (bmV (lnB ((List.getD l k 0) % 4194304)) 15 (bkV l k 15)), iD (bmV (lnB ((List.getD l k 0) % 4194304)) 16 (bkV l k 16)), iD (bmV (lnB ((List.getD l k 0) % 4194304)) 17 (bkV l k 17)), iD (bmV (lnB ((List.getD l k 0) % 4194304)) 18 (bkV l k 18)), iD (bmV (lnB ((List.getD l k 0) % 4194304)) 19 (bkV l k 19)), iD (bmV (lnB ((List.getD l k 0) % 4194304)) 20 (bkV l k 20)), iD (bmV (lnB ((List.getD l k 0) % 4194304)) 21 (bkV l k 21)), iD (bmV (lnB ((List.getD l k 0) % 4194304)) 22 (bkV l k 22)), iD (bmV (lnB ((List.getD l k 0) % 4194304)) 23 (bkV l k 23))]))]) (nx' := 2) (by kernel_rfl) trivial ?_
      refine AW.rg [.w, .no] [0, 1, 2, 7, 24, 25, 26] [0] (P := ((-9223372036854775808) ≤ (((k : Nat) : Int) + 1) ∧ (((k : Nat) : Int) + 1) ≤ 9223372036854775807)) (l' := [(0, sV .i64 l n), (1, iV p), (2, iV q), (7, rV 0 0), (24, sV .i64 l n), (25, iV ↑n), (26, iV (↑k + 1))]) (g' := [(0, some (28, .ds [iD 1, D.lit (.slice none 0 0), iD 0, iD 0, iD 0, iD 0, iD 0, iD 0, iD (bmV (lnB ((List.getD l k 0) % 4194304)) 0 (bkV l k 0)), iD (bmV (lnB ((List.getD l k 0) % 4194304)) 1 (bkV l k 1)), iD (bmV (lnB ((List.getD l k 0) % 4194304)) 2 (bkV l k 2)), iD (bmV (lnB ((List.getD l k 0) % 4194304)) 3 (bkV l k 3)), iD (bmV (lnB ((List.getD l k 0) % 4194304)) 4 (bkV l k 4)), iD (bmV (lnB ((List.getD l k 0) % 4194304)) 5 (bkV l k 5)), iD (bmV (lnB ((List.getD l k 0) % 4194304)) 6 (bkV l k 6)), iD (bmV (lnB ((List.getD l k 0) % 4194304)) 7 (bkV l k 7)), iD (bmV (lnB ((List.getD l k 0) % 4194304)) 8 (bkV l k 8)), iD (bmV (lnB ((List.getD l k 0) % 4194304)) 9 (bkV l k 9)), iD (bmV (lnB ((List.getD l k 0) % 4194304)) 10 (bkV l k 10)), iD (bmV (lnB ((List.getD l k 0) % 4194304)) 11 (bkV l k 11)), iD (bmV (lnB ((List.getD l k 0) % 4194304)) 12 (bkV l k 12)), iD (bmV (lnB ((List.getD l k 0) % 4194304)) 13 (bkV l k 13)), iD (bmV (lnB ((List.getD l k 0) % 4194304)) 14 (bkV l k 14)), iD (bmV (lnB ((List.getD l k 0) % 4194304)) 15 (bkV l k 15)), iD (bmV (lnB ((List.getD l k 0) % 4194304)) 16 (bkV l k 16)), iD (bmV (lnB ((List.getD l k 0) % 4194304)) 17 (bkV l k 17)), iD (bmV (lnB ((List.getD l k 0) % 4194304)) 18 (bkV l k 18)), iD (bmV (lnB ((List.getD l k 0) % 4194304)) 19 (bkV l k 19)), iD (bmV (lnB ((List.getD l k 0) % 4194304)) 20 (bkV l k 20)), iD (bmV (lnB ((List.getD l k 0) % 4194304)) 21 (bkV l k 21)), iD (bmV (lnB ((List.getD l k 0) % 4194304)) 22 (bkV l k 22)), iD (bmV (lnB ((List.getD l k 0) % 4194304)) 23 (bkV l k 23))]))]) (nx' := 2) (by kernel_rfl) ⟨by omega, by omega⟩ ?_
      exact Rd.of ⟨((k + 1) : Nat), (show ((k + 1) ≤ n) from (by first | omega | assumption | simp))⟩ [] (P := (((dI .i64 l) : List D) = (dI .i64 l)) ∧ ((n : Nat) = n) ∧ ((p : Int) = p) ∧ ((q : Int) = q) ∧ ((0 : Nat) = 0) ∧ (((dI .i64 l) : List D) = (dI .i64 l)) ∧ ((n : Nat) = n) ∧ ((((n : Nat) : Int) : Int) = ((n : Nat) : Int)) ∧ (((((k + 1) : Nat) : Int) : Int) = (((k : Nat) : Int) + 1)) ∧ (([iD 1, D.lit (.slice none 0 0), iD 0, iD 0, iD 0, iD 0, iD 0, iD 0, iD (bkV l (k + 1) 0), iD (bkV l (k + 1) 1), iD (bkV l (k + 1) 2), iD (bkV l (k + 1) 3), iD (bkV l (k + 1) 4), iD (bkV l (k + 1) 5), iD (bkV l (k + 1) 6), iD (bkV l (k + 1) 7), iD (bkV l (k + 1) 8), iD (bkV l (k + 1) 9), iD (bkV l (k + 1) 10), iD (bkV l (k + 1) 11), iD (bkV l (k + 1) 12), iD (bkV l (k + 1) 13), iD (bkV l (k + 1) 14), iD (bkV l (k + 1) 15), iD (bkV l (k + 1) 16), iD (bkV l (k + 1) 17), iD (bkV l (k + 1) 18), iD (bkV l (k + 1) 19), iD (bkV l (k + 1) 20), iD (bkV l (k + 1) 21), iD (bkV l (k + 1) 22), iD (bkV l (k + 1) 23)] : List D) = [iD 1, D.lit (.slice none 0 0), iD 0, iD 0, iD 0, iD 0, iD 0, iD 0, iD (bmV (lnB ((List.getD l k 0) % 4194304)) 0 (bkV l k 0)), iD (bmV (lnB ((List.getD l k 0) % 4194304)) 1 (bkV l k 1)), iD (bmV (lnB ((List.getD l k 0) % 4194304)) 2 (bkV l k 2)), iD (bmV (lnB ((List.getD l k 0) % 4194304)) 3 (bkV l k 3)), iD (bmV (lnB ((List.getD l k 0) % 4194304)) 4 (bkV l k 4)), iD (bmV (lnB ((List.getD l k 0) % 4194304)) 5 (bkV l k 5)), iD (bmV (lnB ((List.getD l k 0) % 4194304)) 6 (bkV l k 6)), iD (bmV (lnB ((List.getD l k 0) % 4194304)) 7 (bkV l k 7)), iD (bmV (lnB ((List.getD l k 0) % 4194304)) 8 (bkV l k 8)), iD (bmV (lnB ((List.getD l k 0) % 4194304)) 9 (bkV l k 9)), iD (bmV (lnB ((List.getD l k 0) % 4194304)) 10 (bkV l k 10)), iD (bmV (lnB ((List.getD l k 0) % 4194304)) 11 (bkV l k 11)), iD (bmV (lnB ((List.getD l k 0) % 4194304)) 12 (bkV l k 12)), iD (bmV (lnB ((List.getD l k 0) % 4194304)) 13 (bkV l k 13)), iD (bmV (lnB ((List.getD l k 0) % 4194304)) 14 (bkV l k 14)), iD (bmV (lnB ((List.getD l k 0) % 4194304)) 15 (bkV l k 15)), iD (bmV (lnB ((List.getD l k 0) % 4194304)) 16 (bkV l k 16)), iD (bmV (lnB ((List.getD l k 0) % 4194304)) 17 (bkV l k 17)), iD (bmV (lnB ((List.getD l k 0) % 4194304)) 18 (bkV l k 18)), iD (bmV (lnB ((List.getD l k 0) % 4194304)) 19 (bkV l k 19)), iD (bmV (lnB ((List.getD l k 0) % 4194304)) 20 (bkV l k 20)), iD (bmV (lnB ((List.getD l k 0) % 4194304)) 21 (bkV l k 21)), iD (bmV (lnB ((List.getD l k 0) % 4194304)) 22 (bkV l k 22)), iD (bmV (lnB ((List.getD l k 0) % 4194304)) 23 (bkV l k 23))])) (by kernel_rfl) ⟨rfl, rfl, rfl, rfl, rfl, rfl, rfl, rfl, (by first | rfl | omega | assumption | (simp; done) | (simp; omega)), rfl⟩ (show n - (k + 1) < n - k from (by first | omega | (show _ < _; simp; omega)))
    · refine AW.rgs [.b false] [0, 1, 2, 7, 24, 25, 26, 27] [0] (P := (¬ (((k : Nat) : Int) < ((n : Nat) : Int)))) (l' := [(0, sV .i64 l n), (1, iV p), (2, iV q), (7, rV 0 0), (24, sV .i64 l n), (25, iV ↑n), (26, iV ↑k), (27, bV false)]) (g' := [(0, some (28, .ds [iD 1, D.lit (.slice none 0 0), iD 0, iD 0, iD 0, iD 0, iD 0, iD 0, iD (bkV l k 0), iD (bkV l k 1), iD (bkV l k 2), iD (bkV l k 3), iD (bkV l k 4), iD (bkV l k 5), iD (bkV l k 6), iD (bkV l k 7), iD (bkV l k 8), iD (bkV l k 9), iD (bkV l k 10), iD (bkV l k 11), iD (bkV l k 12), iD (bkV l k 13), iD (bkV l k 14), iD (bkV l k 15), iD (bkV l k 16), iD (bkV l k 17), iD (bkV l k 18), iD (bkV l k 19), iD (bkV l k 20), iD (bkV l k 21), iD (bkV l k 22), iD (bkV l k 23)]))]) (nx' := 1) (by kernel_rfl) (by omega) ?_
      refine AW.seq ?_
      refine AW.cond_f (.tmp (Look.of rfl)) ?_
      refine AW.exit ?_
      refine AW.seq ?_
      obtain rfl : n = k := by omega
      refine AW.rgs [.no, .no, .no] [1, 2, 7, 41, 42, 43] [0] (P := True) (l' := [(1, iV p), (2, iV q), (7, rV 0 0), (41, sV .i64 l n), (42, iV ↑n), (43, iV 0)]) (g' := [(0, some (28, .ds [iD 1, D.lit (.slice none 0 0), iD 0, iD 0, iD 0, iD 0, iD 0, iD 0, iD (bkV l n 0), iD (bkV l n 1), iD (bkV l n 2), iD (bkV l n 3), iD (bkV l n 4), iD (bkV l n 5), iD (bkV l n 6), iD (bkV l n 7), iD (bkV l n 8), iD (bkV l n 9), iD (bkV l n 10), iD (bkV l n 11), iD (bkV l n 12), iD (bkV l n 13), iD (bkV l n 14), iD (bkV l n 15), iD (bkV l n 16), iD (bkV l n 17), iD (bkV l n 18), iD (bkV l n 19), iD (bkV l n 20), iD (bkV l n 21), iD (bkV l n 22), iD (bkV l n 23)]))]) (nx' := 1) (by kernel_rfl) trivial ?_
      refine AW.block ?_
      refine AW.loopE 0 hcx (fun (x : {x : Nat // match x with | k2 => (k2 ≤ n)}) => match x with | ⟨k2, _⟩ => (⟨[(1, iV p), (2, iV q), (7, rV 0 0), (41, sV .i64 l n), (42, iV ((n : Nat) : Int)), (43, iV ((k2 : Nat) : Int))], [(0, some (28, .ds [iD 1, D.lit (.slice none 0 0), iD 0, iD 0, iD 0, iD 0, iD 0, iD 0, iD (bkV l n 0), iD (bkV l n 1), iD (bkV l n 2), iD (bkV l n 3), iD (bkV l n 4), iD (bkV l n 5), iD (bkV l n 6), iD (bkV l n 7), iD (bkV l n 8), iD (bkV l n 9), iD (bkV l n 10), iD (bkV l n 11), iD (bkV l n 12), iD (bkV l n 13), iD (bkV l n 14), iD (bkV l n 15), iD (bkV l n 16), iD (bkV l n 17), iD (bkV l n 18), iD (bkV l n 19), iD (bkV l n 20), iD (bkV l n 21), iD (bkV l n 22), iD (bkV l n 23)]))], 1⟩ : ES)) (fun (x : {x : Nat // match x with | k2 => (k2 ≤ n)}) => match x with | ⟨k2, _⟩ => n - k2) ⟨(0 : Nat), (show ((0 : Nat) ≤ n) from (by first | omega | assumption | simp))⟩ [] (P := ((p : Int) = p) ∧ ((q : Int) = q) ∧ ((0 : Nat) = 0) ∧ (((dI .i64 l) : List D) = (dI .i64 l)) ∧ ((n : Nat) = n) ∧ ((((n : Nat) : Int) : Int) = ((n : Nat) : Int)) ∧ ((0 : Int) = 0) ∧ (([iD 1, D.lit (.slice none 0 0), iD 0, iD 0, iD 0, iD 0, iD 0, iD 0, iD (bkV l n 0), iD (bkV l n 1), iD (bkV l n 2), iD (bkV l n 3), iD (bkV l n 4), iD (bkV l n 5), iD (bkV l n 6), iD (bkV l n 7), iD (bkV l n 8), iD (bkV l n 9), iD (bkV l n 10), iD (bkV l n 11), iD (bkV l n 12), iD (bkV l n 13), iD (bkV l n 14), iD (bkV l n 15), iD (bkV l n 16), iD (bkV l n 17), iD (bkV l n 18), iD (bkV l n 19), iD (bkV l n 20), iD (bkV l n 21), iD (bkV l n 22), iD (bkV l n 23)] : List D) = [iD 1, D.lit (.slice none 0 0), iD 0, iD 0, iD 0, iD 0, iD 0, iD 0, iD (bkV l n 0), iD (bkV l n 1), iD (bkV l n 2), iD (bkV l n 3), iD (bkV l n 4), iD (bkV l n 5), iD (bkV l n 6), iD (bkV l n 7), iD (bkV l n 8), iD (bkV l n 9), iD (bkV l n 10), iD (bkV l n 11), iD (bkV l n 12), iD (bkV l n 13), iD (bkV l n 14), iD (bkV l n 15), iD (bkV l n 16), iD (bkV l n 17), iD (bkV l n 18), iD (bkV l n 19), iD (bkV l n 20), iD (bkV l n 21), iD (bkV l n 22), iD (bkV l n 23)])) (by kernel_rfl) ⟨rfl, rfl, rfl, rfl, rfl, rfl, rfl, rfl⟩ ?_
      rintro ⟨k2, hinv1⟩
      have hk2 : (k2 ≤ n) := hinv1
      refine AW.es (l := [(1, iV p), (2, iV q), (7, rV 0 0), (41, sV .i64 l n), (42, iV ((n : Nat) : Int)), (43, iV ((k2 : Nat) : Int))]) (g := [(0, some (28, .ds [iD 1, D.lit (.slice none 0 0), iD 0, iD 0, iD 0, iD 0, iD 0, iD 0, iD (bkV l n 0), iD (bkV l n 1), iD (bkV l n 2), iD (bkV l n 3), iD (bkV l n 4), iD (bkV l n 5), iD (bkV l n 6), iD (bkV l n 7), iD (bkV l n 8), iD (bkV l n 9), iD (bkV l n 10), iD (bkV l n 11), iD (bkV l n 12), iD (bkV l n 13), iD (bkV l n 14), iD (bkV l n 15), iD (bkV l n 16), iD (bkV l n 17), iD (bkV l n 18), iD (bkV l n 19), iD (bkV l n 20), iD (bkV l n 21), iD (bkV l n 22), iD (bkV l n 23)]))]) (nx := 1) rfl rfl rfl ?_
      by_cases hx4 : (((k2 : Nat) : Int) < ((n : Nat) : Int))
      · refine AW.rgs [.b true] [1, 2, 7, 41, 42, 43, 44] [0] (P := ((((k2 : Nat) : Int) < ((n : Nat) : Int)))) (l' := [(1, iV p), (2, iV q), (7, rV 0 0), (41, sV .i64 l n), (42, iV ↑n), (43, iV ↑k2), (44, bV true)]) (g' := [(0, some (28, .ds [iD 1, D.lit (.slice none 0 0), iD 0, iD 0, iD 0, iD 0, iD 0, iD 0, iD (bkV l n 0), iD (bkV l n 1), iD (bkV l n 2), iD (bkV l n 3), iD (bkV l n 4), iD (bkV l n 5), iD (bkV l n 6), iD (bkV l n 7), iD (bkV l n 8), iD (bkV l n 9), iD (bkV l n 10), iD (bkV l n 11), iD (bkV l n 12), iD (bkV l n 13), iD (bkV l n 14), iD (bkV l n 15), iD (bkV l n 16), iD (bkV l n 17), iD (bkV l n 18), iD (bkV l n 19), iD (bkV l n 20), iD (bkV l n 21), iD (bkV l n 22), iD (bkV l n 23)]))]) (nx' := 1) (by kernel_rfl) (by omega) ?_
        refine AW.seq ?_
        refine AW.cond_t (.tmp (Look.of rfl)) ?_
        refine AW.skip ?_
        refine AW.seq ?_
        refine AW.block ?_
        refine AW.rgs [.n k2, .d (D.lit (.int .i64 (List.getD l k2 0))), .no] [1, 2, 7, 14, 41, 42, 43] [0] (P := ((((k2 : Nat) : Int) : Int) = ((k2 : Nat) : Int)) ∧ (k2 < n) ∧ ((List.drop k2 (dI .i64 l))[0]? = some (D.lit (.int .i64 (List.getD l k2 0))))) (l' := [(1, iV p), (2, iV q), (7, rV 0 0), (14, iV (List.getD l k2 0)), (41, sV .i64 l n), (42, iV ↑n), (43, iV ↑k2)]) (g' := [(0, some (28, .ds [iD 1, D.lit (.slice none 0 0), iD 0, iD 0, iD 0, iD 0, iD 0, iD 0, iD (bkV l n 0), iD (bkV l n 1), iD (bkV l n 2), iD (bkV l n 3), iD (bkV l n 4), iD (bkV l n 5), iD (bkV l n 6), iD (bkV l n 7), iD (bkV l n 8), iD (bkV l n 9), iD (bkV l n 10), iD (bkV l n 11), iD (bkV l n 12), iD (bkV l n 13), iD (bkV l n 14), iD (bkV l n 15), iD (bkV l n 16), iD (bkV l n 17), iD (bkV l n 18), iD (bkV l n 19), iD (bkV l n 20), iD (bkV l n 21), iD (bkV l n 22), iD (bkV l n 23)]))]) (nx' := 1) (by kernel_rfl) ⟨rfl, (by omega), (dI_at _ _ _ (by first | omega | (rw [dI_len]; omega) | (simp [dI_len] <;> omega) | rfl))⟩ ?_
        have hge : List.getD l k2 0 % 4194304 ≤ moV [bkV l n 0, bkV l n 1, bkV l n 2, bkV l n 3, bkV l n 4, bkV l n 5, bkV l n 6, bkV l n 7, bkV l n 8, bkV l n 9, bkV l n 10, bkV l n 11, bkV l n 12, bkV l n 13, bkV l n 14, bkV l n 15, bkV l n 16, bkV l n 17, bkV l n 18, bkV l n 19, bkV l n 20, bkV l n 21, bkV l n 22, bkV l n 23] 100 := mo_ge (l := l) (n := n) (by omega) (by omega)
        have hx5 : (((0 : Int) ≤ ((List.getD l k2 0) % 4194304)) ∧ (((List.getD l k2 0) % 4194304) < 4194304)) := emod_rng (List.getD l k2 0) (4194304 : Int) (by omega)
        refine AW.rgs [.no, .call [] (iV (moV ([(bkV l n 0), (bkV l n 1), (bkV l n 2), (bkV l n 3), (bkV l n 4), (bkV l n 5), (bkV l n 6), (bkV l n 7), (bkV l n 8), (bkV l n 9), (bkV l n 10), (bkV l n 11), (bkV l n 12), (bkV l n 13), (bkV l n 14), (bkV l n 15), (bkV l n 16), (bkV l n 17), (bkV l n 18), (bkV l n 19), (bkV l n 20), (bkV l n 21), (bkV l n 22), (bkV l n 23)] : List Int) 100)) [] 0 [some [D.lit (.bool true)]] none, .no, .call [] (iV ((List.getD l k2 0) % 4194304)) [] 0 [] none, .b false] [1, 2, 7, 41, 42, 43, 51] [0] (P := (_) ∧ (_) ∧ (¬ ((moV ([(bkV l n 0), (bkV l n 1), (bkV l n 2), (bkV l n 3), (bkV l n 4), (bkV l n 5), (bkV l n 6), (bkV l n 7), (bkV l n 8), (bkV l n 9), (bkV l n 10), (bkV l n 11), (bkV l n 12), (bkV l n 13), (bkV l n 14), (bkV l n 15), (bkV l n 16), (bkV l n 17), (bkV l n 18), (bkV l n 19), (bkV l n 20), (bkV l n 21), (bkV l n 22), (bkV l n 23)] : List Int) 100) < ((List.getD l k2 0) % 4194304)))) (l' := [(1, iV p), (2, iV q), (7, rV 0 0), (41, sV .i64 l n), (42, iV ↑n), (43, iV ↑k2), (51, bV false)]) (g' := [(0, some (28, .ds [iD 1, D.lit (.slice none 0 0), iD 0, iD 0, iD 0, iD 0, iD 0, iD 0, iD (bkV l n 0), iD (bkV l n 1), iD (bkV l n 2), iD (bkV l n 3), iD (bkV l n 4), iD (bkV l n 5), iD (bkV l n 6), iD (bkV l n 7), iD (bkV l n 8), iD (bkV l n 9), iD (bkV l n 10), iD (bkV l n 11), iD (bkV l n 12), iD (bkV l n 13), iD (bkV l n 14), iD (bkV l n 15), iD (bkV l n 16), iD (bkV l n 17), iD (bkV l n 18), iD (bkV l n 19), iD (bkV l n 20), iD (bkV l n 21), iD (bkV l n 22), iD (bkV l n 23)]))]) (nx' := 1) (by kernel_rfl) ⟨(R_most 1 (bkV l n 0) (bkV l n 1) (bkV l n 2) (bkV l n 3) (bkV l n 4) (bkV l n 5) (bkV l n 6) (bkV l n 7) (bkV l n 8) (bkV l n 9) (bkV l n 10) (bkV l n 11) (bkV l n 12) (bkV l n 13) (bkV l n 14) (bkV l n 15) (bkV l n 16) (bkV l n 17) (bkV l n 18) (bkV l n 19) (bkV l n 20) (bkV l n 21) (bkV l n 22) (bkV l n 23) 100 (by omega) (by first | omega | with_reducible assumption | (simp <;> omega) | rfl | assumption) (by omega)), (M_Mod (List.getD l k2 0) 4194304 (by omega)), (by omega)⟩ ?_
        refine AW.cond_f (.tmp (Look.of rfl)) ?_
        refine AW.skip ?_
        refine AW.rg [.w, .no] [1, 2, 7, 41, 42, 43] [0] (P := ((-9223372036854775808) ≤ (((k2 : Nat) : Int) + 1) ∧ (((k2 : Nat) : Int) + 1) ≤ 9223372036854775807)) (l' := [(1, iV p), (2, iV q), (7, rV 0 0), (41, sV .i64 l n), (42, iV ↑n), (43, iV (↑k2 + 1))]) (g' := [(0, some (28, .ds [iD 1, D.lit (.slice none 0 0), iD 0, iD 0, iD 0, iD 0, iD 0, iD 0, iD (bkV l n 0), iD (bkV l n 1), iD (bkV l n 2), iD (bkV l n 3), iD (bkV l n 4), iD (bkV l n 5), iD (bkV l n 6), iD (bkV l n 7), iD (bkV l n 8), iD (bkV l n 9), iD (bkV l n 10), iD (bkV l n 11), iD (bkV l n 12), iD (bkV l n 13), iD (bkV l n 14), iD (bkV l n 15), iD (bkV l n 16), iD (bkV l n 17), iD (bkV l n 18), iD (bkV l n 19), iD (bkV l n 20), iD (bkV l n 21), iD (bkV l n 22), iD (bkV l n 23)]))]) (nx' := 1) (by kernel_rfl) ⟨by omega, by omega⟩ ?_
        exact Rd.of ⟨((k2 + 1) : Nat), (show ((k2 + 1) ≤ n) from (by first | omega | assumption | simp))⟩ [] (P := ((p : Int) = p) ∧ ((q : Int) = q) ∧ ((0 : Nat) = 0) ∧ (((dI .i64 l) : List D) = (dI .i64 l)) ∧ ((n : Nat) = n) ∧ ((((n : Nat) : Int) : Int) = ((n : Nat) : Int)) ∧ (((((k2 + 1) : Nat) : Int) : Int) = (((k2 : Nat) : Int) + 1)) ∧ (([iD 1, D.lit (.slice none 0 0), iD 0, iD 0, iD 0, iD 0, iD 0, iD 0, iD (bkV l n 0), iD (bkV l n 1), iD (bkV l n 2), iD (bkV l n 3), iD (bkV l n 4), iD (bkV l n 5), iD (bkV l n 6), iD (bkV l n 7), iD (bkV l n 8), iD (bkV l n 9), iD (bkV l n 10), iD (bkV l n 11), iD (bkV l n 12), iD (bkV l n 13), iD (bkV l n 14), iD (bkV l n 15), iD (bkV l n 16), iD (bkV l n 17), iD (bkV l n 18), iD (bkV l n 19), iD (bkV l n 20), iD (bkV l n 21), iD (bkV l n 22), iD (bkV l n 23)] : List D) = [iD 1, D.lit (.slice none 0 0), iD 0, iD 0, iD 0, iD 0, iD 0, iD 0, iD (bkV l n 0), iD (bkV l n 1), iD (bkV l n 2), iD (bkV l n 3), iD (bkV l n 4), iD (bkV l n 5), iD (bkV l n 6), iD (bkV l n 7), iD (bkV l n 8), iD (bkV l n 9), iD (bkV l n 10), iD (bkV l n 11), iD (bkV l n 12), iD (bkV l n 13), iD (bkV l n 14), iD (bkV l n 15), iD (bkV l n 16), iD (bkV l n 17), iD (bkV l n 18), iD (bkV l n 19), iD (bkV l n 20), iD (bkV l n 21), iD (bkV l n 22), iD (bkV l n 23)])) (by kernel_rfl) ⟨rfl, rfl, rfl, rfl, rfl, rfl, (by first | rfl | omega | assumption | (simp; done) | (simp; omega)), rfl⟩ (show n - (k2 + 1) < n - k2 from (by first | omega | (show _ < _; simp; omega)))
      · refine AW.rgs [.b false] [1, 2, 7, 41, 42, 43, 44] [0] (P := (¬ (((k2 : Nat) : Int) < ((n : Nat) : Int)))) (l' := [(1, iV p), (2, iV q), (7, rV 0 0), (41, sV .i64 l n), (42, iV ↑n), (43, iV ↑k2), (44, bV false)]) (g' := [(0, some (28, .ds [iD 1, D.lit (.slice none 0 0), iD 0, iD 0, iD 0, iD 0, iD 0, iD 0, iD (bkV l n 0), iD (bkV l n 1), iD (bkV l n 2), iD (bkV l n 3), iD (bkV l n 4), iD (bkV l n 5), iD (bkV l n 6), iD (bkV l n 7), iD (bkV l n 8), iD (bkV l n 9), iD (bkV l n 10), iD (bkV l n 11), iD (bkV l n 12), iD (bkV l n 13), iD (bkV l n 14), iD (bkV l n 15), iD (bkV l n 16), iD (bkV l n 17), iD (bkV l n 18), iD (bkV l n 19), iD (bkV l n 20), iD (bkV l n 21), iD (bkV l n 22), iD (bkV l n 23)]))]) (nx' := 1) (by kernel_rfl) (by omega) ?_
        refine AW.seq ?_
        refine AW.cond_f (.tmp (Look.of rfl)) ?_
        refine AW.exit ?_
        have hx6 : (((0 : Int) ≤ (p % 101)) ∧ ((p % 101) < 101)) := emod_rng p (101 : Int) (by omega)
        have hx7 : (((0 : Int) ≤ (q % 101)) ∧ ((q % 101) < 101)) := emod_rng q (101 : Int) (by omega)
        refine AW.rgs [.no, .call [] (iV (p % 101)) [] 0 [] none, .no, .call [] (iV (q % 101)) [] 0 [] none, .no, .no] [1, 2, 7] [0] (P := (_) ∧ (_)) (l' := [(1, iV (p % 101)), (2, iV (q % 101)), (7, rV 0 0)]) (g' := [(0, some (28, .ds [iD 1, D.lit (.slice none 0 0), iD 0, iD 0, iD 0, iD 0, iD 0, iD 0, iD (bkV l n 0), iD (bkV l n 1), iD (bkV l n 2), iD (bkV l n 3), iD (bkV l n 4), iD (bkV l n 5), iD (bkV l n 6), iD (bkV l n 7), iD (bkV l n 8), iD (bkV l n 9), iD (bkV l n 10), iD (bkV l n 11), iD (bkV l n 12), iD (bkV l n 13), iD (bkV l n 14), iD (bkV l n 15), iD (bkV l n 16), iD (bkV l n 17), iD (bkV l n 18), iD (bkV l n 19), iD (bkV l n 20), iD (bkV l n 21), iD (bkV l n 22), iD (bkV l n 23)]))]) (nx' := 1) (by kernel_rfl) ⟨(M_Mod p 101 (by omega)), (M_Mod q 101 (by omega))⟩ ?_
        have hmm : moV [bkV l n 0, bkV l n 1, bkV l n 2, bkV l n 3, bkV l n 4, bkV l n 5, bkV l n 6, bkV l n 7, bkV l n 8, bkV l n 9, bkV l n 10, bkV l n 11, bkV l n 12, bkV l n 13, bkV l n 14, bkV l n 15, bkV l n 16, bkV l n 17, bkV l n 18, bkV l n 19, bkV l n 20, bkV l n 21, bkV l n 22, bkV l n 23] (min ((p % 101)) ((q % 101))) ≤ moV [bkV l n 0, bkV l n 1, bkV l n 2, bkV l n 3, bkV l n 4, bkV l n 5, bkV l n 6, bkV l n 7, bkV l n 8, bkV l n 9, bkV l n 10, bkV l n 11, bkV l n 12, bkV l n 13, bkV l n 14, bkV l n 15, bkV l n 16, bkV l n 17, bkV l n 18, bkV l n 19, bkV l n 20, bkV l n 21, bkV l n 22, bkV l n 23] (max ((p % 101)) ((q % 101))) := mo_mono (bkL_ok (l := l) (k := n) (by omega)) (by omega) (by omega) (by omega)
        refine AW.rgs [.no, .no, .no, .no, .call [] (iV (moV ([(bkV l n 0), (bkV l n 1), (bkV l n 2), (bkV l n 3), (bkV l n 4), (bkV l n 5), (bkV l n 6), (bkV l n 7), (bkV l n 8), (bkV l n 9), (bkV l n 10), (bkV l n 11), (bkV l n 12), (bkV l n 13), (bkV l n 14), (bkV l n 15), (bkV l n 16), (bkV l n 17), (bkV l n 18), (bkV l n 19), (bkV l n 20), (bkV l n 21), (bkV l n 22), (bkV l n 23)] : List Int) (min (p % 101) (q % 101)))) [] 0 [some [D.lit (.bool true)]] none, .no, .no, .no, .no, .call [] (iV (moV ([(bkV l n 0), (bkV l n 1), (bkV l n 2), (bkV l n 3), (bkV l n 4), (bkV l n 5), (bkV l n 6), (bkV l n 7), (bkV l n 8), (bkV l n 9), (bkV l n 10), (bkV l n 11), (bkV l n 12), (bkV l n 13), (bkV l n 14), (bkV l n 15), (bkV l n 16), (bkV l n 17), (bkV l n 18), (bkV l n 19), (bkV l n 20), (bkV l n 21), (bkV l n 22), (bkV l n 23)] : List Int) (max (p % 101) (q % 101)))) [] 0 [some [D.lit (.bool true)]] none, .b true, .no] [6] [] (P := (_) ∧ (_) ∧ (((moV ([(bkV l n 0), (bkV l n 1), (bkV l n 2), (bkV l n 3), (bkV l n 4), (bkV l n 5), (bkV l n 6), (bkV l n 7), (bkV l n 8), (bkV l n 9), (bkV l n 10), (bkV l n 11), (bkV l n 12), (bkV l n 13), (bkV l n 14), (bkV l n 15), (bkV l n 16), (bkV l n 17), (bkV l n 18), (bkV l n 19), (bkV l n 20), (bkV l n 21), (bkV l n 22), (bkV l n 23)] : List Int) (min (p % 101) (q % 101))) ≤ (moV ([(bkV l n 0), (bkV l n 1), (bkV l n 2), (bkV l n 3), (bkV l n 4), (bkV l n 5), (bkV l n 6), (bkV l n 7), (bkV l n 8), (bkV l n 9), (bkV l n 10), (bkV l n 11), (bkV l n 12), (bkV l n 13), (bkV l n 14), (bkV l n 15), (bkV l n 16), (bkV l n 17), (bkV l n 18), (bkV l n 19), (bkV l n 20), (bkV l n 21), (bkV l n 22), (bkV l n 23)] : List Int) (max (p % 101) (q % 101)))))) (l' := [(6, bV true)]) (g' := []) (nx' := 1) (by kernel_rfl) ⟨(R_most 1 (bkV l n 0) (bkV l n 1) (bkV l n 2) (bkV l n 3) (bkV l n 4) (bkV l n 5) (bkV l n 6) (bkV l n 7) (bkV l n 8) (bkV l n 9) (bkV l n 10) (bkV l n 11) (bkV l n 12) (bkV l n 13) (bkV l n 14) (bkV l n 15) (bkV l n 16) (bkV l n 17) (bkV l n 18) (bkV l n 19) (bkV l n 20) (bkV l n 21) (bkV l n 22) (bkV l n 23) (min (p % 101) (q % 101)) (by omega) (by first | omega | with_reducible assumption | (simp <;> omega) | rfl | assumption) (by omega)), (R_most 1 (bkV l n 0) (bkV l n 1) (bkV l n 2) (bkV l n 3) (bkV l n 4) (bkV l n 5) (bkV l n 6) (bkV l n 7) (bkV l n 8) (bkV l n 9) (bkV l n 10) (bkV l n 11) (bkV l n 12) (bkV l n 13) (bkV l n 14) (bkV l n 15) (bkV l n 16) (bkV l n 17) (bkV l n 18) (bkV l n 19) (bkV l n 20) (bkV l n 21) (bkV l n 22) (bkV l n 23) (max (p % 101) (q % 101)) (by omega) (by first | omega | with_reducible assumption | (simp <;> omega) | rfl | assumption) (by omega)), (by omega)⟩ ?_
        refine AW.ret ?_
        exact EndP.of (.inr rfl) [] (P := (true = true)) (by kernel_rfl) rfl

theorem Sl.max {k : IntKind} {w : World} {a : Option Addr} {len cap : Nat} {l : List Int} (h : Sl k w a len cap l) : List.length l ≤ 9223372036854775807 := by
  obtain ⟨h1, h2, h3, _⟩ := h
  unfold maxLen at h3
  omega

theorem L_Bnd_walk {w : World} {p : Int} {q : Int} {xa0 : Option Addr} {xl0 xc0 : Nat} {l : List Int} (hs0 : Sl .i64 w xa0 xl0 xc0 l) (hi_p : -9223372036854775808 ≤ p ∧ p ≤ 9223372036854775807) (hi_q : -9223372036854775808 ≤ q ∧ q ≤ 9223372036854775807) : Calls Try.prog 3 #[.slice xa0 xl0 xc0, .int .i64 p, .int .i64 q] w fun e w' => e = .returned (.bool true) ∧ Below w.heap.size w w' :=
  (L_Bnd l (List.length l) p q rfl hs0.max hi_p hi_q).walk ⟨repE_sl hs0, repE_lit rfl, repE_lit rfl, trivial⟩

end Go.Proofs.Ytbkjhfjjkihebaa
