/- Recorders. No statement is proved here. -/
import Derived.Test.YtbkjhfjjkihebaaL64
namespace Go.Proofs.Ytbkjhfjjkihebaa
open Go.ChangeShapes Go.WideShapes Go.ChangeAt Go.RowKit
set_option linter.unusedVariables false
set_option linter.unusedSimpArgs false


/-- the number of bits of a latency -/
def lnB (x : Int) : Nat := if x < 1 then 0 else Nat.log2 x.toNat + 1
theorem ln_0 {x : Int} (h : x < 1) : lnB x = 0 := if_pos h
theorem ln_of {x : Int} {z : Nat} (h0 : 1 ≤ x) (h1 : x < ((2 ^ z : Nat) : Int)) (h2 : ((2 ^ (z - 1) : Nat) : Int) ≤ x) (hz : 1 ≤ z) : lnB x = z := by
  unfold lnB
  rw [if_neg (by omega)]
  obtain ⟨n, rfl⟩ := Int.eq_ofNat_of_zero_le (show 0 ≤ x by omega)
  rw [Int.toNat_natCast]
  have h3 : n < 2 ^ z := by omega
  have h4 : 2 ^ (z - 1) ≤ n := by omega
  have h5 := Nat.log2_self_le (show n ≠ 0 by omega)
  have h6 := Nat.lt_log2_self (n := n)
  have a1 := (Nat.pow_lt_pow_iff_right (show 1 < 2 by omega)).1 (Nat.lt_of_le_of_lt h5 h3)
  have a2 := (Nat.pow_lt_pow_iff_right (show 1 < 2 by omega)).1 (Nat.lt_of_le_of_lt h4 h6)
  omega
theorem ln_lt (x : Int) (h : 0 ≤ x) : x < ((2 ^ lnB x : Nat) : Int) := by
  unfold lnB
  by_cases h1 : x < 1
  · rw [if_pos h1]; simpa using h1
  · rw [if_neg h1]
    have h6 := Nat.lt_log2_self (n := x.toNat)
    omega
theorem ln_22 {x : Int} (h : 0 ≤ x ∧ x < 4194304) : lnB x ≤ 22 := by
  unfold lnB
  by_cases h1 : x < 1
  · rw [if_pos h1]; omega
  · rw [if_neg h1]
    have h5 := Nat.log2_self_le (show x.toNat ≠ 0 by omega)
    have h3 : 2 ^ Nat.log2 x.toNat < 2 ^ 22 := by
      have : x.toNat < 4194304 := by omega
      omega
    have := (Nat.pow_lt_pow_iff_right (show 1 < 2 by omega)).1 h3
    omega
def bkOk (l : List Int) : Prop := ∀ j, j < 24 → 0 ≤ List.getD l j 0 ∧ List.getD l j 0 ≤ 1000
def bmV (a j : Nat) (b : Int) : Int := if a = j then b + 1 else b
def suK (l : List Int) : Nat → Int
  | 0 => 0
  | k + 1 => suK l k + List.getD l k 0
theorem suK_in {l : List Int} (h : bkOk l) : ∀ k, k ≤ 24 → 0 ≤ suK l k ∧ suK l k ≤ k * 1000
  | 0, _ => ⟨Int.le_refl _, by simp [suK]⟩
  | k + 1, hk => by
    have h1 := suK_in h k (by omega)
    have h2 := h k (by omega)
    show 0 ≤ suK l k + List.getD l k 0 ∧ suK l k + List.getD l k 0 ≤ ((k + 1 : Nat) : Int) * 1000
    omega
def moI (l : List Int) (p : Int) : Nat → Nat → Nat
  | 0, i => i
  | m + 1, i => if p * suK l 24 ≤ suK l (i + 1) * 100 then i else moI l p m (i + 1)
theorem moI_of {l : List Int} {p : Int} {k : Nat} : ∀ (m i : Nat), i ≤ k → (∀ j, j < k → ¬ p * suK l 24 ≤ suK l (j + 1) * 100) → (k = i + m ∨ (k < i + m ∧ p * suK l 24 ≤ suK l (k + 1) * 100)) → moI l p m i = k
  | 0, i, h1, _, h3 => by show i = k; omega
  | m + 1, i, h1, h2, h3 => by
    unfold moI
    by_cases hik : i < k
    · rw [if_neg (h2 i hik)]; exact moI_of m (i + 1) hik h2 (by omega)
    · obtain rfl : i = k := by omega
      have h4 : p * suK l 24 ≤ suK l (i + 1) * 100 := by rcases h3 with h3 | h3; omega; exact h3.2
      rw [if_pos h4]
def moV (l : List Int) (p : Int) : Int := if suK l 24 = 0 then 0 else if moI l p 24 0 < 24 then 1 * ((2 ^ moI l p 24 0 : Nat) : Int) - 1 else 0
theorem mo_0 {l : List Int} {p : Int} (h : suK l 24 = 0) : moV l p = 0 := if_pos h
theorem mo_y {l : List Int} {p : Int} {k : Nat} (h : ¬ suK l 24 = 0) (hk : k < 24) (h2 : ∀ j, j < k → ¬ p * suK l 24 ≤ suK l (j + 1) * 100) (h3 : p * suK l 24 ≤ suK l (k + 1) * 100) : moV l p = 1 * ((2 ^ k : Nat) : Int) - 1 := by
  have e : moI l p 24 0 = k := moI_of 24 0 (Nat.zero_le _) h2 (.inr ⟨by omega, h3⟩)
  unfold moV; rw [if_neg h, e, if_pos hk]
theorem mo_n {l : List Int} {p : Int} (h : ¬ suK l 24 = 0) (h2 : ∀ j, j < 24 → ¬ p * suK l 24 ≤ suK l (j + 1) * 100) : moV l p = 0 := by
  have e : moI l p 24 0 = 24 := moI_of 24 0 (Nat.zero_le _) h2 (.inl (by omega))
  unfold moV; rw [if_neg h, e, if_neg (by omega)]
def cntOk (l : List Int) (n : Nat) : Prop := ∀ j, j < n → 0 ≤ List.getD l j 0 ∧ List.getD l j 0 ≤ 1099511627776
theorem cnt1 : cntOk [0] 1 := fun j hj => by
  obtain rfl : j = 0 := by omega
  show (0 : Int) ≤ 0 ∧ (0 : Int) ≤ 1099511627776; decide
theorem cnt5 : cntOk [0, 0, 0, 0, 0] 5 := fun j hj => by
  match j, hj with
  | 0, _ => show (0 : Int) ≤ 0 ∧ (0 : Int) ≤ 1099511627776; decide
  | 1, _ => show (0 : Int) ≤ 0 ∧ (0 : Int) ≤ 1099511627776; decide
  | 2, _ => show (0 : Int) ≤ 0 ∧ (0 : Int) ≤ 1099511627776; decide
  | 3, _ => show (0 : Int) ≤ 0 ∧ (0 : Int) ≤ 1099511627776; decide
  | 4, _ => show (0 : Int) ≤ 0 ∧ (0 : Int) ≤ 1099511627776; decide
theorem cnt_bk {l : List Int} (h : bkOk l) : cntOk l 24 := fun j hj => by have := h j hj; omega
theorem bk_rep : bkOk [0, 0, 0, 0, 0, 0, 0, 0, 0, 0, 0, 0, 0, 0, 0, 0, 0, 0, 0, 0, 0, 0, 0, 0] := by
  intro j hj
  show 0 ≤ List.getD (List.replicate 24 (0 : Int)) j 0 ∧ List.getD (List.replicate 24 (0 : Int)) j 0 ≤ 1000
  have : List.getD (List.replicate 24 (0 : Int)) j 0 = 0 := by rw [List.getD_eq_getElem?_getD, List.getElem?_replicate]; split <;> rfl
  rw [this]; decide
theorem pow24 {k : Nat} (h : k < 24) : 1 ≤ ((2 ^ k : Nat) : Int) ∧ ((2 ^ k : Nat) : Int) ≤ 8388608 := by
  have h1 : 2 ^ k ≤ 2 ^ 23 := Nat.pow_le_pow_right (by omega) (by omega)
  have h2 : 0 < 2 ^ k := Nat.pow_pos (by omega)
  omega

set_option maxHeartbeats 4000000 in
set_option maxRecDepth 100000 in
theorem R_cnt (n : Int)  : Fun 16 [iE n] (toG []) 0 (.e (.c (.d (D.lit (.bool (decide (0 ≤ n ∧ n ≤ 1099511627776))))))) (toG []) 0 := by
  refine Fun.mk (n := 9) Try.func16 rfl rfl (Nat.le_of_ble_eq_true rfl) ?_
  intro cx hcx
  refine AW.rgs [.no] [0] [] (P := True) (l' := [(0, iV n)]) (g' := []) (nx' := 0) (by kernel_rfl) trivial ?_
  by_cases hx1 : ((0 : Int) ≤ n)
  · by_cases hx2 : (n ≤ 1099511627776)
    · refine AW.rgs [.no, .b true, .no, .no, .b true, .no, .no] [2] [] (P := (((0 : Int) ≤ n)) ∧ ((n ≤ 1099511627776))) (l' := [(2, bV true)]) (g' := []) (nx' := 0) (by kernel_rfl) ⟨(by omega), (by omega)⟩ ?_
      refine AW.ret ?_
      exact EndP.of (.inr rfl) [] (P := ((decide (0 ≤ n ∧ n ≤ 1099511627776)) = true)) (by kernel_rfl) (by first | exact decide_eq_true (by omega) | exact decide_eq_false (by omega))
    · refine AW.rgs [.no, .b true, .no, .no, .b false, .no, .no] [2] [] (P := (((0 : Int) ≤ n)) ∧ (¬ (n ≤ 1099511627776))) (l' := [(2, bV false)]) (g' := []) (nx' := 0) (by kernel_rfl) ⟨(by omega), (by omega)⟩ ?_
      refine AW.ret ?_
      exact EndP.of (.inr rfl) [] (P := ((decide (0 ≤ n ∧ n ≤ 1099511627776)) = false)) (by kernel_rfl) (by first | exact decide_eq_true (by omega) | exact decide_eq_false (by omega))
  · refine AW.rgs [.no, .b false, .no, .no, .no] [2] [] (P := (¬ ((0 : Int) ≤ n))) (l' := [(2, bV false)]) (g' := []) (nx' := 0) (by kernel_rfl) (by omega) ?_
    refine AW.ret ?_
    exact EndP.of (.inr rfl) [] (P := ((decide (0 ≤ n ∧ n ≤ 1099511627776)) = false)) (by kernel_rfl) (by first | exact decide_eq_true (by omega) | exact decide_eq_false (by omega))

set_option maxHeartbeats 4000000 in
set_option maxRecDepth 100000 in
theorem R_all (l : List Int) (n : Nat) (hl : List.length l = n) (hb : n ≤ 1000) (hA : cntOk l n) : Fun 17 [.c (.fn 16 []), .c (.d (D.sl (dI .i64 l) n))] (toG []) 0 (.e (.c (.d (D.lit (.bool (true)))))) (toG []) 0 := by
  refine Fun.mk (n := 18) Try.func17 rfl rfl (Nat.le_of_ble_eq_true rfl) ?_
  intro cx hcx
  refine AW.rgs [.no] [0, 1] [] (P := True) (l' := [(0, .e (.c (.fn 16 []))), (1, sV .i64 l n)]) (g' := []) (nx' := 0) (by kernel_rfl) trivial ?_
  refine AW.seq ?_
  refine AW.rgs [.no, .no, .no] [0, 7, 8, 9] [] (P := True) (l' := [(0, .e (.c (.fn 16 []))), (7, sV .i64 l n), (8, iV ↑n), (9, iV 0)]) (g' := []) (nx' := 0) (by kernel_rfl) trivial ?_
  refine AW.block ?_
  refine AW.loopE 0 hcx (fun (x : {x : Nat // match x with | k => (k ≤ n)}) => match x with | ⟨k, _⟩ => (⟨[(0, .e (.c (.fn 16 []))), (7, sV .i64 l n), (8, iV ((n : Nat) : Int)), (9, iV ((k : Nat) : Int))], [], 0⟩ : ES)) (fun (x : {x : Nat // match x with | k => (k ≤ n)}) => match x with | ⟨k, _⟩ => n - k) ⟨(0 : Nat), (show ((0 : Nat) ≤ n) from (by first | omega | assumption | simp))⟩ [] (P := (((dI .i64 l) : List D) = (dI .i64 l)) ∧ ((n : Nat) = n) ∧ ((((n : Nat) : Int) : Int) = ((n : Nat) : Int)) ∧ ((0 : Int) = 0)) (by kernel_rfl) ⟨rfl, rfl, rfl, rfl⟩ ?_
  rintro ⟨k, hinv0⟩
  have hk : (k ≤ n) := hinv0
  refine AW.es (l := [(0, .e (.c (.fn 16 []))), (7, sV .i64 l n), (8, iV ((n : Nat) : Int)), (9, iV ((k : Nat) : Int))]) (g := []) (nx := 0) rfl rfl rfl ?_
  by_cases hx1 : (((k : Nat) : Int) < ((n : Nat) : Int))
  · refine AW.rgs [.b true] [0, 7, 8, 9, 10] [] (P := ((((k : Nat) : Int) < ((n : Nat) : Int)))) (l' := [(0, .e (.c (.fn 16 []))), (7, sV .i64 l n), (8, iV ↑n), (9, iV ↑k), (10, bV true)]) (g' := []) (nx' := 0) (by kernel_rfl) (by omega) ?_
    refine AW.seq ?_
    refine AW.cond_t (.tmp (Look.of rfl)) ?_
    refine AW.skip ?_
    refine AW.seq ?_
    refine AW.block ?_
    have hx2 : 0 ≤ (List.getD l k 0) ∧ (List.getD l k 0) ≤ 1099511627776 := (hA k (by omega))
    refine AW.rgs [.n k, .d (D.lit (.int .i64 (List.getD l k 0))), .no] [0, 6, 7, 8, 9] [] (P := ((((k : Nat) : Int) : Int) = ((k : Nat) : Int)) ∧ (k < n) ∧ ((List.drop k (dI .i64 l))[0]? = some (D.lit (.int .i64 (List.getD l k 0))))) (l' := [(0, .e (.c (.fn 16 []))), (6, iV (List.getD l k 0)), (7, sV .i64 l n), (8, iV ↑n), (9, iV ↑k)]) (g' := []) (nx' := 0) (by kernel_rfl) ⟨rfl, (by omega), (dI_at _ _ _ (by first | omega | (rw [dI_len]; omega) | (simp [dI_len] <;> omega) | rfl))⟩ ?_
    refine AW.rgs [.no, .no, .call [] (bV true) [] 0 [] none, .no] [0, 7, 8, 9, 16] [] (P := (_)) (l' := [(0, .e (.c (.fn 16 []))), (7, sV .i64 l n), (8, iV ↑n), (9, iV ↑k), (16, bV false)]) (g' := []) (nx' := 0) (by kernel_rfl) (Fun.y (R_cnt (List.getD l k 0)) (y' := bV true) (congrArg (fun b => LV (.bool b)) (decide_eq_true (by omega)))) ?_
    refine AW.cond_f (.tmp (Look.of rfl)) ?_
    refine AW.skip ?_
    refine AW.rg [.w, .no] [0, 7, 8, 9] [] (P := ((-9223372036854775808) ≤ (((k : Nat) : Int) + 1) ∧ (((k : Nat) : Int) + 1) ≤ 9223372036854775807)) (l' := [(0, .e (.c (.fn 16 []))), (7, sV .i64 l n), (8, iV ↑n), (9, iV (↑k + 1))]) (g' := []) (nx' := 0) (by kernel_rfl) ⟨by omega, by omega⟩ ?_
    exact Rd.of ⟨((k + 1) : Nat), (show ((k + 1) ≤ n) from (by first | omega | assumption | simp))⟩ [] (P := (((dI .i64 l) : List D) = (dI .i64 l)) ∧ ((n : Nat) = n) ∧ ((((n : Nat) : Int) : Int) = ((n : Nat) : Int)) ∧ (((((k + 1) : Nat) : Int) : Int) = (((k : Nat) : Int) + 1))) (by kernel_rfl) ⟨rfl, rfl, rfl, (by first | rfl | omega | assumption | (simp; done) | (simp; omega))⟩ (show n - (k + 1) < n - k from (by first | omega | (show _ < _; simp; omega)))
  · refine AW.rgs [.b false] [0, 7, 8, 9, 10] [] (P := (¬ (((k : Nat) : Int) < ((n : Nat) : Int)))) (l' := [(0, .e (.c (.fn 16 []))), (7, sV .i64 l n), (8, iV ↑n), (9, iV ↑k), (10, bV false)]) (g' := []) (nx' := 0) (by kernel_rfl) (by omega) ?_
    refine AW.seq ?_
    refine AW.cond_f (.tmp (Look.of rfl)) ?_
    refine AW.exit ?_
    refine AW.rgs [.no] [4] [] (P := True) (l' := [(4, bV true)]) (g' := []) (nx' := 0) (by kernel_rfl) trivial ?_
    refine AW.ret ?_
    exact EndP.of (.inr rfl) [] (P := ((true) = true)) (by kernel_rfl) (by first | rfl | assumption | exact decide_eq_true (by omega) | exact decide_eq_false (by omega) | (simp; omega))

set_option maxHeartbeats 4000000 in
set_option maxRecDepth 100000 in
theorem R_ixf   : Fun 21 [.c (.d (D.lit (.slice none 0 0))), .c (.fn 14 [])] (toG []) 0 (iV (-1)) (toG []) 0 := by
  refine Fun.mk (n := 19) Try.func21 rfl rfl (Nat.le_of_ble_eq_true rfl) ?_
  intro cx hcx
  refine AW.rgs [.no] [0, 1] [] (P := True) (l' := [(0, nV), (1, .e (.c (.fn 14 [])))]) (g' := []) (nx' := 0) (by kernel_rfl) trivial ?_
  refine AW.seq ?_
  refine AW.rgs [.no, .no, .no] [0, 1, 7, 8] [] (P := True) (l' := [(0, nV), (1, .e (.c (.fn 14 []))), (7, iV 0), (8, iV 0)]) (g' := []) (nx' := 0) (by kernel_rfl) trivial ?_
  refine AW.block ?_
  refine AW.rounds 1 ?_
  refine AWr.s ?_
  refine AW.rgs [.b false] [0, 1, 7, 8, 9] [] (P := (¬ ((0 : Int) < 0))) (l' := [(0, nV), (1, .e (.c (.fn 14 []))), (7, iV 0), (8, iV 0), (9, bV false)]) (g' := []) (nx' := 0) (by kernel_rfl) (by omega) ?_
  refine AW.seq ?_
  refine AW.cond_f (.tmp (Look.of rfl)) ?_
  refine AW.exit ?_
  refine AW.rgs [.no] [4] [] (P := True) (l' := [(4, iV (-1))]) (g' := []) (nx' := 0) (by kernel_rfl) trivial ?_
  refine AW.ret ?_
  exact EndP.of (.inr rfl) [] (P := (((-1) : Int) = (-1))) (by kernel_rfl) rfl

set_option maxHeartbeats 4000000 in
set_option maxRecDepth 100000 in
theorem R_cof   : Fun 13 [.c (.d (D.lit (.slice none 0 0))), .c (.fn 14 [])] (toG []) 0 (bV false) (toG []) 0 := by
  refine Fun.mk (n := 9) Try.func13 rfl rfl (Nat.le_of_ble_eq_true rfl) ?_
  intro cx hcx
  refine AW.rgs [.no] [0, 1] [] (P := True) (l' := [(0, nV), (1, .e (.c (.fn 14 [])))]) (g' := []) (nx' := 0) (by kernel_rfl) trivial ?_
  refine AW.rgs [.no, .no, .call [] (iV (-1)) [] 0 [some [D.lit (.bool true)]] none, .b false, .no] [4] [] (P := (_) ∧ (¬ ((0 : Int) ≤ (-1)))) (l' := [(4, bV false)]) (g' := []) (nx' := 0) (by kernel_rfl) ⟨(R_ixf), (by omega)⟩ ?_
  refine AW.ret ?_
  exact EndP.of (.inr rfl) [] (P := (false = false)) (by kernel_rfl) rfl

set_option maxHeartbeats 4000000 in
set_option maxRecDepth 100000 in
theorem R_clo   : Fun 18 [.c (.d (D.lit (.slice none 0 0)))] (toG []) 0 (nV) (toG []) 0 := by
  refine Fun.mk (n := 8) Try.func18 rfl rfl (Nat.le_of_ble_eq_true rfl) ?_
  intro cx hcx
  refine AW.rgs [.no] [0] [] (P := True) (l' := [(0, nV)]) (g' := []) (nx' := 0) (by kernel_rfl) trivial ?_
  refine AW.seq ?_
  refine AW.rgs [.no, .no] [0, 4] [] (P := True) (l' := [(0, nV), (4, bV true)]) (g' := []) (nx' := 0) (by kernel_rfl) trivial ?_
  refine AW.cond_t (.tmp (Look.of rfl)) ?_
  refine AW.rgs [.no] [2] [] (P := True) (l' := [(2, nV)]) (g' := []) (nx' := 0) (by kernel_rfl) trivial ?_
  refine AW.ret ?_
  exact EndP.of (.inr rfl) [] (P := ((.slice none 0 0 : Value) = .slice none 0 0)) (by kernel_rfl) rfl

set_option maxHeartbeats 4000000 in
set_option maxRecDepth 100000 in
theorem R_val (li b0 b1 b2 b3 b4 b5 b6 b7 b8 b9 b10 b11 b12 b13 b14 b15 b16 b17 b18 b19 b20 b21 b22 b23 : Int) (hli : 1 ≤ li ∧ li ≤ 256) (hB : bkOk [b0, b1, b2, b3, b4, b5, b6, b7, b8, b9, b10, b11, b12, b13, b14, b15, b16, b17, b18, b19, b20, b21, b22, b23]) : Fun 9 [.agg [iC li, .d (D.lit (.slice none 0 0)), iC 0, iC 0, iC 0, iC 0, iC 0, iC 0, iC b0, iC b1, iC b2, iC b3, iC b4, iC b5, iC b6, iC b7, iC b8, iC b9, iC b10, iC b11, iC b12, iC b13, iC b14, iC b15, iC b16, iC b17, iC b18, iC b19, iC b20, iC b21, iC b22, iC b23]] (toG []) 0 (bV true) (toG []) 0 := by
  have hb0 : 0 ≤ b0 ∧ b0 ≤ 1000 := hB 0 (by omega)
  have hb1 : 0 ≤ b1 ∧ b1 ≤ 1000 := hB 1 (by omega)
  have hb2 : 0 ≤ b2 ∧ b2 ≤ 1000 := hB 2 (by omega)
  have hb3 : 0 ≤ b3 ∧ b3 ≤ 1000 := hB 3 (by omega)
  have hb4 : 0 ≤ b4 ∧ b4 ≤ 1000 := hB 4 (by omega)
  have hb5 : 0 ≤ b5 ∧ b5 ≤ 1000 := hB 5 (by omega)
  have hb6 : 0 ≤ b6 ∧ b6 ≤ 1000 := hB 6 (by omega)
  have hb7 : 0 ≤ b7 ∧ b7 ≤ 1000 := hB 7 (by omega)
  have hb8 : 0 ≤ b8 ∧ b8 ≤ 1000 := hB 8 (by omega)
  have hb9 : 0 ≤ b9 ∧ b9 ≤ 1000 := hB 9 (by omega)
  have hb10 : 0 ≤ b10 ∧ b10 ≤ 1000 := hB 10 (by omega)
  have hb11 : 0 ≤ b11 ∧ b11 ≤ 1000 := hB 11 (by omega)
  have hb12 : 0 ≤ b12 ∧ b12 ≤ 1000 := hB 12 (by omega)
  have hb13 : 0 ≤ b13 ∧ b13 ≤ 1000 := hB 13 (by omega)
  have hb14 : 0 ≤ b14 ∧ b14 ≤ 1000 := hB 14 (by omega)
  have hb15 : 0 ≤ b15 ∧ b15 ≤ 1000 := hB 15 (by omega)
  have hb16 : 0 ≤ b16 ∧ b16 ≤ 1000 := hB 16 (by omega)
  have hb17 : 0 ≤ b17 ∧ b17 ≤ 1000 := hB 17 (by omega)
  have hb18 : 0 ≤ b18 ∧ b18 ≤ 1000 := hB 18 (by omega)
  have hb19 : 0 ≤ b19 ∧ b19 ≤ 1000 := hB 19 (by omega)
  have hb20 : 0 ≤ b20 ∧ b20 ≤ 1000 := hB 20 (by omega)
  have hb21 : 0 ≤ b21 ∧ b21 ≤ 1000 := hB 21 (by omega)
  have hb22 : 0 ≤ b22 ∧ b22 ≤ 1000 := hB 22 (by omega)
  have hb23 : 0 ≤ b23 ∧ b23 ≤ 1000 := hB 23 (by omega)
  have hA1 : cntOk ([(0 : Int)] : List Int) 1 := cnt1
  have hA5 : cntOk ([(0 : Int), 0, 0, 0, 0] : List Int) 5 := cnt5
  have hA24 : cntOk [b0, b1, b2, b3, b4, b5, b6, b7, b8, b9, b10, b11, b12, b13, b14, b15, b16, b17, b18, b19, b20, b21, b22, b23] 24 := cnt_bk hB
  refine Fun.mk (n := 40) Try.func9 rfl rfl (Nat.le_of_ble_eq_true rfl) ?_
  intro cx hcx
  refine AW.rgs [.no, .no] [1] [0] (P := True) (l' := [(1, rV 0 0)]) (g' := [(0, some (28, .ds [iD li, D.lit (.slice none 0 0), iD 0, iD 0, iD 0, iD 0, iD 0, iD 0, iD b0, iD b1, iD b2, iD b3, iD b4, iD b5, iD b6, iD b7, iD b8, iD b9, iD b10, iD b11, iD b12, iD b13, iD b14, iD b15, iD b16, iD b17, iD b18, iD b19, iD b20, iD b21, iD b22, iD b23]))]) (nx' := 1) (by kernel_rfl) trivial ?_
  refine AW.seq ?_
  refine AW.rgs [.no, .no, .b false, .no, .no, .no, .b false, .no, .no, .no, .no, .no, .no, .no, .b false, .no] [1, 19] [0] (P := (¬ (li < 1)) ∧ (¬ ((256 : Int) < li)) ∧ (¬ (li < 0))) (l' := [(1, rV 0 0), (19, bV false)]) (g' := [(0, some (28, .ds [iD li, D.lit (.slice none 0 0), iD 0, iD 0, iD 0, iD 0, iD 0, iD 0, iD b0, iD b1, iD b2, iD b3, iD b4, iD b5, iD b6, iD b7, iD b8, iD b9, iD b10, iD b11, iD b12, iD b13, iD b14, iD b15, iD b16, iD b17, iD b18, iD b19, iD b20, iD b21, iD b22, iD b23]))]) (nx' := 1) (by kernel_rfl) ⟨(by omega), (by omega), (by omega)⟩ ?_
  refine AW.cond_f (.tmp (Look.of rfl)) ?_
  refine AW.skip ?_
  refine AW.seq ?_
  refine AW.rgs [.no, .no, .call [] (bV false) [] 0 [some [D.lit (.bool true)]] none] [1, 22] [0] (P := (_)) (l' := [(1, rV 0 0), (22, bV false)]) (g' := [(0, some (28, .ds [iD li, D.lit (.slice none 0 0), iD 0, iD 0, iD 0, iD 0, iD 0, iD 0, iD b0, iD b1, iD b2, iD b3, iD b4, iD b5, iD b6, iD b7, iD b8, iD b9, iD b10, iD b11, iD b12, iD b13, iD b14, iD b15, iD b16, iD b17, iD b18, iD b19, iD b20, iD b21, iD b22, iD b23]))]) (nx' := 1) (by kernel_rfl) (R_cof) ?_
  refine AW.cond_f (.tmp (Look.of rfl)) ?_
  refine AW.skip ?_
  refine AW.rgs [.no] [1, 3] [0] (P := True) (l' := [(1, rV 0 0), (3, .e (.c (.fn 16 [])))]) (g' := [(0, some (28, .ds [iD li, D.lit (.slice none 0 0), iD 0, iD 0, iD 0, iD 0, iD 0, iD 0, iD b0, iD b1, iD b2, iD b3, iD b4, iD b5, iD b6, iD b7, iD b8, iD b9, iD b10, iD b11, iD b12, iD b13, iD b14, iD b15, iD b16, iD b17, iD b18, iD b19, iD b20, iD b21, iD b22, iD b23]))]) (nx' := 1) (by kernel_rfl) trivial ?_
  rcases Bool.eq_false_or_eq_true (true) with hx1 | hx1
  · refine AW.rgs [.no, .no, .no, .no, .call [] (bV true) [] 0 [none] none, .no, .no, .no, .no, .call [] (bV true) [] 0 [some [iD 0, iD 0, iD 0, iD 0, iD 0]] none, .no, .no, .no, .no, .no, .call [] (bV true) [] 0 [some [iD b0, iD b1, iD b2, iD b3, iD b4, iD b5, iD b6, iD b7, iD b8, iD b9, iD b10, iD b11, iD b12, iD b13, iD b14, iD b15, iD b16, iD b17, iD b18, iD b19, iD b20, iD b21, iD b22, iD b23]] none, .no, .no] [2] [] (P := ([iD 0].length = 1 * 1) ∧ (noSlPV (bV true) = true) ∧ (Fun 17 [.c (.fn 16 []), .c (.d (D.sl [iD 0] 1))] (toG []) 0 (bV true) (toG []) 0) ∧ (List.take (5 * 1) (List.drop 2 [iD li, D.lit (.slice none 0 0), iD 0, iD 0, iD 0, iD 0, iD 0, iD 0, iD b0, iD b1, iD b2, iD b3, iD b4, iD b5, iD b6, iD b7, iD b8, iD b9, iD b10, iD b11, iD b12, iD b13, iD b14, iD b15, iD b16, iD b17, iD b18, iD b19, iD b20, iD b21, iD b22, iD b23]) = [iD 0, iD 0, iD 0, iD 0, iD 0]) ∧ ([iD 0, iD 0, iD 0, iD 0, iD 0].length = 5 * 1) ∧ (noSlPV (bV true) = true) ∧ (Fun 17 [.c (.fn 16 []), .c (.d (D.sl [iD 0, iD 0, iD 0, iD 0, iD 0] 5))] (toG []) 0 (bV true) (toG []) 0) ∧ (List.take (24 * 1) (List.drop 8 [iD li, D.lit (.slice none 0 0), iD 0, iD 0, iD 0, iD 0, iD 0, iD 0, iD b0, iD b1, iD b2, iD b3, iD b4, iD b5, iD b6, iD b7, iD b8, iD b9, iD b10, iD b11, iD b12, iD b13, iD b14, iD b15, iD b16, iD b17, iD b18, iD b19, iD b20, iD b21, iD b22, iD b23]) = [iD b0, iD b1, iD b2, iD b3, iD b4, iD b5, iD b6, iD b7, iD b8, iD b9, iD b10, iD b11, iD b12, iD b13, iD b14, iD b15, iD b16, iD b17, iD b18, iD b19, iD b20, iD b21, iD b22, iD b23]) ∧ ([iD b0, iD b1, iD b2, iD b3, iD b4, iD b5, iD b6, iD b7, iD b8, iD b9, iD b10, iD b11, iD b12, iD b13, iD b14, iD b15, iD b16, iD b17, iD b18, iD b19, iD b20, iD b21, iD b22, iD b23].length = 24 * 1) ∧ (noSlPV (bV true) = true) ∧ (Fun 17 [.c (.fn 16 []), .c (.d (D.sl [iD b0, iD b1, iD b2, iD b3, iD b4, iD b5, iD b6, iD b7, iD b8, iD b9, iD b10, iD b11, iD b12, iD b13, iD b14, iD b15, iD b16, iD b17, iD b18, iD b19, iD b20, iD b21, iD b22, iD b23] 24))] (toG []) 0 (bV true) (toG []) 0)) (l' := [(2, bV true)]) (g' := []) (nx' := 2) (by kernel_rfl) ⟨(by first | omega | (rw [dI_len]; omega) | (simp [dI_len] <;> omega) | rfl), rfl, (by have h0 := (R_all ([0] : List Int) 1 (by first | omega | with_reducible assumption | (simp <;> omega) | rfl | assumption) (by omega) (by first | omega | with_reducible assumption | (simp <;> omega) | rfl | assumption)); rw [hx1] at h0; exact h0), (by first | rfl | with_reducible assumption | exact dI_app _ _ _ | exact dI_rep _ _ _ | (simp only [dI_take, dI_drop, dI_app, Nat.mul_one, Nat.zero_mul, List.drop_zero, List.nil_append, List.append_nil]; done) | (simp only [dI_take, dI_drop, dI_app, Nat.mul_one, Nat.zero_mul, List.drop_zero, List.nil_append, List.append_nil]; rfl) | (rw [List.take_of_length_le (by simp only [dI_len, List.length_drop, List.length_replicate, Nat.mul_one]; omega)]; first | rfl | (simp only [dI_drop, Nat.mul_one, Nat.zero_mul, List.drop_zero]; done) | (simp only [dI_drop, Nat.mul_one, Nat.zero_mul, List.drop_zero]; rfl))), (by first | omega | (rw [dI_len]; omega) | (simp [dI_len] <;> omega) | rfl), rfl, (by have h0 := (R_all ([0, 0, 0, 0, 0] : List Int) 5 (by first | omega | with_reducible assumption | (simp <;> omega) | rfl | assumption) (by omega) (by first | omega | with_reducible assumption | (simp <;> omega) | rfl | assumption)); rw [hx1] at h0; exact h0), (by first | rfl | with_reducible assumption | exact dI_app _ _ _ | exact dI_rep _ _ _ | (simp only [dI_take, dI_drop, dI_app, Nat.mul_one, Nat.zero_mul, List.drop_zero, List.nil_append, List.append_nil]; done) | (simp only [dI_take, dI_drop, dI_app, Nat.mul_one, Nat.zero_mul, List.drop_zero, List.nil_append, List.append_nil]; rfl) | (rw [List.take_of_length_le (by simp only [dI_len, List.length_drop, List.length_replicate, Nat.mul_one]; omega)]; first | rfl | (simp only [dI_drop, Nat.mul_one, Nat.zero_mul, List.drop_zero]; done) | (simp only [dI_drop, Nat.mul_one, Nat.zero_mul, List.drop_zero]; rfl))), (by first | omega | (rw [dI_len]; omega) | (simp [dI_len] <;> omega) | rfl), rfl, (by have h0 := (R_all ([b0, b1, b2, b3, b4, b5, b6, b7, b8, b9, b10, b11, b12, b13, b14, b15, b16, b17, b18, b19, b20, b21, b22, b23] : List Int) 24 (by first | omega | with_reducible assumption | (simp <;> omega) | rfl | assumption) (by omega) (by first | omega | with_reducible assumption | (simp <;> omega) | rfl | assumption)); rw [hx1] at h0; exact h0)⟩ ?_
    refine AW.ret ?_
    exact EndP.of (.inr rfl) [] (P := (true = true)) (by kernel_rfl) rfl
  · refine AW.rgs [.no, .no, .no, .no, .call [] (bV false) [] 0 [none] none, .no, .no, .no, .no, .no] [2] [] (P := ([iD 0].length = 1 * 1) ∧ (noSlPV (bV false) = true) ∧ (Fun 17 [.c (.fn 16 []), .c (.d (D.sl [iD 0] 1))] (toG []) 0 (bV false) (toG []) 0)) (l' := [(2, bV false)]) (g' := []) (nx' := 2) (by kernel_rfl) ⟨(by first | omega | (rw [dI_len]; omega) | (simp [dI_len] <;> omega) | rfl), rfl, (by have h0 := (R_all ([0] : List Int) 1 (by first | omega | with_reducible assumption | (simp <;> omega) | rfl | assumption) (by omega) (by first | omega | with_reducible assumption | (simp <;> omega) | rfl | assumption)); rw [hx1] at h0; exact h0)⟩ ?_
    refine AW.ret ?_
    exact EndP.of (.inr rfl) [] (P := (true = false)) (by kernel_rfl) (by first | rfl | assumption | exact decide_eq_true (by omega) | exact decide_eq_false (by omega) | (simp; omega))

set_option maxHeartbeats 4000000 in
set_option maxRecDepth 100000 in
theorem R_new (li : Int) (hli : 1 ≤ li ∧ li ≤ 256) : Fun 5 [iE li] (toG []) 0 (.tup [.agg [iC li, .d (D.lit (.slice none 0 0)), iC 0, iC 0, iC 0, iC 0, iC 0, iC 0, iC 0, iC 0, iC 0, iC 0, iC 0, iC 0, iC 0, iC 0, iC 0, iC 0, iC 0, iC 0, iC 0, iC 0, iC 0, iC 0, iC 0, iC 0, iC 0, iC 0, iC 0, iC 0, iC 0, iC 0], iE 0]) (toG []) 0 := by
  have hB0 : bkOk ([0, 0, 0, 0, 0, 0, 0, 0, 0, 0, 0, 0, 0, 0, 0, 0, 0, 0, 0, 0, 0, 0, 0, 0] : List Int) := bk_rep
  refine Fun.mk (n := 12) Try.func5 rfl rfl (Nat.le_of_ble_eq_true rfl) ?_
  intro cx hcx
  refine AW.rgs [.no, .no] [0, 2] [0] (P := True) (l' := [(0, iV li), (2, rV 0 0)]) (g' := [(0, some (28, .ds [iD 0, D.lit (.slice none 0 0), iD 0, iD 0, iD 0, iD 0, iD 0, iD 0, iD 0, iD 0, iD 0, iD 0, iD 0, iD 0, iD 0, iD 0, iD 0, iD 0, iD 0, iD 0, iD 0, iD 0, iD 0, iD 0, iD 0, iD 0, iD 0, iD 0, iD 0, iD 0, iD 0, iD 0]))]) (nx' := 1) (by kernel_rfl) trivial ?_
  refine AW.rgs [.no, .no, .no, .no] [2, 4] [0, 1] (P := True) (l' := [(2, rV 0 0), (4, rV 1 0)]) (g' := [(0, some (28, .ds [iD 0, D.lit (.slice none 0 0), iD 0, iD 0, iD 0, iD 0, iD 0, iD 0, iD 0, iD 0, iD 0, iD 0, iD 0, iD 0, iD 0, iD 0, iD 0, iD 0, iD 0, iD 0, iD 0, iD 0, iD 0, iD 0, iD 0, iD 0, iD 0, iD 0, iD 0, iD 0, iD 0, iD 0])), (1, some (28, .ds [iD li, D.lit (.slice none 0 0), iD 0, iD 0, iD 0, iD 0, iD 0, iD 0, iD 0, iD 0, iD 0, iD 0, iD 0, iD 0, iD 0, iD 0, iD 0, iD 0, iD 0, iD 0, iD 0, iD 0, iD 0, iD 0, iD 0, iD 0, iD 0, iD 0, iD 0, iD 0, iD 0, iD 0]))]) (nx' := 2) (by kernel_rfl) trivial ?_
  refine AW.seq ?_
  refine AW.rgs [.no, .call [] (bV true) [] 0 [some [D.lit (.bool true)]] none, .no] [2, 4, 9] [0, 1] (P := (_)) (l' := [(2, rV 0 0), (4, rV 1 0), (9, bV false)]) (g' := [(0, some (28, .ds [iD 0, D.lit (.slice none 0 0), iD 0, iD 0, iD 0, iD 0, iD 0, iD 0, iD 0, iD 0, iD 0, iD 0, iD 0, iD 0, iD 0, iD 0, iD 0, iD 0, iD 0, iD 0, iD 0, iD 0, iD 0, iD 0, iD 0, iD 0, iD 0, iD 0, iD 0, iD 0, iD 0, iD 0])), (1, some (28, .ds [iD li, D.lit (.slice none 0 0), iD 0, iD 0, iD 0, iD 0, iD 0, iD 0, iD 0, iD 0, iD 0, iD 0, iD 0, iD 0, iD 0, iD 0, iD 0, iD 0, iD 0, iD 0, iD 0, iD 0, iD 0, iD 0, iD 0, iD 0, iD 0, iD 0, iD 0, iD 0, iD 0, iD 0]))]) (nx' := 2) (by kernel_rfl) (R_val li 0 0 0 0 0 0 0 0 0 0 0 0 0 0 0 0 0 0 0 0 0 0 0 0 (by omega) (by first | omega | with_reducible assumption | (simp <;> omega) | rfl | assumption)) ?_
  refine AW.cond_f (.tmp (Look.of rfl)) ?_
  refine AW.skip ?_
  refine AW.rgs [.no, .no, .no] [2, 3] [0] (P := True) (l' := [(2, rV 0 0), (3, iV 0)]) (g' := [(0, some (28, .ds [iD li, D.lit (.slice none 0 0), iD 0, iD 0, iD 0, iD 0, iD 0, iD 0, iD 0, iD 0, iD 0, iD 0, iD 0, iD 0, iD 0, iD 0, iD 0, iD 0, iD 0, iD 0, iD 0, iD 0, iD 0, iD 0, iD 0, iD 0, iD 0, iD 0, iD 0, iD 0, iD 0, iD 0]))]) (nx' := 2) (by kernel_rfl) trivial ?_
  refine AW.ret ?_
  exact EndP.of (.inr rfl) [] (P := ((li : Int) = li) ∧ ((.slice none 0 0 : Value) = .slice none 0 0) ∧ ((0 : Int) = 0) ∧ ((0 : Int) = 0) ∧ ((0 : Int) = 0) ∧ ((0 : Int) = 0) ∧ ((0 : Int) = 0) ∧ ((0 : Int) = 0) ∧ ((0 : Int) = 0) ∧ ((0 : Int) = 0) ∧ ((0 : Int) = 0) ∧ ((0 : Int) = 0) ∧ ((0 : Int) = 0) ∧ ((0 : Int) = 0) ∧ ((0 : Int) = 0) ∧ ((0 : Int) = 0) ∧ ((0 : Int) = 0) ∧ ((0 : Int) = 0) ∧ ((0 : Int) = 0) ∧ ((0 : Int) = 0) ∧ ((0 : Int) = 0) ∧ ((0 : Int) = 0) ∧ ((0 : Int) = 0) ∧ ((0 : Int) = 0) ∧ ((0 : Int) = 0) ∧ ((0 : Int) = 0) ∧ ((0 : Int) = 0) ∧ ((0 : Int) = 0) ∧ ((0 : Int) = 0) ∧ ((0 : Int) = 0) ∧ ((0 : Int) = 0) ∧ ((0 : Int) = 0) ∧ ((0 : Int) = 0)) (by kernel_rfl) ⟨rfl, rfl, rfl, rfl, rfl, rfl, rfl, rfl, rfl, rfl, rfl, rfl, rfl, rfl, rfl, rfl, rfl, rfl, rfl, rfl, rfl, rfl, rfl, rfl, rfl, rfl, rfl, rfl, rfl, rfl, rfl, rfl, rfl⟩

set_option maxHeartbeats 4000000 in
set_option maxRecDepth 100000 in
theorem R_fr (li b0 b1 b2 b3 b4 b5 b6 b7 b8 b9 b10 b11 b12 b13 b14 b15 b16 b17 b18 b19 b20 b21 b22 b23 : Int)  : Fun 10 [.agg [iC li, .d (D.lit (.slice none 0 0)), iC 0, iC 0, iC 0, iC 0, iC 0, iC 0, iC b0, iC b1, iC b2, iC b3, iC b4, iC b5, iC b6, iC b7, iC b8, iC b9, iC b10, iC b11, iC b12, iC b13, iC b14, iC b15, iC b16, iC b17, iC b18, iC b19, iC b20, iC b21, iC b22, iC b23]] (toG []) 0 (.e (.agg [iC li, .d (D.lit (.slice none 0 0)), iC 0, iC 0, iC 0, iC 0, iC 0, iC 0, iC b0, iC b1, iC b2, iC b3, iC b4, iC b5, iC b6, iC b7, iC b8, iC b9, iC b10, iC b11, iC b12, iC b13, iC b14, iC b15, iC b16, iC b17, iC b18, iC b19, iC b20, iC b21, iC b22, iC b23])) (toG []) 0 := by
  refine Fun.mk (n := 8) Try.func10 rfl rfl (Nat.le_of_ble_eq_true rfl) ?_
  intro cx hcx
  refine AW.rgs [.no, .no] [1, 2] [0, 1] (P := True) (l' := [(1, rV 0 0), (2, rV 1 0)]) (g' := [(0, some (28, .ds [iD li, D.lit (.slice none 0 0), iD 0, iD 0, iD 0, iD 0, iD 0, iD 0, iD b0, iD b1, iD b2, iD b3, iD b4, iD b5, iD b6, iD b7, iD b8, iD b9, iD b10, iD b11, iD b12, iD b13, iD b14, iD b15, iD b16, iD b17, iD b18, iD b19, iD b20, iD b21, iD b22, iD b23])), (1, some (28, .ds [iD 0, D.lit (.slice none 0 0), iD 0, iD 0, iD 0, iD 0, iD 0, iD 0, iD 0, iD 0, iD 0, iD 0, iD 0, iD 0, iD 0, iD 0, iD 0, iD 0, iD 0, iD 0, iD 0, iD 0, iD 0, iD 0, iD 0, iD 0, iD 0, iD 0, iD 0, iD 0, iD 0, iD 0]))]) (nx' := 2) (by kernel_rfl) trivial ?_
  refine AW.rgs [.no, .no, .call [] (nV) [] 0 [some [D.lit (.bool true)]] none, .no, .no] [1, 2] [0, 1] (P := (_)) (l' := [(1, rV 0 0), (2, rV 1 0)]) (g' := [(0, some (28, .ds [iD li, D.lit (.slice none 0 0), iD 0, iD 0, iD 0, iD 0, iD 0, iD 0, iD b0, iD b1, iD b2, iD b3, iD b4, iD b5, iD b6, iD b7, iD b8, iD b9, iD b10, iD b11, iD b12, iD b13, iD b14, iD b15, iD b16, iD b17, iD b18, iD b19, iD b20, iD b21, iD b22, iD b23])), (1, some (28, .ds [iD 0, D.lit (.slice none 0 0), iD 0, iD 0, iD 0, iD 0, iD 0, iD 0, iD 0, iD 0, iD 0, iD 0, iD 0, iD 0, iD 0, iD 0, iD 0, iD 0, iD 0, iD 0, iD 0, iD 0, iD 0, iD 0, iD 0, iD 0, iD 0, iD 0, iD 0, iD 0, iD 0, iD 0]))]) (nx' := 2) (by kernel_rfl) (R_clo) ?_
  refine AW.rgs [.no, .no] [2] [1] (P := True) (l' := [(2, rV 1 0)]) (g' := [(1, some (28, .ds [iD li, D.lit (.slice none 0 0), iD 0, iD 0, iD 0, iD 0, iD 0, iD 0, iD b0, iD b1, iD b2, iD b3, iD b4, iD b5, iD b6, iD b7, iD b8, iD b9, iD b10, iD b11, iD b12, iD b13, iD b14, iD b15, iD b16, iD b17, iD b18, iD b19, iD b20, iD b21, iD b22, iD b23]))]) (nx' := 2) (by kernel_rfl) trivial ?_
  refine AW.ret ?_
  exact EndP.of (.inr rfl) [] (P := ((li : Int) = li) ∧ ((.slice none 0 0 : Value) = .slice none 0 0) ∧ ((0 : Int) = 0) ∧ ((0 : Int) = 0) ∧ ((0 : Int) = 0) ∧ ((0 : Int) = 0) ∧ ((0 : Int) = 0) ∧ ((0 : Int) = 0) ∧ ((b0 : Int) = b0) ∧ ((b1 : Int) = b1) ∧ ((b2 : Int) = b2) ∧ ((b3 : Int) = b3) ∧ ((b4 : Int) = b4) ∧ ((b5 : Int) = b5) ∧ ((b6 : Int) = b6) ∧ ((b7 : Int) = b7) ∧ ((b8 : Int) = b8) ∧ ((b9 : Int) = b9) ∧ ((b10 : Int) = b10) ∧ ((b11 : Int) = b11) ∧ ((b12 : Int) = b12) ∧ ((b13 : Int) = b13) ∧ ((b14 : Int) = b14) ∧ ((b15 : Int) = b15) ∧ ((b16 : Int) = b16) ∧ ((b17 : Int) = b17) ∧ ((b18 : Int) = b18) ∧ ((b19 : Int) = b19) ∧ ((b20 : Int) = b20) ∧ ((b21 : Int) = b21) ∧ ((b22 : Int) = b22) ∧ ((b23 : Int) = b23)) (by kernel_rfl) ⟨rfl, rfl, rfl, rfl, rfl, rfl, rfl, rfl, rfl, rfl, rfl, rfl, rfl, rfl, rfl, rfl, rfl, rfl, rfl, rfl, rfl, rfl, rfl, rfl, rfl, rfl, rfl, rfl, rfl, rfl, rfl, rfl⟩

set_option maxHeartbeats 4000000 in
set_option maxRecDepth 100000 in
theorem R_ctd (n : Int) (hn : 0 ≤ n ∧ n ≤ 1000) : Fun 12 [iE n, iE 1] (toG []) 0 (iV (n + 1)) (toG []) 0 := by
  refine Fun.mk (n := 9) Try.func12 rfl rfl (Nat.le_of_ble_eq_true rfl) ?_
  intro cx hcx
  refine AW.rgs [.no] [0, 1] [] (P := True) (l' := [(0, iV n), (1, iV 1)]) (g' := []) (nx' := 0) (by kernel_rfl) trivial ?_
  refine AW.rgs [.no, .no, .w, .no, .no] [4] [] (P := ((-9223372036854775808) ≤ (n + 1) ∧ (n + 1) ≤ 9223372036854775807)) (l' := [(4, iV (min (n + 1) 1099511627776))]) (g' := []) (nx' := 0) (by kernel_rfl) ⟨by omega, by omega⟩ ?_
  refine AW.ret ?_
  exact EndP.of (.inr rfl) [] (P := (((n + 1) : Int) = (min (n + 1) 1099511627776))) (by kernel_rfl) (by omega)

set_option maxHeartbeats 4000000 in
set_option maxRecDepth 100000 in
theorem Z_Len64   : Fun 20 [.c (.d (D.lit (.int .u64 0)))] (toG []) 0 (iV 0) (toG []) 0 := by
  refine Fun.mk (n := 25) Try.func20 rfl rfl (Nat.le_of_ble_eq_true rfl) ?_
  intro cx hcx
  refine AW.rgs [.no] [0, 2] [] (P := True) (l' := [(0, .e (.c (.d (D.lit (.int .u64 0))))), (2, iV 0)]) (g' := []) (nx' := 0) (by kernel_rfl) trivial ?_
  refine AW.seq ?_
  refine AW.rgs [.no, .b false] [0, 2, 4] [] (P := (¬ ((4294967296 : Int) ≤ 0))) (l' := [(0, .e (.c (.d (D.lit (.int .u64 0))))), (2, iV 0), (4, bV false)]) (g' := []) (nx' := 0) (by kernel_rfl) (by omega) ?_
  refine AW.cond_f (.tmp (Look.of rfl)) ?_
  refine AW.skip ?_
  refine AW.seq ?_
  refine AW.rgs [.no, .b false] [0, 2, 8] [] (P := (¬ ((65536 : Int) ≤ 0))) (l' := [(0, .e (.c (.d (D.lit (.int .u64 0))))), (2, iV 0), (8, bV false)]) (g' := []) (nx' := 0) (by kernel_rfl) (by omega) ?_
  refine AW.cond_f (.tmp (Look.of rfl)) ?_
  refine AW.skip ?_
  refine AW.seq ?_
  refine AW.rgs [.no, .b false] [0, 2, 14] [] (P := (¬ ((256 : Int) ≤ 0))) (l' := [(0, .e (.c (.d (D.lit (.int .u64 0))))), (2, iV 0), (14, bV false)]) (g' := []) (nx' := 0) (by kernel_rfl) (by omega) ?_
  refine AW.cond_f (.tmp (Look.of rfl)) ?_
  refine AW.skip ?_
  refine AW.rgs [.no, .no, .w, .i 0, .w, .w, .no] [2] [] (P := (0 ≤ (0 : Int) ∧ (0 : Int) ≤ 255) ∧ (strAt (ByteArray.mk #[0, 1, 2, 2, 3, 3, 3, 3, 4, 4, 4, 4, 4, 4, 4, 4, 5, 5, 5, 5, 5, 5, 5, 5, 5, 5, 5, 5, 5, 5, 5, 5, 6, 6, 6, 6, 6, 6, 6, 6, 6, 6, 6, 6, 6, 6, 6, 6, 6, 6, 6, 6, 6, 6, 6, 6, 6, 6, 6, 6, 6, 6, 6, 6, 7, 7, 7, 7, 7, 7, 7, 7, 7, 7, 7, 7, 7, 7, 7, 7, 7, 7, 7, 7, 7, 7, 7, 7, 7, 7, 7, 7, 7, 7, 7, 7, 7, 7, 7, 7, 7, 7, 7, 7, 7, 7, 7, 7, 7, 7, 7, 7, 7, 7, 7, 7, 7, 7, 7, 7, 7, 7, 7, 7, 7, 7, 7, 7, 8, 8, 8, 8, 8, 8, 8, 8, 8, 8, 8, 8, 8, 8, 8, 8, 8, 8, 8, 8, 8, 8, 8, 8, 8, 8, 8, 8, 8, 8, 8, 8, 8, 8, 8, 8, 8, 8, 8, 8, 8, 8, 8, 8, 8, 8, 8, 8, 8, 8, 8, 8, 8, 8, 8, 8, 8, 8, 8, 8, 8, 8, 8, 8, 8, 8, 8, 8, 8, 8, 8, 8, 8, 8, 8, 8, 8, 8, 8, 8, 8, 8, 8, 8, 8, 8, 8, 8, 8, 8, 8, 8, 8, 8, 8, 8, 8, 8, 8, 8, 8, 8, 8, 8, 8, 8, 8, 8, 8, 8, 8, 8, 8, 8, 8, 8, 8, 8, 8, 8, 8, 8, 8, 8, 8, 8, 8, 8]) (0 : Int) = some (0 : Int)) ∧ ((-9223372036854775808) ≤ (0 : Int) ∧ (0 : Int) ≤ 9223372036854775807) ∧ ((-9223372036854775808) ≤ (0 : Int) ∧ (0 : Int) ≤ 9223372036854775807)) (l' := [(2, iV 0)]) (g' := []) (nx' := 0) (by kernel_rfl) ⟨⟨by omega, by omega⟩, (by rfl), ⟨by omega, by omega⟩, ⟨by omega, by omega⟩⟩ ?_
  refine AW.ret ?_
  exact EndP.of (.inr rfl) [] (P := ((0 : Int) = 0)) (by kernel_rfl) rfl

set_option maxHeartbeats 4000000 in
set_option maxRecDepth 100000 in
theorem Z_Len   : Fun 11 [.c (.d (D.lit (.int .u64 0)))] (toG []) 0 (iV 0) (toG []) 0 := by
  refine Fun.mk (n := 8) Try.func11 rfl rfl (Nat.le_of_ble_eq_true rfl) ?_
  intro cx hcx
  refine AW.rgs [.no] [0] [] (P := True) (l' := [(0, .e (.c (.d (D.lit (.int .u64 0)))))]) (g' := []) (nx' := 0) (by kernel_rfl) trivial ?_
  refine AW.seq ?_
  refine AW.cond_f (.lit rfl) ?_
  refine AW.skip ?_
  refine AW.rgs [.no, .call [] (iV 0) [] 0 [] none, .no] [2] [] (P := (_)) (l' := [(2, iV 0)]) (g' := []) (nx' := 0) (by kernel_rfl) (Z_Len64) ?_
  refine AW.ret ?_
  exact EndP.of (.inr rfl) [] (P := ((0 : Int) = 0)) (by kernel_rfl) rfl

set_option maxHeartbeats 4000000 in
set_option maxRecDepth 100000 in
theorem X_Len (x : Int) (hx : 1 ≤ x ∧ x < 4194304) : ∃ (z : Nat), (x < ((2 ^ z : Nat) : Int) ∧ ((2 ^ (z - 1) : Nat) : Int) ≤ x) ∧ (1 ≤ z ∧ z ≤ 64) ∧ (Fun 11 [.c (.d (D.lit (.int .u64 x)))] (toG []) 0 (iV ((z : Nat) : Int)) (toG []) 0) := by
  obtain ⟨z1, hx1, hx2, hF1⟩ := (X_Len64 x (by omega))
  refine ⟨z1, (by assumption), (by assumption), ?_⟩
  refine Fun.mk (n := 8) Try.func11 rfl rfl (Nat.le_of_ble_eq_true rfl) ?_
  intro cx hcx
  refine AW.rgs [.no] [0] [] (P := True) (l' := [(0, .e (.c (.d (D.lit (.int .u64 x)))))]) (g' := []) (nx' := 0) (by kernel_rfl) trivial ?_
  refine AW.seq ?_
  refine AW.cond_f (.lit rfl) ?_
  refine AW.skip ?_
  refine AW.rgs [.no, .call [] (iV ((z1 : Nat) : Int)) [] 0 [] none, .no] [2] [] (P := (_)) (l' := [(2, iV ↑z1)]) (g' := []) (nx' := 0) (by kernel_rfl) hF1 ?_
  refine AW.ret ?_
  exact EndP.of (.inr rfl) [] (P := ((((z1 : Nat) : Int) : Int) = ((z1 : Nat) : Int))) (by kernel_rfl) rfl

theorem R_Len (x : Int) (hx : 0 ≤ x ∧ x < 4194304) : Fun 11 [.c (.d (D.lit (.int .u64 x)))] (toG []) 0 (iV (((lnB x) : Nat) : Int)) (toG []) 0 := by
  by_cases h : x < 1
  · obtain rfl : x = 0 := by omega
    rw [ln_0 (show (0 : Int) < 1 by omega)]; exact Z_Len
  · obtain ⟨z, h1, h2, hF⟩ := X_Len x (by omega)
    rw [ln_of (by omega) h1.1 h1.2 h2.1]; exact hF

end Go.Proofs.Ytbkjhfjjkihebaa
