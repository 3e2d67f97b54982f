/- Clocks. No statement is proved here. -/
import Derived.Test.YteggelophhpnfaaL03
namespace Go.Proofs.Yteggelophhpnfaa
open Go.ChangeShapes Go.WideShapes Go.ChangeAt Go.RowKit
set_option linter.unusedVariables false
set_option linter.unusedSimpArgs false


def cmpV (p q : Int) : Int := if p < q then 0 - 1 else if p = q then 0 else 1
theorem cmpV_in (p q : Int) : (cmpV p q = 0 - 1 ∧ p < q) ∨ (cmpV p q = 0 ∧ p = q) ∨ (cmpV p q = 1 ∧ q < p) := by
  unfold cmpV; split
  · exact .inl ⟨rfl, by assumption⟩
  · split
    · exact .inr (.inl ⟨rfl, by assumption⟩)
    · exact .inr (.inr ⟨rfl, by omega⟩)
theorem cmpV_at (p q : Int) : (cmpV p q = -1 ∧ p < q ∨ cmpV p q = 0 ∧ p = q) ∨ cmpV p q = 1 ∧ q < p := by have h9 := cmpV_in p q; omega
def rtB (n d : Int) : Bool := ratOk n d && decide (d ≤ n * 1024 ∧ n ≤ d * 1024)
theorem rt_t {n d : Int} (h1 : ratOk n d = true) (h2 : d ≤ n * 1024 ∧ n ≤ d * 1024) : rtB n d = true := by unfold rtB; rw [h1, decide_eq_true h2]; rfl
theorem rt_f {n d : Int} (h2 : ¬ (d ≤ n * 1024 ∧ n ≤ d * 1024)) : rtB n d = false := by unfold rtB; rw [decide_eq_false h2, Bool.and_false]
theorem rt_r {n d : Int} (h1 : ratOk n d = false) : rtB n d = false := by unfold rtB; rw [h1]; rfl
theorem rt_of {n d : Int} (h : rtB n d = true) : ratOk n d = true ∧ d ≤ n * 1024 ∧ n ≤ d * 1024 := by
  unfold rtB at h
  rw [Bool.and_eq_true] at h
  exact ⟨h.1, of_decide_eq_true h.2⟩
theorem seg_0 (l : List Int) (j : Nat) : ¬ j = 0 ∨ List.getD l (j * 3) 0 = List.getD l 0 0 := by
  by_cases h : j = 0
  · subst h; exact .inr rfl
  · exact .inl h
def segB (l : List Int) (i : Nat) : Bool := rtB (List.getD l (i * 3 + 1) 0) (List.getD l (i * 3 + 2) 0) && decide (List.getD l (i * 3) 0 ≤ 1099511627776 ∧ (¬ i = 0 ∨ List.getD l (i * 3) 0 = 0) ∧ (i = 0 ∨ List.getD l ((i - 1) * 3) 0 < List.getD l (i * 3) 0))
theorem seg_t {l : List Int} {i : Nat} (h1 : rtB (List.getD l (i * 3 + 1) 0) (List.getD l (i * 3 + 2) 0) = true) (h2 : List.getD l (i * 3) 0 ≤ 1099511627776 ∧ (¬ i = 0 ∨ List.getD l (i * 3) 0 = 0) ∧ (i = 0 ∨ List.getD l ((i - 1) * 3) 0 < List.getD l (i * 3) 0)) : segB l i = true := by unfold segB; rw [h1, decide_eq_true h2]; rfl
theorem seg_r {l : List Int} {i : Nat} (h1 : rtB (List.getD l (i * 3 + 1) 0) (List.getD l (i * 3 + 2) 0) = false) : segB l i = false := by unfold segB; rw [h1]; rfl
theorem seg_f {l : List Int} {i : Nat} (h2 : ¬ (List.getD l (i * 3) 0 ≤ 1099511627776 ∧ (¬ i = 0 ∨ List.getD l (i * 3) 0 = 0) ∧ (i = 0 ∨ List.getD l ((i - 1) * 3) 0 < List.getD l (i * 3) 0))) : segB l i = false := by unfold segB; rw [decide_eq_false h2, Bool.and_false]
/-- is it a clock of n segments -/
def ckB (l : List Int) (n : Nat) : Bool := decide (1 ≤ n ∧ n ≤ 64) && (List.range n).all (segB l)
theorem ck_t {l : List Int} {n : Nat} (h : 1 ≤ n ∧ n ≤ 64) (h2 : ∀ j, j < n → segB l j = true) : ckB l n = true := by
  unfold ckB; rw [decide_eq_true h, List.all_eq_true.2 (fun x hx => h2 x (List.mem_range.1 hx))]; rfl
theorem ck_n {l : List Int} {n : Nat} (h : ¬ (1 ≤ n ∧ n ≤ 64)) : ckB l n = false := by unfold ckB; rw [decide_eq_false h]; rfl
theorem ck_s {l : List Int} {n k : Nat} (hk : k < n) (h : segB l k = false) : ckB l n = false := by
  cases hb : ckB l n with
  | false => rfl
  | true =>
    unfold ckB at hb
    rw [Bool.and_eq_true] at hb
    have := List.all_eq_true.1 hb.2 k (List.mem_range.2 hk)
    rw [h] at this; cases this
theorem ck_of {l : List Int} {n : Nat} (h : ckB l n = true) : (1 ≤ n ∧ n ≤ 64) ∧ ∀ j, j < n → segB l j = true := by
  unfold ckB at h
  rw [Bool.and_eq_true] at h
  exact ⟨of_decide_eq_true h.1, fun j hj => List.all_eq_true.1 h.2 j (List.mem_range.2 hj)⟩

set_option maxHeartbeats 4000000 in
set_option maxRecDepth 100000 in
theorem K_Cmp_p (a b x y : Int) (h1 : ratOk a b = true) (h2 : ratOk x y = true) : Fun 46 [.agg [iC a, iC b], .agg [iC x, iC y]] (toG []) 0 (iV (cmpV (a * y) (x * b))) (toG []) 0 := by
  have hA : 1 ≤ a ∧ a ≤ 68719476736 ∧ 1 ≤ b ∧ b ≤ 68719476736 := ratOk_of h1
  have hB : 1 ≤ x ∧ x ≤ 68719476736 ∧ 1 ≤ y ∧ y ≤ 68719476736 := ratOk_of h2
  have hcv : (cmpV (a * y) (x * b) = 0 - 1 ∧ a * y < x * b) ∨ (cmpV (a * y) (x * b) = 0 ∧ a * y = x * b) ∨ (cmpV (a * y) (x * b) = 1 ∧ x * b < a * y) := cmpV_in _ _
  refine Fun.mk (n := 56) Try.func46 rfl rfl (Nat.le_of_ble_eq_true rfl) ?_
  intro cx hcx
  refine AW.rgs [.no, .no, .no] [2, 3] [0, 1] (P := True) (l' := [(2, rV 0 0), (3, rV 1 0)]) (g' := [(0, some (27, .ds [iD a, iD b])), (1, some (27, .ds [iD x, iD y]))]) (nx' := 2) (by kernel_rfl) trivial ?_
  refine AW.seq ?_
  refine AW.rgs [.no, .call [] (bV true) [] 0 [] none, .no, .no, .no, .call [] (bV true) [] 0 [] none, .no, .no] [2, 3, 16] [0, 1] (P := (Fun 40 [.agg [iC a, iC b]] (toG []) 0 (bV true) (toG []) 0) ∧ (Fun 40 [.agg [iC x, iC y]] (toG []) 0 (bV true) (toG []) 0)) (l' := [(2, rV 0 0), (3, rV 1 0), (16, bV false)]) (g' := [(0, some (27, .ds [iD a, iD b])), (1, some (27, .ds [iD x, iD y]))]) (nx' := 2) (by kernel_rfl) ⟨(by have h0 := (R_Valid_p a b); rw [h1] at h0; exact h0), (by have h0 := (R_Valid_p x y); rw [h2] at h0; exact h0)⟩ ?_
  refine AW.cond_f (.tmp (Look.of rfl)) ?_
  refine AW.skip ?_
  refine AW.rgs [.no, .no, .no, .no, .call [] (.tup [.c (.d (D.lit (.int .u64 ((a * y) / 18446744073709551616)))), .c (.d (D.lit (.int .u64 ((a * y) % 18446744073709551616))))]) [] 0 [] none, .no, .no, .no, .no, .no] [2, 3, 5, 6] [0, 1] (P := (_)) (l' := [(2, rV 0 0), (3, rV 1 0), (5, .e (.c (.d (D.lit (.int .u64 ((a * y) / 18446744073709551616)))))), (6, .e (.c (.d (D.lit (.int .u64 ((a * y) % 18446744073709551616))))))]) (g' := [(0, some (27, .ds [iD a, iD b])), (1, some (27, .ds [iD x, iD y]))]) (nx' := 2) (by kernel_rfl) (K_prod a y (by omega) (by omega)) ?_
  refine AW.rgs [.no, .no, .no, .no, .call [] (.tup [.c (.d (D.lit (.int .u64 ((x * b) / 18446744073709551616)))), .c (.d (D.lit (.int .u64 ((x * b) % 18446744073709551616))))]) [] 0 [] none, .no, .no, .no, .no, .no] [5, 6, 7, 8] [] (P := (_)) (l' := [(5, .e (.c (.d (D.lit (.int .u64 ((a * y) / 18446744073709551616)))))), (6, .e (.c (.d (D.lit (.int .u64 ((a * y) % 18446744073709551616)))))), (7, .e (.c (.d (D.lit (.int .u64 ((x * b) / 18446744073709551616)))))), (8, .e (.c (.d (D.lit (.int .u64 ((x * b) % 18446744073709551616))))))]) (g' := []) (nx' := 2) (by kernel_rfl) (K_prod x b (by omega) (by omega)) ?_
  refine AW.seq ?_
  refine AW.block ?_
  by_cases hx1 : (((a * y) / 18446744073709551616) = ((x * b) / 18446744073709551616))
  · by_cases hx2 : (((a * y) % 18446744073709551616) = ((x * b) % 18446744073709551616))
    · refine AW.rgs [.no, .no, .b true, .no, .no, .no, .b true, .no, .no] [5, 6, 7, 8, 33] [] (P := ((((a * y) / 18446744073709551616) = ((x * b) / 18446744073709551616))) ∧ ((((a * y) % 18446744073709551616) = ((x * b) % 18446744073709551616)))) (l' := [(5, .e (.c (.d (D.lit (.int .u64 ((a * y) / 18446744073709551616)))))), (6, .e (.c (.d (D.lit (.int .u64 ((a * y) % 18446744073709551616)))))), (7, .e (.c (.d (D.lit (.int .u64 ((x * b) / 18446744073709551616)))))), (8, .e (.c (.d (D.lit (.int .u64 ((x * b) % 18446744073709551616)))))), (33, bV true)]) (g' := []) (nx' := 2) (by kernel_rfl) ⟨(by omega), (by omega)⟩ ?_
      refine AW.cond_t (.tmp (Look.of rfl)) ?_
      refine AW.rgs [.no] [4] [] (P := True) (l' := [(4, iV 0)]) (g' := []) (nx' := 2) (by kernel_rfl) trivial ?_
      refine AW.ret ?_
      exact EndP.of (.inr rfl) [] (P := (((cmpV (a * y) (x * b)) : Int) = 0)) (by kernel_rfl) (by first | rfl | omega)
    · refine AW.rgs [.no, .no, .b true, .no, .no, .no, .b false, .no, .no] [5, 6, 7, 8, 33] [] (P := ((((a * y) / 18446744073709551616) = ((x * b) / 18446744073709551616))) ∧ (¬ (((a * y) % 18446744073709551616) = ((x * b) % 18446744073709551616)))) (l' := [(5, .e (.c (.d (D.lit (.int .u64 ((a * y) / 18446744073709551616)))))), (6, .e (.c (.d (D.lit (.int .u64 ((a * y) % 18446744073709551616)))))), (7, .e (.c (.d (D.lit (.int .u64 ((x * b) / 18446744073709551616)))))), (8, .e (.c (.d (D.lit (.int .u64 ((x * b) % 18446744073709551616)))))), (33, bV false)]) (g' := []) (nx' := 2) (by kernel_rfl) ⟨(by omega), (by omega)⟩ ?_
      refine AW.cond_f (.tmp (Look.of rfl)) ?_
      by_cases hx3 : (((a * y) % 18446744073709551616) < ((x * b) % 18446744073709551616))
      · refine AW.rgs [.no, .no, .b false, .no, .no, .no, .b true, .no, .no, .no, .b true, .no, .no, .no] [42] [] (P := (¬ (((a * y) / 18446744073709551616) < ((x * b) / 18446744073709551616))) ∧ ((((a * y) / 18446744073709551616) = ((x * b) / 18446744073709551616))) ∧ ((((a * y) % 18446744073709551616) < ((x * b) % 18446744073709551616)))) (l' := [(42, bV true)]) (g' := []) (nx' := 2) (by kernel_rfl) ⟨(by omega), (by omega), (by omega)⟩ ?_
        refine AW.cond_t (.tmp (Look.of rfl)) ?_
        refine AW.rgs [.no] [4] [] (P := True) (l' := [(4, iV (-1))]) (g' := []) (nx' := 2) (by kernel_rfl) trivial ?_
        refine AW.ret ?_
        exact EndP.of (.inr rfl) [] (P := (((cmpV (a * y) (x * b)) : Int) = (-1))) (by kernel_rfl) (by first | rfl | omega)
      · refine AW.rgs [.no, .no, .b false, .no, .no, .no, .b true, .no, .no, .no, .b false, .no, .no, .no] [42] [] (P := (¬ (((a * y) / 18446744073709551616) < ((x * b) / 18446744073709551616))) ∧ ((((a * y) / 18446744073709551616) = ((x * b) / 18446744073709551616))) ∧ (¬ (((a * y) % 18446744073709551616) < ((x * b) % 18446744073709551616)))) (l' := [(42, bV false)]) (g' := []) (nx' := 2) (by kernel_rfl) ⟨(by omega), (by omega), (by omega)⟩ ?_
        refine AW.cond_f (.tmp (Look.of rfl)) ?_
        refine AW.skip ?_
        refine AW.rgs [.no] [4] [] (P := True) (l' := [(4, iV 1)]) (g' := []) (nx' := 2) (by kernel_rfl) trivial ?_
        refine AW.ret ?_
        exact EndP.of (.inr rfl) [] (P := (((cmpV (a * y) (x * b)) : Int) = 1)) (by kernel_rfl) (by first | rfl | omega)
  · refine AW.rgs [.no, .no, .b false, .no, .no, .no] [5, 6, 7, 8, 33] [] (P := (¬ (((a * y) / 18446744073709551616) = ((x * b) / 18446744073709551616)))) (l' := [(5, .e (.c (.d (D.lit (.int .u64 ((a * y) / 18446744073709551616)))))), (6, .e (.c (.d (D.lit (.int .u64 ((a * y) % 18446744073709551616)))))), (7, .e (.c (.d (D.lit (.int .u64 ((x * b) / 18446744073709551616)))))), (8, .e (.c (.d (D.lit (.int .u64 ((x * b) % 18446744073709551616)))))), (33, bV false)]) (g' := []) (nx' := 2) (by kernel_rfl) (by omega) ?_
    refine AW.cond_f (.tmp (Look.of rfl)) ?_
    by_cases hx4 : (((a * y) / 18446744073709551616) < ((x * b) / 18446744073709551616))
    · refine AW.rgs [.no, .no, .b true, .no, .no, .no] [42] [] (P := ((((a * y) / 18446744073709551616) < ((x * b) / 18446744073709551616)))) (l' := [(42, bV true)]) (g' := []) (nx' := 2) (by kernel_rfl) (by omega) ?_
      refine AW.cond_t (.tmp (Look.of rfl)) ?_
      refine AW.rgs [.no] [4] [] (P := True) (l' := [(4, iV (-1))]) (g' := []) (nx' := 2) (by kernel_rfl) trivial ?_
      refine AW.ret ?_
      exact EndP.of (.inr rfl) [] (P := (((cmpV (a * y) (x * b)) : Int) = (-1))) (by kernel_rfl) (by first | rfl | omega)
    · refine AW.rgs [.no, .no, .b false, .no, .no, .no, .b false, .no, .no, .no, .no] [42] [] (P := (¬ (((a * y) / 18446744073709551616) < ((x * b) / 18446744073709551616))) ∧ (¬ (((a * y) / 18446744073709551616) = ((x * b) / 18446744073709551616)))) (l' := [(42, bV false)]) (g' := []) (nx' := 2) (by kernel_rfl) ⟨(by omega), (by omega)⟩ ?_
      refine AW.cond_f (.tmp (Look.of rfl)) ?_
      refine AW.skip ?_
      refine AW.rgs [.no] [4] [] (P := True) (l' := [(4, iV 1)]) (g' := []) (nx' := 2) (by kernel_rfl) trivial ?_
      refine AW.ret ?_
      exact EndP.of (.inr rfl) [] (P := (((cmpV (a * y) (x * b)) : Int) = 1)) (by kernel_rfl) (by first | rfl | omega)

set_option maxHeartbeats 4000000 in
set_option maxRecDepth 100000 in
theorem K_Cmp_r (a b x y : Int) (h1 : ratOk a b = true) (h2 : ratOk x y = true) : Fun 48 [.agg [iC a, iC b], .agg [iC x, iC y]] (toG []) 0 (iV (cmpV (a * y) (x * b))) (toG []) 0 := by
  have hA : 1 ≤ a ∧ a ≤ 68719476736 ∧ 1 ≤ b ∧ b ≤ 68719476736 := ratOk_of h1
  have hB : 1 ≤ x ∧ x ≤ 68719476736 ∧ 1 ≤ y ∧ y ≤ 68719476736 := ratOk_of h2
  have hcv : (cmpV (a * y) (x * b) = 0 - 1 ∧ a * y < x * b) ∨ (cmpV (a * y) (x * b) = 0 ∧ a * y = x * b) ∨ (cmpV (a * y) (x * b) = 1 ∧ x * b < a * y) := cmpV_in _ _
  refine Fun.mk (n := 65) Try.func48 rfl rfl (Nat.le_of_ble_eq_true rfl) ?_
  intro cx hcx
  refine AW.rgs [.no, .no, .no] [2, 3] [0, 1] (P := True) (l' := [(2, rV 0 0), (3, rV 1 0)]) (g' := [(0, some (27, .ds [iD a, iD b])), (1, some (27, .ds [iD x, iD y]))]) (nx' := 2) (by kernel_rfl) trivial ?_
  refine AW.seq ?_
  refine AW.rgs [.no, .call [] (bV true) [] 0 [] none, .no, .no, .no, .call [] (bV true) [] 0 [] none, .no, .no] [2, 3, 16] [0, 1] (P := (Fun 47 [.agg [iC a, iC b]] (toG []) 0 (bV true) (toG []) 0) ∧ (Fun 47 [.agg [iC x, iC y]] (toG []) 0 (bV true) (toG []) 0)) (l' := [(2, rV 0 0), (3, rV 1 0), (16, bV false)]) (g' := [(0, some (27, .ds [iD a, iD b])), (1, some (27, .ds [iD x, iD y]))]) (nx' := 2) (by kernel_rfl) ⟨(by have h0 := (R_Valid_r a b); rw [h1] at h0; exact h0), (by have h0 := (R_Valid_r x y); rw [h2] at h0; exact h0)⟩ ?_
  refine AW.cond_f (.tmp (Look.of rfl)) ?_
  refine AW.skip ?_
  refine AW.rgs [.no, .no, .w, .no, .no, .w, .call [] (.tup [.c (.d (D.lit (.int .u64 ((a * y) / 18446744073709551616)))), .c (.d (D.lit (.int .u64 ((a * y) % 18446744073709551616))))]) [] 0 [] none, .no, .no, .no, .no, .no] [2, 3, 5, 6] [0, 1] (P := (0 ≤ a ∧ a ≤ 18446744073709551615) ∧ (0 ≤ y ∧ y ≤ 18446744073709551615) ∧ (_)) (l' := [(2, rV 0 0), (3, rV 1 0), (5, .e (.c (.d (D.lit (.int .u64 ((a * y) / 18446744073709551616)))))), (6, .e (.c (.d (D.lit (.int .u64 ((a * y) % 18446744073709551616))))))]) (g' := [(0, some (27, .ds [iD a, iD b])), (1, some (27, .ds [iD x, iD y]))]) (nx' := 2) (by kernel_rfl) ⟨⟨by omega, by omega⟩, ⟨by omega, by omega⟩, (B_Mul64 a y (by omega) (by omega))⟩ ?_
  refine AW.rgs [.no, .no, .w, .no, .no, .w, .call [] (.tup [.c (.d (D.lit (.int .u64 ((x * b) / 18446744073709551616)))), .c (.d (D.lit (.int .u64 ((x * b) % 18446744073709551616))))]) [] 0 [] none, .no, .no, .no, .no, .no] [5, 6, 7, 8] [] (P := (0 ≤ x ∧ x ≤ 18446744073709551615) ∧ (0 ≤ b ∧ b ≤ 18446744073709551615) ∧ (_)) (l' := [(5, .e (.c (.d (D.lit (.int .u64 ((a * y) / 18446744073709551616)))))), (6, .e (.c (.d (D.lit (.int .u64 ((a * y) % 18446744073709551616)))))), (7, .e (.c (.d (D.lit (.int .u64 ((x * b) / 18446744073709551616)))))), (8, .e (.c (.d (D.lit (.int .u64 ((x * b) % 18446744073709551616))))))]) (g' := []) (nx' := 2) (by kernel_rfl) ⟨⟨by omega, by omega⟩, ⟨by omega, by omega⟩, (B_Mul64 x b (by omega) (by omega))⟩ ?_
  refine AW.seq ?_
  refine AW.block ?_
  by_cases hx1 : (((a * y) / 18446744073709551616) < ((x * b) / 18446744073709551616))
  · refine AW.rgs [.no, .no, .b true, .no, .no, .no] [5, 6, 7, 8, 37] [] (P := ((((a * y) / 18446744073709551616) < ((x * b) / 18446744073709551616)))) (l' := [(5, .e (.c (.d (D.lit (.int .u64 ((a * y) / 18446744073709551616)))))), (6, .e (.c (.d (D.lit (.int .u64 ((a * y) % 18446744073709551616)))))), (7, .e (.c (.d (D.lit (.int .u64 ((x * b) / 18446744073709551616)))))), (8, .e (.c (.d (D.lit (.int .u64 ((x * b) % 18446744073709551616)))))), (37, bV true)]) (g' := []) (nx' := 2) (by kernel_rfl) (by omega) ?_
    refine AW.cond_t (.tmp (Look.of rfl)) ?_
    refine AW.rgs [.no] [4] [] (P := True) (l' := [(4, iV (-1))]) (g' := []) (nx' := 2) (by kernel_rfl) trivial ?_
    refine AW.ret ?_
    exact EndP.of (.inr rfl) [] (P := (((cmpV (a * y) (x * b)) : Int) = (-1))) (by kernel_rfl) (by first | rfl | omega)
  · by_cases hx2 : (((a * y) / 18446744073709551616) = ((x * b) / 18446744073709551616))
    · by_cases hx3 : (((a * y) % 18446744073709551616) < ((x * b) % 18446744073709551616))
      · refine AW.rgs [.no, .no, .b false, .no, .no, .no, .b true, .no, .no, .no, .b true, .no, .no, .no] [5, 6, 7, 8, 37] [] (P := (¬ (((a * y) / 18446744073709551616) < ((x * b) / 18446744073709551616))) ∧ ((((a * y) / 18446744073709551616) = ((x * b) / 18446744073709551616))) ∧ ((((a * y) % 18446744073709551616) < ((x * b) % 18446744073709551616)))) (l' := [(5, .e (.c (.d (D.lit (.int .u64 ((a * y) / 18446744073709551616)))))), (6, .e (.c (.d (D.lit (.int .u64 ((a * y) % 18446744073709551616)))))), (7, .e (.c (.d (D.lit (.int .u64 ((x * b) / 18446744073709551616)))))), (8, .e (.c (.d (D.lit (.int .u64 ((x * b) % 18446744073709551616)))))), (37, bV true)]) (g' := []) (nx' := 2) (by kernel_rfl) ⟨(by omega), (by omega), (by omega)⟩ ?_
        refine AW.cond_t (.tmp (Look.of rfl)) ?_
        refine AW.rgs [.no] [4] [] (P := True) (l' := [(4, iV (-1))]) (g' := []) (nx' := 2) (by kernel_rfl) trivial ?_
        refine AW.ret ?_
        exact EndP.of (.inr rfl) [] (P := (((cmpV (a * y) (x * b)) : Int) = (-1))) (by kernel_rfl) (by first | rfl | omega)
      · refine AW.rgs [.no, .no, .b false, .no, .no, .no, .b true, .no, .no, .no, .b false, .no, .no, .no] [5, 6, 7, 8, 37] [] (P := (¬ (((a * y) / 18446744073709551616) < ((x * b) / 18446744073709551616))) ∧ ((((a * y) / 18446744073709551616) = ((x * b) / 18446744073709551616))) ∧ (¬ (((a * y) % 18446744073709551616) < ((x * b) % 18446744073709551616)))) (l' := [(5, .e (.c (.d (D.lit (.int .u64 ((a * y) / 18446744073709551616)))))), (6, .e (.c (.d (D.lit (.int .u64 ((a * y) % 18446744073709551616)))))), (7, .e (.c (.d (D.lit (.int .u64 ((x * b) / 18446744073709551616)))))), (8, .e (.c (.d (D.lit (.int .u64 ((x * b) % 18446744073709551616)))))), (37, bV false)]) (g' := []) (nx' := 2) (by kernel_rfl) ⟨(by omega), (by omega), (by omega)⟩ ?_
        refine AW.cond_f (.tmp (Look.of rfl)) ?_
        by_cases hx4 : (((x * b) % 18446744073709551616) < ((a * y) % 18446744073709551616))
        · refine AW.rgs [.no, .no, .b false, .no, .no, .no, .b true, .no, .no, .no, .b true, .no, .no, .no] [51] [] (P := (¬ (((x * b) / 18446744073709551616) < ((a * y) / 18446744073709551616))) ∧ ((((a * y) / 18446744073709551616) = ((x * b) / 18446744073709551616))) ∧ ((((x * b) % 18446744073709551616) < ((a * y) % 18446744073709551616)))) (l' := [(51, bV true)]) (g' := []) (nx' := 2) (by kernel_rfl) ⟨(by omega), (by omega), (by omega)⟩ ?_
          refine AW.cond_t (.tmp (Look.of rfl)) ?_
          refine AW.rgs [.no] [4] [] (P := True) (l' := [(4, iV 1)]) (g' := []) (nx' := 2) (by kernel_rfl) trivial ?_
          refine AW.ret ?_
          exact EndP.of (.inr rfl) [] (P := (((cmpV (a * y) (x * b)) : Int) = 1)) (by kernel_rfl) (by first | rfl | omega)
        · refine AW.rgs [.no, .no, .b false, .no, .no, .no, .b true, .no, .no, .no, .b false, .no, .no, .no] [51] [] (P := (¬ (((x * b) / 18446744073709551616) < ((a * y) / 18446744073709551616))) ∧ ((((a * y) / 18446744073709551616) = ((x * b) / 18446744073709551616))) ∧ (¬ (((x * b) % 18446744073709551616) < ((a * y) % 18446744073709551616)))) (l' := [(51, bV false)]) (g' := []) (nx' := 2) (by kernel_rfl) ⟨(by omega), (by omega), (by omega)⟩ ?_
          refine AW.cond_f (.tmp (Look.of rfl)) ?_
          refine AW.skip ?_
          refine AW.rgs [.no] [4] [] (P := True) (l' := [(4, iV 0)]) (g' := []) (nx' := 2) (by kernel_rfl) trivial ?_
          refine AW.ret ?_
          exact EndP.of (.inr rfl) [] (P := (((cmpV (a * y) (x * b)) : Int) = 0)) (by kernel_rfl) (by first | rfl | omega)
    · refine AW.rgs [.no, .no, .b false, .no, .no, .no, .b false, .no, .no, .no, .no] [5, 6, 7, 8, 37] [] (P := (¬ (((a * y) / 18446744073709551616) < ((x * b) / 18446744073709551616))) ∧ (¬ (((a * y) / 18446744073709551616) = ((x * b) / 18446744073709551616)))) (l' := [(5, .e (.c (.d (D.lit (.int .u64 ((a * y) / 18446744073709551616)))))), (6, .e (.c (.d (D.lit (.int .u64 ((a * y) % 18446744073709551616)))))), (7, .e (.c (.d (D.lit (.int .u64 ((x * b) / 18446744073709551616)))))), (8, .e (.c (.d (D.lit (.int .u64 ((x * b) % 18446744073709551616)))))), (37, bV false)]) (g' := []) (nx' := 2) (by kernel_rfl) ⟨(by omega), (by omega)⟩ ?_
      refine AW.cond_f (.tmp (Look.of rfl)) ?_
      refine AW.rgs [.no, .no, .b true, .no, .no, .no] [51] [] (P := ((((x * b) / 18446744073709551616) < ((a * y) / 18446744073709551616)))) (l' := [(51, bV true)]) (g' := []) (nx' := 2) (by kernel_rfl) (by omega) ?_
      refine AW.cond_t (.tmp (Look.of rfl)) ?_
      refine AW.rgs [.no] [4] [] (P := True) (l' := [(4, iV 1)]) (g' := []) (nx' := 2) (by kernel_rfl) trivial ?_
      refine AW.ret ?_
      exact EndP.of (.inr rfl) [] (P := (((cmpV (a * y) (x * b)) : Int) = 1)) (by kernel_rfl) (by first | rfl | omega)

set_option maxHeartbeats 4000000 in
set_option maxRecDepth 100000 in
theorem T_rate (N W : Int)  : Fun 30 [.agg [iC N, iC W]] (toG []) 0 (.e (.c (.d (D.lit (.bool (rtB N W)))))) (toG []) 0 := by
  refine Fun.mk (n := 21) Try.func30 rfl rfl (Nat.le_of_ble_eq_true rfl) ?_
  intro cx hcx
  refine AW.rgs [.no, .no] [1] [0] (P := True) (l' := [(1, rV 0 0)]) (g' := [(0, some (27, .ds [iD N, iD W]))]) (nx' := 1) (by kernel_rfl) trivial ?_
  refine AW.rgs [.no, .no, .no] [1, 3] [0, 1] (P := True) (l' := [(1, rV 0 0), (3, rV 1 0)]) (g' := [(0, some (27, .ds [iD N, iD W])), (1, some (27, .ds [iD 1024, iD 1]))]) (nx' := 2) (by kernel_rfl) trivial ?_
  refine AW.rgs [.no, .no, .no] [1, 3, 4] [0, 1, 2] (P := True) (l' := [(1, rV 0 0), (3, rV 1 0), (4, rV 2 0)]) (g' := [(0, some (27, .ds [iD N, iD W])), (1, some (27, .ds [iD 1024, iD 1])), (2, some (27, .ds [iD 1, iD 1024]))]) (nx' := 3) (by kernel_rfl) trivial ?_
  rcases Bool.eq_false_or_eq_true (ratOk N W) with hx1 | hx1
  · have hrt : 1 ≤ N ∧ N ≤ 68719476736 ∧ 1 ≤ W ∧ W ≤ 68719476736 := ratOk_of hx1
    by_cases hx3 : ((0 : Int) ≤ (cmpV (N * 1024) (1 * W)))
    · by_cases hx6 : ((cmpV (N * 1) (1024 * W)) ≤ 0)
      · have hx7 : (((((cmpV (N * 1024) (1 * W)) = (-1)) ∧ ((N * 1024) < (1 * W))) ∨ (((cmpV (N * 1024) (1 * W)) = 0) ∧ ((N * 1024) = (1 * W)))) ∨ (((cmpV (N * 1024) (1 * W)) = 1) ∧ ((1 * W) < (N * 1024)))) := (cmpV_at _ _)
        have hx8 : (((((cmpV (N * 1) (1024 * W)) = (-1)) ∧ ((N * 1) < (1024 * W))) ∨ (((cmpV (N * 1) (1024 * W)) = 0) ∧ ((N * 1) = (1024 * W)))) ∨ (((cmpV (N * 1) (1024 * W)) = 1) ∧ ((1024 * W) < (N * 1)))) := (cmpV_at _ _)
        refine AW.rgs [.no, .call [] (bV true) [] 0 [] none, .no, .no, .no, .call [] (iV (cmpV (N * 1024) (1 * W))) [] 0 [] none, .b true, .no, .no, .no, .no, .call [] (iV (cmpV (N * 1) (1024 * W))) [] 0 [] none, .b true, .no, .no] [2] [] (P := (Fun 40 [.agg [iC N, iC W]] (toG []) 0 (bV true) (toG []) 0) ∧ (_) ∧ (((0 : Int) ≤ (cmpV (N * 1024) (1 * W)))) ∧ (_) ∧ (((cmpV (N * 1) (1024 * W)) ≤ 0))) (l' := [(2, bV true)]) (g' := []) (nx' := 3) (by kernel_rfl) ⟨(by have h0 := (R_Valid_p N W); rw [hx1] at h0; exact h0), (K_Cmp_p N W 1 1024 hx1 (by kernel_rfl)), (by omega), (K_Cmp_p N W 1024 1 hx1 (by kernel_rfl)), (by omega)⟩ ?_
        refine AW.ret ?_
        exact EndP.of (.inr rfl) [] (P := ((rtB N W) = true)) (by kernel_rfl) (by first | exact rt_r (by assumption) | exact rt_t (by assumption) (by omega) | exact rt_f (by omega))
      · have hx9 : (((((cmpV (N * 1024) (1 * W)) = (-1)) ∧ ((N * 1024) < (1 * W))) ∨ (((cmpV (N * 1024) (1 * W)) = 0) ∧ ((N * 1024) = (1 * W)))) ∨ (((cmpV (N * 1024) (1 * W)) = 1) ∧ ((1 * W) < (N * 1024)))) := (cmpV_at _ _)
        have hx10 : (((((cmpV (N * 1) (1024 * W)) = (-1)) ∧ ((N * 1) < (1024 * W))) ∨ (((cmpV (N * 1) (1024 * W)) = 0) ∧ ((N * 1) = (1024 * W)))) ∨ (((cmpV (N * 1) (1024 * W)) = 1) ∧ ((1024 * W) < (N * 1)))) := (cmpV_at _ _)
        refine AW.rgs [.no, .call [] (bV true) [] 0 [] none, .no, .no, .no, .call [] (iV (cmpV (N * 1024) (1 * W))) [] 0 [] none, .b true, .no, .no, .no, .no, .call [] (iV (cmpV (N * 1) (1024 * W))) [] 0 [] none, .b false, .no, .no] [2] [] (P := (Fun 40 [.agg [iC N, iC W]] (toG []) 0 (bV true) (toG []) 0) ∧ (_) ∧ (((0 : Int) ≤ (cmpV (N * 1024) (1 * W)))) ∧ (_) ∧ (¬ ((cmpV (N * 1) (1024 * W)) ≤ 0))) (l' := [(2, bV false)]) (g' := []) (nx' := 3) (by kernel_rfl) ⟨(by have h0 := (R_Valid_p N W); rw [hx1] at h0; exact h0), (K_Cmp_p N W 1 1024 hx1 (by kernel_rfl)), (by omega), (K_Cmp_p N W 1024 1 hx1 (by kernel_rfl)), (by omega)⟩ ?_
        refine AW.ret ?_
        exact EndP.of (.inr rfl) [] (P := ((rtB N W) = false)) (by kernel_rfl) (by first | exact rt_r (by assumption) | exact rt_t (by assumption) (by omega) | exact rt_f (by omega))
    · have hx11 : (((((cmpV (N * 1024) (1 * W)) = (-1)) ∧ ((N * 1024) < (1 * W))) ∨ (((cmpV (N * 1024) (1 * W)) = 0) ∧ ((N * 1024) = (1 * W)))) ∨ (((cmpV (N * 1024) (1 * W)) = 1) ∧ ((1 * W) < (N * 1024)))) := (cmpV_at _ _)
      refine AW.rgs [.no, .call [] (bV true) [] 0 [] none, .no, .no, .no, .call [] (iV (cmpV (N * 1024) (1 * W))) [] 0 [] none, .b false, .no, .no, .no, .no] [2] [] (P := (Fun 40 [.agg [iC N, iC W]] (toG []) 0 (bV true) (toG []) 0) ∧ (_) ∧ (¬ ((0 : Int) ≤ (cmpV (N * 1024) (1 * W))))) (l' := [(2, bV false)]) (g' := []) (nx' := 3) (by kernel_rfl) ⟨(by have h0 := (R_Valid_p N W); rw [hx1] at h0; exact h0), (K_Cmp_p N W 1 1024 hx1 (by kernel_rfl)), (by omega)⟩ ?_
      refine AW.ret ?_
      exact EndP.of (.inr rfl) [] (P := ((rtB N W) = false)) (by kernel_rfl) (by first | exact rt_r (by assumption) | exact rt_t (by assumption) (by omega) | exact rt_f (by omega))
  · refine AW.rgs [.no, .call [] (bV false) [] 0 [] none, .no, .no, .no, .no, .no] [2] [] (P := (Fun 40 [.agg [iC N, iC W]] (toG []) 0 (bV false) (toG []) 0)) (l' := [(2, bV false)]) (g' := []) (nx' := 3) (by kernel_rfl) (by have h0 := (R_Valid_p N W); rw [hx1] at h0; exact h0) ?_
    refine AW.ret ?_
    exact EndP.of (.inr rfl) [] (P := ((rtB N W) = false)) (by kernel_rfl) (by first | exact rt_r (by assumption) | exact rt_t (by assumption) (by omega) | exact rt_f (by omega))

set_option maxHeartbeats 4000000 in
set_option maxRecDepth 100000 in
theorem T_rrate (N W : Int)  : Fun 32 [.agg [iC N, iC W]] (toG []) 0 (.e (.c (.d (D.lit (.bool (rtB N W)))))) (toG []) 0 := by
  refine Fun.mk (n := 17) Try.func32 rfl rfl (Nat.le_of_ble_eq_true rfl) ?_
  intro cx hcx
  refine AW.rgs [.no, .no] [1] [0] (P := True) (l' := [(1, rV 0 0)]) (g' := [(0, some (27, .ds [iD N, iD W]))]) (nx' := 1) (by kernel_rfl) trivial ?_
  rcases Bool.eq_false_or_eq_true (ratOk N W) with hx1 | hx1
  · have hrt : 1 ≤ N ∧ N ≤ 68719476736 ∧ 1 ≤ W ∧ W ≤ 68719476736 := ratOk_of hx1
    by_cases hx3 : ((0 : Int) ≤ (cmpV (N * 1024) (1 * W)))
    · by_cases hx6 : ((cmpV (N * 1) (1024 * W)) ≤ 0)
      · have hx7 : (((((cmpV (N * 1024) (1 * W)) = (-1)) ∧ ((N * 1024) < (1 * W))) ∨ (((cmpV (N * 1024) (1 * W)) = 0) ∧ ((N * 1024) = (1 * W)))) ∨ (((cmpV (N * 1024) (1 * W)) = 1) ∧ ((1 * W) < (N * 1024)))) := (cmpV_at _ _)
        have hx8 : (((((cmpV (N * 1) (1024 * W)) = (-1)) ∧ ((N * 1) < (1024 * W))) ∨ (((cmpV (N * 1) (1024 * W)) = 0) ∧ ((N * 1) = (1024 * W)))) ∨ (((cmpV (N * 1) (1024 * W)) = 1) ∧ ((1024 * W) < (N * 1)))) := (cmpV_at _ _)
        refine AW.rgs [.no, .call [] (bV true) [] 0 [] none, .no, .no, .no, .call [] (iV (cmpV (N * 1024) (1 * W))) [] 0 [] none, .b true, .no, .no, .no, .no, .call [] (iV (cmpV (N * 1) (1024 * W))) [] 0 [] none, .b true, .no, .no] [2] [] (P := (Fun 47 [.agg [iC N, iC W]] (toG []) 0 (bV true) (toG []) 0) ∧ (_) ∧ (((0 : Int) ≤ (cmpV (N * 1024) (1 * W)))) ∧ (_) ∧ (((cmpV (N * 1) (1024 * W)) ≤ 0))) (l' := [(2, bV true)]) (g' := []) (nx' := 1) (by kernel_rfl) ⟨(by have h0 := (R_Valid_r N W); rw [hx1] at h0; exact h0), (K_Cmp_r N W 1 1024 hx1 (by kernel_rfl)), (by omega), (K_Cmp_r N W 1024 1 hx1 (by kernel_rfl)), (by omega)⟩ ?_
        refine AW.ret ?_
        exact EndP.of (.inr rfl) [] (P := ((rtB N W) = true)) (by kernel_rfl) (by first | exact rt_r (by assumption) | exact rt_t (by assumption) (by omega) | exact rt_f (by omega))
      · have hx9 : (((((cmpV (N * 1024) (1 * W)) = (-1)) ∧ ((N * 1024) < (1 * W))) ∨ (((cmpV (N * 1024) (1 * W)) = 0) ∧ ((N * 1024) = (1 * W)))) ∨ (((cmpV (N * 1024) (1 * W)) = 1) ∧ ((1 * W) < (N * 1024)))) := (cmpV_at _ _)
        have hx10 : (((((cmpV (N * 1) (1024 * W)) = (-1)) ∧ ((N * 1) < (1024 * W))) ∨ (((cmpV (N * 1) (1024 * W)) = 0) ∧ ((N * 1) = (1024 * W)))) ∨ (((cmpV (N * 1) (1024 * W)) = 1) ∧ ((1024 * W) < (N * 1)))) := (cmpV_at _ _)
        refine AW.rgs [.no, .call [] (bV true) [] 0 [] none, .no, .no, .no, .call [] (iV (cmpV (N * 1024) (1 * W))) [] 0 [] none, .b true, .no, .no, .no, .no, .call [] (iV (cmpV (N * 1) (1024 * W))) [] 0 [] none, .b false, .no, .no] [2] [] (P := (Fun 47 [.agg [iC N, iC W]] (toG []) 0 (bV true) (toG []) 0) ∧ (_) ∧ (((0 : Int) ≤ (cmpV (N * 1024) (1 * W)))) ∧ (_) ∧ (¬ ((cmpV (N * 1) (1024 * W)) ≤ 0))) (l' := [(2, bV false)]) (g' := []) (nx' := 1) (by kernel_rfl) ⟨(by have h0 := (R_Valid_r N W); rw [hx1] at h0; exact h0), (K_Cmp_r N W 1 1024 hx1 (by kernel_rfl)), (by omega), (K_Cmp_r N W 1024 1 hx1 (by kernel_rfl)), (by omega)⟩ ?_
        refine AW.ret ?_
        exact EndP.of (.inr rfl) [] (P := ((rtB N W) = false)) (by kernel_rfl) (by first | exact rt_r (by assumption) | exact rt_t (by assumption) (by omega) | exact rt_f (by omega))
    · have hx11 : (((((cmpV (N * 1024) (1 * W)) = (-1)) ∧ ((N * 1024) < (1 * W))) ∨ (((cmpV (N * 1024) (1 * W)) = 0) ∧ ((N * 1024) = (1 * W)))) ∨ (((cmpV (N * 1024) (1 * W)) = 1) ∧ ((1 * W) < (N * 1024)))) := (cmpV_at _ _)
      refine AW.rgs [.no, .call [] (bV true) [] 0 [] none, .no, .no, .no, .call [] (iV (cmpV (N * 1024) (1 * W))) [] 0 [] none, .b false, .no, .no, .no, .no] [2] [] (P := (Fun 47 [.agg [iC N, iC W]] (toG []) 0 (bV true) (toG []) 0) ∧ (_) ∧ (¬ ((0 : Int) ≤ (cmpV (N * 1024) (1 * W))))) (l' := [(2, bV false)]) (g' := []) (nx' := 1) (by kernel_rfl) ⟨(by have h0 := (R_Valid_r N W); rw [hx1] at h0; exact h0), (K_Cmp_r N W 1 1024 hx1 (by kernel_rfl)), (by omega)⟩ ?_
      refine AW.ret ?_
      exact EndP.of (.inr rfl) [] (P := ((rtB N W) = false)) (by kernel_rfl) (by first | exact rt_r (by assumption) | exact rt_t (by assumption) (by omega) | exact rt_f (by omega))
  · refine AW.rgs [.no, .call [] (bV false) [] 0 [] none, .no, .no, .no, .no, .no] [2] [] (P := (Fun 47 [.agg [iC N, iC W]] (toG []) 0 (bV false) (toG []) 0)) (l' := [(2, bV false)]) (g' := []) (nx' := 1) (by kernel_rfl) (by have h0 := (R_Valid_r N W); rw [hx1] at h0; exact h0) ?_
    refine AW.ret ?_
    exact EndP.of (.inr rfl) [] (P := ((rtB N W) = false)) (by kernel_rfl) (by first | exact rt_r (by assumption) | exact rt_t (by assumption) (by omega) | exact rt_f (by omega))

set_option maxHeartbeats 4000000 in
set_option maxRecDepth 100000 in
theorem T_Valid (l : List Int) (n : Nat) (hn : List.length l = n * 3) (hm : n ≤ 1000000) : Fun 17 [.agg [.d (D.sl (dI .i64 l) n)]] (toG []) 0 (.e (.c (.d (D.lit (.bool (ckB l n)))))) (toG []) 0 := by
  refine Fun.mk (n := 57) Try.func17 rfl rfl (Nat.le_of_ble_eq_true rfl) ?_
  intro cx hcx
  refine AW.rgs [.no, .no] [1] [0] (P := True) (l' := [(1, rV 0 0)]) (g' := [(0, some (24, .ds [D.sl (dI .i64 l) n]))]) (nx' := 1) (by kernel_rfl) trivial ?_
  refine AW.seq ?_
  by_cases hx1 : (((n : Nat) : Int) < 1)
  · refine AW.rgs [.no, .no, .no, .b true, .no, .no, .no, .no] [1, 22] [0] (P := ((((n : Nat) : Int) < 1))) (l' := [(1, rV 0 0), (22, bV true)]) (g' := [(0, some (24, .ds [D.sl (dI .i64 l) n]))]) (nx' := 1) (by kernel_rfl) (by omega) ?_
    refine AW.cond_t (.tmp (Look.of rfl)) ?_
    refine AW.rgs [.no] [2] [] (P := True) (l' := [(2, bV false)]) (g' := []) (nx' := 1) (by kernel_rfl) trivial ?_
    refine AW.ret ?_
    exact EndP.of (.inr rfl) [] (P := ((ckB l n) = false)) (by kernel_rfl) (by first | exact ck_n (by omega) | exact ck_t (by omega) (fun j hj => ha j (by omega)) | exact ck_s (k := k) (by omega) (seg_r (by assumption)) | exact ck_s (k := k) (by omega) (seg_f (by omega)) | exact ck_s (k := 0) (by omega) (seg_f (fun h9 => by have h8 := h9.2.1.resolve_left (fun h7 => h7 rfl); simp only [Nat.zero_mul] at h8; omega)))
  · by_cases hx2 : ((64 : Int) < ((n : Nat) : Int))
    · refine AW.rgs [.no, .no, .no, .b false, .no, .no, .no, .no, .b true, .no, .no, .no] [1, 22] [0] (P := (¬ (((n : Nat) : Int) < 1)) ∧ (((64 : Int) < ((n : Nat) : Int)))) (l' := [(1, rV 0 0), (22, bV true)]) (g' := [(0, some (24, .ds [D.sl (dI .i64 l) n]))]) (nx' := 1) (by kernel_rfl) ⟨(by omega), (by omega)⟩ ?_
      refine AW.cond_t (.tmp (Look.of rfl)) ?_
      refine AW.rgs [.no] [2] [] (P := True) (l' := [(2, bV false)]) (g' := []) (nx' := 1) (by kernel_rfl) trivial ?_
      refine AW.ret ?_
      exact EndP.of (.inr rfl) [] (P := ((ckB l n) = false)) (by kernel_rfl) (by first | exact ck_n (by omega) | exact ck_t (by omega) (fun j hj => ha j (by omega)) | exact ck_s (k := k) (by omega) (seg_r (by assumption)) | exact ck_s (k := k) (by omega) (seg_f (by omega)) | exact ck_s (k := 0) (by omega) (seg_f (fun h9 => by have h8 := h9.2.1.resolve_left (fun h7 => h7 rfl); simp only [Nat.zero_mul] at h8; omega)))
    · by_cases hx3 : ((List.getD l 0 0) ≠ 0)
      · refine AW.rgs [.no, .no, .no, .b false, .no, .no, .no, .no, .b false, .no, .no, .no, .no, .n 0, .no, .d (D.lit (.int .i64 (List.getD l 0 0))), .b true, .no] [1, 22] [0] (P := (¬ (((n : Nat) : Int) < 1)) ∧ (¬ ((64 : Int) < ((n : Nat) : Int))) ∧ ((0 : Int) = 0) ∧ ((0 : Nat) < n) ∧ ((List.drop 0 (List.drop 0 (dI .i64 l)))[0]? = some (D.lit (.int .i64 (List.getD l 0 0)))) ∧ (((List.getD l 0 0) ≠ 0))) (l' := [(1, rV 0 0), (22, bV true)]) (g' := [(0, some (24, .ds [D.sl (dI .i64 l) n]))]) (nx' := 1) (by kernel_rfl) ⟨(by omega), (by omega), rfl, (by omega), (by first | (rw [List.drop_drop]; exact dI_at _ _ _ (by first | omega | (rw [dI_len]; omega) | (simp [dI_len] <;> omega) | rfl)) | (rw [List.drop_drop, Nat.add_comm]; exact dI_at _ _ _ (by first | omega | (rw [dI_len]; omega) | (simp [dI_len] <;> omega) | rfl))), (by omega)⟩ ?_
        refine AW.cond_t (.tmp (Look.of rfl)) ?_
        refine AW.rgs [.no] [2] [] (P := True) (l' := [(2, bV false)]) (g' := []) (nx' := 1) (by kernel_rfl) trivial ?_
        refine AW.ret ?_
        exact EndP.of (.inr rfl) [] (P := ((ckB l n) = false)) (by kernel_rfl) (by first | exact ck_n (by omega) | exact ck_t (by omega) (fun j hj => ha j (by omega)) | exact ck_s (k := k) (by omega) (seg_r (by assumption)) | exact ck_s (k := k) (by omega) (seg_f (by omega)) | exact ck_s (k := 0) (by omega) (seg_f (fun h9 => by have h8 := h9.2.1.resolve_left (fun h7 => h7 rfl); simp only [Nat.zero_mul] at h8; omega)))
      · refine AW.rgs [.no, .no, .no, .b false, .no, .no, .no, .no, .b false, .no, .no, .no, .no, .n 0, .no, .d (D.lit (.int .i64 (List.getD l 0 0))), .b false, .no] [1, 22] [0] (P := (¬ (((n : Nat) : Int) < 1)) ∧ (¬ ((64 : Int) < ((n : Nat) : Int))) ∧ ((0 : Int) = 0) ∧ ((0 : Nat) < n) ∧ ((List.drop 0 (List.drop 0 (dI .i64 l)))[0]? = some (D.lit (.int .i64 (List.getD l 0 0)))) ∧ (¬ ((List.getD l 0 0) ≠ 0))) (l' := [(1, rV 0 0), (22, bV false)]) (g' := [(0, some (24, .ds [D.sl (dI .i64 l) n]))]) (nx' := 1) (by kernel_rfl) ⟨(by omega), (by omega), rfl, (by omega), (by first | (rw [List.drop_drop]; exact dI_at _ _ _ (by first | omega | (rw [dI_len]; omega) | (simp [dI_len] <;> omega) | rfl)) | (rw [List.drop_drop, Nat.add_comm]; exact dI_at _ _ _ (by first | omega | (rw [dI_len]; omega) | (simp [dI_len] <;> omega) | rfl))), (by omega)⟩ ?_
        refine AW.cond_f (.tmp (Look.of rfl)) ?_
        refine AW.skip ?_
        refine AW.seq ?_
        refine AW.rgs [.no, .no, .no, .no] [1, 24, 25, 26] [0] (P := True) (l' := [(1, rV 0 0), (24, sV .i64 l n), (25, iV ↑n), (26, iV 0)]) (g' := [(0, some (24, .ds [D.sl (dI .i64 l) n]))]) (nx' := 1) (by kernel_rfl) trivial ?_
        refine AW.block ?_
        refine AW.loopE 0 hcx (fun (x : {x : Nat // match x with | k => (k ≤ n) ∧ (∀ j, j < k → segB l j = true)}) => match x with | ⟨k, _⟩ => (⟨[(1, rV 0 0), (24, sV .i64 l n), (25, iV ((n : Nat) : Int)), (26, iV ((k : Nat) : Int))], [(0, some (24, .ds [D.sl (dI .i64 l) n]))], 1⟩ : ES)) (fun (x : {x : Nat // match x with | k => (k ≤ n) ∧ (∀ j, j < k → segB l j = true)}) => match x with | ⟨k, _⟩ => n - k) ⟨(0 : Nat), (show ((0 : Nat) ≤ n) ∧ (∀ j, j < (0 : Nat) → segB l j = true) from ⟨(by first | omega | assumption | simp), (fun j hj => absurd hj (Nat.not_lt_zero j))⟩)⟩ [] (P := ((0 : Nat) = 0) ∧ (((dI .i64 l) : List D) = (dI .i64 l)) ∧ ((n : Nat) = n) ∧ ((((n : Nat) : Int) : Int) = ((n : Nat) : Int)) ∧ ((0 : Int) = 0) ∧ (([D.sl (dI .i64 l) n] : List D) = [D.sl (dI .i64 l) n])) (by kernel_rfl) ⟨rfl, rfl, rfl, rfl, rfl, rfl⟩ ?_
        rintro ⟨k, hinv0⟩
        obtain ⟨hk, ha⟩ : (k ≤ n) ∧ (∀ j, j < k → segB l j = true) := hinv0
        refine AW.es (l := [(1, rV 0 0), (24, sV .i64 l n), (25, iV ((n : Nat) : Int)), (26, iV ((k : Nat) : Int))]) (g := [(0, some (24, .ds [D.sl (dI .i64 l) n]))]) (nx := 1) rfl rfl rfl ?_
        by_cases hx4 : (((k : Nat) : Int) < ((n : Nat) : Int))
        · refine AW.rgs [.b true] [1, 24, 25, 26, 27] [0] (P := ((((k : Nat) : Int) < ((n : Nat) : Int)))) (l' := [(1, rV 0 0), (24, sV .i64 l n), (25, iV ↑n), (26, iV ↑k), (27, bV true)]) (g' := [(0, some (24, .ds [D.sl (dI .i64 l) n]))]) (nx' := 1) (by kernel_rfl) (by omega) ?_
          refine AW.seq ?_
          refine AW.cond_t (.tmp (Look.of rfl)) ?_
          refine AW.skip ?_
          refine AW.seq ?_
          refine AW.block ?_
          refine AW.rgs [.no, .n k, .ds [iD (List.getD l (k * 3) 0), iD (List.getD l ((k * 3) + 1) 0), iD (List.getD l ((k * 3) + 2) 0)], .no, .no, .no] [1, 3, 4, 24, 25, 26] [0, 1] (P := ((((k : Nat) : Int) : Int) = ((k : Nat) : Int)) ∧ (k < n) ∧ (List.take 3 (List.drop (k * 3) (dI .i64 l)) = [iD (List.getD l (k * 3) 0), iD (List.getD l ((k * 3) + 1) 0), iD (List.getD l ((k * 3) + 2) 0)]) ∧ (([iD (List.getD l (k * 3) 0), iD (List.getD l ((k * 3) + 1) 0), iD (List.getD l ((k * 3) + 2) 0)] : List D).length = 3)) (l' := [(1, rV 0 0), (3, iV ↑k), (4, rV 1 0), (24, sV .i64 l n), (25, iV ↑n), (26, iV ↑k)]) (g' := [(0, some (24, .ds [D.sl (dI .i64 l) n])), (1, some (60, .ds [iD (List.getD l (k * 3) 0), iD (List.getD l ((k * 3) + 1) 0), iD (List.getD l ((k * 3) + 2) 0)]))]) (nx' := 2) (by kernel_rfl) ⟨rfl, (by omega), (dI_lds .i64 l (k * 3) 3 (by first | omega | (rw [dI_len]; omega) | (simp [dI_len] <;> omega) | rfl)), rfl⟩ ?_
          rcases Bool.eq_false_or_eq_true (rtB (List.getD l ((k * 3) + 1) 0) (List.getD l ((k * 3) + 2) 0)) with hx5 | hx5
          · by_cases hx6 : ((1099511627776 : Int) < (List.getD l (k * 3) 0))
            · refine AW.rgs [.no, .no, .call [] (bV true) [] 0 [] none, .no, .no, .no, .no, .b true, .no, .no, .no] [1, 24, 25, 26, 55] [0] (P := (Fun 30 [.agg [iC (List.getD l ((k * 3) + 1) 0), iC (List.getD l ((k * 3) + 2) 0)]] (toG []) 0 (bV true) (toG []) 0) ∧ (((1099511627776 : Int) < (List.getD l (k * 3) 0)))) (l' := [(1, rV 0 0), (24, sV .i64 l n), (25, iV ↑n), (26, iV ↑k), (55, bV true)]) (g' := [(0, some (24, .ds [D.sl (dI .i64 l) n]))]) (nx' := 2) (by kernel_rfl) ⟨(by have h0 := (T_rate (List.getD l ((k * 3) + 1) 0) (List.getD l ((k * 3) + 2) 0)); rw [hx5] at h0; exact h0), (by omega)⟩ ?_
              refine AW.cond_t (.tmp (Look.of rfl)) ?_
              refine AW.rgs [.no] [2] [] (P := True) (l' := [(2, bV false)]) (g' := []) (nx' := 2) (by kernel_rfl) trivial ?_
              refine AW.ret ?_
              exact EndP.of (.inr rfl) [] (P := ((ckB l n) = false)) (by kernel_rfl) (by first | exact ck_n (by omega) | exact ck_t (by omega) (fun j hj => ha j (by omega)) | exact ck_s (k := k) (by omega) (seg_r (by assumption)) | exact ck_s (k := k) (by omega) (seg_f (by omega)) | exact ck_s (k := 0) (by omega) (seg_f (fun h9 => by have h8 := h9.2.1.resolve_left (fun h7 => h7 rfl); simp only [Nat.zero_mul] at h8; omega)))
            · by_cases hx7 : ((0 : Int) < ((k : Nat) : Int))
              · by_cases hx8 : ((List.getD l (k * 3) 0) ≤ (List.getD l ((k - 1) * 3) 0))
                · refine AW.rgs [.no, .no, .call [] (bV true) [] 0 [] none, .no, .no, .no, .no, .b false, .no, .no, .no, .b true, .no, .no, .no, .no, .no, .no, .w, .n (k - 1), .no, .d (D.lit (.int .i64 (List.getD l ((k - 1) * 3) 0))), .b true, .no, .no] [1, 24, 25, 26, 55] [0] (P := (Fun 30 [.agg [iC (List.getD l ((k * 3) + 1) 0), iC (List.getD l ((k * 3) + 2) 0)]] (toG []) 0 (bV true) (toG []) 0) ∧ (¬ ((1099511627776 : Int) < (List.getD l (k * 3) 0))) ∧ (((0 : Int) < ((k : Nat) : Int))) ∧ ((-9223372036854775808) ≤ (((k : Nat) : Int) - 1) ∧ (((k : Nat) : Int) - 1) ≤ 9223372036854775807) ∧ (((((k : Nat) : Int) - 1) : Int) = (((k - 1) : Nat) : Int)) ∧ ((k - 1) < n) ∧ ((List.drop 0 (List.drop ((k - 1) * 3) (dI .i64 l)))[0]? = some (D.lit (.int .i64 (List.getD l ((k - 1) * 3) 0)))) ∧ (((List.getD l (k * 3) 0) ≤ (List.getD l ((k - 1) * 3) 0)))) (l' := [(1, rV 0 0), (24, sV .i64 l n), (25, iV ↑n), (26, iV ↑k), (55, bV true)]) (g' := [(0, some (24, .ds [D.sl (dI .i64 l) n]))]) (nx' := 2) (by kernel_rfl) ⟨(by have h0 := (T_rate (List.getD l ((k * 3) + 1) 0) (List.getD l ((k * 3) + 2) 0)); rw [hx5] at h0; exact h0), (by omega), (by omega), ⟨by omega, by omega⟩, (by first | rfl | omega), (by omega), (by first | (rw [List.drop_drop]; exact dI_at _ _ _ (by first | omega | (rw [dI_len]; omega) | (simp [dI_len] <;> omega) | rfl)) | (rw [List.drop_drop, Nat.add_comm]; exact dI_at _ _ _ (by first | omega | (rw [dI_len]; omega) | (simp [dI_len] <;> omega) | rfl))), (by omega)⟩ ?_
                  refine AW.cond_t (.tmp (Look.of rfl)) ?_
                  refine AW.rgs [.no] [2] [] (P := True) (l' := [(2, bV false)]) (g' := []) (nx' := 2) (by kernel_rfl) trivial ?_
                  refine AW.ret ?_
                  exact EndP.of (.inr rfl) [] (P := ((ckB l n) = false)) (by kernel_rfl) (by first | exact ck_n (by omega) | exact ck_t (by omega) (fun j hj => ha j (by omega)) | exact ck_s (k := k) (by omega) (seg_r (by assumption)) | exact ck_s (k := k) (by omega) (seg_f (by omega)) | exact ck_s (k := 0) (by omega) (seg_f (fun h9 => by have h8 := h9.2.1.resolve_left (fun h7 => h7 rfl); simp only [Nat.zero_mul] at h8; omega)))
                · refine AW.rgs [.no, .no, .call [] (bV true) [] 0 [] none, .no, .no, .no, .no, .b false, .no, .no, .no, .b true, .no, .no, .no, .no, .no, .no, .w, .n (k - 1), .no, .d (D.lit (.int .i64 (List.getD l ((k - 1) * 3) 0))), .b false, .no, .no] [1, 24, 25, 26, 55] [0] (P := (Fun 30 [.agg [iC (List.getD l ((k * 3) + 1) 0), iC (List.getD l ((k * 3) + 2) 0)]] (toG []) 0 (bV true) (toG []) 0) ∧ (¬ ((1099511627776 : Int) < (List.getD l (k * 3) 0))) ∧ (((0 : Int) < ((k : Nat) : Int))) ∧ ((-9223372036854775808) ≤ (((k : Nat) : Int) - 1) ∧ (((k : Nat) : Int) - 1) ≤ 9223372036854775807) ∧ (((((k : Nat) : Int) - 1) : Int) = (((k - 1) : Nat) : Int)) ∧ ((k - 1) < n) ∧ ((List.drop 0 (List.drop ((k - 1) * 3) (dI .i64 l)))[0]? = some (D.lit (.int .i64 (List.getD l ((k - 1) * 3) 0)))) ∧ (¬ ((List.getD l (k * 3) 0) ≤ (List.getD l ((k - 1) * 3) 0)))) (l' := [(1, rV 0 0), (24, sV .i64 l n), (25, iV ↑n), (26, iV ↑k), (55, bV false)]) (g' := [(0, some (24, .ds [D.sl (dI .i64 l) n]))]) (nx' := 2) (by kernel_rfl) ⟨(by have h0 := (T_rate (List.getD l ((k * 3) + 1) 0) (List.getD l ((k * 3) + 2) 0)); rw [hx5] at h0; exact h0), (by omega), (by omega), ⟨by omega, by omega⟩, (by first | rfl | omega), (by omega), (by first | (rw [List.drop_drop]; exact dI_at _ _ _ (by first | omega | (rw [dI_len]; omega) | (simp [dI_len] <;> omega) | rfl)) | (rw [List.drop_drop, Nat.add_comm]; exact dI_at _ _ _ (by first | omega | (rw [dI_len]; omega) | (simp [dI_len] <;> omega) | rfl))), (by omega)⟩ ?_
                  refine AW.cond_f (.tmp (Look.of rfl)) ?_
                  refine AW.skip ?_
                  refine AW.rg [.w, .no] [1, 24, 25, 26] [0] (P := ((-9223372036854775808) ≤ (((k : Nat) : Int) + 1) ∧ (((k : Nat) : Int) + 1) ≤ 9223372036854775807)) (l' := [(1, rV 0 0), (24, sV .i64 l n), (25, iV ↑n), (26, iV (↑k + 1))]) (g' := [(0, some (24, .ds [D.sl (dI .i64 l) n]))]) (nx' := 2) (by kernel_rfl) ⟨by omega, by omega⟩ ?_
                  exact Rd.of ⟨((k + 1) : Nat), (show ((k + 1) ≤ n) ∧ (∀ j, j < (k + 1) → segB l j = true) from ⟨(by first | omega | assumption | simp), (fun j hj => (Nat.lt_succ_iff_lt_or_eq.1 hj).elim (ha j) (fun e9 => by subst e9; exact seg_t (by assumption) (by have h7 := seg_0 l j; omega)))⟩)⟩ [] (P := ((0 : Nat) = 0) ∧ (((dI .i64 l) : List D) = (dI .i64 l)) ∧ ((n : Nat) = n) ∧ ((((n : Nat) : Int) : Int) = ((n : Nat) : Int)) ∧ (((((k + 1) : Nat) : Int) : Int) = (((k : Nat) : Int) + 1)) ∧ (([D.sl (dI .i64 l) n] : List D) = [D.sl (dI .i64 l) n])) (by kernel_rfl) ⟨rfl, rfl, rfl, rfl, (by first | rfl | omega | assumption | (simp; done) | (simp; omega)), rfl⟩ (show n - (k + 1) < n - k from (by first | omega | (show _ < _; simp; omega)))
              · refine AW.rgs [.no, .no, .call [] (bV true) [] 0 [] none, .no, .no, .no, .no, .b false, .no, .no, .no, .b false, .no, .no, .no] [1, 24, 25, 26, 55] [0] (P := (Fun 30 [.agg [iC (List.getD l ((k * 3) + 1) 0), iC (List.getD l ((k * 3) + 2) 0)]] (toG []) 0 (bV true) (toG []) 0) ∧ (¬ ((1099511627776 : Int) < (List.getD l (k * 3) 0))) ∧ (¬ ((0 : Int) < ((k : Nat) : Int)))) (l' := [(1, rV 0 0), (24, sV .i64 l n), (25, iV ↑n), (26, iV ↑k), (55, bV false)]) (g' := [(0, some (24, .ds [D.sl (dI .i64 l) n]))]) (nx' := 2) (by kernel_rfl) ⟨(by have h0 := (T_rate (List.getD l ((k * 3) + 1) 0) (List.getD l ((k * 3) + 2) 0)); rw [hx5] at h0; exact h0), (by omega), (by omega)⟩ ?_
                refine AW.cond_f (.tmp (Look.of rfl)) ?_
                refine AW.skip ?_
                refine AW.rg [.w, .no] [1, 24, 25, 26] [0] (P := ((-9223372036854775808) ≤ (((k : Nat) : Int) + 1) ∧ (((k : Nat) : Int) + 1) ≤ 9223372036854775807)) (l' := [(1, rV 0 0), (24, sV .i64 l n), (25, iV ↑n), (26, iV (↑k + 1))]) (g' := [(0, some (24, .ds [D.sl (dI .i64 l) n]))]) (nx' := 2) (by kernel_rfl) ⟨by omega, by omega⟩ ?_
                exact Rd.of ⟨((k + 1) : Nat), (show ((k + 1) ≤ n) ∧ (∀ j, j < (k + 1) → segB l j = true) from ⟨(by first | omega | assumption | simp), (fun j hj => (Nat.lt_succ_iff_lt_or_eq.1 hj).elim (ha j) (fun e9 => by subst e9; exact seg_t (by assumption) (by have h7 := seg_0 l j; omega)))⟩)⟩ [] (P := ((0 : Nat) = 0) ∧ (((dI .i64 l) : List D) = (dI .i64 l)) ∧ ((n : Nat) = n) ∧ ((((n : Nat) : Int) : Int) = ((n : Nat) : Int)) ∧ (((((k + 1) : Nat) : Int) : Int) = (((k : Nat) : Int) + 1)) ∧ (([D.sl (dI .i64 l) n] : List D) = [D.sl (dI .i64 l) n])) (by kernel_rfl) ⟨rfl, rfl, rfl, rfl, (by first | rfl | omega | assumption | (simp; done) | (simp; omega)), rfl⟩ (show n - (k + 1) < n - k from (by first | omega | (show _ < _; simp; omega)))
          · refine AW.rgs [.no, .no, .call [] (bV false) [] 0 [] none, .no, .no, .no, .no, .no] [1, 24, 25, 26, 55] [0] (P := (Fun 30 [.agg [iC (List.getD l ((k * 3) + 1) 0), iC (List.getD l ((k * 3) + 2) 0)]] (toG []) 0 (bV false) (toG []) 0)) (l' := [(1, rV 0 0), (24, sV .i64 l n), (25, iV ↑n), (26, iV ↑k), (55, bV true)]) (g' := [(0, some (24, .ds [D.sl (dI .i64 l) n]))]) (nx' := 2) (by kernel_rfl) (by have h0 := (T_rate (List.getD l ((k * 3) + 1) 0) (List.getD l ((k * 3) + 2) 0)); rw [hx5] at h0; exact h0) ?_
            refine AW.cond_t (.tmp (Look.of rfl)) ?_
            refine AW.rgs [.no] [2] [] (P := True) (l' := [(2, bV false)]) (g' := []) (nx' := 2) (by kernel_rfl) trivial ?_
            refine AW.ret ?_
            exact EndP.of (.inr rfl) [] (P := ((ckB l n) = false)) (by kernel_rfl) (by first | exact ck_n (by omega) | exact ck_t (by omega) (fun j hj => ha j (by omega)) | exact ck_s (k := k) (by omega) (seg_r (by assumption)) | exact ck_s (k := k) (by omega) (seg_f (by omega)) | exact ck_s (k := 0) (by omega) (seg_f (fun h9 => by have h8 := h9.2.1.resolve_left (fun h7 => h7 rfl); simp only [Nat.zero_mul] at h8; omega)))
        · refine AW.rgs [.b false] [1, 24, 25, 26, 27] [0] (P := (¬ (((k : Nat) : Int) < ((n : Nat) : Int)))) (l' := [(1, rV 0 0), (24, sV .i64 l n), (25, iV ↑n), (26, iV ↑k), (27, bV false)]) (g' := [(0, some (24, .ds [D.sl (dI .i64 l) n]))]) (nx' := 1) (by kernel_rfl) (by omega) ?_
          refine AW.seq ?_
          refine AW.cond_f (.tmp (Look.of rfl)) ?_
          refine AW.exit ?_
          refine AW.rgs [.no] [2] [] (P := True) (l' := [(2, bV true)]) (g' := []) (nx' := 1) (by kernel_rfl) trivial ?_
          refine AW.ret ?_
          exact EndP.of (.inr rfl) [] (P := ((ckB l n) = true)) (by kernel_rfl) (by first | exact ck_n (by omega) | exact ck_t (by omega) (fun j hj => ha j (by omega)) | exact ck_s (k := k) (by omega) (seg_r (by assumption)) | exact ck_s (k := k) (by omega) (seg_f (by omega)) | exact ck_s (k := 0) (by omega) (seg_f (fun h9 => by have h8 := h9.2.1.resolve_left (fun h7 => h7 rfl); simp only [Nat.zero_mul] at h8; omega)))

set_option maxHeartbeats 4000000 in
set_option maxRecDepth 100000 in
theorem T_rValid (l : List Int) (n : Nat) (hn : List.length l = n * 3) (hm : n ≤ 1000000) : Fun 18 [.agg [.d (D.sl (dI .i64 l) n)]] (toG []) 0 (.e (.c (.d (D.lit (.bool (ckB l n)))))) (toG []) 0 := by
  refine Fun.mk (n := 58) Try.func18 rfl rfl (Nat.le_of_ble_eq_true rfl) ?_
  intro cx hcx
  refine AW.rgs [.no, .no] [1] [0] (P := True) (l' := [(1, rV 0 0)]) (g' := [(0, some (24, .ds [D.sl (dI .i64 l) n]))]) (nx' := 1) (by kernel_rfl) trivial ?_
  refine AW.seq ?_
  refine AW.rgs [.no, .no, .no, .no] [1, 6, 7, 8] [0] (P := True) (l' := [(1, rV 0 0), (6, sV .i64 l n), (7, iV ↑n), (8, iV 0)]) (g' := [(0, some (24, .ds [D.sl (dI .i64 l) n]))]) (nx' := 1) (by kernel_rfl) trivial ?_
  refine AW.block ?_
  refine AW.loopE 0 hcx (fun (x : {x : Nat // match x with | k => (k ≤ n) ∧ (∀ j, j < k → segB l j = true)}) => match x with | ⟨k, _⟩ => (⟨[(1, rV 0 0), (6, sV .i64 l n), (7, iV ((n : Nat) : Int)), (8, iV ((k : Nat) : Int))], [(0, some (24, .ds [D.sl (dI .i64 l) n]))], 1⟩ : ES)) (fun (x : {x : Nat // match x with | k => (k ≤ n) ∧ (∀ j, j < k → segB l j = true)}) => match x with | ⟨k, _⟩ => n - k) ⟨(0 : Nat), (show ((0 : Nat) ≤ n) ∧ (∀ j, j < (0 : Nat) → segB l j = true) from ⟨(by first | omega | assumption | simp), (fun j hj => absurd hj (Nat.not_lt_zero j))⟩)⟩ [] (P := ((0 : Nat) = 0) ∧ (((dI .i64 l) : List D) = (dI .i64 l)) ∧ ((n : Nat) = n) ∧ ((((n : Nat) : Int) : Int) = ((n : Nat) : Int)) ∧ ((0 : Int) = 0) ∧ (([D.sl (dI .i64 l) n] : List D) = [D.sl (dI .i64 l) n])) (by kernel_rfl) ⟨rfl, rfl, rfl, rfl, rfl, rfl⟩ ?_
  rintro ⟨k, hinv0⟩
  obtain ⟨hk, ha⟩ : (k ≤ n) ∧ (∀ j, j < k → segB l j = true) := hinv0
  refine AW.es (l := [(1, rV 0 0), (6, sV .i64 l n), (7, iV ((n : Nat) : Int)), (8, iV ((k : Nat) : Int))]) (g := [(0, some (24, .ds [D.sl (dI .i64 l) n]))]) (nx := 1) rfl rfl rfl ?_
  by_cases hx1 : (((k : Nat) : Int) < ((n : Nat) : Int))
  · refine AW.rgs [.b true] [1, 6, 7, 8, 9] [0] (P := ((((k : Nat) : Int) < ((n : Nat) : Int)))) (l' := [(1, rV 0 0), (6, sV .i64 l n), (7, iV ↑n), (8, iV ↑k), (9, bV true)]) (g' := [(0, some (24, .ds [D.sl (dI .i64 l) n]))]) (nx' := 1) (by kernel_rfl) (by omega) ?_
    refine AW.seq ?_
    refine AW.cond_t (.tmp (Look.of rfl)) ?_
    refine AW.skip ?_
    refine AW.seq ?_
    refine AW.block ?_
    refine AW.rgs [.no, .n k, .ds [iD (List.getD l (k * 3) 0), iD (List.getD l ((k * 3) + 1) 0), iD (List.getD l ((k * 3) + 2) 0)], .no, .no, .no] [1, 3, 4, 6, 7, 8] [0, 1] (P := ((((k : Nat) : Int) : Int) = ((k : Nat) : Int)) ∧ (k < n) ∧ (List.take 3 (List.drop (k * 3) (dI .i64 l)) = [iD (List.getD l (k * 3) 0), iD (List.getD l ((k * 3) + 1) 0), iD (List.getD l ((k * 3) + 2) 0)]) ∧ (([iD (List.getD l (k * 3) 0), iD (List.getD l ((k * 3) + 1) 0), iD (List.getD l ((k * 3) + 2) 0)] : List D).length = 3)) (l' := [(1, rV 0 0), (3, iV ↑k), (4, rV 1 0), (6, sV .i64 l n), (7, iV ↑n), (8, iV ↑k)]) (g' := [(0, some (24, .ds [D.sl (dI .i64 l) n])), (1, some (60, .ds [iD (List.getD l (k * 3) 0), iD (List.getD l ((k * 3) + 1) 0), iD (List.getD l ((k * 3) + 2) 0)]))]) (nx' := 2) (by kernel_rfl) ⟨rfl, (by omega), (dI_lds .i64 l (k * 3) 3 (by first | omega | (rw [dI_len]; omega) | (simp [dI_len] <;> omega) | rfl)), rfl⟩ ?_
    rcases Bool.eq_false_or_eq_true (rtB (List.getD l ((k * 3) + 1) 0) (List.getD l ((k * 3) + 2) 0)) with hx2 | hx2
    · by_cases hx3 : (((k : Nat) : Int) = 0)
      · by_cases hx4 : ((List.getD l (k * 3) 0) ≠ 0)
        · refine AW.rgs [.no, .no, .call [] (bV true) [] 0 [] none, .no, .no, .no, .b true, .no, .no, .no, .b true, .no, .no, .no, .no, .no, .no] [1, 6, 7, 8, 46] [0] (P := (Fun 32 [.agg [iC (List.getD l ((k * 3) + 1) 0), iC (List.getD l ((k * 3) + 2) 0)]] (toG []) 0 (bV true) (toG []) 0) ∧ ((((k : Nat) : Int) = 0)) ∧ (((List.getD l (k * 3) 0) ≠ 0))) (l' := [(1, rV 0 0), (6, sV .i64 l n), (7, iV ↑n), (8, iV ↑k), (46, bV true)]) (g' := [(0, some (24, .ds [D.sl (dI .i64 l) n]))]) (nx' := 2) (by kernel_rfl) ⟨(by have h0 := (T_rrate (List.getD l ((k * 3) + 1) 0) (List.getD l ((k * 3) + 2) 0)); rw [hx2] at h0; exact h0), (by omega), (by omega)⟩ ?_
          refine AW.cond_t (.tmp (Look.of rfl)) ?_
          refine AW.rgs [.no] [2] [] (P := True) (l' := [(2, bV false)]) (g' := []) (nx' := 2) (by kernel_rfl) trivial ?_
          refine AW.ret ?_
          exact EndP.of (.inr rfl) [] (P := ((ckB l n) = false)) (by kernel_rfl) (by first | exact ck_n (by omega) | exact ck_t (by omega) (fun j hj => ha j (by omega)) | exact ck_s (k := k) (by omega) (seg_r (by assumption)) | exact ck_s (k := k) (by omega) (seg_f (by omega)) | exact ck_s (k := 0) (by omega) (seg_f (fun h9 => by have h8 := h9.2.1.resolve_left (fun h7 => h7 rfl); simp only [Nat.zero_mul] at h8; omega)))
        · refine AW.rgs [.no, .no, .call [] (bV true) [] 0 [] none, .no, .no, .no, .b true, .no, .no, .no, .b false, .no, .no, .no, .no, .b false, .no, .no, .no, .no, .no, .no, .b false, .no] [1, 6, 7, 8, 46] [0] (P := (Fun 32 [.agg [iC (List.getD l ((k * 3) + 1) 0), iC (List.getD l ((k * 3) + 2) 0)]] (toG []) 0 (bV true) (toG []) 0) ∧ ((((k : Nat) : Int) = 0)) ∧ (¬ ((List.getD l (k * 3) 0) ≠ 0)) ∧ (¬ ((0 : Int) < ((k : Nat) : Int))) ∧ (¬ ((1099511627776 : Int) < (List.getD l (k * 3) 0)))) (l' := [(1, rV 0 0), (6, sV .i64 l n), (7, iV ↑n), (8, iV ↑k), (46, bV false)]) (g' := [(0, some (24, .ds [D.sl (dI .i64 l) n]))]) (nx' := 2) (by kernel_rfl) ⟨(by have h0 := (T_rrate (List.getD l ((k * 3) + 1) 0) (List.getD l ((k * 3) + 2) 0)); rw [hx2] at h0; exact h0), (by omega), (by omega), (by omega), (by omega)⟩ ?_
          refine AW.cond_f (.tmp (Look.of rfl)) ?_
          refine AW.skip ?_
          refine AW.rg [.w, .no] [1, 6, 7, 8] [0] (P := ((-9223372036854775808) ≤ (((k : Nat) : Int) + 1) ∧ (((k : Nat) : Int) + 1) ≤ 9223372036854775807)) (l' := [(1, rV 0 0), (6, sV .i64 l n), (7, iV ↑n), (8, iV (↑k + 1))]) (g' := [(0, some (24, .ds [D.sl (dI .i64 l) n]))]) (nx' := 2) (by kernel_rfl) ⟨by omega, by omega⟩ ?_
          exact Rd.of ⟨((k + 1) : Nat), (show ((k + 1) ≤ n) ∧ (∀ j, j < (k + 1) → segB l j = true) from ⟨(by first | omega | assumption | simp), (fun j hj => (Nat.lt_succ_iff_lt_or_eq.1 hj).elim (ha j) (fun e9 => by subst e9; exact seg_t (by assumption) (by have h7 := seg_0 l j; omega)))⟩)⟩ [] (P := ((0 : Nat) = 0) ∧ (((dI .i64 l) : List D) = (dI .i64 l)) ∧ ((n : Nat) = n) ∧ ((((n : Nat) : Int) : Int) = ((n : Nat) : Int)) ∧ (((((k + 1) : Nat) : Int) : Int) = (((k : Nat) : Int) + 1)) ∧ (([D.sl (dI .i64 l) n] : List D) = [D.sl (dI .i64 l) n])) (by kernel_rfl) ⟨rfl, rfl, rfl, rfl, (by first | rfl | omega | assumption | (simp; done) | (simp; omega)), rfl⟩ (show n - (k + 1) < n - k from (by first | omega | (show _ < _; simp; omega)))
      · by_cases hx5 : ((List.getD l (k * 3) 0) ≤ (List.getD l ((k - 1) * 3) 0))
        · refine AW.rgs [.no, .no, .call [] (bV true) [] 0 [] none, .no, .no, .no, .b false, .no, .no, .no, .no, .no, .b true, .no, .no, .no, .no, .no, .no, .w, .n (k - 1), .no, .d (D.lit (.int .i64 (List.getD l ((k - 1) * 3) 0))), .b true, .no, .no, .no, .no] [1, 6, 7, 8, 46] [0] (P := (Fun 32 [.agg [iC (List.getD l ((k * 3) + 1) 0), iC (List.getD l ((k * 3) + 2) 0)]] (toG []) 0 (bV true) (toG []) 0) ∧ (¬ (((k : Nat) : Int) = 0)) ∧ (((0 : Int) < ((k : Nat) : Int))) ∧ ((-9223372036854775808) ≤ (((k : Nat) : Int) - 1) ∧ (((k : Nat) : Int) - 1) ≤ 9223372036854775807) ∧ (((((k : Nat) : Int) - 1) : Int) = (((k - 1) : Nat) : Int)) ∧ ((k - 1) < n) ∧ ((List.drop 0 (List.drop ((k - 1) * 3) (dI .i64 l)))[0]? = some (D.lit (.int .i64 (List.getD l ((k - 1) * 3) 0)))) ∧ (((List.getD l (k * 3) 0) ≤ (List.getD l ((k - 1) * 3) 0)))) (l' := [(1, rV 0 0), (6, sV .i64 l n), (7, iV ↑n), (8, iV ↑k), (46, bV true)]) (g' := [(0, some (24, .ds [D.sl (dI .i64 l) n]))]) (nx' := 2) (by kernel_rfl) ⟨(by have h0 := (T_rrate (List.getD l ((k * 3) + 1) 0) (List.getD l ((k * 3) + 2) 0)); rw [hx2] at h0; exact h0), (by omega), (by omega), ⟨by omega, by omega⟩, (by first | rfl | omega), (by omega), (by first | (rw [List.drop_drop]; exact dI_at _ _ _ (by first | omega | (rw [dI_len]; omega) | (simp [dI_len] <;> omega) | rfl)) | (rw [List.drop_drop, Nat.add_comm]; exact dI_at _ _ _ (by first | omega | (rw [dI_len]; omega) | (simp [dI_len] <;> omega) | rfl))), (by omega)⟩ ?_
          refine AW.cond_t (.tmp (Look.of rfl)) ?_
          refine AW.rgs [.no] [2] [] (P := True) (l' := [(2, bV false)]) (g' := []) (nx' := 2) (by kernel_rfl) trivial ?_
          refine AW.ret ?_
          exact EndP.of (.inr rfl) [] (P := ((ckB l n) = false)) (by kernel_rfl) (by first | exact ck_n (by omega) | exact ck_t (by omega) (fun j hj => ha j (by omega)) | exact ck_s (k := k) (by omega) (seg_r (by assumption)) | exact ck_s (k := k) (by omega) (seg_f (by omega)) | exact ck_s (k := 0) (by omega) (seg_f (fun h9 => by have h8 := h9.2.1.resolve_left (fun h7 => h7 rfl); simp only [Nat.zero_mul] at h8; omega)))
        · by_cases hx6 : ((1099511627776 : Int) < (List.getD l (k * 3) 0))
          · refine AW.rgs [.no, .no, .call [] (bV true) [] 0 [] none, .no, .no, .no, .b false, .no, .no, .no, .no, .no, .b true, .no, .no, .no, .no, .no, .no, .w, .n (k - 1), .no, .d (D.lit (.int .i64 (List.getD l ((k - 1) * 3) 0))), .b false, .no, .no, .no, .no, .no, .b true, .no] [1, 6, 7, 8, 46] [0] (P := (Fun 32 [.agg [iC (List.getD l ((k * 3) + 1) 0), iC (List.getD l ((k * 3) + 2) 0)]] (toG []) 0 (bV true) (toG []) 0) ∧ (¬ (((k : Nat) : Int) = 0)) ∧ (((0 : Int) < ((k : Nat) : Int))) ∧ ((-9223372036854775808) ≤ (((k : Nat) : Int) - 1) ∧ (((k : Nat) : Int) - 1) ≤ 9223372036854775807) ∧ (((((k : Nat) : Int) - 1) : Int) = (((k - 1) : Nat) : Int)) ∧ ((k - 1) < n) ∧ ((List.drop 0 (List.drop ((k - 1) * 3) (dI .i64 l)))[0]? = some (D.lit (.int .i64 (List.getD l ((k - 1) * 3) 0)))) ∧ (¬ ((List.getD l (k * 3) 0) ≤ (List.getD l ((k - 1) * 3) 0))) ∧ (((1099511627776 : Int) < (List.getD l (k * 3) 0)))) (l' := [(1, rV 0 0), (6, sV .i64 l n), (7, iV ↑n), (8, iV ↑k), (46, bV true)]) (g' := [(0, some (24, .ds [D.sl (dI .i64 l) n]))]) (nx' := 2) (by kernel_rfl) ⟨(by have h0 := (T_rrate (List.getD l ((k * 3) + 1) 0) (List.getD l ((k * 3) + 2) 0)); rw [hx2] at h0; exact h0), (by omega), (by omega), ⟨by omega, by omega⟩, (by first | rfl | omega), (by omega), (by first | (rw [List.drop_drop]; exact dI_at _ _ _ (by first | omega | (rw [dI_len]; omega) | (simp [dI_len] <;> omega) | rfl)) | (rw [List.drop_drop, Nat.add_comm]; exact dI_at _ _ _ (by first | omega | (rw [dI_len]; omega) | (simp [dI_len] <;> omega) | rfl))), (by omega), (by omega)⟩ ?_
            refine AW.cond_t (.tmp (Look.of rfl)) ?_
            refine AW.rgs [.no] [2] [] (P := True) (l' := [(2, bV false)]) (g' := []) (nx' := 2) (by kernel_rfl) trivial ?_
            refine AW.ret ?_
            exact EndP.of (.inr rfl) [] (P := ((ckB l n) = false)) (by kernel_rfl) (by first | exact ck_n (by omega) | exact ck_t (by omega) (fun j hj => ha j (by omega)) | exact ck_s (k := k) (by omega) (seg_r (by assumption)) | exact ck_s (k := k) (by omega) (seg_f (by omega)) | exact ck_s (k := 0) (by omega) (seg_f (fun h9 => by have h8 := h9.2.1.resolve_left (fun h7 => h7 rfl); simp only [Nat.zero_mul] at h8; omega)))
          · refine AW.rgs [.no, .no, .call [] (bV true) [] 0 [] none, .no, .no, .no, .b false, .no, .no, .no, .no, .no, .b true, .no, .no, .no, .no, .no, .no, .w, .n (k - 1), .no, .d (D.lit (.int .i64 (List.getD l ((k - 1) * 3) 0))), .b false, .no, .no, .no, .no, .no, .b false, .no] [1, 6, 7, 8, 46] [0] (P := (Fun 32 [.agg [iC (List.getD l ((k * 3) + 1) 0), iC (List.getD l ((k * 3) + 2) 0)]] (toG []) 0 (bV true) (toG []) 0) ∧ (¬ (((k : Nat) : Int) = 0)) ∧ (((0 : Int) < ((k : Nat) : Int))) ∧ ((-9223372036854775808) ≤ (((k : Nat) : Int) - 1) ∧ (((k : Nat) : Int) - 1) ≤ 9223372036854775807) ∧ (((((k : Nat) : Int) - 1) : Int) = (((k - 1) : Nat) : Int)) ∧ ((k - 1) < n) ∧ ((List.drop 0 (List.drop ((k - 1) * 3) (dI .i64 l)))[0]? = some (D.lit (.int .i64 (List.getD l ((k - 1) * 3) 0)))) ∧ (¬ ((List.getD l (k * 3) 0) ≤ (List.getD l ((k - 1) * 3) 0))) ∧ (¬ ((1099511627776 : Int) < (List.getD l (k * 3) 0)))) (l' := [(1, rV 0 0), (6, sV .i64 l n), (7, iV ↑n), (8, iV ↑k), (46, bV false)]) (g' := [(0, some (24, .ds [D.sl (dI .i64 l) n]))]) (nx' := 2) (by kernel_rfl) ⟨(by have h0 := (T_rrate (List.getD l ((k * 3) + 1) 0) (List.getD l ((k * 3) + 2) 0)); rw [hx2] at h0; exact h0), (by omega), (by omega), ⟨by omega, by omega⟩, (by first | rfl | omega), (by omega), (by first | (rw [List.drop_drop]; exact dI_at _ _ _ (by first | omega | (rw [dI_len]; omega) | (simp [dI_len] <;> omega) | rfl)) | (rw [List.drop_drop, Nat.add_comm]; exact dI_at _ _ _ (by first | omega | (rw [dI_len]; omega) | (simp [dI_len] <;> omega) | rfl))), (by omega), (by omega)⟩ ?_
            refine AW.cond_f (.tmp (Look.of rfl)) ?_
            refine AW.skip ?_
            refine AW.rg [.w, .no] [1, 6, 7, 8] [0] (P := ((-9223372036854775808) ≤ (((k : Nat) : Int) + 1) ∧ (((k : Nat) : Int) + 1) ≤ 9223372036854775807)) (l' := [(1, rV 0 0), (6, sV .i64 l n), (7, iV ↑n), (8, iV (↑k + 1))]) (g' := [(0, some (24, .ds [D.sl (dI .i64 l) n]))]) (nx' := 2) (by kernel_rfl) ⟨by omega, by omega⟩ ?_
            exact Rd.of ⟨((k + 1) : Nat), (show ((k + 1) ≤ n) ∧ (∀ j, j < (k + 1) → segB l j = true) from ⟨(by first | omega | assumption | simp), (fun j hj => (Nat.lt_succ_iff_lt_or_eq.1 hj).elim (ha j) (fun e9 => by subst e9; exact seg_t (by assumption) (by have h7 := seg_0 l j; omega)))⟩)⟩ [] (P := ((0 : Nat) = 0) ∧ (((dI .i64 l) : List D) = (dI .i64 l)) ∧ ((n : Nat) = n) ∧ ((((n : Nat) : Int) : Int) = ((n : Nat) : Int)) ∧ (((((k + 1) : Nat) : Int) : Int) = (((k : Nat) : Int) + 1)) ∧ (([D.sl (dI .i64 l) n] : List D) = [D.sl (dI .i64 l) n])) (by kernel_rfl) ⟨rfl, rfl, rfl, rfl, (by first | rfl | omega | assumption | (simp; done) | (simp; omega)), rfl⟩ (show n - (k + 1) < n - k from (by first | omega | (show _ < _; simp; omega)))
    · refine AW.rgs [.no, .no, .call [] (bV false) [] 0 [] none, .no, .no, .no, .no, .no, .no, .no] [1, 6, 7, 8, 46] [0] (P := (Fun 32 [.agg [iC (List.getD l ((k * 3) + 1) 0), iC (List.getD l ((k * 3) + 2) 0)]] (toG []) 0 (bV false) (toG []) 0)) (l' := [(1, rV 0 0), (6, sV .i64 l n), (7, iV ↑n), (8, iV ↑k), (46, bV true)]) (g' := [(0, some (24, .ds [D.sl (dI .i64 l) n]))]) (nx' := 2) (by kernel_rfl) (by have h0 := (T_rrate (List.getD l ((k * 3) + 1) 0) (List.getD l ((k * 3) + 2) 0)); rw [hx2] at h0; exact h0) ?_
      refine AW.cond_t (.tmp (Look.of rfl)) ?_
      refine AW.rgs [.no] [2] [] (P := True) (l' := [(2, bV false)]) (g' := []) (nx' := 2) (by kernel_rfl) trivial ?_
      refine AW.ret ?_
      exact EndP.of (.inr rfl) [] (P := ((ckB l n) = false)) (by kernel_rfl) (by first | exact ck_n (by omega) | exact ck_t (by omega) (fun j hj => ha j (by omega)) | exact ck_s (k := k) (by omega) (seg_r (by assumption)) | exact ck_s (k := k) (by omega) (seg_f (by omega)) | exact ck_s (k := 0) (by omega) (seg_f (fun h9 => by have h8 := h9.2.1.resolve_left (fun h7 => h7 rfl); simp only [Nat.zero_mul] at h8; omega)))
  · refine AW.rgs [.b false] [1, 6, 7, 8, 9] [0] (P := (¬ (((k : Nat) : Int) < ((n : Nat) : Int)))) (l' := [(1, rV 0 0), (6, sV .i64 l n), (7, iV ↑n), (8, iV ↑k), (9, bV false)]) (g' := [(0, some (24, .ds [D.sl (dI .i64 l) n]))]) (nx' := 1) (by kernel_rfl) (by omega) ?_
    refine AW.seq ?_
    refine AW.cond_f (.tmp (Look.of rfl)) ?_
    refine AW.exit ?_
    by_cases hx7 : ((1 : Int) ≤ ((n : Nat) : Int))
    · by_cases hx8 : (((n : Nat) : Int) ≤ 64)
      · refine AW.rgs [.no, .no, .no, .b true, .no, .no, .no, .no, .b true, .no, .no] [2] [] (P := (((1 : Int) ≤ ((n : Nat) : Int))) ∧ ((((n : Nat) : Int) ≤ 64))) (l' := [(2, bV true)]) (g' := []) (nx' := 1) (by kernel_rfl) ⟨(by omega), (by omega)⟩ ?_
        refine AW.ret ?_
        exact EndP.of (.inr rfl) [] (P := ((ckB l n) = true)) (by kernel_rfl) (by first | exact ck_n (by omega) | exact ck_t (by omega) (fun j hj => ha j (by omega)) | exact ck_s (k := k) (by omega) (seg_r (by assumption)) | exact ck_s (k := k) (by omega) (seg_f (by omega)) | exact ck_s (k := 0) (by omega) (seg_f (fun h9 => by have h8 := h9.2.1.resolve_left (fun h7 => h7 rfl); simp only [Nat.zero_mul] at h8; omega)))
      · refine AW.rgs [.no, .no, .no, .b true, .no, .no, .no, .no, .b false, .no, .no] [2] [] (P := (((1 : Int) ≤ ((n : Nat) : Int))) ∧ (¬ (((n : Nat) : Int) ≤ 64))) (l' := [(2, bV false)]) (g' := []) (nx' := 1) (by kernel_rfl) ⟨(by omega), (by omega)⟩ ?_
        refine AW.ret ?_
        exact EndP.of (.inr rfl) [] (P := ((ckB l n) = false)) (by kernel_rfl) (by first | exact ck_n (by omega) | exact ck_t (by omega) (fun j hj => ha j (by omega)) | exact ck_s (k := k) (by omega) (seg_r (by assumption)) | exact ck_s (k := k) (by omega) (seg_f (by omega)) | exact ck_s (k := 0) (by omega) (seg_f (fun h9 => by have h8 := h9.2.1.resolve_left (fun h7 => h7 rfl); simp only [Nat.zero_mul] at h8; omega)))
    · refine AW.rgs [.no, .no, .no, .b false, .no, .no, .no] [2] [] (P := (¬ ((1 : Int) ≤ ((n : Nat) : Int)))) (l' := [(2, bV false)]) (g' := []) (nx' := 1) (by kernel_rfl) (by omega) ?_
      refine AW.ret ?_
      exact EndP.of (.inr rfl) [] (P := ((ckB l n) = false)) (by kernel_rfl) (by first | exact ck_n (by omega) | exact ck_t (by omega) (fun j hj => ha j (by omega)) | exact ck_s (k := k) (by omega) (seg_r (by assumption)) | exact ck_s (k := k) (by omega) (seg_f (by omega)) | exact ck_s (k := 0) (by omega) (seg_f (fun h9 => by have h8 := h9.2.1.resolve_left (fun h7 => h7 rfl); simp only [Nat.zero_mul] at h8; omega)))

set_option maxHeartbeats 4000000 in
set_option maxRecDepth 100000 in
theorem T_keep (l : List Int) (n : Nat) (hn : List.length l = n * 3) (hm : n ≤ 9223372036854775807) : Fun 10 [.agg [.d (D.sl (dI .i64 l) n)]] (toG []) 0 (.e (.c (.d (D.lit (.bool (decide (n ≤ 66))))))) (toG []) 0 := by
  refine Fun.mk (n := 7) Try.func10 rfl rfl (Nat.le_of_ble_eq_true rfl) ?_
  intro cx hcx
  refine AW.rgs [.no, .no] [1] [0] (P := True) (l' := [(1, rV 0 0)]) (g' := [(0, some (24, .ds [D.sl (dI .i64 l) n]))]) (nx' := 1) (by kernel_rfl) trivial ?_
  by_cases hx1 : (((n : Nat) : Int) ≤ 66)
  · refine AW.rgs [.no, .no, .no, .b true, .no] [2] [] (P := ((((n : Nat) : Int) ≤ 66))) (l' := [(2, bV true)]) (g' := []) (nx' := 1) (by kernel_rfl) (by omega) ?_
    refine AW.ret ?_
    exact EndP.of (.inr rfl) [] (P := ((decide (n ≤ 66)) = true)) (by kernel_rfl) (by first | exact decide_eq_true (by omega) | exact decide_eq_false (by omega))
  · refine AW.rgs [.no, .no, .no, .b false, .no] [2] [] (P := (¬ (((n : Nat) : Int) ≤ 66))) (l' := [(2, bV false)]) (g' := []) (nx' := 1) (by kernel_rfl) (by omega) ?_
    refine AW.ret ?_
    exact EndP.of (.inr rfl) [] (P := ((decide (n ≤ 66)) = false)) (by kernel_rfl) (by first | exact decide_eq_true (by omega) | exact decide_eq_false (by omega))

end Go.Proofs.Yteggelophhpnfaa
