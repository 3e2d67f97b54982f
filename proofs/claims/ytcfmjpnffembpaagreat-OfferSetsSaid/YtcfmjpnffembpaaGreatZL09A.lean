/- Sets of integers: A. No statement is proved here. -/
import Derived.Test.YtcfmjpnffembpaaGreatZW09
namespace Go.Proofs.YtcfmjpnffembpaaGreat
open Go.ChangeShapes Go.WideShapes Go.ChangeAt Go.RowKit
open Bool renaming eq_false_or_eq_true → ka6
open List renaming drop → ka3, getD → ka1, length → ka0, take → ka5
open Nat renaming le_of_ble_eq_true → ka4, not_lt_zero → kd1
set_option linter.unusedVariables false
set_option linter.unusedSimpArgs false
set_option maxHeartbeats 4000000
set_option maxRecDepth 100000
theorem i5 (a b : Int)  : Fun 147 [.agg [iC a, iC b]] (kE []) 0 (qS (D.lit (.bool (decide (0 ≤ a ∧ a ≤ b ∧ b ≤ 2147483647))))) (kE []) 0 := by
 refine Fun.mk (n := 18) Tryz.func147 rfl rfl (ka4 rfl) ?_
 intro cx hcx
 refine kI [.no, .no] True [(1, rV 0 0)] [(0, some (77, .ds [iD a, iD b]))] 1 trivial ?_
 by_cases hx1 : ((0 : Int) ≤ a)
 ·by_cases hx2 : (a ≤ b)
  ·by_cases hx3 : (b ≤ 2147483647)
   ·refine kI (.no :: .no :: .b true :: kT 5 (.b true :: kT 4 [.b true, .no, .no])) ((((0 : Int) ≤ a)) ∧ ((a ≤ b)) ∧ ((b ≤ 2147483647))) [(2, bV true)] [] 1 ⟨zo, zo, zo⟩ ?_
    refine AW.ret ?_
    exact kC (.inr rfl) [] (P := ((decide (0 ≤ a ∧ a ≤ b ∧ b ≤ 2147483647)) = true)) zk (by exact decide_eq_true zo)
   ·refine kI (.no :: .no :: .b true :: kT 5 (.b true :: kT 4 [.b false, .no, .no])) ((((0 : Int) ≤ a)) ∧ ((a ≤ b)) ∧ (¬ (b ≤ 2147483647))) [(2, bV false)] [] 1 ⟨zo, zo, zo⟩ ?_
    refine AW.ret ?_
    exact kC (.inr rfl) [] (P := ((decide (0 ≤ a ∧ a ≤ b ∧ b ≤ 2147483647)) = false)) zk (by exact decide_eq_false zo)
  ·refine kI (.no :: .no :: .b true :: kT 5 (.b false :: kT 4 [])) ((((0 : Int) ≤ a)) ∧ (¬ (a ≤ b))) [(2, bV false)] [] 1 ⟨zo, zo⟩ ?_
   refine AW.ret ?_
   exact kC (.inr rfl) [] (P := ((decide (0 ≤ a ∧ a ≤ b ∧ b ≤ 2147483647)) = false)) zk (by exact decide_eq_false zo)
 ·refine kI (.no :: .no :: .b false :: kT 5 []) (¬ ((0 : Int) ≤ a)) [(2, bV false)] [] 1 zo ?_
  refine AW.ret ?_
  exact kC (.inr rfl) [] (P := ((decide (0 ≤ a ∧ a ≤ b ∧ b ≤ 2147483647)) = false)) zk (by exact decide_eq_false zo)
theorem pL {p : Prop} (h : p := by (rw [List.drop_drop]; exact uI _ _ _ (by omega))) : p := h
theorem f6 (l : List Int) (n : Nat) (hl : ka0 l = n * 2) (hb : n ≤ 9223372036854775807) : Fun 130 [.agg [.d (D.sl (dI .i64 l) n)]] (kE []) 0 (qS (D.lit (.bool (eI l n)))) (kE []) 0 := by
 refine Fun.mk (n := 38) Tryz.func130 rfl rfl (ka4 rfl) ?_
 intro cx hcx
 refine kI [.no, .no] True [(1, rV 0 0)] [(0, some (56, .ds [dl l n]))] 1 trivial ?_
 refine AW.seq ?_
 by_cases hx1 : ((64 : Int) < ((n : Nat) : Int))
 ·refine kN [.no, .no, .no, .b true] (((64 : Int) < (n : Int))) [(1, rV 0 0), (8, bV true)] zo ?_
  refine zt ?_
  refine kI [.no] True [(2, bV false)] [] 1 trivial ?_
  refine AW.ret ?_
  exact kC (.inr rfl) [] (P := ((eI l n) = false)) zk (by exact k9t zo)
 ·refine kN [.no, .no, .no, .b false] (¬ ((64 : Int) < (n : Int))) [(1, rV 0 0), (8, bV false)] zo ?_
  refine q8 ?_
  refine AW.seq ?_
  refine kN (kT 4 []) True [(1, rV 0 0), (10, sV .i64 l n), (11, uV n), (12, iV 0)] trivial ?_
  refine AW.block ?_
  refine kU 0 hcx (fun (x : {x : Nat // match x with | k => (k ≤ n) ∧ (∀ j, j < k → vaE l j = true)}) => match x with | ⟨k, _⟩ => (⟨[(1, rV 0 0), (10, sV .i64 l n), (11, uV n), (12, uV k)], [(0, some (56, .ds [dl l n]))], 1⟩ : ES)) (fun x => match x with | ⟨k, _⟩ => n - k) ⟨(0 : Nat), ⟨zo, (fun j hj => absurd hj (kd1 j))⟩⟩ [] (P := (kG 0) ∧ (kJ (dI .i64 l)) ∧ (kG n) ∧ (kM (n : Int)) ∧ (kM 0) ∧ (kJ [dl l n])) zk ⟨rfl, rfl, rfl, rfl, rfl, rfl⟩ ?_
  rintro ⟨k, hinv0⟩
  obtain ⟨hk, ha⟩ : (k ≤ n) ∧ (∀ j, j < k → vaE l j = true) := hinv0
  refine qN (l := [(1, rV 0 0), (10, sV .i64 l n), (11, uV n), (12, uV k)]) (g := [(0, some (56, .ds [dl l n]))]) (nx := 1) rfl rfl rfl ?_
  by_cases hx2 : (((k : Nat) : Int) < ((n : Nat) : Int))
  ·refine kI [.b true] (((k : Int) < (n : Int))) [(1, rV 0 0), (10, sV .i64 l n), (11, uV n), (12, uV k), (13, bV true)] [(0, some (56, .ds [dl l n]))] 1 zo ?_
   refine AW.seq ?_
   refine yW ?_
   refine AW.seq ?_
   refine AW.block ?_
   refine kI [.no, .n k, .ds [iD (ka1 l (k * 2) 0), iD (ka1 l ((k * 2) + 1) 0)], .no, .no, .no] ((kM (k : Int)) ∧ (k < n) ∧ (ka5 2 (ka3 (k * 2) (dI .i64 l)) = [iD (ka1 l (k * 2) 0), iD (ka1 l ((k * 2) + 1) 0)]) ∧ (([iD (ka1 l (k * 2) 0), iD (ka1 l ((k * 2) + 1) 0)] : List D).length = 2)) [(1, rV 0 0), (3, uV k), (4, rV 1 0), (10, sV .i64 l n), (11, uV n), (12, uV k)] [(0, some (56, .ds [dl l n])), (1, some (77, .ds [iD (ka1 l (k * 2) 0), iD (ka1 l ((k * 2) + 1) 0)]))] 2 ⟨rfl, zo, (yN .i64 l (k * 2) 2 zo), rfl⟩ ?_
   rcases ka6 (decide (0 ≤ (ka1 l (k * 2) 0) ∧ (ka1 l (k * 2) 0) ≤ (ka1 l ((k * 2) + 1) 0) ∧ (ka1 l ((k * 2) + 1) 0) ≤ 2147483647)) with hx3 | hx3
   ·have hx4 : (((0 : Int) ≤ (ka1 l (k * 2) 0)) ∧ (((ka1 l (k * 2) 0) ≤ (ka1 l ((k * 2) + 1) 0)) ∧ ((ka1 l ((k * 2) + 1) 0) ≤ 2147483647))) := of_decide_eq_true hx3
    by_cases hx5 : ((0 : Int) < ((k : Nat) : Int))
    ·by_cases hx7 : ((ka1 l (k * 2) 0) ≤ ((ka1 l (((k - 1) * 2) + 1) 0) + 1))
     ·have hx8 : 0 ≤ ka1 l ((k - 1) * 2 + 1) 0 ∧ ka1 l ((k - 1) * 2 + 1) 0 ≤ 2147483647 := hD ha zo
      refine kI (.no :: .call [] (bV true) [] 0 [] none :: .no :: .no :: .no :: .b true :: kT 6 [.w, .n (k - 1), .no, .d (D.lit (.int .i64 (ka1 l (((k - 1) * 2) + 1) 0))), .w, .b true, .no, .no]) ((Fun 147 [.agg [iC (ka1 l (k * 2) 0), iC (ka1 l ((k * 2) + 1) 0)]] (kE []) 0 (bV true) (kE []) 0) ∧ (((0 : Int) < (k : Int))) ∧ ((-9223372036854775808) ≤ ((k : Int) - 1) ∧ ((k : Int) - 1) ≤ 9223372036854775807) ∧ ((((k : Int) - 1) : Int) = (((k - 1) : Nat) : Int)) ∧ ((k - 1) < n) ∧ ((ka3 1 (ka3 ((k - 1) * 2) (dI .i64 l)))[0]? = some (D.lit (.int .i64 (ka1 l (((k - 1) * 2) + 1) 0)))) ∧ ((-9223372036854775808) ≤ ((ka1 l (((k - 1) * 2) + 1) 0) + 1) ∧ ((ka1 l (((k - 1) * 2) + 1) 0) + 1) ≤ 9223372036854775807) ∧ (((ka1 l (k * 2) 0) ≤ ((ka1 l (((k - 1) * 2) + 1) 0) + 1)))) [(1, rV 0 0), (10, sV .i64 l n), (11, uV n), (12, uV k), (36, bV true)] [(0, some (56, .ds [dl l n]))] 2 ⟨(by have h0 := (i5 (ka1 l (k * 2) 0) (ka1 l ((k * 2) + 1) 0)); rw [hx3] at h0; exact h0), zo, ⟨by omega, by omega⟩, zo, zo, pL, ⟨by omega, by omega⟩, zo⟩ ?_
      refine zt ?_
      refine kI [.no] True [(2, bV false)] [] 2 trivial ?_
      refine AW.ret ?_
      exact kC (.inr rfl) [] (P := ((eI l n) = false)) zk (by exact oC (k := k) zo (decide_eq_false zo))
     ·have hx9 : 0 ≤ ka1 l ((k - 1) * 2 + 1) 0 ∧ ka1 l ((k - 1) * 2 + 1) 0 ≤ 2147483647 := hD ha zo
      refine kI (.no :: .call [] (bV true) [] 0 [] none :: .no :: .no :: .no :: .b true :: kT 6 [.w, .n (k - 1), .no, .d (D.lit (.int .i64 (ka1 l (((k - 1) * 2) + 1) 0))), .w, .b false, .no, .no]) ((Fun 147 [.agg [iC (ka1 l (k * 2) 0), iC (ka1 l ((k * 2) + 1) 0)]] (kE []) 0 (bV true) (kE []) 0) ∧ (((0 : Int) < (k : Int))) ∧ ((-9223372036854775808) ≤ ((k : Int) - 1) ∧ ((k : Int) - 1) ≤ 9223372036854775807) ∧ ((((k : Int) - 1) : Int) = (((k - 1) : Nat) : Int)) ∧ ((k - 1) < n) ∧ ((ka3 1 (ka3 ((k - 1) * 2) (dI .i64 l)))[0]? = some (D.lit (.int .i64 (ka1 l (((k - 1) * 2) + 1) 0)))) ∧ ((-9223372036854775808) ≤ ((ka1 l (((k - 1) * 2) + 1) 0) + 1) ∧ ((ka1 l (((k - 1) * 2) + 1) 0) + 1) ≤ 9223372036854775807) ∧ (¬ ((ka1 l (k * 2) 0) ≤ ((ka1 l (((k - 1) * 2) + 1) 0) + 1)))) [(1, rV 0 0), (10, sV .i64 l n), (11, uV n), (12, uV k), (36, bV false)] [(0, some (56, .ds [dl l n]))] 2 ⟨(by have h0 := (i5 (ka1 l (k * 2) 0) (ka1 l ((k * 2) + 1) 0)); rw [hx3] at h0; exact h0), zo, ⟨by omega, by omega⟩, zo, zo, pL, ⟨by omega, by omega⟩, zo⟩ ?_
      refine q8 ?_
      refine uJ [.w, .no] ((-9223372036854775808) ≤ ((k : Int) + 1) ∧ ((k : Int) + 1) ≤ 9223372036854775807) [(1, rV 0 0), (10, sV .i64 l n), (11, uV n), (12, iV (↑k + 1))] ⟨by omega, by omega⟩ ?_
      exact kX ⟨((k + 1) : Nat), ⟨zo, (fun j hj => (Nat.lt_succ_iff_lt_or_eq.1 hj).elim (ha j) (fun e9 => by subst e9; exact decide_eq_true zo))⟩⟩ [] (P := (kG 0) ∧ (kJ (dI .i64 l)) ∧ (kG n) ∧ (kM (n : Int)) ∧ (((((k + 1) : Nat) : Int) : Int) = ((k : Int) + 1)) ∧ (kJ [dl l n])) zk ⟨rfl, rfl, rfl, rfl, (by rfl), rfl⟩ (show n - (k + 1) < n - k from zo)
    ·refine kI [.no, .call [] (bV true) [] 0 [] none, .no, .no, .no, .b false, .no, .no, .no] ((Fun 147 [.agg [iC (ka1 l (k * 2) 0), iC (ka1 l ((k * 2) + 1) 0)]] (kE []) 0 (bV true) (kE []) 0) ∧ (¬ ((0 : Int) < (k : Int)))) [(1, rV 0 0), (10, sV .i64 l n), (11, uV n), (12, uV k), (36, bV false)] [(0, some (56, .ds [dl l n]))] 2 ⟨(by have h0 := (i5 (ka1 l (k * 2) 0) (ka1 l ((k * 2) + 1) 0)); rw [hx3] at h0; exact h0), zo⟩ ?_
     refine q8 ?_
     refine uJ [.w, .no] ((-9223372036854775808) ≤ ((k : Int) + 1) ∧ ((k : Int) + 1) ≤ 9223372036854775807) [(1, rV 0 0), (10, sV .i64 l n), (11, uV n), (12, iV (↑k + 1))] ⟨by omega, by omega⟩ ?_
     exact kX ⟨((k + 1) : Nat), ⟨zo, (fun j hj => (Nat.lt_succ_iff_lt_or_eq.1 hj).elim (ha j) (fun e9 => by subst e9; exact decide_eq_true zo))⟩⟩ [] (P := (kG 0) ∧ (kJ (dI .i64 l)) ∧ (kG n) ∧ (kM (n : Int)) ∧ (((((k + 1) : Nat) : Int) : Int) = ((k : Int) + 1)) ∧ (kJ [dl l n])) zk ⟨rfl, rfl, rfl, rfl, (by rfl), rfl⟩ (show n - (k + 1) < n - k from zo)
   ·have hx10 : ¬ (((0 : Int) ≤ (ka1 l (k * 2) 0)) ∧ (((ka1 l (k * 2) 0) ≤ (ka1 l ((k * 2) + 1) 0)) ∧ ((ka1 l ((k * 2) + 1) 0) ≤ 2147483647))) := of_decide_eq_false hx3
    refine kI [.no, .call [] (bV false) [] 0 [] none, .no, .no, .no] (Fun 147 [.agg [iC (ka1 l (k * 2) 0), iC (ka1 l ((k * 2) + 1) 0)]] (kE []) 0 (bV false) (kE []) 0) [(1, rV 0 0), (10, sV .i64 l n), (11, uV n), (12, uV k), (36, bV true)] [(0, some (56, .ds [dl l n]))] 2 (by have h0 := (i5 (ka1 l (k * 2) 0) (ka1 l ((k * 2) + 1) 0)); rw [hx3] at h0; exact h0) ?_
    refine zt ?_
    refine kI [.no] True [(2, bV false)] [] 2 trivial ?_
    refine AW.ret ?_
    exact kC (.inr rfl) [] (P := ((eI l n) = false)) zk (by exact oC (k := k) zo (decide_eq_false zo))
  ·refine kI [.b false] (¬ ((k : Int) < (n : Int))) [(1, rV 0 0), (10, sV .i64 l n), (11, uV n), (12, uV k), (13, bV false)] [(0, some (56, .ds [dl l n]))] 1 zo ?_
   refine AW.seq ?_
   refine zf ?_
   refine AW.exit ?_
   refine kI [.no] True [(2, bV true)] [] 1 trivial ?_
   refine AW.ret ?_
   exact kC (.inr rfl) [] (P := ((eI l n) = true)) zk (by exact k32 zo (fun j hj => ha j zo))
theorem cL (l : List Int) (n : Nat) (hl : ka0 l = n * 2) (hb : n ≤ 9223372036854775807) : Fun 134 [.agg [.d (D.sl (dI .i64 l) n)]] (kE []) 0 (qS (D.lit (.bool (eI l n)))) (kE []) 0 := by
 refine Fun.mk (n := 50) Tryz.func134 rfl rfl (ka4 rfl) ?_
 intro cx hcx
 refine kI [.no, .no] True [(1, rV 0 0)] [(0, some (56, .ds [dl l n]))] 1 trivial ?_
 refine AW.seq ?_
 refine kN (kT 4 []) True [(1, rV 0 0), (6, sV .i64 l n), (7, uV n), (8, iV 0)] trivial ?_
 refine AW.block ?_
 refine kU 0 hcx (fun (x : {x : Nat // match x with | k => (k ≤ n) ∧ (∀ j, j < k → vaE l j = true)}) => match x with | ⟨k, _⟩ => (⟨[(1, rV 0 0), (6, sV .i64 l n), (7, uV n), (8, uV k)], [(0, some (56, .ds [dl l n]))], 1⟩ : ES)) (fun x => match x with | ⟨k, _⟩ => n - k) ⟨(0 : Nat), ⟨zo, (fun j hj => absurd hj (kd1 j))⟩⟩ [] (P := (kG 0) ∧ (kJ (dI .i64 l)) ∧ (kG n) ∧ (kM (n : Int)) ∧ (kM 0) ∧ (kJ [dl l n])) zk ⟨rfl, rfl, rfl, rfl, rfl, rfl⟩ ?_
 rintro ⟨k, hinv0⟩
 obtain ⟨hk, ha⟩ : (k ≤ n) ∧ (∀ j, j < k → vaE l j = true) := hinv0
 refine qN (l := [(1, rV 0 0), (6, sV .i64 l n), (7, uV n), (8, uV k)]) (g := [(0, some (56, .ds [dl l n]))]) (nx := 1) rfl rfl rfl ?_
 by_cases hx1 : (((k : Nat) : Int) < ((n : Nat) : Int))
 ·refine kI [.b true] (((k : Int) < (n : Int))) [(1, rV 0 0), (6, sV .i64 l n), (7, uV n), (8, uV k), (9, bV true)] [(0, some (56, .ds [dl l n]))] 1 zo ?_
  refine AW.seq ?_
  refine yW ?_
  refine AW.seq ?_
  refine AW.block ?_
  refine kI [.no, .n k, .ds [iD (ka1 l (k * 2) 0), iD (ka1 l ((k * 2) + 1) 0)], .no, .no, .no] ((kM (k : Int)) ∧ (k < n) ∧ (ka5 2 (ka3 (k * 2) (dI .i64 l)) = [iD (ka1 l (k * 2) 0), iD (ka1 l ((k * 2) + 1) 0)]) ∧ (([iD (ka1 l (k * 2) 0), iD (ka1 l ((k * 2) + 1) 0)] : List D).length = 2)) [(1, rV 0 0), (3, uV k), (4, rV 1 0), (6, sV .i64 l n), (7, uV n), (8, uV k)] [(0, some (56, .ds [dl l n])), (1, some (77, .ds [iD (ka1 l (k * 2) 0), iD (ka1 l ((k * 2) + 1) 0)]))] 2 ⟨rfl, zo, (yN .i64 l (k * 2) 2 zo), rfl⟩ ?_
  by_cases hx2 : ((ka1 l (k * 2) 0) < 0)
  ·refine kI (.no :: .no :: .b true :: kT 6 []) (((ka1 l (k * 2) 0) < 0)) [(1, rV 0 0), (6, sV .i64 l n), (7, uV n), (8, uV k), (44, bV true)] [(0, some (56, .ds [dl l n]))] 2 zo ?_
   refine zt ?_
   refine kI [.no] True [(2, bV false)] [] 2 trivial ?_
   refine AW.ret ?_
   exact kC (.inr rfl) [] (P := ((eI l n) = false)) zk (by exact oC (k := k) zo (decide_eq_false zo))
  ·by_cases hx3 : ((ka1 l ((k * 2) + 1) 0) < (ka1 l (k * 2) 0))
   ·refine kI (.no :: .no :: .b false :: kT 5 (.b true :: kT 5 [])) ((¬ ((ka1 l (k * 2) 0) < 0)) ∧ (((ka1 l ((k * 2) + 1) 0) < (ka1 l (k * 2) 0)))) [(1, rV 0 0), (6, sV .i64 l n), (7, uV n), (8, uV k), (44, bV true)] [(0, some (56, .ds [dl l n]))] 2 ⟨zo, zo⟩ ?_
    refine zt ?_
    refine kI [.no] True [(2, bV false)] [] 2 trivial ?_
    refine AW.ret ?_
    exact kC (.inr rfl) [] (P := ((eI l n) = false)) zk (by exact oC (k := k) zo (decide_eq_false zo))
   ·by_cases hx4 : ((2147483647 : Int) < (ka1 l ((k * 2) + 1) 0))
    ·refine kI (.no :: .no :: .b false :: kT 5 (.b false :: kT 4 [.b true, .no, .no, .no])) ((¬ ((ka1 l (k * 2) 0) < 0)) ∧ (¬ ((ka1 l ((k * 2) + 1) 0) < (ka1 l (k * 2) 0))) ∧ (((2147483647 : Int) < (ka1 l ((k * 2) + 1) 0)))) [(1, rV 0 0), (6, sV .i64 l n), (7, uV n), (8, uV k), (44, bV true)] [(0, some (56, .ds [dl l n]))] 2 ⟨zo, zo, zo⟩ ?_
     refine zt ?_
     refine kI [.no] True [(2, bV false)] [] 2 trivial ?_
     refine AW.ret ?_
     exact kC (.inr rfl) [] (P := ((eI l n) = false)) zk (by exact oC (k := k) zo (decide_eq_false zo))
    ·by_cases hx5 : ((0 : Int) < ((k : Nat) : Int))
     ·by_cases hx7 : (((ka1 l (k * 2) 0) - 1) ≤ (ka1 l (((k - 1) * 2) + 1) 0))
      ·have hx8 : 0 ≤ ka1 l ((k - 1) * 2 + 1) 0 ∧ ka1 l ((k - 1) * 2 + 1) 0 ≤ 2147483647 := hD ha zo
       refine kI (.no :: .no :: .b false :: kT 5 (.b false :: kT 4 [.b false, .no, .no, .no, .b true, .no, .no, .no, .w, .no, .no, .no, .w, .n (k - 1), .no, .d (D.lit (.int .i64 (ka1 l (((k - 1) * 2) + 1) 0))), .b true, .no, .no])) ((¬ ((ka1 l (k * 2) 0) < 0)) ∧ (¬ ((ka1 l ((k * 2) + 1) 0) < (ka1 l (k * 2) 0))) ∧ (¬ ((2147483647 : Int) < (ka1 l ((k * 2) + 1) 0))) ∧ (((0 : Int) < (k : Int))) ∧ ((-9223372036854775808) ≤ ((ka1 l (k * 2) 0) - 1) ∧ ((ka1 l (k * 2) 0) - 1) ≤ 9223372036854775807) ∧ ((-9223372036854775808) ≤ ((k : Int) - 1) ∧ ((k : Int) - 1) ≤ 9223372036854775807) ∧ ((((k : Int) - 1) : Int) = (((k - 1) : Nat) : Int)) ∧ ((k - 1) < n) ∧ ((ka3 1 (ka3 ((k - 1) * 2) (dI .i64 l)))[0]? = some (D.lit (.int .i64 (ka1 l (((k - 1) * 2) + 1) 0)))) ∧ ((((ka1 l (k * 2) 0) - 1) ≤ (ka1 l (((k - 1) * 2) + 1) 0)))) [(1, rV 0 0), (6, sV .i64 l n), (7, uV n), (8, uV k), (44, bV true)] [(0, some (56, .ds [dl l n]))] 2 ⟨zo, zo, zo, zo, ⟨by omega, by omega⟩, ⟨by omega, by omega⟩, zo, zo, pL, zo⟩ ?_
       refine zt ?_
       refine kI [.no] True [(2, bV false)] [] 2 trivial ?_
       refine AW.ret ?_
       exact kC (.inr rfl) [] (P := ((eI l n) = false)) zk (by exact oC (k := k) zo (decide_eq_false zo))
      ·have hx9 : 0 ≤ ka1 l ((k - 1) * 2 + 1) 0 ∧ ka1 l ((k - 1) * 2 + 1) 0 ≤ 2147483647 := hD ha zo
       refine kI (.no :: .no :: .b false :: kT 5 (.b false :: kT 4 [.b false, .no, .no, .no, .b true, .no, .no, .no, .w, .no, .no, .no, .w, .n (k - 1), .no, .d (D.lit (.int .i64 (ka1 l (((k - 1) * 2) + 1) 0))), .b false, .no, .no])) ((¬ ((ka1 l (k * 2) 0) < 0)) ∧ (¬ ((ka1 l ((k * 2) + 1) 0) < (ka1 l (k * 2) 0))) ∧ (¬ ((2147483647 : Int) < (ka1 l ((k * 2) + 1) 0))) ∧ (((0 : Int) < (k : Int))) ∧ ((-9223372036854775808) ≤ ((ka1 l (k * 2) 0) - 1) ∧ ((ka1 l (k * 2) 0) - 1) ≤ 9223372036854775807) ∧ ((-9223372036854775808) ≤ ((k : Int) - 1) ∧ ((k : Int) - 1) ≤ 9223372036854775807) ∧ ((((k : Int) - 1) : Int) = (((k - 1) : Nat) : Int)) ∧ ((k - 1) < n) ∧ ((ka3 1 (ka3 ((k - 1) * 2) (dI .i64 l)))[0]? = some (D.lit (.int .i64 (ka1 l (((k - 1) * 2) + 1) 0)))) ∧ (¬ (((ka1 l (k * 2) 0) - 1) ≤ (ka1 l (((k - 1) * 2) + 1) 0)))) [(1, rV 0 0), (6, sV .i64 l n), (7, uV n), (8, uV k), (44, bV false)] [(0, some (56, .ds [dl l n]))] 2 ⟨zo, zo, zo, zo, ⟨by omega, by omega⟩, ⟨by omega, by omega⟩, zo, zo, pL, zo⟩ ?_
       refine q8 ?_
       refine uJ [.w, .no] ((-9223372036854775808) ≤ ((k : Int) + 1) ∧ ((k : Int) + 1) ≤ 9223372036854775807) [(1, rV 0 0), (6, sV .i64 l n), (7, uV n), (8, iV (↑k + 1))] ⟨by omega, by omega⟩ ?_
       exact kX ⟨((k + 1) : Nat), ⟨zo, (fun j hj => (Nat.lt_succ_iff_lt_or_eq.1 hj).elim (ha j) (fun e9 => by subst e9; exact decide_eq_true zo))⟩⟩ [] (P := (kG 0) ∧ (kJ (dI .i64 l)) ∧ (kG n) ∧ (kM (n : Int)) ∧ (((((k + 1) : Nat) : Int) : Int) = ((k : Int) + 1)) ∧ (kJ [dl l n])) zk ⟨rfl, rfl, rfl, rfl, (by rfl), rfl⟩ (show n - (k + 1) < n - k from zo)
     ·refine kI (.no :: .no :: .b false :: kT 5 (.b false :: kT 4 [.b false, .no, .no, .no, .b false, .no, .no, .no])) ((¬ ((ka1 l (k * 2) 0) < 0)) ∧ (¬ ((ka1 l ((k * 2) + 1) 0) < (ka1 l (k * 2) 0))) ∧ (¬ ((2147483647 : Int) < (ka1 l ((k * 2) + 1) 0))) ∧ (¬ ((0 : Int) < (k : Int)))) [(1, rV 0 0), (6, sV .i64 l n), (7, uV n), (8, uV k), (44, bV false)] [(0, some (56, .ds [dl l n]))] 2 ⟨zo, zo, zo, zo⟩ ?_
      refine q8 ?_
      refine uJ [.w, .no] ((-9223372036854775808) ≤ ((k : Int) + 1) ∧ ((k : Int) + 1) ≤ 9223372036854775807) [(1, rV 0 0), (6, sV .i64 l n), (7, uV n), (8, iV (↑k + 1))] ⟨by omega, by omega⟩ ?_
      exact kX ⟨((k + 1) : Nat), ⟨zo, (fun j hj => (Nat.lt_succ_iff_lt_or_eq.1 hj).elim (ha j) (fun e9 => by subst e9; exact decide_eq_true zo))⟩⟩ [] (P := (kG 0) ∧ (kJ (dI .i64 l)) ∧ (kG n) ∧ (kM (n : Int)) ∧ (((((k + 1) : Nat) : Int) : Int) = ((k : Int) + 1)) ∧ (kJ [dl l n])) zk ⟨rfl, rfl, rfl, rfl, (by rfl), rfl⟩ (show n - (k + 1) < n - k from zo)
 ·refine kI [.b false] (¬ ((k : Int) < (n : Int))) [(1, rV 0 0), (6, sV .i64 l n), (7, uV n), (8, uV k), (9, bV false)] [(0, some (56, .ds [dl l n]))] 1 zo ?_
  refine AW.seq ?_
  refine zf ?_
  refine AW.exit ?_
  by_cases hx10 : (((n : Nat) : Int) ≤ 64)
  ·refine kI [.no, .no, .no, .b true, .no] (((n : Int) ≤ 64)) [(2, bV true)] [] 1 zo ?_
   refine AW.ret ?_
   exact kC (.inr rfl) [] (P := ((eI l n) = true)) zk (by exact k32 zo (fun j hj => ha j zo))
  ·have hx11 : 0 ≤ ka1 l ((k - 1) * 2 + 1) 0 ∧ ka1 l ((k - 1) * 2 + 1) 0 ≤ 2147483647 := hD ha zo
   refine kI [.no, .no, .no, .b false, .no] (¬ ((n : Int) ≤ 64)) [(2, bV false)] [] 1 zo ?_
   refine AW.ret ?_
   exact kC (.inr rfl) [] (P := ((eI l n) = false)) zk (by exact k9t zo)
theorem f5 (l : List Int) (n : Nat) (hl : ka0 l = n * 2) (hb : n ≤ 9223372036854775807) : Fun 135 [.agg [.d (D.sl (dI .i64 l) n)]] (kE []) 0 (sV .i64 (kB l n) (kK l n)) (kE []) 0 := by
 refine Fun.mk (n := 8) Tryz.func135 rfl rfl (ka4 rfl) ?_
 intro cx hcx
 refine kI [.no, .no] True [(1, rV 0 0)] [(0, some (56, .ds [dl l n]))] 1 trivial ?_
 refine AW.seq ?_
 rcases ka6 (eI l n) with hx1 | hx1
 ·refine kN [.no, .call [] (bV true) [] 0 [] none, .no] (Fun 130 [.agg [.d (dl l n)]] (kE []) 0 (bV true) (kE []) 0) [(1, rV 0 0), (5, bV false)] (by have h0 := (f6 l n zo zo); rw [hx1] at h0; exact h0) ?_
  refine q8 ?_
  refine kI [.no, .no, .no] True [(2, sV .i64 l n)] [] 1 trivial ?_
  obtain ⟨hz1, hz2⟩ := tH hx1
  refine AW.ret ?_
  exact kC (.inr rfl) [] (P := (((dI .i64 (kB l n)) : List D) = (dI .i64 l)) ∧ (((kK l n) : Nat) = n)) zk ⟨(by (rw [hz1]; done)), zo⟩
 ·refine kN [.no, .call [] (bV false) [] 0 [] none, .no] (Fun 130 [.agg [.d (dl l n)]] (kE []) 0 (bV false) (kE []) 0) [(1, rV 0 0), (5, bV true)] (by have h0 := (f6 l n zo zo); rw [hx1] at h0; exact h0) ?_
  refine zt ?_
  refine kI [.no] True [(2, nV)] [] 1 trivial ?_
  obtain ⟨hz1, hz2⟩ := u1j hx1
  refine yV (l' := [(2, qJ ([] : List D) 0)]) (g' := []) (NlS.cons rfl (.e (.c .nil)) NlS.nil) NlG.nil ?_
  refine AW.ret ?_
  exact kC (.inr rfl) [] (P := (((dI .i64 (kB l n)) : List D) = ([] : List D)) ∧ (((kK l n) : Nat) = 0)) zk ⟨(by (rw [hz1]; rfl)), zo⟩
theorem dO (l : List Int) (n : Nat) (hl : ka0 l = n * 2) (hb : n ≤ 9223372036854775807) : Fun 128 [.agg [.d (D.sl (dI .i64 l) n)]] (kE []) 0 (sV .i64 (kB l n) (kK l n)) (kE []) 0 := by
 refine Fun.mk (n := 8) Tryz.func128 rfl rfl (ka4 rfl) ?_
 intro cx hcx
 refine kI [.no, .no] True [(1, rV 0 0)] [(0, some (56, .ds [dl l n]))] 1 trivial ?_
 refine AW.seq ?_
 rcases ka6 (eI l n) with hx1 | hx1
 ·refine kN [.no, .call [] (bV true) [] 0 [] none, .no] (Fun 134 [.agg [.d (dl l n)]] (kE []) 0 (bV true) (kE []) 0) [(1, rV 0 0), (5, bV false)] (by have h0 := (cL l n zo zo); rw [hx1] at h0; exact h0) ?_
  refine q8 ?_
  refine kI [.no, .no, .no] True [(2, sV .i64 l n)] [] 1 trivial ?_
  obtain ⟨hz1, hz2⟩ := tH hx1
  refine AW.ret ?_
  exact kC (.inr rfl) [] (P := (((dI .i64 (kB l n)) : List D) = (dI .i64 l)) ∧ (((kK l n) : Nat) = n)) zk ⟨(by (rw [hz1]; done)), zo⟩
 ·refine kN [.no, .call [] (bV false) [] 0 [] none, .no] (Fun 134 [.agg [.d (dl l n)]] (kE []) 0 (bV false) (kE []) 0) [(1, rV 0 0), (5, bV true)] (by have h0 := (cL l n zo zo); rw [hx1] at h0; exact h0) ?_
  refine zt ?_
  refine kI [.no] True [(2, nV)] [] 1 trivial ?_
  obtain ⟨hz1, hz2⟩ := u1j hx1
  refine yV (l' := [(2, qJ ([] : List D) 0)]) (g' := []) (NlS.cons rfl (.e (.c .nil)) NlS.nil) NlG.nil ?_
  refine AW.ret ?_
  exact kC (.inr rfl) [] (P := (((dI .i64 (kB l n)) : List D) = ([] : List D)) ∧ (((kK l n) : Nat) = 0)) zk ⟨(by (rw [hz1]; rfl)), zo⟩
theorem pB (l : List Int) (n : Nat) (z : Int) (hl : ka0 l = n * 2) (hb : n ≤ 9223372036854775807) : Fun 95 [.agg [.d (D.sl (dI .i64 l) n)], iE z] (kE []) 0 (qS (D.lit (.bool (gI (kB l n) z)))) (kE []) 0 := by
 refine Fun.mk (n := 25) Tryz.func95 rfl rfl (ka4 rfl) ?_
 intro cx hcx
 refine kI [.no, .no] True [(1, iV z), (2, rV 0 0)] [(0, some (56, .ds [dl l n]))] 1 trivial ?_
 refine AW.seq ?_
 have hx1 : ((ka0 (kB l n)) = ((kK l n) * 2)) := k8 (zo)
 have hx2 : (((kK l n) ≤ 64) ∧ ((kK l n) ≤ n)) := bD
 refine kI [.no, .call [] (sV .i64 (kB l n) (kK l n)) [] 0 [] none, .no, .no] _ [(1, iV z), (8, sV .i64 (kB l n) (kK l n)), (9, uV (kK l n)), (10, iV 0)] [] 1 (f5 l n zo zo) ?_
 refine AW.block ?_
 refine kU 0 hcx (fun (x : {x : Nat // match x with | k => (k ≤ kK l n) ∧ (∀ j, j < k → ¬ (ka1 (kB l n) (j * 2) 0 ≤ z ∧ z ≤ ka1 (kB l n) (j * 2 + 1) 0))}) => match x with | ⟨k, _⟩ => (⟨[(1, iV z), (8, sV .i64 (kB l n) (kK l n)), (9, uV (kK l n)), (10, uV k)], [], 1⟩ : ES)) (fun x => match x with | ⟨k, _⟩ => kK l n - k) ⟨(0 : Nat), ⟨zo, (fun j hj => absurd hj (kd1 j))⟩⟩ [] (P := (kM z) ∧ (kJ (dI .i64 (kB l n))) ∧ (kG (kK l n)) ∧ (kM (kK l n : Int)) ∧ (kM 0)) zk ⟨rfl, rfl, rfl, rfl, rfl⟩ ?_
 rintro ⟨k, hinv0⟩
 obtain ⟨hk, ha⟩ : (k ≤ kK l n) ∧ (∀ j, j < k → ¬ (ka1 (kB l n) (j * 2) 0 ≤ z ∧ z ≤ ka1 (kB l n) (j * 2 + 1) 0)) := hinv0
 refine qN (l := [(1, iV z), (8, sV .i64 (kB l n) (kK l n)), (9, uV (kK l n)), (10, uV k)]) (g := []) (nx := 1) rfl rfl rfl ?_
 by_cases hx3 : (((k : Nat) : Int) < (((kK l n) : Nat) : Int))
 ·refine kI [.b true] (((k : Int) < (kK l n : Int))) [(1, iV z), (8, sV .i64 (kB l n) (kK l n)), (9, uV (kK l n)), (10, uV k), (11, bV true)] [] 1 zo ?_
  refine AW.seq ?_
  refine yW ?_
  refine AW.seq ?_
  refine AW.block ?_
  refine kI [.n k, .ds [iD (ka1 (kB l n) (k * 2) 0), iD (ka1 (kB l n) ((k * 2) + 1) 0)], .no, .no] ((kM (k : Int)) ∧ (k < (kK l n)) ∧ (ka5 2 (ka3 (k * 2) (dI .i64 (kB l n))) = [iD (ka1 (kB l n) (k * 2) 0), iD (ka1 (kB l n) ((k * 2) + 1) 0)]) ∧ (([iD (ka1 (kB l n) (k * 2) 0), iD (ka1 (kB l n) ((k * 2) + 1) 0)] : List D).length = 2)) [(1, iV z), (6, rV 1 0), (8, sV .i64 (kB l n) (kK l n)), (9, uV (kK l n)), (10, uV k)] [(1, some (77, .ds [iD (ka1 (kB l n) (k * 2) 0), iD (ka1 (kB l n) ((k * 2) + 1) 0)]))] 2 ⟨rfl, zo, (yN .i64 (kB l n) (k * 2) 2 zo), rfl⟩ ?_
  by_cases hx4 : ((ka1 (kB l n) (k * 2) 0) ≤ z)
  ·by_cases hx5 : (z ≤ (ka1 (kB l n) ((k * 2) + 1) 0))
   ·refine kI (.no :: .no :: .no :: .b true :: kT 4 [.b true, .no]) ((((ka1 (kB l n) (k * 2) 0) ≤ z)) ∧ ((z ≤ (ka1 (kB l n) ((k * 2) + 1) 0)))) [(1, iV z), (8, sV .i64 (kB l n) (kK l n)), (9, uV (kK l n)), (10, uV k), (23, bV true)] [] 2 ⟨zo, zo⟩ ?_
    refine zt ?_
    refine kN [.no] True [(4, bV true)] trivial ?_
    refine AW.ret ?_
    exact kC (.inr rfl) [] (P := ((gI (kB l n) z) = true)) zk (by exact k8f (k := k) (k8 hl) zo zo)
   ·refine kI (.no :: .no :: .no :: .b true :: kT 4 [.b false, .no]) ((((ka1 (kB l n) (k * 2) 0) ≤ z)) ∧ (¬ (z ≤ (ka1 (kB l n) ((k * 2) + 1) 0)))) [(1, iV z), (8, sV .i64 (kB l n) (kK l n)), (9, uV (kK l n)), (10, uV k), (23, bV false)] [] 2 ⟨zo, zo⟩ ?_
    refine q8 ?_
    refine uJ [.w, .no] ((-9223372036854775808) ≤ ((k : Int) + 1) ∧ ((k : Int) + 1) ≤ 9223372036854775807) [(1, iV z), (8, sV .i64 (kB l n) (kK l n)), (9, uV (kK l n)), (10, iV (↑k + 1))] ⟨by omega, by omega⟩ ?_
    exact kX ⟨((k + 1) : Nat), ⟨zo, (fun j hj => (Nat.lt_succ_iff_lt_or_eq.1 hj).elim (ha j) (fun e9 => by subst e9; omega))⟩⟩ [] (P := (kM z) ∧ (kJ (dI .i64 (kB l n))) ∧ (kG (kK l n)) ∧ (kM (kK l n : Int)) ∧ (((((k + 1) : Nat) : Int) : Int) = ((k : Int) + 1))) zk ⟨rfl, rfl, rfl, rfl, (by rfl)⟩ (show kK l n - (k + 1) < kK l n - k from zo)
  ·refine kI [.no, .no, .no, .b false, .no, .no] (¬ ((ka1 (kB l n) (k * 2) 0) ≤ z)) [(1, iV z), (8, sV .i64 (kB l n) (kK l n)), (9, uV (kK l n)), (10, uV k), (23, bV false)] [] 2 zo ?_
   refine q8 ?_
   refine uJ [.w, .no] ((-9223372036854775808) ≤ ((k : Int) + 1) ∧ ((k : Int) + 1) ≤ 9223372036854775807) [(1, iV z), (8, sV .i64 (kB l n) (kK l n)), (9, uV (kK l n)), (10, iV (↑k + 1))] ⟨by omega, by omega⟩ ?_
   exact kX ⟨((k + 1) : Nat), ⟨zo, (fun j hj => (Nat.lt_succ_iff_lt_or_eq.1 hj).elim (ha j) (fun e9 => by subst e9; omega))⟩⟩ [] (P := (kM z) ∧ (kJ (dI .i64 (kB l n))) ∧ (kG (kK l n)) ∧ (kM (kK l n : Int)) ∧ (((((k + 1) : Nat) : Int) : Int) = ((k : Int) + 1))) zk ⟨rfl, rfl, rfl, rfl, (by rfl)⟩ (show kK l n - (k + 1) < kK l n - k from zo)
 ·refine kI [.b false] (¬ ((k : Int) < (kK l n : Int))) [(1, iV z), (8, sV .i64 (kB l n) (kK l n)), (9, uV (kK l n)), (10, uV k), (11, bV false)] [] 1 zo ?_
  refine AW.seq ?_
  refine zf ?_
  refine AW.exit ?_
  refine kI [.no] True [(4, bV false)] [] 1 trivial ?_
  refine AW.ret ?_
  exact kC (.inr rfl) [] (P := ((gI (kB l n) z) = false)) zk (by exact u5j (k8 hl) (fun j hj => ha j zo))
theorem jZ (l : List Int) (n : Nat) (z : Int) (hl : ka0 l = n * 2) (hb : n ≤ 9223372036854775807) : Fun 98 [.agg [.d (D.sl (dI .i64 l) n)], iE z] (kE []) 0 (qS (D.lit (.bool (gI (kB l n) z)))) (kE []) 0 := by
 refine Fun.mk (n := 25) Tryz.func98 rfl rfl (ka4 rfl) ?_
 intro cx hcx
 refine kI [.no, .no] True [(1, iV z), (2, rV 0 0)] [(0, some (56, .ds [dl l n]))] 1 trivial ?_
 refine AW.seq ?_
 have hx1 : ((ka0 (kB l n)) = ((kK l n) * 2)) := k8 (zo)
 have hx2 : (((kK l n) ≤ 64) ∧ ((kK l n) ≤ n)) := bD
 refine kI [.no, .call [] (sV .i64 (kB l n) (kK l n)) [] 0 [] none, .no, .no] _ [(1, iV z), (8, sV .i64 (kB l n) (kK l n)), (9, uV (kK l n)), (10, iV 0)] [] 1 (dO l n zo zo) ?_
 refine AW.block ?_
 refine kU 0 hcx (fun (x : {x : Nat // match x with | k => (k ≤ kK l n) ∧ (∀ j, j < k → ¬ (ka1 (kB l n) (j * 2) 0 ≤ z ∧ z ≤ ka1 (kB l n) (j * 2 + 1) 0))}) => match x with | ⟨k, _⟩ => (⟨[(1, iV z), (8, sV .i64 (kB l n) (kK l n)), (9, uV (kK l n)), (10, uV k)], [], 1⟩ : ES)) (fun x => match x with | ⟨k, _⟩ => kK l n - k) ⟨(0 : Nat), ⟨zo, (fun j hj => absurd hj (kd1 j))⟩⟩ [] (P := (kM z) ∧ (kJ (dI .i64 (kB l n))) ∧ (kG (kK l n)) ∧ (kM (kK l n : Int)) ∧ (kM 0)) zk ⟨rfl, rfl, rfl, rfl, rfl⟩ ?_
 rintro ⟨k, hinv0⟩
 obtain ⟨hk, ha⟩ : (k ≤ kK l n) ∧ (∀ j, j < k → ¬ (ka1 (kB l n) (j * 2) 0 ≤ z ∧ z ≤ ka1 (kB l n) (j * 2 + 1) 0)) := hinv0
 refine qN (l := [(1, iV z), (8, sV .i64 (kB l n) (kK l n)), (9, uV (kK l n)), (10, uV k)]) (g := []) (nx := 1) rfl rfl rfl ?_
 by_cases hx3 : (((k : Nat) : Int) < (((kK l n) : Nat) : Int))
 ·refine kI [.b true] (((k : Int) < (kK l n : Int))) [(1, iV z), (8, sV .i64 (kB l n) (kK l n)), (9, uV (kK l n)), (10, uV k), (11, bV true)] [] 1 zo ?_
  refine AW.seq ?_
  refine yW ?_
  refine AW.seq ?_
  refine AW.block ?_
  refine kI [.n k, .ds [iD (ka1 (kB l n) (k * 2) 0), iD (ka1 (kB l n) ((k * 2) + 1) 0)], .no, .no] ((kM (k : Int)) ∧ (k < (kK l n)) ∧ (ka5 2 (ka3 (k * 2) (dI .i64 (kB l n))) = [iD (ka1 (kB l n) (k * 2) 0), iD (ka1 (kB l n) ((k * 2) + 1) 0)]) ∧ (([iD (ka1 (kB l n) (k * 2) 0), iD (ka1 (kB l n) ((k * 2) + 1) 0)] : List D).length = 2)) [(1, iV z), (6, rV 1 0), (8, sV .i64 (kB l n) (kK l n)), (9, uV (kK l n)), (10, uV k)] [(1, some (77, .ds [iD (ka1 (kB l n) (k * 2) 0), iD (ka1 (kB l n) ((k * 2) + 1) 0)]))] 2 ⟨rfl, zo, (yN .i64 (kB l n) (k * 2) 2 zo), rfl⟩ ?_
  by_cases hx4 : ((ka1 (kB l n) (k * 2) 0) ≤ z)
  ·by_cases hx5 : (z ≤ (ka1 (kB l n) ((k * 2) + 1) 0))
   ·refine kI (.no :: .no :: .no :: .b true :: kT 4 [.b true, .no]) ((((ka1 (kB l n) (k * 2) 0) ≤ z)) ∧ ((z ≤ (ka1 (kB l n) ((k * 2) + 1) 0)))) [(1, iV z), (8, sV .i64 (kB l n) (kK l n)), (9, uV (kK l n)), (10, uV k), (23, bV true)] [] 2 ⟨zo, zo⟩ ?_
    refine zt ?_
    refine kN [.no] True [(4, bV true)] trivial ?_
    refine AW.ret ?_
    exact kC (.inr rfl) [] (P := ((gI (kB l n) z) = true)) zk (by exact k8f (k := k) (k8 hl) zo zo)
   ·refine kI (.no :: .no :: .no :: .b true :: kT 4 [.b false, .no]) ((((ka1 (kB l n) (k * 2) 0) ≤ z)) ∧ (¬ (z ≤ (ka1 (kB l n) ((k * 2) + 1) 0)))) [(1, iV z), (8, sV .i64 (kB l n) (kK l n)), (9, uV (kK l n)), (10, uV k), (23, bV false)] [] 2 ⟨zo, zo⟩ ?_
    refine q8 ?_
    refine uJ [.w, .no] ((-9223372036854775808) ≤ ((k : Int) + 1) ∧ ((k : Int) + 1) ≤ 9223372036854775807) [(1, iV z), (8, sV .i64 (kB l n) (kK l n)), (9, uV (kK l n)), (10, iV (↑k + 1))] ⟨by omega, by omega⟩ ?_
    exact kX ⟨((k + 1) : Nat), ⟨zo, (fun j hj => (Nat.lt_succ_iff_lt_or_eq.1 hj).elim (ha j) (fun e9 => by subst e9; omega))⟩⟩ [] (P := (kM z) ∧ (kJ (dI .i64 (kB l n))) ∧ (kG (kK l n)) ∧ (kM (kK l n : Int)) ∧ (((((k + 1) : Nat) : Int) : Int) = ((k : Int) + 1))) zk ⟨rfl, rfl, rfl, rfl, (by rfl)⟩ (show kK l n - (k + 1) < kK l n - k from zo)
  ·refine kI [.no, .no, .no, .b false, .no, .no] (¬ ((ka1 (kB l n) (k * 2) 0) ≤ z)) [(1, iV z), (8, sV .i64 (kB l n) (kK l n)), (9, uV (kK l n)), (10, uV k), (23, bV false)] [] 2 zo ?_
   refine q8 ?_
   refine uJ [.w, .no] ((-9223372036854775808) ≤ ((k : Int) + 1) ∧ ((k : Int) + 1) ≤ 9223372036854775807) [(1, iV z), (8, sV .i64 (kB l n) (kK l n)), (9, uV (kK l n)), (10, iV (↑k + 1))] ⟨by omega, by omega⟩ ?_
   exact kX ⟨((k + 1) : Nat), ⟨zo, (fun j hj => (Nat.lt_succ_iff_lt_or_eq.1 hj).elim (ha j) (fun e9 => by subst e9; omega))⟩⟩ [] (P := (kM z) ∧ (kJ (dI .i64 (kB l n))) ∧ (kG (kK l n)) ∧ (kM (kK l n : Int)) ∧ (((((k + 1) : Nat) : Int) : Int) = ((k : Int) + 1))) zk ⟨rfl, rfl, rfl, rfl, (by rfl)⟩ (show kK l n - (k + 1) < kK l n - k from zo)
 ·refine kI [.b false] (¬ ((k : Int) < (kK l n : Int))) [(1, iV z), (8, sV .i64 (kB l n) (kK l n)), (9, uV (kK l n)), (10, uV k), (11, bV false)] [] 1 zo ?_
  refine AW.seq ?_
  refine zf ?_
  refine AW.exit ?_
  refine kI [.no] True [(4, bV false)] [] 1 trivial ?_
  refine AW.ret ?_
  exact kC (.inr rfl) [] (P := ((gI (kB l n) z) = false)) zk (by exact u5j (k8 hl) (fun j hj => ha j zo))
end Go.Proofs.YtcfmjpnffembpaaGreat
