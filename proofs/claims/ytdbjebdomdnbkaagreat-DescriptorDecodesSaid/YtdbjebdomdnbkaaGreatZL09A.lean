/- Sets of integers: A. No statement is proved here. -/
import Derived.Test.YtdbjebdomdnbkaaGreatZW09
namespace Go.Proofs.YtdbjebdomdnbkaaGreat
open Go.ChangeShapes Go.WideShapes Go.ChangeAt Go.RowKit
open List renaming drop → ka5, getD → ka0
open Nat renaming le_of_ble_eq_true → ka3, not_lt_zero → kd5
set_option linter.unusedVariables false
set_option linter.unusedSimpArgs false
set_option maxHeartbeats 4000000
set_option maxRecDepth 100000
theorem gI (a b : Int)  : Fun 101 [.agg [iC a, iC b]] (kD []) 0 (kP (D.lit (.bool (decide (0 ≤ a ∧ a ≤ b ∧ b ≤ 2147483647))))) (kD []) 0 := by
 refine Fun.mk (n := 18) Tryz.func101 rfl rfl (ka3 rfl) ?_
 intro cx hcx
 refine kG [.no, .no] True [(1, rV 0 0)] [(0, some (90, .ds [iD a, iD b]))] 1 trivial ?_
 by_cases hx1 : ((0 : Int) ≤ a)
 ·by_cases hx2 : (a ≤ b)
  ·by_cases hx3 : (b ≤ 2147483647)
   ·refine kG (.no :: .no :: .b true :: kJ 5 (.b true :: kJ 4 [.b true, .no, .no])) ((((0 : Int) ≤ a)) ∧ ((a ≤ b)) ∧ ((b ≤ 2147483647))) [(2, bV true)] [] 1 ⟨zo, zo, zo⟩ ?_
    refine AW.ret ?_
    exact kB (.inr rfl) [] (P := ((decide (0 ≤ a ∧ a ≤ b ∧ b ≤ 2147483647)) = true)) zk (by exact decide_eq_true zo)
   ·refine kG (.no :: .no :: .b true :: kJ 5 (.b true :: kJ 4 [.b false, .no, .no])) ((((0 : Int) ≤ a)) ∧ ((a ≤ b)) ∧ (¬ (b ≤ 2147483647))) [(2, bV false)] [] 1 ⟨zo, zo, zo⟩ ?_
    refine AW.ret ?_
    exact kB (.inr rfl) [] (P := ((decide (0 ≤ a ∧ a ≤ b ∧ b ≤ 2147483647)) = false)) zk (by exact decide_eq_false zo)
  ·refine kG (.no :: .no :: .b true :: kJ 5 (.b false :: kJ 4 [])) ((((0 : Int) ≤ a)) ∧ (¬ (a ≤ b))) [(2, bV false)] [] 1 ⟨zo, zo⟩ ?_
   refine AW.ret ?_
   exact kB (.inr rfl) [] (P := ((decide (0 ≤ a ∧ a ≤ b ∧ b ≤ 2147483647)) = false)) zk (by exact decide_eq_false zo)
 ·refine kG (.no :: .no :: .b false :: kJ 5 []) (¬ ((0 : Int) ≤ a)) [(2, bV false)] [] 1 zo ?_
  refine AW.ret ?_
  exact kB (.inr rfl) [] (P := ((decide (0 ≤ a ∧ a ≤ b ∧ b ≤ 2147483647)) = false)) zk (by exact decide_eq_false zo)
theorem nP {p : Prop} (h : p := by (rw [List.drop_drop]; exact qN _ _ _ (by omega))) : p := h
theorem jC (l : List Int) (n : Nat) (hl : List.length l = n * 2) (hb : n ≤ 9223372036854775807) : Fun 95 [.agg [.d (D.sl (dI .i64 l) n)]] (kD []) 0 (kP (D.lit (.bool (fF l n)))) (kD []) 0 := by
 refine Fun.mk (n := 38) Tryz.func95 rfl rfl (ka3 rfl) ?_
 intro cx hcx
 refine kG [.no, .no] True [(1, rV 0 0)] [(0, some (50, .ds [dl l n]))] 1 trivial ?_
 refine AW.seq ?_
 by_cases hx1 : ((64 : Int) < ((n : Nat) : Int))
 ·refine kV [.no, .no, .no, .b true] (((64 : Int) < (n : Int))) [(1, rV 0 0), (8, bV true)] zo ?_
  refine zt ?_
  refine kG [.no] True [(2, bV false)] [] 1 trivial ?_
  refine AW.ret ?_
  exact kB (.inr rfl) [] (P := ((fF l n) = false)) zk (by exact k9u zo)
 ·refine kV [.no, .no, .no, .b false] (¬ ((64 : Int) < (n : Int))) [(1, rV 0 0), (8, bV false)] zo ?_
  refine uM ?_
  refine AW.seq ?_
  refine kV (kJ 4 []) True [(1, rV 0 0), (10, sV .i64 l n), (11, uV n), (12, iV 0)] trivial ?_
  refine AW.block ?_
  refine kU 0 hcx (fun (x : {x : Nat // match x with | k => (k ≤ n) ∧ (∀ j, j < k → vaE l j = true)}) => match x with | ⟨k, _⟩ => (⟨[(1, rV 0 0), (10, sV .i64 l n), (11, uV n), (12, uV k)], [(0, some (50, .ds [dl l n]))], 1⟩ : ES)) (fun x => match x with | ⟨k, _⟩ => n - k) ⟨(0 : Nat), ⟨zo, (fun j hj => absurd hj (kd5 j))⟩⟩ [] (P := (kQ 0) ∧ (kY (dI .i64 l)) ∧ (kQ n) ∧ (kM (n : Int)) ∧ (kM 0) ∧ (kY [dl l n])) zk ⟨rfl, rfl, rfl, rfl, rfl, rfl⟩ ?_
  rintro ⟨k, hinv0⟩
  obtain ⟨hk, ha⟩ : (k ≤ n) ∧ (∀ j, j < k → vaE l j = true) := hinv0
  refine qV (l := [(1, rV 0 0), (10, sV .i64 l n), (11, uV n), (12, uV k)]) (g := [(0, some (50, .ds [dl l n]))]) (nx := 1) rfl rfl rfl ?_
  by_cases hx2 : (((k : Nat) : Int) < ((n : Nat) : Int))
  ·refine kG [.b true] (((k : Int) < (n : Int))) [(1, rV 0 0), (10, sV .i64 l n), (11, uV n), (12, uV k), (13, bV true)] [(0, some (50, .ds [dl l n]))] 1 zo ?_
   refine AW.seq ?_
   refine u1 ?_
   refine AW.seq ?_
   refine AW.block ?_
   refine kG [.no, .n k, .ds [iD (ka0 l (k * 2) 0), iD (ka0 l ((k * 2) + 1) 0)], .no, .no, .no] ((kM (k : Int)) ∧ (k < n) ∧ (List.take 2 (ka5 (k * 2) (dI .i64 l)) = [iD (ka0 l (k * 2) 0), iD (ka0 l ((k * 2) + 1) 0)]) ∧ (([iD (ka0 l (k * 2) 0), iD (ka0 l ((k * 2) + 1) 0)] : List D).length = 2)) [(1, rV 0 0), (3, uV k), (4, rV 1 0), (10, sV .i64 l n), (11, uV n), (12, uV k)] [(0, some (50, .ds [dl l n])), (1, some (90, .ds [iD (ka0 l (k * 2) 0), iD (ka0 l ((k * 2) + 1) 0)]))] 2 ⟨rfl, zo, (aH .i64 l (k * 2) 2 zo), rfl⟩ ?_
   rcases Bool.eq_false_or_eq_true (decide (0 ≤ (ka0 l (k * 2) 0) ∧ (ka0 l (k * 2) 0) ≤ (ka0 l ((k * 2) + 1) 0) ∧ (ka0 l ((k * 2) + 1) 0) ≤ 2147483647)) with hx3 | hx3
   ·have hx4 : (((0 : Int) ≤ (ka0 l (k * 2) 0)) ∧ (((ka0 l (k * 2) 0) ≤ (ka0 l ((k * 2) + 1) 0)) ∧ ((ka0 l ((k * 2) + 1) 0) ≤ 2147483647))) := of_decide_eq_true hx3
    by_cases hx5 : ((0 : Int) < ((k : Nat) : Int))
    ·by_cases hx7 : ((ka0 l (k * 2) 0) ≤ ((ka0 l (((k - 1) * 2) + 1) 0) + 1))
     ·have hx8 : 0 ≤ ka0 l ((k - 1) * 2 + 1) 0 ∧ ka0 l ((k - 1) * 2 + 1) 0 ≤ 2147483647 := fH ha zo
      refine kG (.no :: .call [] (bV true) [] 0 [] none :: .no :: .no :: .no :: .b true :: kJ 6 [.w, .n (k - 1), .no, .d (D.lit (.int .i64 (ka0 l (((k - 1) * 2) + 1) 0))), .w, .b true, .no, .no]) ((Fun 101 [.agg [iC (ka0 l (k * 2) 0), iC (ka0 l ((k * 2) + 1) 0)]] (kD []) 0 (bV true) (kD []) 0) ∧ (((0 : Int) < (k : Int))) ∧ (qB ((k : Int) - 1)) ∧ ((((k : Int) - 1) : Int) = (((k - 1) : Nat) : Int)) ∧ ((k - 1) < n) ∧ ((ka5 1 (ka5 ((k - 1) * 2) (dI .i64 l)))[0]? = some (D.lit (.int .i64 (ka0 l (((k - 1) * 2) + 1) 0)))) ∧ ((-9223372036854775808) ≤ ((ka0 l (((k - 1) * 2) + 1) 0) + 1) ∧ ((ka0 l (((k - 1) * 2) + 1) 0) + 1) ≤ 9223372036854775807) ∧ (((ka0 l (k * 2) 0) ≤ ((ka0 l (((k - 1) * 2) + 1) 0) + 1)))) [(1, rV 0 0), (10, sV .i64 l n), (11, uV n), (12, uV k), (36, bV true)] [(0, some (50, .ds [dl l n]))] 2 ⟨(by have h0 := (gI (ka0 l (k * 2) 0) (ka0 l ((k * 2) + 1) 0)); rw [hx3] at h0; exact h0), zo, ⟨by omega, by omega⟩, zo, zo, nP, ⟨by omega, by omega⟩, zo⟩ ?_
      refine zt ?_
      refine kG [.no] True [(2, bV false)] [] 2 trivial ?_
      refine AW.ret ?_
      exact kB (.inr rfl) [] (P := ((fF l n) = false)) zk (by exact mS (k := k) zo (decide_eq_false zo))
     ·have hx9 : 0 ≤ ka0 l ((k - 1) * 2 + 1) 0 ∧ ka0 l ((k - 1) * 2 + 1) 0 ≤ 2147483647 := fH ha zo
      refine kG (.no :: .call [] (bV true) [] 0 [] none :: .no :: .no :: .no :: .b true :: kJ 6 [.w, .n (k - 1), .no, .d (D.lit (.int .i64 (ka0 l (((k - 1) * 2) + 1) 0))), .w, .b false, .no, .no]) ((Fun 101 [.agg [iC (ka0 l (k * 2) 0), iC (ka0 l ((k * 2) + 1) 0)]] (kD []) 0 (bV true) (kD []) 0) ∧ (((0 : Int) < (k : Int))) ∧ (qB ((k : Int) - 1)) ∧ ((((k : Int) - 1) : Int) = (((k - 1) : Nat) : Int)) ∧ ((k - 1) < n) ∧ ((ka5 1 (ka5 ((k - 1) * 2) (dI .i64 l)))[0]? = some (D.lit (.int .i64 (ka0 l (((k - 1) * 2) + 1) 0)))) ∧ ((-9223372036854775808) ≤ ((ka0 l (((k - 1) * 2) + 1) 0) + 1) ∧ ((ka0 l (((k - 1) * 2) + 1) 0) + 1) ≤ 9223372036854775807) ∧ (¬ ((ka0 l (k * 2) 0) ≤ ((ka0 l (((k - 1) * 2) + 1) 0) + 1)))) [(1, rV 0 0), (10, sV .i64 l n), (11, uV n), (12, uV k), (36, bV false)] [(0, some (50, .ds [dl l n]))] 2 ⟨(by have h0 := (gI (ka0 l (k * 2) 0) (ka0 l ((k * 2) + 1) 0)); rw [hx3] at h0; exact h0), zo, ⟨by omega, by omega⟩, zo, zo, nP, ⟨by omega, by omega⟩, zo⟩ ?_
      refine uM ?_
      refine uG [.w, .no] (qB ((k : Int) + 1)) [(1, rV 0 0), (10, sV .i64 l n), (11, uV n), (12, iV (↑k + 1))] ⟨by omega, by omega⟩ ?_
      exact qH ⟨((k + 1) : Nat), ⟨zo, (fun j hj => (Nat.lt_succ_iff_lt_or_eq.1 hj).elim (ha j) (fun e9 => by subst e9; exact decide_eq_true zo))⟩⟩ [] (P := (kQ 0) ∧ (kY (dI .i64 l)) ∧ (kQ n) ∧ (kM (n : Int)) ∧ (((((k + 1) : Nat) : Int) : Int) = ((k : Int) + 1)) ∧ (kY [dl l n])) zk ⟨rfl, rfl, rfl, rfl, (by rfl), rfl⟩ (show n - (k + 1) < n - k from zo)
    ·refine kG [.no, .call [] (bV true) [] 0 [] none, .no, .no, .no, .b false, .no, .no, .no] ((Fun 101 [.agg [iC (ka0 l (k * 2) 0), iC (ka0 l ((k * 2) + 1) 0)]] (kD []) 0 (bV true) (kD []) 0) ∧ (¬ ((0 : Int) < (k : Int)))) [(1, rV 0 0), (10, sV .i64 l n), (11, uV n), (12, uV k), (36, bV false)] [(0, some (50, .ds [dl l n]))] 2 ⟨(by have h0 := (gI (ka0 l (k * 2) 0) (ka0 l ((k * 2) + 1) 0)); rw [hx3] at h0; exact h0), zo⟩ ?_
     refine uM ?_
     refine uG [.w, .no] (qB ((k : Int) + 1)) [(1, rV 0 0), (10, sV .i64 l n), (11, uV n), (12, iV (↑k + 1))] ⟨by omega, by omega⟩ ?_
     exact qH ⟨((k + 1) : Nat), ⟨zo, (fun j hj => (Nat.lt_succ_iff_lt_or_eq.1 hj).elim (ha j) (fun e9 => by subst e9; exact decide_eq_true zo))⟩⟩ [] (P := (kQ 0) ∧ (kY (dI .i64 l)) ∧ (kQ n) ∧ (kM (n : Int)) ∧ (((((k + 1) : Nat) : Int) : Int) = ((k : Int) + 1)) ∧ (kY [dl l n])) zk ⟨rfl, rfl, rfl, rfl, (by rfl), rfl⟩ (show n - (k + 1) < n - k from zo)
   ·have hx10 : ¬ (((0 : Int) ≤ (ka0 l (k * 2) 0)) ∧ (((ka0 l (k * 2) 0) ≤ (ka0 l ((k * 2) + 1) 0)) ∧ ((ka0 l ((k * 2) + 1) 0) ≤ 2147483647))) := of_decide_eq_false hx3
    refine kG [.no, .call [] (bV false) [] 0 [] none, .no, .no, .no] (Fun 101 [.agg [iC (ka0 l (k * 2) 0), iC (ka0 l ((k * 2) + 1) 0)]] (kD []) 0 (bV false) (kD []) 0) [(1, rV 0 0), (10, sV .i64 l n), (11, uV n), (12, uV k), (36, bV true)] [(0, some (50, .ds [dl l n]))] 2 (by have h0 := (gI (ka0 l (k * 2) 0) (ka0 l ((k * 2) + 1) 0)); rw [hx3] at h0; exact h0) ?_
    refine zt ?_
    refine kG [.no] True [(2, bV false)] [] 2 trivial ?_
    refine AW.ret ?_
    exact kB (.inr rfl) [] (P := ((fF l n) = false)) zk (by exact mS (k := k) zo (decide_eq_false zo))
  ·refine kG [.b false] (¬ ((k : Int) < (n : Int))) [(1, rV 0 0), (10, sV .i64 l n), (11, uV n), (12, uV k), (13, bV false)] [(0, some (50, .ds [dl l n]))] 1 zo ?_
   refine AW.seq ?_
   refine zf ?_
   refine AW.exit ?_
   refine kG [.no] True [(2, bV true)] [] 1 trivial ?_
   refine AW.ret ?_
   exact kB (.inr rfl) [] (P := ((fF l n) = true)) zk (by exact k25 zo (fun j hj => ha j zo))
theorem dY (l : List Int) (n : Nat) (hl : List.length l = n * 2) (hb : n ≤ 9223372036854775807) : Fun 99 [.agg [.d (D.sl (dI .i64 l) n)]] (kD []) 0 (kP (D.lit (.bool (fF l n)))) (kD []) 0 := by
 refine Fun.mk (n := 50) Tryz.func99 rfl rfl (ka3 rfl) ?_
 intro cx hcx
 refine kG [.no, .no] True [(1, rV 0 0)] [(0, some (50, .ds [dl l n]))] 1 trivial ?_
 refine AW.seq ?_
 refine kV (kJ 4 []) True [(1, rV 0 0), (6, sV .i64 l n), (7, uV n), (8, iV 0)] trivial ?_
 refine AW.block ?_
 refine kU 0 hcx (fun (x : {x : Nat // match x with | k => (k ≤ n) ∧ (∀ j, j < k → vaE l j = true)}) => match x with | ⟨k, _⟩ => (⟨[(1, rV 0 0), (6, sV .i64 l n), (7, uV n), (8, uV k)], [(0, some (50, .ds [dl l n]))], 1⟩ : ES)) (fun x => match x with | ⟨k, _⟩ => n - k) ⟨(0 : Nat), ⟨zo, (fun j hj => absurd hj (kd5 j))⟩⟩ [] (P := (kQ 0) ∧ (kY (dI .i64 l)) ∧ (kQ n) ∧ (kM (n : Int)) ∧ (kM 0) ∧ (kY [dl l n])) zk ⟨rfl, rfl, rfl, rfl, rfl, rfl⟩ ?_
 rintro ⟨k, hinv0⟩
 obtain ⟨hk, ha⟩ : (k ≤ n) ∧ (∀ j, j < k → vaE l j = true) := hinv0
 refine qV (l := [(1, rV 0 0), (6, sV .i64 l n), (7, uV n), (8, uV k)]) (g := [(0, some (50, .ds [dl l n]))]) (nx := 1) rfl rfl rfl ?_
 by_cases hx1 : (((k : Nat) : Int) < ((n : Nat) : Int))
 ·refine kG [.b true] (((k : Int) < (n : Int))) [(1, rV 0 0), (6, sV .i64 l n), (7, uV n), (8, uV k), (9, bV true)] [(0, some (50, .ds [dl l n]))] 1 zo ?_
  refine AW.seq ?_
  refine u1 ?_
  refine AW.seq ?_
  refine AW.block ?_
  refine kG [.no, .n k, .ds [iD (ka0 l (k * 2) 0), iD (ka0 l ((k * 2) + 1) 0)], .no, .no, .no] ((kM (k : Int)) ∧ (k < n) ∧ (List.take 2 (ka5 (k * 2) (dI .i64 l)) = [iD (ka0 l (k * 2) 0), iD (ka0 l ((k * 2) + 1) 0)]) ∧ (([iD (ka0 l (k * 2) 0), iD (ka0 l ((k * 2) + 1) 0)] : List D).length = 2)) [(1, rV 0 0), (3, uV k), (4, rV 1 0), (6, sV .i64 l n), (7, uV n), (8, uV k)] [(0, some (50, .ds [dl l n])), (1, some (90, .ds [iD (ka0 l (k * 2) 0), iD (ka0 l ((k * 2) + 1) 0)]))] 2 ⟨rfl, zo, (aH .i64 l (k * 2) 2 zo), rfl⟩ ?_
  by_cases hx2 : ((ka0 l (k * 2) 0) < 0)
  ·refine kG (.no :: .no :: .b true :: kJ 6 []) (((ka0 l (k * 2) 0) < 0)) [(1, rV 0 0), (6, sV .i64 l n), (7, uV n), (8, uV k), (44, bV true)] [(0, some (50, .ds [dl l n]))] 2 zo ?_
   refine zt ?_
   refine kG [.no] True [(2, bV false)] [] 2 trivial ?_
   refine AW.ret ?_
   exact kB (.inr rfl) [] (P := ((fF l n) = false)) zk (by exact mS (k := k) zo (decide_eq_false zo))
  ·by_cases hx3 : ((ka0 l ((k * 2) + 1) 0) < (ka0 l (k * 2) 0))
   ·refine kG (.no :: .no :: .b false :: kJ 5 (.b true :: kJ 5 [])) ((¬ ((ka0 l (k * 2) 0) < 0)) ∧ (((ka0 l ((k * 2) + 1) 0) < (ka0 l (k * 2) 0)))) [(1, rV 0 0), (6, sV .i64 l n), (7, uV n), (8, uV k), (44, bV true)] [(0, some (50, .ds [dl l n]))] 2 ⟨zo, zo⟩ ?_
    refine zt ?_
    refine kG [.no] True [(2, bV false)] [] 2 trivial ?_
    refine AW.ret ?_
    exact kB (.inr rfl) [] (P := ((fF l n) = false)) zk (by exact mS (k := k) zo (decide_eq_false zo))
   ·by_cases hx4 : ((2147483647 : Int) < (ka0 l ((k * 2) + 1) 0))
    ·refine kG (.no :: .no :: .b false :: kJ 5 (.b false :: kJ 4 [.b true, .no, .no, .no])) ((¬ ((ka0 l (k * 2) 0) < 0)) ∧ (¬ ((ka0 l ((k * 2) + 1) 0) < (ka0 l (k * 2) 0))) ∧ (((2147483647 : Int) < (ka0 l ((k * 2) + 1) 0)))) [(1, rV 0 0), (6, sV .i64 l n), (7, uV n), (8, uV k), (44, bV true)] [(0, some (50, .ds [dl l n]))] 2 ⟨zo, zo, zo⟩ ?_
     refine zt ?_
     refine kG [.no] True [(2, bV false)] [] 2 trivial ?_
     refine AW.ret ?_
     exact kB (.inr rfl) [] (P := ((fF l n) = false)) zk (by exact mS (k := k) zo (decide_eq_false zo))
    ·by_cases hx5 : ((0 : Int) < ((k : Nat) : Int))
     ·by_cases hx7 : (((ka0 l (k * 2) 0) - 1) ≤ (ka0 l (((k - 1) * 2) + 1) 0))
      ·have hx8 : 0 ≤ ka0 l ((k - 1) * 2 + 1) 0 ∧ ka0 l ((k - 1) * 2 + 1) 0 ≤ 2147483647 := fH ha zo
       refine kG (.no :: .no :: .b false :: kJ 5 (.b false :: kJ 4 [.b false, .no, .no, .no, .b true, .no, .no, .no, .w, .no, .no, .no, .w, .n (k - 1), .no, .d (D.lit (.int .i64 (ka0 l (((k - 1) * 2) + 1) 0))), .b true, .no, .no])) ((¬ ((ka0 l (k * 2) 0) < 0)) ∧ (¬ ((ka0 l ((k * 2) + 1) 0) < (ka0 l (k * 2) 0))) ∧ (¬ ((2147483647 : Int) < (ka0 l ((k * 2) + 1) 0))) ∧ (((0 : Int) < (k : Int))) ∧ (qB ((ka0 l (k * 2) 0) - 1)) ∧ (qB ((k : Int) - 1)) ∧ ((((k : Int) - 1) : Int) = (((k - 1) : Nat) : Int)) ∧ ((k - 1) < n) ∧ ((ka5 1 (ka5 ((k - 1) * 2) (dI .i64 l)))[0]? = some (D.lit (.int .i64 (ka0 l (((k - 1) * 2) + 1) 0)))) ∧ ((((ka0 l (k * 2) 0) - 1) ≤ (ka0 l (((k - 1) * 2) + 1) 0)))) [(1, rV 0 0), (6, sV .i64 l n), (7, uV n), (8, uV k), (44, bV true)] [(0, some (50, .ds [dl l n]))] 2 ⟨zo, zo, zo, zo, ⟨by omega, by omega⟩, ⟨by omega, by omega⟩, zo, zo, nP, zo⟩ ?_
       refine zt ?_
       refine kG [.no] True [(2, bV false)] [] 2 trivial ?_
       refine AW.ret ?_
       exact kB (.inr rfl) [] (P := ((fF l n) = false)) zk (by exact mS (k := k) zo (decide_eq_false zo))
      ·have hx9 : 0 ≤ ka0 l ((k - 1) * 2 + 1) 0 ∧ ka0 l ((k - 1) * 2 + 1) 0 ≤ 2147483647 := fH ha zo
       refine kG (.no :: .no :: .b false :: kJ 5 (.b false :: kJ 4 [.b false, .no, .no, .no, .b true, .no, .no, .no, .w, .no, .no, .no, .w, .n (k - 1), .no, .d (D.lit (.int .i64 (ka0 l (((k - 1) * 2) + 1) 0))), .b false, .no, .no])) ((¬ ((ka0 l (k * 2) 0) < 0)) ∧ (¬ ((ka0 l ((k * 2) + 1) 0) < (ka0 l (k * 2) 0))) ∧ (¬ ((2147483647 : Int) < (ka0 l ((k * 2) + 1) 0))) ∧ (((0 : Int) < (k : Int))) ∧ (qB ((ka0 l (k * 2) 0) - 1)) ∧ (qB ((k : Int) - 1)) ∧ ((((k : Int) - 1) : Int) = (((k - 1) : Nat) : Int)) ∧ ((k - 1) < n) ∧ ((ka5 1 (ka5 ((k - 1) * 2) (dI .i64 l)))[0]? = some (D.lit (.int .i64 (ka0 l (((k - 1) * 2) + 1) 0)))) ∧ (¬ (((ka0 l (k * 2) 0) - 1) ≤ (ka0 l (((k - 1) * 2) + 1) 0)))) [(1, rV 0 0), (6, sV .i64 l n), (7, uV n), (8, uV k), (44, bV false)] [(0, some (50, .ds [dl l n]))] 2 ⟨zo, zo, zo, zo, ⟨by omega, by omega⟩, ⟨by omega, by omega⟩, zo, zo, nP, zo⟩ ?_
       refine uM ?_
       refine uG [.w, .no] (qB ((k : Int) + 1)) [(1, rV 0 0), (6, sV .i64 l n), (7, uV n), (8, iV (↑k + 1))] ⟨by omega, by omega⟩ ?_
       exact qH ⟨((k + 1) : Nat), ⟨zo, (fun j hj => (Nat.lt_succ_iff_lt_or_eq.1 hj).elim (ha j) (fun e9 => by subst e9; exact decide_eq_true zo))⟩⟩ [] (P := (kQ 0) ∧ (kY (dI .i64 l)) ∧ (kQ n) ∧ (kM (n : Int)) ∧ (((((k + 1) : Nat) : Int) : Int) = ((k : Int) + 1)) ∧ (kY [dl l n])) zk ⟨rfl, rfl, rfl, rfl, (by rfl), rfl⟩ (show n - (k + 1) < n - k from zo)
     ·refine kG (.no :: .no :: .b false :: kJ 5 (.b false :: kJ 4 [.b false, .no, .no, .no, .b false, .no, .no, .no])) ((¬ ((ka0 l (k * 2) 0) < 0)) ∧ (¬ ((ka0 l ((k * 2) + 1) 0) < (ka0 l (k * 2) 0))) ∧ (¬ ((2147483647 : Int) < (ka0 l ((k * 2) + 1) 0))) ∧ (¬ ((0 : Int) < (k : Int)))) [(1, rV 0 0), (6, sV .i64 l n), (7, uV n), (8, uV k), (44, bV false)] [(0, some (50, .ds [dl l n]))] 2 ⟨zo, zo, zo, zo⟩ ?_
      refine uM ?_
      refine uG [.w, .no] (qB ((k : Int) + 1)) [(1, rV 0 0), (6, sV .i64 l n), (7, uV n), (8, iV (↑k + 1))] ⟨by omega, by omega⟩ ?_
      exact qH ⟨((k + 1) : Nat), ⟨zo, (fun j hj => (Nat.lt_succ_iff_lt_or_eq.1 hj).elim (ha j) (fun e9 => by subst e9; exact decide_eq_true zo))⟩⟩ [] (P := (kQ 0) ∧ (kY (dI .i64 l)) ∧ (kQ n) ∧ (kM (n : Int)) ∧ (((((k + 1) : Nat) : Int) : Int) = ((k : Int) + 1)) ∧ (kY [dl l n])) zk ⟨rfl, rfl, rfl, rfl, (by rfl), rfl⟩ (show n - (k + 1) < n - k from zo)
 ·refine kG [.b false] (¬ ((k : Int) < (n : Int))) [(1, rV 0 0), (6, sV .i64 l n), (7, uV n), (8, uV k), (9, bV false)] [(0, some (50, .ds [dl l n]))] 1 zo ?_
  refine AW.seq ?_
  refine zf ?_
  refine AW.exit ?_
  by_cases hx10 : (((n : Nat) : Int) ≤ 64)
  ·refine kG [.no, .no, .no, .b true, .no] (((n : Int) ≤ 64)) [(2, bV true)] [] 1 zo ?_
   refine AW.ret ?_
   exact kB (.inr rfl) [] (P := ((fF l n) = true)) zk (by exact k25 zo (fun j hj => ha j zo))
  ·have hx11 : 0 ≤ ka0 l ((k - 1) * 2 + 1) 0 ∧ ka0 l ((k - 1) * 2 + 1) 0 ≤ 2147483647 := fH ha zo
   refine kG [.no, .no, .no, .b false, .no] (¬ ((n : Int) ≤ 64)) [(2, bV false)] [] 1 zo ?_
   refine AW.ret ?_
   exact kB (.inr rfl) [] (P := ((fF l n) = false)) zk (by exact k9u zo)
end Go.Proofs.YtdbjebdomdnbkaaGreat
