/- Sets of integers: A. No statement is proved here. -/
import Derived.Test.YtbicifcgghmhaaaGreatZW09
namespace Go.Proofs.YtbicifcgghmhaaaGreat
open Go.ChangeShapes Go.WideShapes Go.ChangeAt Go.RowKit
open List renaming drop → ka3, drop_drop → ke4, getD → ka1, length → ka0
open Nat renaming le_of_ble_eq_true → ka4, not_lt_zero → ke0
set_option linter.unusedVariables false
set_option linter.unusedSimpArgs false
set_option maxHeartbeats 4000000
set_option maxRecDepth 100000
theorem i6 (a b : Int)  : Fun 167 [.agg [iC a, iC b]] (kF []) 0 (uW (D.lit (.bool (decide (0 ≤ a ∧ a ≤ b ∧ b ≤ 2147483647))))) (kF []) 0 := by
 refine Fun.mk (n := 18) Tryz.func167 rfl rfl (ka4 rfl) ?_
 intro cx hcx
 refine kH [.no, .no] True [(1, rV 0 0)] [(0, some (95, .ds [iD a, iD b]))] 1 trivial ?_
 by_cases hx1 : ((0 : Int) ≤ a)
 ·by_cases hx2 : (a ≤ b)
  ·by_cases hx3 : (b ≤ 2147483647)
   ·refine kH (.no :: .no :: .b true :: qE 5 (.b true :: qE 4 [.b true, .no, .no])) ((((0 : Int) ≤ a)) ∧ ((a ≤ b)) ∧ ((b ≤ 2147483647))) [(2, bV true)] [] 1 ⟨zo, zo, zo⟩ ?_
    refine AW.ret ?_
    exact kA (.inr rfl) [] (P := ((decide (0 ≤ a ∧ a ≤ b ∧ b ≤ 2147483647)) = true)) zk (by exact decide_eq_true zo)
   ·refine kH (.no :: .no :: .b true :: qE 5 (.b true :: qE 4 [.b false, .no, .no])) ((((0 : Int) ≤ a)) ∧ ((a ≤ b)) ∧ (¬ (b ≤ 2147483647))) [(2, bV false)] [] 1 ⟨zo, zo, zo⟩ ?_
    refine AW.ret ?_
    exact kA (.inr rfl) [] (P := ((decide (0 ≤ a ∧ a ≤ b ∧ b ≤ 2147483647)) = false)) zk (by exact decide_eq_false zo)
  ·refine kH (.no :: .no :: .b true :: qE 5 (.b false :: qE 4 [])) ((((0 : Int) ≤ a)) ∧ (¬ (a ≤ b))) [(2, bV false)] [] 1 ⟨zo, zo⟩ ?_
   refine AW.ret ?_
   exact kA (.inr rfl) [] (P := ((decide (0 ≤ a ∧ a ≤ b ∧ b ≤ 2147483647)) = false)) zk (by exact decide_eq_false zo)
 ·refine kH (.no :: .no :: .b false :: qE 5 []) (¬ ((0 : Int) ≤ a)) [(2, bV false)] [] 1 zo ?_
  refine AW.ret ?_
  exact kA (.inr rfl) [] (P := ((decide (0 ≤ a ∧ a ≤ b ∧ b ≤ 2147483647)) = false)) zk (by exact decide_eq_false zo)
theorem fZ (l : List Int) (n : Nat) (hl : ka0 l = n * 2) (hb : n ≤ 9223372036854775807) : Fun 155 [.agg [.d (D.sl (dI .i64 l) n)]] (kF []) 0 (uW (D.lit (.bool (eH l n)))) (kF []) 0 := by
 refine Fun.mk (n := 38) Tryz.func155 rfl rfl (ka4 rfl) ?_
 intro cx hcx
 refine kH [.no, .no] True [(1, rV 0 0)] [(0, some (60, .ds [dl l n]))] 1 trivial ?_
 refine AW.seq ?_
 by_cases hx1 : ((64 : Int) < ((n : Nat) : Int))
 ·refine kS [.no, .no, .no, .b true] (((64 : Int) < (n : Int))) [(1, rV 0 0), (8, bV true)] zo ?_
  refine zt ?_
  refine kH [.no] True [(2, bV false)] [] 1 trivial ?_
  refine AW.ret ?_
  exact kA (.inr rfl) [] (P := ((eH l n) = false)) zk (by exact v00 zo)
 ·refine kS [.no, .no, .no, .b false] (¬ ((64 : Int) < (n : Int))) [(1, rV 0 0), (8, bV false)] zo ?_
  refine uO ?_
  refine AW.seq ?_
  refine kS (qE 4 []) True [(1, rV 0 0), (10, sV .i64 l n), (11, uV n), (12, iV 0)] trivial ?_
  refine AW.block ?_
  refine k8 0 hcx (fun (x : {x : Nat // match x with | k => (k ≤ n) ∧ (∀ j, j < k → vaE l j = true)}) => match x with | ⟨k, _⟩ => (⟨[(1, rV 0 0), (10, sV .i64 l n), (11, uV n), (12, uV k)], [(0, some (60, .ds [dl l n]))], 1⟩ : ES)) (fun x => match x with | ⟨k, _⟩ => n - k) ⟨(0 : Nat), ⟨zo, (fun j hj => absurd hj (ke0 j))⟩⟩ [] (P := (kG 0) ∧ (kJ (dI .i64 l)) ∧ (kG n) ∧ (kM (n : Int)) ∧ (kM 0) ∧ (kJ [dl l n])) zk ⟨rfl, rfl, rfl, rfl, rfl, rfl⟩ ?_
  rintro ⟨k, hinv0⟩
  obtain ⟨hk, ha⟩ : (k ≤ n) ∧ (∀ j, j < k → vaE l j = true) := hinv0
  refine qW (l := [(1, rV 0 0), (10, sV .i64 l n), (11, uV n), (12, uV k)]) (g := [(0, some (60, .ds [dl l n]))]) (nx := 1) rfl rfl rfl ?_
  by_cases hx2 : (((k : Nat) : Int) < ((n : Nat) : Int))
  ·refine kH [.b true] (((k : Int) < (n : Int))) [(1, rV 0 0), (10, sV .i64 l n), (11, uV n), (12, uV k), (13, bV true)] [(0, some (60, .ds [dl l n]))] 1 zo ?_
   refine AW.seq ?_
   refine vL ?_
   refine AW.seq ?_
   refine AW.block ?_
   refine kH [.no, .n k, .ds [iD (ka1 l (k * 2) 0), iD (ka1 l ((k * 2) + 1) 0)], .no, .no, .no] ((kM (k : Int)) ∧ (k < n) ∧ (List.take 2 (ka3 (k * 2) (dI .i64 l)) = [iD (ka1 l (k * 2) 0), iD (ka1 l ((k * 2) + 1) 0)]) ∧ (([iD (ka1 l (k * 2) 0), iD (ka1 l ((k * 2) + 1) 0)] : List D).length = 2)) [(1, rV 0 0), (3, uV k), (4, rV 1 0), (10, sV .i64 l n), (11, uV n), (12, uV k)] [(0, some (60, .ds [dl l n])), (1, some (95, .ds [iD (ka1 l (k * 2) 0), iD (ka1 l ((k * 2) + 1) 0)]))] 2 ⟨rfl, zo, (bP .i64 l (k * 2) 2 zo), rfl⟩ ?_
   rcases Bool.eq_false_or_eq_true (decide (0 ≤ (ka1 l (k * 2) 0) ∧ (ka1 l (k * 2) 0) ≤ (ka1 l ((k * 2) + 1) 0) ∧ (ka1 l ((k * 2) + 1) 0) ≤ 2147483647)) with hx3 | hx3
   ·have hx4 : (((0 : Int) ≤ (ka1 l (k * 2) 0)) ∧ (((ka1 l (k * 2) 0) ≤ (ka1 l ((k * 2) + 1) 0)) ∧ ((ka1 l ((k * 2) + 1) 0) ≤ 2147483647))) := of_decide_eq_true hx3
    by_cases hx5 : ((0 : Int) < ((k : Nat) : Int))
    ·by_cases hx7 : ((ka1 l (k * 2) 0) ≤ ((ka1 l (((k - 1) * 2) + 1) 0) + 1))
     ·have hx8 : 0 ≤ ka1 l ((k - 1) * 2 + 1) 0 ∧ ka1 l ((k - 1) * 2 + 1) 0 ≤ 2147483647 := k18 ha zo
      refine kH (.no :: .call [] (bV true) [] 0 [] none :: .no :: .no :: .no :: .b true :: qE 6 [.w, .n (k - 1), .no, .d (D.lit (.int .i64 (ka1 l (((k - 1) * 2) + 1) 0))), .w, .b true, .no, .no]) ((Fun 167 [.agg [iC (ka1 l (k * 2) 0), iC (ka1 l ((k * 2) + 1) 0)]] (kF []) 0 (bV true) (kF []) 0) ∧ (((0 : Int) < (k : Int))) ∧ ((-9223372036854775808) ≤ ((k : Int) - 1) ∧ ((k : Int) - 1) ≤ 9223372036854775807) ∧ ((((k : Int) - 1) : Int) = (((k - 1) : Nat) : Int)) ∧ ((k - 1) < n) ∧ ((ka3 1 (ka3 ((k - 1) * 2) (dI .i64 l)))[0]? = some (D.lit (.int .i64 (ka1 l (((k - 1) * 2) + 1) 0)))) ∧ ((-9223372036854775808) ≤ ((ka1 l (((k - 1) * 2) + 1) 0) + 1) ∧ ((ka1 l (((k - 1) * 2) + 1) 0) + 1) ≤ 9223372036854775807) ∧ (((ka1 l (k * 2) 0) ≤ ((ka1 l (((k - 1) * 2) + 1) 0) + 1)))) [(1, rV 0 0), (10, sV .i64 l n), (11, uV n), (12, uV k), (36, bV true)] [(0, some (60, .ds [dl l n]))] 2 ⟨(by have h0 := (i6 (ka1 l (k * 2) 0) (ka1 l ((k * 2) + 1) 0)); rw [hx3] at h0; exact h0), zo, ⟨by omega, by omega⟩, zo, zo, (by (rw [ke4]; exact yF _ _ _ zo)), ⟨by omega, by omega⟩, zo⟩ ?_
      refine zt ?_
      refine kH [.no] True [(2, bV false)] [] 2 trivial ?_
      refine AW.ret ?_
      exact kA (.inr rfl) [] (P := ((eH l n) = false)) zk (by exact u47 (k := k) zo (decide_eq_false zo))
     ·have hx9 : 0 ≤ ka1 l ((k - 1) * 2 + 1) 0 ∧ ka1 l ((k - 1) * 2 + 1) 0 ≤ 2147483647 := k18 ha zo
      refine kH (.no :: .call [] (bV true) [] 0 [] none :: .no :: .no :: .no :: .b true :: qE 6 [.w, .n (k - 1), .no, .d (D.lit (.int .i64 (ka1 l (((k - 1) * 2) + 1) 0))), .w, .b false, .no, .no]) ((Fun 167 [.agg [iC (ka1 l (k * 2) 0), iC (ka1 l ((k * 2) + 1) 0)]] (kF []) 0 (bV true) (kF []) 0) ∧ (((0 : Int) < (k : Int))) ∧ ((-9223372036854775808) ≤ ((k : Int) - 1) ∧ ((k : Int) - 1) ≤ 9223372036854775807) ∧ ((((k : Int) - 1) : Int) = (((k - 1) : Nat) : Int)) ∧ ((k - 1) < n) ∧ ((ka3 1 (ka3 ((k - 1) * 2) (dI .i64 l)))[0]? = some (D.lit (.int .i64 (ka1 l (((k - 1) * 2) + 1) 0)))) ∧ ((-9223372036854775808) ≤ ((ka1 l (((k - 1) * 2) + 1) 0) + 1) ∧ ((ka1 l (((k - 1) * 2) + 1) 0) + 1) ≤ 9223372036854775807) ∧ (¬ ((ka1 l (k * 2) 0) ≤ ((ka1 l (((k - 1) * 2) + 1) 0) + 1)))) [(1, rV 0 0), (10, sV .i64 l n), (11, uV n), (12, uV k), (36, bV false)] [(0, some (60, .ds [dl l n]))] 2 ⟨(by have h0 := (i6 (ka1 l (k * 2) 0) (ka1 l ((k * 2) + 1) 0)); rw [hx3] at h0; exact h0), zo, ⟨by omega, by omega⟩, zo, zo, (by (rw [ke4]; exact yF _ _ _ zo)), ⟨by omega, by omega⟩, zo⟩ ?_
      refine uO ?_
      refine yA [.w, .no] ((-9223372036854775808) ≤ ((k : Int) + 1) ∧ ((k : Int) + 1) ≤ 9223372036854775807) [(1, rV 0 0), (10, sV .i64 l n), (11, uV n), (12, iV (↑k + 1))] ⟨by omega, by omega⟩ ?_
      exact kW ⟨((k + 1) : Nat), ⟨zo, (fun j hj => (Nat.lt_succ_iff_lt_or_eq.1 hj).elim (ha j) (fun e9 => by subst e9; exact decide_eq_true zo))⟩⟩ [] (P := (kG 0) ∧ (kJ (dI .i64 l)) ∧ (kG n) ∧ (kM (n : Int)) ∧ (((((k + 1) : Nat) : Int) : Int) = ((k : Int) + 1)) ∧ (kJ [dl l n])) zk ⟨rfl, rfl, rfl, rfl, (by rfl), rfl⟩ (show n - (k + 1) < n - k from zo)
    ·refine kH [.no, .call [] (bV true) [] 0 [] none, .no, .no, .no, .b false, .no, .no, .no] ((Fun 167 [.agg [iC (ka1 l (k * 2) 0), iC (ka1 l ((k * 2) + 1) 0)]] (kF []) 0 (bV true) (kF []) 0) ∧ (¬ ((0 : Int) < (k : Int)))) [(1, rV 0 0), (10, sV .i64 l n), (11, uV n), (12, uV k), (36, bV false)] [(0, some (60, .ds [dl l n]))] 2 ⟨(by have h0 := (i6 (ka1 l (k * 2) 0) (ka1 l ((k * 2) + 1) 0)); rw [hx3] at h0; exact h0), zo⟩ ?_
     refine uO ?_
     refine yA [.w, .no] ((-9223372036854775808) ≤ ((k : Int) + 1) ∧ ((k : Int) + 1) ≤ 9223372036854775807) [(1, rV 0 0), (10, sV .i64 l n), (11, uV n), (12, iV (↑k + 1))] ⟨by omega, by omega⟩ ?_
     exact kW ⟨((k + 1) : Nat), ⟨zo, (fun j hj => (Nat.lt_succ_iff_lt_or_eq.1 hj).elim (ha j) (fun e9 => by subst e9; exact decide_eq_true zo))⟩⟩ [] (P := (kG 0) ∧ (kJ (dI .i64 l)) ∧ (kG n) ∧ (kM (n : Int)) ∧ (((((k + 1) : Nat) : Int) : Int) = ((k : Int) + 1)) ∧ (kJ [dl l n])) zk ⟨rfl, rfl, rfl, rfl, (by rfl), rfl⟩ (show n - (k + 1) < n - k from zo)
   ·have hx10 : ¬ (((0 : Int) ≤ (ka1 l (k * 2) 0)) ∧ (((ka1 l (k * 2) 0) ≤ (ka1 l ((k * 2) + 1) 0)) ∧ ((ka1 l ((k * 2) + 1) 0) ≤ 2147483647))) := of_decide_eq_false hx3
    refine kH [.no, .call [] (bV false) [] 0 [] none, .no, .no, .no] (Fun 167 [.agg [iC (ka1 l (k * 2) 0), iC (ka1 l ((k * 2) + 1) 0)]] (kF []) 0 (bV false) (kF []) 0) [(1, rV 0 0), (10, sV .i64 l n), (11, uV n), (12, uV k), (36, bV true)] [(0, some (60, .ds [dl l n]))] 2 (by have h0 := (i6 (ka1 l (k * 2) 0) (ka1 l ((k * 2) + 1) 0)); rw [hx3] at h0; exact h0) ?_
    refine zt ?_
    refine kH [.no] True [(2, bV false)] [] 2 trivial ?_
    refine AW.ret ?_
    exact kA (.inr rfl) [] (P := ((eH l n) = false)) zk (by exact u47 (k := k) zo (decide_eq_false zo))
  ·refine kH [.b false] (¬ ((k : Int) < (n : Int))) [(1, rV 0 0), (10, sV .i64 l n), (11, uV n), (12, uV k), (13, bV false)] [(0, some (60, .ds [dl l n]))] 1 zo ?_
   refine AW.seq ?_
   refine zf ?_
   refine AW.exit ?_
   refine kH [.no] True [(2, bV true)] [] 1 trivial ?_
   refine AW.ret ?_
   exact kA (.inr rfl) [] (P := ((eH l n) = true)) zk (by exact k54 zo (fun j hj => ha j zo))
theorem fY (l : List Int) (n : Nat) (hl : ka0 l = n * 2) (hb : n ≤ 9223372036854775807) : Fun 147 [.agg [.d (D.sl (dI .i64 l) n)]] (kF []) 0 (sV .i64 (kB l n) (kZ l n)) (kF []) 0 := by
 refine Fun.mk (n := 8) Tryz.func147 rfl rfl (ka4 rfl) ?_
 intro cx hcx
 refine kH [.no, .no] True [(1, rV 0 0)] [(0, some (60, .ds [dl l n]))] 1 trivial ?_
 refine AW.seq ?_
 rcases Bool.eq_false_or_eq_true (eH l n) with hx1 | hx1
 ·refine kS [.no, .call [] (bV true) [] 0 [] none, .no] (Fun 155 [.agg [.d (dl l n)]] (kF []) 0 (bV true) (kF []) 0) [(1, rV 0 0), (5, bV false)] (by have h0 := (fZ l n zo zo); rw [hx1] at h0; exact h0) ?_
  refine uO ?_
  refine kH [.no, .no, .no] True [(2, sV .i64 l n)] [] 1 trivial ?_
  obtain ⟨hz1, hz2⟩ := n7 hx1
  refine AW.ret ?_
  exact kA (.inr rfl) [] (P := (((dI .i64 (kB l n)) : List D) = (dI .i64 l)) ∧ (((kZ l n) : Nat) = n)) zk ⟨(by (rw [hz1]; done)), zo⟩
 ·refine kS [.no, .call [] (bV false) [] 0 [] none, .no] (Fun 155 [.agg [.d (dl l n)]] (kF []) 0 (bV false) (kF []) 0) [(1, rV 0 0), (5, bV true)] (by have h0 := (fZ l n zo zo); rw [hx1] at h0; exact h0) ?_
  refine zt ?_
  refine kH [.no] True [(2, nV)] [] 1 trivial ?_
  obtain ⟨hz1, hz2⟩ := v08 hx1
  refine y6 (l' := [(2, qC ([] : List D) 0)]) (g' := []) (NlS.cons rfl (.e (.c .nil)) NlS.nil) NlG.nil ?_
  refine AW.ret ?_
  exact kA (.inr rfl) [] (P := (((dI .i64 (kB l n)) : List D) = ([] : List D)) ∧ (((kZ l n) : Nat) = 0)) zk ⟨(by (rw [hz1]; rfl)), zo⟩
theorem pY (l : List Int) (n : Nat) (z : Int) (hl : ka0 l = n * 2) (hb : n ≤ 9223372036854775807) : Fun 125 [.agg [.d (D.sl (dI .i64 l) n)], iE z] (kF []) 0 (uW (D.lit (.bool (bA (kB l n) z)))) (kF []) 0 := by
 refine Fun.mk (n := 25) Tryz.func125 rfl rfl (ka4 rfl) ?_
 intro cx hcx
 refine kH [.no, .no] True [(1, iV z), (2, rV 0 0)] [(0, some (60, .ds [dl l n]))] 1 trivial ?_
 refine AW.seq ?_
 have hx1 : ((ka0 (kB l n)) = ((kZ l n) * 2)) := qR (zo)
 have hx2 : (((kZ l n) ≤ 64) ∧ ((kZ l n) ≤ n)) := j8
 refine kH [.no, .call [] (sV .i64 (kB l n) (kZ l n)) [] 0 [] none, .no, .no] _ [(1, iV z), (8, sV .i64 (kB l n) (kZ l n)), (9, uV (kZ l n)), (10, iV 0)] [] 1 (fY l n zo zo) ?_
 refine AW.block ?_
 refine k8 0 hcx (fun (x : {x : Nat // match x with | k => (k ≤ kZ l n) ∧ (∀ j, j < k → ¬ (ka1 (kB l n) (j * 2) 0 ≤ z ∧ z ≤ ka1 (kB l n) (j * 2 + 1) 0))}) => match x with | ⟨k, _⟩ => (⟨[(1, iV z), (8, sV .i64 (kB l n) (kZ l n)), (9, uV (kZ l n)), (10, uV k)], [], 1⟩ : ES)) (fun x => match x with | ⟨k, _⟩ => kZ l n - k) ⟨(0 : Nat), ⟨zo, (fun j hj => absurd hj (ke0 j))⟩⟩ [] (P := (kM z) ∧ (kJ (dI .i64 (kB l n))) ∧ (kG (kZ l n)) ∧ (kM (kZ l n : Int)) ∧ (kM 0)) zk ⟨rfl, rfl, rfl, rfl, rfl⟩ ?_
 rintro ⟨k, hinv0⟩
 obtain ⟨hk, ha⟩ : (k ≤ kZ l n) ∧ (∀ j, j < k → ¬ (ka1 (kB l n) (j * 2) 0 ≤ z ∧ z ≤ ka1 (kB l n) (j * 2 + 1) 0)) := hinv0
 refine qW (l := [(1, iV z), (8, sV .i64 (kB l n) (kZ l n)), (9, uV (kZ l n)), (10, uV k)]) (g := []) (nx := 1) rfl rfl rfl ?_
 by_cases hx3 : (((k : Nat) : Int) < (((kZ l n) : Nat) : Int))
 ·refine kH [.b true] (((k : Int) < (kZ l n : Int))) [(1, iV z), (8, sV .i64 (kB l n) (kZ l n)), (9, uV (kZ l n)), (10, uV k), (11, bV true)] [] 1 zo ?_
  refine AW.seq ?_
  refine vL ?_
  refine AW.seq ?_
  refine AW.block ?_
  refine kH [.n k, .ds [iD (ka1 (kB l n) (k * 2) 0), iD (ka1 (kB l n) ((k * 2) + 1) 0)], .no, .no] ((kM (k : Int)) ∧ (k < (kZ l n)) ∧ (List.take 2 (ka3 (k * 2) (dI .i64 (kB l n))) = [iD (ka1 (kB l n) (k * 2) 0), iD (ka1 (kB l n) ((k * 2) + 1) 0)]) ∧ (([iD (ka1 (kB l n) (k * 2) 0), iD (ka1 (kB l n) ((k * 2) + 1) 0)] : List D).length = 2)) [(1, iV z), (6, rV 1 0), (8, sV .i64 (kB l n) (kZ l n)), (9, uV (kZ l n)), (10, uV k)] [(1, some (95, .ds [iD (ka1 (kB l n) (k * 2) 0), iD (ka1 (kB l n) ((k * 2) + 1) 0)]))] 2 ⟨rfl, zo, (bP .i64 (kB l n) (k * 2) 2 zo), rfl⟩ ?_
  by_cases hx4 : ((ka1 (kB l n) (k * 2) 0) ≤ z)
  ·by_cases hx5 : (z ≤ (ka1 (kB l n) ((k * 2) + 1) 0))
   ·refine kH (.no :: .no :: .no :: .b true :: qE 4 [.b true, .no]) ((((ka1 (kB l n) (k * 2) 0) ≤ z)) ∧ ((z ≤ (ka1 (kB l n) ((k * 2) + 1) 0)))) [(1, iV z), (8, sV .i64 (kB l n) (kZ l n)), (9, uV (kZ l n)), (10, uV k), (23, bV true)] [] 2 ⟨zo, zo⟩ ?_
    refine zt ?_
    refine kS [.no] True [(4, bV true)] trivial ?_
    refine AW.ret ?_
    exact kA (.inr rfl) [] (P := ((bA (kB l n) z) = true)) zk (by exact u2j (k := k) (qR hl) zo zo)
   ·refine kH (.no :: .no :: .no :: .b true :: qE 4 [.b false, .no]) ((((ka1 (kB l n) (k * 2) 0) ≤ z)) ∧ (¬ (z ≤ (ka1 (kB l n) ((k * 2) + 1) 0)))) [(1, iV z), (8, sV .i64 (kB l n) (kZ l n)), (9, uV (kZ l n)), (10, uV k), (23, bV false)] [] 2 ⟨zo, zo⟩ ?_
    refine uO ?_
    refine yA [.w, .no] ((-9223372036854775808) ≤ ((k : Int) + 1) ∧ ((k : Int) + 1) ≤ 9223372036854775807) [(1, iV z), (8, sV .i64 (kB l n) (kZ l n)), (9, uV (kZ l n)), (10, iV (↑k + 1))] ⟨by omega, by omega⟩ ?_
    exact kW ⟨((k + 1) : Nat), ⟨zo, (fun j hj => (Nat.lt_succ_iff_lt_or_eq.1 hj).elim (ha j) (fun e9 => by subst e9; omega))⟩⟩ [] (P := (kM z) ∧ (kJ (dI .i64 (kB l n))) ∧ (kG (kZ l n)) ∧ (kM (kZ l n : Int)) ∧ (((((k + 1) : Nat) : Int) : Int) = ((k : Int) + 1))) zk ⟨rfl, rfl, rfl, rfl, (by rfl)⟩ (show kZ l n - (k + 1) < kZ l n - k from zo)
  ·refine kH [.no, .no, .no, .b false, .no, .no] (¬ ((ka1 (kB l n) (k * 2) 0) ≤ z)) [(1, iV z), (8, sV .i64 (kB l n) (kZ l n)), (9, uV (kZ l n)), (10, uV k), (23, bV false)] [] 2 zo ?_
   refine uO ?_
   refine yA [.w, .no] ((-9223372036854775808) ≤ ((k : Int) + 1) ∧ ((k : Int) + 1) ≤ 9223372036854775807) [(1, iV z), (8, sV .i64 (kB l n) (kZ l n)), (9, uV (kZ l n)), (10, iV (↑k + 1))] ⟨by omega, by omega⟩ ?_
   exact kW ⟨((k + 1) : Nat), ⟨zo, (fun j hj => (Nat.lt_succ_iff_lt_or_eq.1 hj).elim (ha j) (fun e9 => by subst e9; omega))⟩⟩ [] (P := (kM z) ∧ (kJ (dI .i64 (kB l n))) ∧ (kG (kZ l n)) ∧ (kM (kZ l n : Int)) ∧ (((((k + 1) : Nat) : Int) : Int) = ((k : Int) + 1))) zk ⟨rfl, rfl, rfl, rfl, (by rfl)⟩ (show kZ l n - (k + 1) < kZ l n - k from zo)
 ·refine kH [.b false] (¬ ((k : Int) < (kZ l n : Int))) [(1, iV z), (8, sV .i64 (kB l n) (kZ l n)), (9, uV (kZ l n)), (10, uV k), (11, bV false)] [] 1 zo ?_
  refine AW.seq ?_
  refine zf ?_
  refine AW.exit ?_
  refine kH [.no] True [(4, bV false)] [] 1 trivial ?_
  refine AW.ret ?_
  exact kA (.inr rfl) [] (P := ((bA (kB l n) z) = false)) zk (by exact v5r (qR hl) (fun j hj => ha j zo))
end Go.Proofs.YtbicifcgghmhaaaGreat
