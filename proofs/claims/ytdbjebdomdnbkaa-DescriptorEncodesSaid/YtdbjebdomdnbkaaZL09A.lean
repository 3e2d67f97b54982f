/- Sets of integers: A. No statement is proved here. -/
import Derived.Test.YtdbjebdomdnbkaaZW09
namespace Go.Proofs.Ytdbjebdomdnbkaa
open Go.ChangeShapes Go.WideShapes Go.ChangeAt Go.RowKit
open List renaming drop → ka7, drop_drop → kf6, getD → ka0, length_append → ka3, length_cons → kb1, length_drop → kb2, length_map → kc3, length_nil → kb5, length_replicate → kb6, length_reverse → kc7, length_set → kc2, length_take → kb3
open Nat renaming le_of_ble_eq_true → ka4, mul_one → kc6, not_lt_zero → kd7
set_option linter.unusedVariables false
set_option linter.unusedSimpArgs false
set_option maxHeartbeats 4000000
set_option maxRecDepth 100000
theorem oU {p : Prop} (h : p := by first | rfl | assumption | exact decide_eq_true (by omega) | exact decide_eq_false (by omega) | (simp; omega)) : p := h
theorem g7 (a b : Int)  : Fun 86 [.agg [iC a, iC b]] (kF []) 0 (kS (D.lit (.bool (decide (0 ≤ a ∧ a ≤ b ∧ b ≤ 2147483647))))) (kF []) 0 := by
 refine Fun.mk (n := 18) Try.func86 rfl rfl (ka4 rfl) ?_
 intro cx hcx
 refine kI [.no, .no] True [(1, rV 0 0)] [(0, some (84, .ds [iD a, iD b]))] 1 trivial ?_
 by_cases hx1 : ((0 : Int) ≤ a)
 ·by_cases hx2 : (a ≤ b)
  ·by_cases hx3 : (b ≤ 2147483647)
   ·refine kI (.no :: .no :: .b true :: kJ 5 (.b true :: kJ 4 [.b true, .no, .no])) ((((0 : Int) ≤ a)) ∧ ((a ≤ b)) ∧ ((b ≤ 2147483647))) [(2, bV true)] [] 1 ⟨zo, zo, zo⟩ ?_
    refine AW.ret ?_
    exact kC (.inr rfl) [] (P := ((decide (0 ≤ a ∧ a ≤ b ∧ b ≤ 2147483647)) = true)) zk oU
   ·refine kI (.no :: .no :: .b true :: kJ 5 (.b true :: kJ 4 [.b false, .no, .no])) ((((0 : Int) ≤ a)) ∧ ((a ≤ b)) ∧ (¬ (b ≤ 2147483647))) [(2, bV false)] [] 1 ⟨zo, zo, zo⟩ ?_
    refine AW.ret ?_
    exact kC (.inr rfl) [] (P := ((decide (0 ≤ a ∧ a ≤ b ∧ b ≤ 2147483647)) = false)) zk oU
  ·refine kI (.no :: .no :: .b true :: kJ 5 (.b false :: kJ 4 [])) ((((0 : Int) ≤ a)) ∧ (¬ (a ≤ b))) [(2, bV false)] [] 1 ⟨zo, zo⟩ ?_
   refine AW.ret ?_
   exact kC (.inr rfl) [] (P := ((decide (0 ≤ a ∧ a ≤ b ∧ b ≤ 2147483647)) = false)) zk oU
 ·refine kI (.no :: .no :: .b false :: kJ 5 []) (¬ ((0 : Int) ≤ a)) [(2, bV false)] [] 1 zo ?_
  refine AW.ret ?_
  exact kC (.inr rfl) [] (P := ((decide (0 ≤ a ∧ a ≤ b ∧ b ≤ 2147483647)) = false)) zk oU
theorem hY {p : Prop} (h : p := by first | omega | assumption | simp) : p := h
theorem k2i {p : Prop} (h : p := by first | omega | (simp only [u2, qM, ka3, kb1, kb5, kb3, kb2, kb6, kc2, kc3, kc7, kc6] <;> omega) | rfl) : p := h
theorem oW {p : Prop} (h : p := by first | (rw [kf6]; exact qW _ _ _ (by first | omega | (simp only [u2, qM, ka3, kb1, kb5, kb3, kb2, kb6, kc2, kc3, kc7, kc6] <;> omega) | rfl)) | (rw [kf6, Nat.add_comm]; exact qW _ _ _ (by first | omega | (simp only [u2, qM, ka3, kb1, kb5, kb3, kb2, kb6, kc2, kc3, kc7, kc6] <;> omega) | rfl))) : p := h
theorem oT {p : Prop} (h : p := by first | rfl | omega | assumption | (simp; done) | (simp; omega)) : p := h
theorem j0 (l : List Int) (n : Nat) (hl : List.length l = n * 2) (hb : n ≤ 9223372036854775807) : Fun 75 [.agg [.d (D.sl (dI .i64 l) n)]] (kF []) 0 (kS (D.lit (.bool (f6 l n)))) (kF []) 0 := by
 refine Fun.mk (n := 38) Try.func75 rfl rfl (ka4 rfl) ?_
 intro cx hcx
 refine kI [.no, .no] True [(1, rV 0 0)] [(0, some (44, .ds [dl l n]))] 1 trivial ?_
 refine AW.seq ?_
 by_cases hx1 : ((64 : Int) < ((n : Nat) : Int))
 ·refine k8 [.no, .no, .no, .b true] (((64 : Int) < (n : Int))) [(1, rV 0 0), (8, bV true)] zo ?_
  refine zt ?_
  refine kI [.no] True [(2, bV false)] [] 1 trivial ?_
  refine AW.ret ?_
  exact kC (.inr rfl) [] (P := ((f6 l n) = false)) zk (by first | exact d9 zo (fun j hj => ha j zo) | exact fJ zo | exact fI (k := k) zo (decide_eq_false zo))
 ·refine k8 [.no, .no, .no, .b false] (¬ ((64 : Int) < (n : Int))) [(1, rV 0 0), (8, bV false)] zo ?_
  refine yC ?_
  refine AW.seq ?_
  refine k8 (kJ 4 []) True [(1, rV 0 0), (10, sV .i64 l n), (11, uV n), (12, iV 0)] trivial ?_
  refine AW.block ?_
  refine kX 0 hcx (fun (x : {x : Nat // match x with | k => (k ≤ n) ∧ (∀ j, j < k → vaE l j = true)}) => match x with | ⟨k, _⟩ => (⟨[(1, rV 0 0), (10, sV .i64 l n), (11, uV n), (12, uV k)], [(0, some (44, .ds [dl l n]))], 1⟩ : ES)) (fun x => match x with | ⟨k, _⟩ => n - k) ⟨(0 : Nat), ⟨hY, (fun j hj => absurd hj (kd7 j))⟩⟩ [] (P := (kP 0) ∧ (kZ (dI .i64 l)) ∧ (kP n) ∧ (kN (n : Int)) ∧ (kN 0) ∧ (kZ [dl l n])) zk ⟨rfl, rfl, rfl, rfl, rfl, rfl⟩ ?_
  rintro ⟨k, hinv0⟩
  obtain ⟨hk, ha⟩ : (k ≤ n) ∧ (∀ j, j < k → vaE l j = true) := hinv0
  refine qU (l := [(1, rV 0 0), (10, sV .i64 l n), (11, uV n), (12, uV k)]) (g := [(0, some (44, .ds [dl l n]))]) (nx := 1) rfl rfl rfl ?_
  by_cases hx2 : (((k : Nat) : Int) < ((n : Nat) : Int))
  ·refine kI [.b true] (((k : Int) < (n : Int))) [(1, rV 0 0), (10, sV .i64 l n), (11, uV n), (12, uV k), (13, bV true)] [(0, some (44, .ds [dl l n]))] 1 zo ?_
   refine AW.seq ?_
   refine vD ?_
   refine AW.seq ?_
   refine AW.block ?_
   refine kI [.no, .n k, .ds [iD (ka0 l (k * 2) 0), iD (ka0 l ((k * 2) + 1) 0)], .no, .no, .no] ((kN (k : Int)) ∧ (k < n) ∧ (List.take 2 (ka7 (k * 2) (dI .i64 l)) = [iD (ka0 l (k * 2) 0), iD (ka0 l ((k * 2) + 1) 0)]) ∧ (([iD (ka0 l (k * 2) 0), iD (ka0 l ((k * 2) + 1) 0)] : List D).length = 2)) [(1, rV 0 0), (3, uV k), (4, rV 1 0), (10, sV .i64 l n), (11, uV n), (12, uV k)] [(0, some (44, .ds [dl l n])), (1, some (84, .ds [iD (ka0 l (k * 2) 0), iD (ka0 l ((k * 2) + 1) 0)]))] 2 ⟨rfl, zo, (dG .i64 l (k * 2) 2 k2i), rfl⟩ ?_
   rcases Bool.eq_false_or_eq_true (decide (0 ≤ (ka0 l (k * 2) 0) ∧ (ka0 l (k * 2) 0) ≤ (ka0 l ((k * 2) + 1) 0) ∧ (ka0 l ((k * 2) + 1) 0) ≤ 2147483647)) with hx3 | hx3
   ·have hx4 : (((0 : Int) ≤ (ka0 l (k * 2) 0)) ∧ (((ka0 l (k * 2) 0) ≤ (ka0 l ((k * 2) + 1) 0)) ∧ ((ka0 l ((k * 2) + 1) 0) ≤ 2147483647))) := of_decide_eq_true hx3
    by_cases hx5 : ((0 : Int) < ((k : Nat) : Int))
    ·by_cases hx7 : ((ka0 l (k * 2) 0) ≤ ((ka0 l (((k - 1) * 2) + 1) 0) + 1))
     ·have hx8 : 0 ≤ ka0 l ((k - 1) * 2 + 1) 0 ∧ ka0 l ((k - 1) * 2 + 1) 0 ≤ 2147483647 := gC ha zo
      refine kI (.no :: .call [] (bV true) [] 0 [] none :: .no :: .no :: .no :: .b true :: kJ 6 [.w, .n (k - 1), .no, .d (D.lit (.int .i64 (ka0 l (((k - 1) * 2) + 1) 0))), .w, .b true, .no, .no]) ((Fun 86 [.agg [iC (ka0 l (k * 2) 0), iC (ka0 l ((k * 2) + 1) 0)]] (kF []) 0 (bV true) (kF []) 0) ∧ (((0 : Int) < (k : Int))) ∧ (qJ ((k : Int) - 1)) ∧ ((((k : Int) - 1) : Int) = (((k - 1) : Nat) : Int)) ∧ ((k - 1) < n) ∧ ((ka7 1 (ka7 ((k - 1) * 2) (dI .i64 l)))[0]? = some (D.lit (.int .i64 (ka0 l (((k - 1) * 2) + 1) 0)))) ∧ ((-9223372036854775808) ≤ ((ka0 l (((k - 1) * 2) + 1) 0) + 1) ∧ ((ka0 l (((k - 1) * 2) + 1) 0) + 1) ≤ 9223372036854775807) ∧ (((ka0 l (k * 2) 0) ≤ ((ka0 l (((k - 1) * 2) + 1) 0) + 1)))) [(1, rV 0 0), (10, sV .i64 l n), (11, uV n), (12, uV k), (36, bV true)] [(0, some (44, .ds [dl l n]))] 2 ⟨(by have h0 := (g7 (ka0 l (k * 2) 0) (ka0 l ((k * 2) + 1) 0)); rw [hx3] at h0; exact h0), zo, ⟨by omega, by omega⟩, (by first | rfl | omega), zo, oW, ⟨by omega, by omega⟩, zo⟩ ?_
      refine zt ?_
      refine kI [.no] True [(2, bV false)] [] 2 trivial ?_
      refine AW.ret ?_
      exact kC (.inr rfl) [] (P := ((f6 l n) = false)) zk (by first | exact d9 zo (fun j hj => ha j zo) | exact fJ zo | exact fI (k := k) zo (decide_eq_false zo))
     ·have hx9 : 0 ≤ ka0 l ((k - 1) * 2 + 1) 0 ∧ ka0 l ((k - 1) * 2 + 1) 0 ≤ 2147483647 := gC ha zo
      refine kI (.no :: .call [] (bV true) [] 0 [] none :: .no :: .no :: .no :: .b true :: kJ 6 [.w, .n (k - 1), .no, .d (D.lit (.int .i64 (ka0 l (((k - 1) * 2) + 1) 0))), .w, .b false, .no, .no]) ((Fun 86 [.agg [iC (ka0 l (k * 2) 0), iC (ka0 l ((k * 2) + 1) 0)]] (kF []) 0 (bV true) (kF []) 0) ∧ (((0 : Int) < (k : Int))) ∧ (qJ ((k : Int) - 1)) ∧ ((((k : Int) - 1) : Int) = (((k - 1) : Nat) : Int)) ∧ ((k - 1) < n) ∧ ((ka7 1 (ka7 ((k - 1) * 2) (dI .i64 l)))[0]? = some (D.lit (.int .i64 (ka0 l (((k - 1) * 2) + 1) 0)))) ∧ ((-9223372036854775808) ≤ ((ka0 l (((k - 1) * 2) + 1) 0) + 1) ∧ ((ka0 l (((k - 1) * 2) + 1) 0) + 1) ≤ 9223372036854775807) ∧ (¬ ((ka0 l (k * 2) 0) ≤ ((ka0 l (((k - 1) * 2) + 1) 0) + 1)))) [(1, rV 0 0), (10, sV .i64 l n), (11, uV n), (12, uV k), (36, bV false)] [(0, some (44, .ds [dl l n]))] 2 ⟨(by have h0 := (g7 (ka0 l (k * 2) 0) (ka0 l ((k * 2) + 1) 0)); rw [hx3] at h0; exact h0), zo, ⟨by omega, by omega⟩, (by first | rfl | omega), zo, oW, ⟨by omega, by omega⟩, zo⟩ ?_
      refine yC ?_
      refine yD [.w, .no] (qJ ((k : Int) + 1)) [(1, rV 0 0), (10, sV .i64 l n), (11, uV n), (12, iV (↑k + 1))] ⟨by omega, by omega⟩ ?_
      exact qE ⟨((k + 1) : Nat), ⟨hY, (fun j hj => (Nat.lt_succ_iff_lt_or_eq.1 hj).elim (ha j) (fun e9 => by subst e9; exact decide_eq_true zo))⟩⟩ [] (P := (kP 0) ∧ (kZ (dI .i64 l)) ∧ (kP n) ∧ (kN (n : Int)) ∧ (((((k + 1) : Nat) : Int) : Int) = ((k : Int) + 1)) ∧ (kZ [dl l n])) zk ⟨rfl, rfl, rfl, rfl, oT, rfl⟩ (show n - (k + 1) < n - k from (by first | omega | (show _ < _; simp; omega)))
    ·refine kI [.no, .call [] (bV true) [] 0 [] none, .no, .no, .no, .b false, .no, .no, .no] ((Fun 86 [.agg [iC (ka0 l (k * 2) 0), iC (ka0 l ((k * 2) + 1) 0)]] (kF []) 0 (bV true) (kF []) 0) ∧ (¬ ((0 : Int) < (k : Int)))) [(1, rV 0 0), (10, sV .i64 l n), (11, uV n), (12, uV k), (36, bV false)] [(0, some (44, .ds [dl l n]))] 2 ⟨(by have h0 := (g7 (ka0 l (k * 2) 0) (ka0 l ((k * 2) + 1) 0)); rw [hx3] at h0; exact h0), zo⟩ ?_
     refine yC ?_
     refine yD [.w, .no] (qJ ((k : Int) + 1)) [(1, rV 0 0), (10, sV .i64 l n), (11, uV n), (12, iV (↑k + 1))] ⟨by omega, by omega⟩ ?_
     exact qE ⟨((k + 1) : Nat), ⟨hY, (fun j hj => (Nat.lt_succ_iff_lt_or_eq.1 hj).elim (ha j) (fun e9 => by subst e9; exact decide_eq_true zo))⟩⟩ [] (P := (kP 0) ∧ (kZ (dI .i64 l)) ∧ (kP n) ∧ (kN (n : Int)) ∧ (((((k + 1) : Nat) : Int) : Int) = ((k : Int) + 1)) ∧ (kZ [dl l n])) zk ⟨rfl, rfl, rfl, rfl, oT, rfl⟩ (show n - (k + 1) < n - k from (by first | omega | (show _ < _; simp; omega)))
   ·have hx10 : ¬ (((0 : Int) ≤ (ka0 l (k * 2) 0)) ∧ (((ka0 l (k * 2) 0) ≤ (ka0 l ((k * 2) + 1) 0)) ∧ ((ka0 l ((k * 2) + 1) 0) ≤ 2147483647))) := of_decide_eq_false hx3
    refine kI [.no, .call [] (bV false) [] 0 [] none, .no, .no, .no] (Fun 86 [.agg [iC (ka0 l (k * 2) 0), iC (ka0 l ((k * 2) + 1) 0)]] (kF []) 0 (bV false) (kF []) 0) [(1, rV 0 0), (10, sV .i64 l n), (11, uV n), (12, uV k), (36, bV true)] [(0, some (44, .ds [dl l n]))] 2 (by have h0 := (g7 (ka0 l (k * 2) 0) (ka0 l ((k * 2) + 1) 0)); rw [hx3] at h0; exact h0) ?_
    refine zt ?_
    refine kI [.no] True [(2, bV false)] [] 2 trivial ?_
    refine AW.ret ?_
    exact kC (.inr rfl) [] (P := ((f6 l n) = false)) zk (by first | exact d9 zo (fun j hj => ha j zo) | exact fJ zo | exact fI (k := k) zo (decide_eq_false zo))
  ·refine kI [.b false] (¬ ((k : Int) < (n : Int))) [(1, rV 0 0), (10, sV .i64 l n), (11, uV n), (12, uV k), (13, bV false)] [(0, some (44, .ds [dl l n]))] 1 zo ?_
   refine AW.seq ?_
   refine zf ?_
   refine AW.exit ?_
   refine kI [.no] True [(2, bV true)] [] 1 trivial ?_
   refine AW.ret ?_
   exact kC (.inr rfl) [] (P := ((f6 l n) = true)) zk (by first | exact d9 zo (fun j hj => ha j zo) | exact fJ zo | exact fI (k := k) zo (decide_eq_false zo))
theorem eQ (l : List Int) (n : Nat) (hl : List.length l = n * 2) (hb : n ≤ 9223372036854775807) : Fun 80 [.agg [.d (D.sl (dI .i64 l) n)]] (kF []) 0 (kS (D.lit (.bool (f6 l n)))) (kF []) 0 := by
 refine Fun.mk (n := 50) Try.func80 rfl rfl (ka4 rfl) ?_
 intro cx hcx
 refine kI [.no, .no] True [(1, rV 0 0)] [(0, some (44, .ds [dl l n]))] 1 trivial ?_
 refine AW.seq ?_
 refine k8 (kJ 4 []) True [(1, rV 0 0), (6, sV .i64 l n), (7, uV n), (8, iV 0)] trivial ?_
 refine AW.block ?_
 refine kX 0 hcx (fun (x : {x : Nat // match x with | k => (k ≤ n) ∧ (∀ j, j < k → vaE l j = true)}) => match x with | ⟨k, _⟩ => (⟨[(1, rV 0 0), (6, sV .i64 l n), (7, uV n), (8, uV k)], [(0, some (44, .ds [dl l n]))], 1⟩ : ES)) (fun x => match x with | ⟨k, _⟩ => n - k) ⟨(0 : Nat), ⟨hY, (fun j hj => absurd hj (kd7 j))⟩⟩ [] (P := (kP 0) ∧ (kZ (dI .i64 l)) ∧ (kP n) ∧ (kN (n : Int)) ∧ (kN 0) ∧ (kZ [dl l n])) zk ⟨rfl, rfl, rfl, rfl, rfl, rfl⟩ ?_
 rintro ⟨k, hinv0⟩
 obtain ⟨hk, ha⟩ : (k ≤ n) ∧ (∀ j, j < k → vaE l j = true) := hinv0
 refine qU (l := [(1, rV 0 0), (6, sV .i64 l n), (7, uV n), (8, uV k)]) (g := [(0, some (44, .ds [dl l n]))]) (nx := 1) rfl rfl rfl ?_
 by_cases hx1 : (((k : Nat) : Int) < ((n : Nat) : Int))
 ·refine kI [.b true] (((k : Int) < (n : Int))) [(1, rV 0 0), (6, sV .i64 l n), (7, uV n), (8, uV k), (9, bV true)] [(0, some (44, .ds [dl l n]))] 1 zo ?_
  refine AW.seq ?_
  refine vD ?_
  refine AW.seq ?_
  refine AW.block ?_
  refine kI [.no, .n k, .ds [iD (ka0 l (k * 2) 0), iD (ka0 l ((k * 2) + 1) 0)], .no, .no, .no] ((kN (k : Int)) ∧ (k < n) ∧ (List.take 2 (ka7 (k * 2) (dI .i64 l)) = [iD (ka0 l (k * 2) 0), iD (ka0 l ((k * 2) + 1) 0)]) ∧ (([iD (ka0 l (k * 2) 0), iD (ka0 l ((k * 2) + 1) 0)] : List D).length = 2)) [(1, rV 0 0), (3, uV k), (4, rV 1 0), (6, sV .i64 l n), (7, uV n), (8, uV k)] [(0, some (44, .ds [dl l n])), (1, some (84, .ds [iD (ka0 l (k * 2) 0), iD (ka0 l ((k * 2) + 1) 0)]))] 2 ⟨rfl, zo, (dG .i64 l (k * 2) 2 k2i), rfl⟩ ?_
  by_cases hx2 : ((ka0 l (k * 2) 0) < 0)
  ·refine kI (.no :: .no :: .b true :: kJ 6 []) (((ka0 l (k * 2) 0) < 0)) [(1, rV 0 0), (6, sV .i64 l n), (7, uV n), (8, uV k), (44, bV true)] [(0, some (44, .ds [dl l n]))] 2 zo ?_
   refine zt ?_
   refine kI [.no] True [(2, bV false)] [] 2 trivial ?_
   refine AW.ret ?_
   exact kC (.inr rfl) [] (P := ((f6 l n) = false)) zk (by first | exact d9 zo (fun j hj => ha j zo) | exact fJ zo | exact fI (k := k) zo (decide_eq_false zo))
  ·by_cases hx3 : ((ka0 l ((k * 2) + 1) 0) < (ka0 l (k * 2) 0))
   ·refine kI (.no :: .no :: .b false :: kJ 5 (.b true :: kJ 5 [])) ((¬ ((ka0 l (k * 2) 0) < 0)) ∧ (((ka0 l ((k * 2) + 1) 0) < (ka0 l (k * 2) 0)))) [(1, rV 0 0), (6, sV .i64 l n), (7, uV n), (8, uV k), (44, bV true)] [(0, some (44, .ds [dl l n]))] 2 ⟨zo, zo⟩ ?_
    refine zt ?_
    refine kI [.no] True [(2, bV false)] [] 2 trivial ?_
    refine AW.ret ?_
    exact kC (.inr rfl) [] (P := ((f6 l n) = false)) zk (by first | exact d9 zo (fun j hj => ha j zo) | exact fJ zo | exact fI (k := k) zo (decide_eq_false zo))
   ·by_cases hx4 : ((2147483647 : Int) < (ka0 l ((k * 2) + 1) 0))
    ·refine kI (.no :: .no :: .b false :: kJ 5 (.b false :: kJ 4 [.b true, .no, .no, .no])) ((¬ ((ka0 l (k * 2) 0) < 0)) ∧ (¬ ((ka0 l ((k * 2) + 1) 0) < (ka0 l (k * 2) 0))) ∧ (((2147483647 : Int) < (ka0 l ((k * 2) + 1) 0)))) [(1, rV 0 0), (6, sV .i64 l n), (7, uV n), (8, uV k), (44, bV true)] [(0, some (44, .ds [dl l n]))] 2 ⟨zo, zo, zo⟩ ?_
     refine zt ?_
     refine kI [.no] True [(2, bV false)] [] 2 trivial ?_
     refine AW.ret ?_
     exact kC (.inr rfl) [] (P := ((f6 l n) = false)) zk (by first | exact d9 zo (fun j hj => ha j zo) | exact fJ zo | exact fI (k := k) zo (decide_eq_false zo))
    ·by_cases hx5 : ((0 : Int) < ((k : Nat) : Int))
     ·by_cases hx7 : (((ka0 l (k * 2) 0) - 1) ≤ (ka0 l (((k - 1) * 2) + 1) 0))
      ·have hx8 : 0 ≤ ka0 l ((k - 1) * 2 + 1) 0 ∧ ka0 l ((k - 1) * 2 + 1) 0 ≤ 2147483647 := gC ha zo
       refine kI (.no :: .no :: .b false :: kJ 5 (.b false :: kJ 4 [.b false, .no, .no, .no, .b true, .no, .no, .no, .w, .no, .no, .no, .w, .n (k - 1), .no, .d (D.lit (.int .i64 (ka0 l (((k - 1) * 2) + 1) 0))), .b true, .no, .no])) ((¬ ((ka0 l (k * 2) 0) < 0)) ∧ (¬ ((ka0 l ((k * 2) + 1) 0) < (ka0 l (k * 2) 0))) ∧ (¬ ((2147483647 : Int) < (ka0 l ((k * 2) + 1) 0))) ∧ (((0 : Int) < (k : Int))) ∧ (qJ ((ka0 l (k * 2) 0) - 1)) ∧ (qJ ((k : Int) - 1)) ∧ ((((k : Int) - 1) : Int) = (((k - 1) : Nat) : Int)) ∧ ((k - 1) < n) ∧ ((ka7 1 (ka7 ((k - 1) * 2) (dI .i64 l)))[0]? = some (D.lit (.int .i64 (ka0 l (((k - 1) * 2) + 1) 0)))) ∧ ((((ka0 l (k * 2) 0) - 1) ≤ (ka0 l (((k - 1) * 2) + 1) 0)))) [(1, rV 0 0), (6, sV .i64 l n), (7, uV n), (8, uV k), (44, bV true)] [(0, some (44, .ds [dl l n]))] 2 ⟨zo, zo, zo, zo, ⟨by omega, by omega⟩, ⟨by omega, by omega⟩, (by first | rfl | omega), zo, oW, zo⟩ ?_
       refine zt ?_
       refine kI [.no] True [(2, bV false)] [] 2 trivial ?_
       refine AW.ret ?_
       exact kC (.inr rfl) [] (P := ((f6 l n) = false)) zk (by first | exact d9 zo (fun j hj => ha j zo) | exact fJ zo | exact fI (k := k) zo (decide_eq_false zo))
      ·have hx9 : 0 ≤ ka0 l ((k - 1) * 2 + 1) 0 ∧ ka0 l ((k - 1) * 2 + 1) 0 ≤ 2147483647 := gC ha zo
       refine kI (.no :: .no :: .b false :: kJ 5 (.b false :: kJ 4 [.b false, .no, .no, .no, .b true, .no, .no, .no, .w, .no, .no, .no, .w, .n (k - 1), .no, .d (D.lit (.int .i64 (ka0 l (((k - 1) * 2) + 1) 0))), .b false, .no, .no])) ((¬ ((ka0 l (k * 2) 0) < 0)) ∧ (¬ ((ka0 l ((k * 2) + 1) 0) < (ka0 l (k * 2) 0))) ∧ (¬ ((2147483647 : Int) < (ka0 l ((k * 2) + 1) 0))) ∧ (((0 : Int) < (k : Int))) ∧ (qJ ((ka0 l (k * 2) 0) - 1)) ∧ (qJ ((k : Int) - 1)) ∧ ((((k : Int) - 1) : Int) = (((k - 1) : Nat) : Int)) ∧ ((k - 1) < n) ∧ ((ka7 1 (ka7 ((k - 1) * 2) (dI .i64 l)))[0]? = some (D.lit (.int .i64 (ka0 l (((k - 1) * 2) + 1) 0)))) ∧ (¬ (((ka0 l (k * 2) 0) - 1) ≤ (ka0 l (((k - 1) * 2) + 1) 0)))) [(1, rV 0 0), (6, sV .i64 l n), (7, uV n), (8, uV k), (44, bV false)] [(0, some (44, .ds [dl l n]))] 2 ⟨zo, zo, zo, zo, ⟨by omega, by omega⟩, ⟨by omega, by omega⟩, (by first | rfl | omega), zo, oW, zo⟩ ?_
       refine yC ?_
       refine yD [.w, .no] (qJ ((k : Int) + 1)) [(1, rV 0 0), (6, sV .i64 l n), (7, uV n), (8, iV (↑k + 1))] ⟨by omega, by omega⟩ ?_
       exact qE ⟨((k + 1) : Nat), ⟨hY, (fun j hj => (Nat.lt_succ_iff_lt_or_eq.1 hj).elim (ha j) (fun e9 => by subst e9; exact decide_eq_true zo))⟩⟩ [] (P := (kP 0) ∧ (kZ (dI .i64 l)) ∧ (kP n) ∧ (kN (n : Int)) ∧ (((((k + 1) : Nat) : Int) : Int) = ((k : Int) + 1)) ∧ (kZ [dl l n])) zk ⟨rfl, rfl, rfl, rfl, oT, rfl⟩ (show n - (k + 1) < n - k from (by first | omega | (show _ < _; simp; omega)))
     ·refine kI (.no :: .no :: .b false :: kJ 5 (.b false :: kJ 4 [.b false, .no, .no, .no, .b false, .no, .no, .no])) ((¬ ((ka0 l (k * 2) 0) < 0)) ∧ (¬ ((ka0 l ((k * 2) + 1) 0) < (ka0 l (k * 2) 0))) ∧ (¬ ((2147483647 : Int) < (ka0 l ((k * 2) + 1) 0))) ∧ (¬ ((0 : Int) < (k : Int)))) [(1, rV 0 0), (6, sV .i64 l n), (7, uV n), (8, uV k), (44, bV false)] [(0, some (44, .ds [dl l n]))] 2 ⟨zo, zo, zo, zo⟩ ?_
      refine yC ?_
      refine yD [.w, .no] (qJ ((k : Int) + 1)) [(1, rV 0 0), (6, sV .i64 l n), (7, uV n), (8, iV (↑k + 1))] ⟨by omega, by omega⟩ ?_
      exact qE ⟨((k + 1) : Nat), ⟨hY, (fun j hj => (Nat.lt_succ_iff_lt_or_eq.1 hj).elim (ha j) (fun e9 => by subst e9; exact decide_eq_true zo))⟩⟩ [] (P := (kP 0) ∧ (kZ (dI .i64 l)) ∧ (kP n) ∧ (kN (n : Int)) ∧ (((((k + 1) : Nat) : Int) : Int) = ((k : Int) + 1)) ∧ (kZ [dl l n])) zk ⟨rfl, rfl, rfl, rfl, oT, rfl⟩ (show n - (k + 1) < n - k from (by first | omega | (show _ < _; simp; omega)))
 ·refine kI [.b false] (¬ ((k : Int) < (n : Int))) [(1, rV 0 0), (6, sV .i64 l n), (7, uV n), (8, uV k), (9, bV false)] [(0, some (44, .ds [dl l n]))] 1 zo ?_
  refine AW.seq ?_
  refine zf ?_
  refine AW.exit ?_
  by_cases hx10 : (((n : Nat) : Int) ≤ 64)
  ·refine kI [.no, .no, .no, .b true, .no] (((n : Int) ≤ 64)) [(2, bV true)] [] 1 zo ?_
   refine AW.ret ?_
   exact kC (.inr rfl) [] (P := ((f6 l n) = true)) zk (by first | exact d9 zo (fun j hj => ha j zo) | exact fJ zo | exact fI (k := k) zo (decide_eq_false zo))
  ·have hx11 : 0 ≤ ka0 l ((k - 1) * 2 + 1) 0 ∧ ka0 l ((k - 1) * 2 + 1) 0 ≤ 2147483647 := gC ha zo
   refine kI [.no, .no, .no, .b false, .no] (¬ ((n : Int) ≤ 64)) [(2, bV false)] [] 1 zo ?_
   refine AW.ret ?_
   exact kC (.inr rfl) [] (P := ((f6 l n) = false)) zk (by first | exact d9 zo (fun j hj => ha j zo) | exact fJ zo | exact fI (k := k) zo (decide_eq_false zo))
end Go.Proofs.Ytdbjebdomdnbkaa
