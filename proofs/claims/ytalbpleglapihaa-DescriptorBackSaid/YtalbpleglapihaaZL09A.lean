/- Sets of integers: A. No statement is proved here. -/
import Derived.Test.YtalbpleglapihaaZW09
namespace Go.Proofs.Ytalbpleglapihaa
open Go.ChangeShapes Go.WideShapes Go.ChangeAt Go.RowKit
open List renaming drop → ka7, drop_drop → ke7, getD → ka0
set_option linter.unusedVariables false
set_option linter.unusedSimpArgs false
set_option maxHeartbeats 4000000
set_option maxRecDepth 100000
theorem l9 {p : Prop} (h : p := by first | rfl | assumption | exact decide_eq_true (by omega) | exact decide_eq_false (by omega) | (simp; omega)) : p := h
theorem eU (a b : Int)  : Fun 77 [.agg [iC a, iC b]] (kG []) 0 (kT (D.lit (.bool (decide (0 ≤ a ∧ a ≤ b ∧ b ≤ 2147483647))))) (kG []) 0 := by
 refine Fun.mk (n := 18) Try.func77 rfl rfl (Nat.le_of_ble_eq_true rfl) ?_
 intro cx hcx
 refine kK [.no, .no] True [(1, rV 0 0)] [(0, some (96, .ds [iD a, iD b]))] 1 trivial ?_
 by_cases hx1 : ((0 : Int) ≤ a)
 ·by_cases hx2 : (a ≤ b)
  ·by_cases hx3 : (b ≤ 2147483647)
   ·refine kK (.no :: .no :: .b true :: kS 5 (.b true :: kS 4 [.b true, .no, .no])) ((((0 : Int) ≤ a)) ∧ ((a ≤ b)) ∧ ((b ≤ 2147483647))) [(2, bV true)] [] 1 ⟨zo, zo, zo⟩ ?_
    refine AW.ret ?_
    exact kC (.inr rfl) [] (P := ((decide (0 ≤ a ∧ a ≤ b ∧ b ≤ 2147483647)) = true)) zk l9
   ·refine kK (.no :: .no :: .b true :: kS 5 (.b true :: kS 4 [.b false, .no, .no])) ((((0 : Int) ≤ a)) ∧ ((a ≤ b)) ∧ (¬ (b ≤ 2147483647))) [(2, bV false)] [] 1 ⟨zo, zo, zo⟩ ?_
    refine AW.ret ?_
    exact kC (.inr rfl) [] (P := ((decide (0 ≤ a ∧ a ≤ b ∧ b ≤ 2147483647)) = false)) zk l9
  ·refine kK (.no :: .no :: .b true :: kS 5 (.b false :: kS 4 [])) ((((0 : Int) ≤ a)) ∧ (¬ (a ≤ b))) [(2, bV false)] [] 1 ⟨zo, zo⟩ ?_
   refine AW.ret ?_
   exact kC (.inr rfl) [] (P := ((decide (0 ≤ a ∧ a ≤ b ∧ b ≤ 2147483647)) = false)) zk l9
 ·refine kK (.no :: .no :: .b false :: kS 5 []) (¬ ((0 : Int) ≤ a)) [(2, bV false)] [] 1 zo ?_
  refine AW.ret ?_
  exact kC (.inr rfl) [] (P := ((decide (0 ≤ a ∧ a ≤ b ∧ b ≤ 2147483647)) = false)) zk l9
theorem gX {p : Prop} (h : p := by first | omega | (simp only [uR, qK, List.length_append, List.length_cons, List.length_nil, List.length_take, List.length_drop, List.length_replicate, List.length_set, List.length_map, List.length_reverse, Nat.mul_one] <;> omega) | rfl) : p := h
theorem gP (l : List Int) (n : Nat) (hl : List.length l = n * 2) (hb : n ≤ 9223372036854775807) : Fun 73 [.agg [.d (D.sl (dI .i64 l) n)]] (kG []) 0 (kT (D.lit (.bool (jN l n)))) (kG []) 0 := by
 refine Fun.mk (n := 38) Try.func73 rfl rfl (Nat.le_of_ble_eq_true rfl) ?_
 intro cx hcx
 refine kK [.no, .no] True [(1, rV 0 0)] [(0, some (75, .ds [dl l n]))] 1 trivial ?_
 refine AW.seq ?_
 by_cases hx1 : ((64 : Int) < ((n : Nat) : Int))
 ·refine kX [.no, .no, .no, .b true] (((64 : Int) < (n : Int))) [(1, rV 0 0), (8, bV true)] zo ?_
  refine zt ?_
  refine kK [.no] True [(2, bV false)] [] 1 trivial ?_
  refine AW.ret ?_
  exact kC (.inr rfl) [] (P := ((jN l n) = false)) zk (by first | exact pE zo (fun j hj => ha j zo) | exact wN zo | exact wL (k := k) zo (decide_eq_false zo))
 ·refine kX [.no, .no, .no, .b false] (¬ ((64 : Int) < (n : Int))) [(1, rV 0 0), (8, bV false)] zo ?_
  refine yM ?_
  refine AW.seq ?_
  refine kX (kS 4 []) True [(1, rV 0 0), (10, sV .i64 l n), (11, uV n), (12, iV 0)] trivial ?_
  refine AW.block ?_
  refine kW 0 hcx (fun (x : {x : Nat // match x with | k => (k ≤ n) ∧ (∀ j, j < k → vaE l j = true)}) => match x with | ⟨k, _⟩ => (⟨[(1, rV 0 0), (10, sV .i64 l n), (11, uV n), (12, uV k)], [(0, some (75, .ds [dl l n]))], 1⟩ : ES)) (fun x => match x with | ⟨k, _⟩ => n - k) ⟨(0 : Nat), ⟨(by first | omega | assumption | simp), (fun j hj => absurd hj (Nat.not_lt_zero j))⟩⟩ [] (P := (kN 0) ∧ (k8 (dI .i64 l)) ∧ (kN n) ∧ (kM (n : Int)) ∧ (kM 0) ∧ (k8 [dl l n])) zk ⟨rfl, rfl, rfl, rfl, rfl, rfl⟩ ?_
  rintro ⟨k, hinv0⟩
  obtain ⟨hk, ha⟩ : (k ≤ n) ∧ (∀ j, j < k → vaE l j = true) := hinv0
  refine uH (l := [(1, rV 0 0), (10, sV .i64 l n), (11, uV n), (12, uV k)]) (g := [(0, some (75, .ds [dl l n]))]) (nx := 1) rfl rfl rfl ?_
  by_cases hx2 : (((k : Nat) : Int) < ((n : Nat) : Int))
  ·refine kK [.b true] (((k : Int) < (n : Int))) [(1, rV 0 0), (10, sV .i64 l n), (11, uV n), (12, uV k), (13, bV true)] [(0, some (75, .ds [dl l n]))] 1 zo ?_
   refine AW.seq ?_
   refine vD ?_
   refine AW.seq ?_
   refine AW.block ?_
   refine kK [.no, .n k, .ds [iD (ka0 l (k * 2) 0), iD (ka0 l ((k * 2) + 1) 0)], .no, .no, .no] ((kM (k : Int)) ∧ (k < n) ∧ (List.take 2 (ka7 (k * 2) (dI .i64 l)) = [iD (ka0 l (k * 2) 0), iD (ka0 l ((k * 2) + 1) 0)]) ∧ (([iD (ka0 l (k * 2) 0), iD (ka0 l ((k * 2) + 1) 0)] : List D).length = 2)) [(1, rV 0 0), (3, uV k), (4, rV 1 0), (10, sV .i64 l n), (11, uV n), (12, uV k)] [(0, some (75, .ds [dl l n])), (1, some (96, .ds [iD (ka0 l (k * 2) 0), iD (ka0 l ((k * 2) + 1) 0)]))] 2 ⟨rfl, zo, (v7 .i64 l (k * 2) 2 gX), rfl⟩ ?_
   rcases Bool.eq_false_or_eq_true (decide (0 ≤ (ka0 l (k * 2) 0) ∧ (ka0 l (k * 2) 0) ≤ (ka0 l ((k * 2) + 1) 0) ∧ (ka0 l ((k * 2) + 1) 0) ≤ 2147483647)) with hx3 | hx3
   ·have hx4 : (((0 : Int) ≤ (ka0 l (k * 2) 0)) ∧ (((ka0 l (k * 2) 0) ≤ (ka0 l ((k * 2) + 1) 0)) ∧ ((ka0 l ((k * 2) + 1) 0) ≤ 2147483647))) := of_decide_eq_true hx3
    by_cases hx5 : ((0 : Int) < ((k : Nat) : Int))
    ·by_cases hx7 : ((ka0 l (k * 2) 0) ≤ ((ka0 l (((k - 1) * 2) + 1) 0) + 1))
     ·have hx8 : 0 ≤ ka0 l ((k - 1) * 2 + 1) 0 ∧ ka0 l ((k - 1) * 2 + 1) 0 ≤ 2147483647 := wK ha zo
      refine kK (.no :: .call [] (bV true) [] 0 [] none :: .no :: .no :: .no :: .b true :: kS 6 [.w, .n (k - 1), .no, .d (D.lit (.int .i64 (ka0 l (((k - 1) * 2) + 1) 0))), .w, .b true, .no, .no]) ((Fun 77 [.agg [iC (ka0 l (k * 2) 0), iC (ka0 l ((k * 2) + 1) 0)]] (kG []) 0 (bV true) (kG []) 0) ∧ (((0 : Int) < (k : Int))) ∧ (qL ((k : Int) - 1)) ∧ ((((k : Int) - 1) : Int) = (((k - 1) : Nat) : Int)) ∧ ((k - 1) < n) ∧ ((ka7 1 (ka7 ((k - 1) * 2) (dI .i64 l)))[0]? = some (D.lit (.int .i64 (ka0 l (((k - 1) * 2) + 1) 0)))) ∧ ((-9223372036854775808) ≤ ((ka0 l (((k - 1) * 2) + 1) 0) + 1) ∧ ((ka0 l (((k - 1) * 2) + 1) 0) + 1) ≤ 9223372036854775807) ∧ (((ka0 l (k * 2) 0) ≤ ((ka0 l (((k - 1) * 2) + 1) 0) + 1)))) [(1, rV 0 0), (10, sV .i64 l n), (11, uV n), (12, uV k), (36, bV true)] [(0, some (75, .ds [dl l n]))] 2 ⟨(by have h0 := (eU (ka0 l (k * 2) 0) (ka0 l ((k * 2) + 1) 0)); rw [hx3] at h0; exact h0), zo, ⟨by omega, by omega⟩, (by first | rfl | omega), zo, (by first | (rw [ke7]; exact qQ _ _ _ gX) | (rw [ke7, Nat.add_comm]; exact qQ _ _ _ gX)), ⟨by omega, by omega⟩, zo⟩ ?_
      refine zt ?_
      refine kK [.no] True [(2, bV false)] [] 2 trivial ?_
      refine AW.ret ?_
      exact kC (.inr rfl) [] (P := ((jN l n) = false)) zk (by first | exact pE zo (fun j hj => ha j zo) | exact wN zo | exact wL (k := k) zo (decide_eq_false zo))
     ·have hx9 : 0 ≤ ka0 l ((k - 1) * 2 + 1) 0 ∧ ka0 l ((k - 1) * 2 + 1) 0 ≤ 2147483647 := wK ha zo
      refine kK (.no :: .call [] (bV true) [] 0 [] none :: .no :: .no :: .no :: .b true :: kS 6 [.w, .n (k - 1), .no, .d (D.lit (.int .i64 (ka0 l (((k - 1) * 2) + 1) 0))), .w, .b false, .no, .no]) ((Fun 77 [.agg [iC (ka0 l (k * 2) 0), iC (ka0 l ((k * 2) + 1) 0)]] (kG []) 0 (bV true) (kG []) 0) ∧ (((0 : Int) < (k : Int))) ∧ (qL ((k : Int) - 1)) ∧ ((((k : Int) - 1) : Int) = (((k - 1) : Nat) : Int)) ∧ ((k - 1) < n) ∧ ((ka7 1 (ka7 ((k - 1) * 2) (dI .i64 l)))[0]? = some (D.lit (.int .i64 (ka0 l (((k - 1) * 2) + 1) 0)))) ∧ ((-9223372036854775808) ≤ ((ka0 l (((k - 1) * 2) + 1) 0) + 1) ∧ ((ka0 l (((k - 1) * 2) + 1) 0) + 1) ≤ 9223372036854775807) ∧ (¬ ((ka0 l (k * 2) 0) ≤ ((ka0 l (((k - 1) * 2) + 1) 0) + 1)))) [(1, rV 0 0), (10, sV .i64 l n), (11, uV n), (12, uV k), (36, bV false)] [(0, some (75, .ds [dl l n]))] 2 ⟨(by have h0 := (eU (ka0 l (k * 2) 0) (ka0 l ((k * 2) + 1) 0)); rw [hx3] at h0; exact h0), zo, ⟨by omega, by omega⟩, (by first | rfl | omega), zo, (by first | (rw [ke7]; exact qQ _ _ _ gX) | (rw [ke7, Nat.add_comm]; exact qQ _ _ _ gX)), ⟨by omega, by omega⟩, zo⟩ ?_
      refine yM ?_
      refine yD [.w, .no] (qL ((k : Int) + 1)) [(1, rV 0 0), (10, sV .i64 l n), (11, uV n), (12, iV (↑k + 1))] ⟨by omega, by omega⟩ ?_
      exact qS ⟨((k + 1) : Nat), ⟨(by first | omega | assumption | simp), (fun j hj => (Nat.lt_succ_iff_lt_or_eq.1 hj).elim (ha j) (fun e9 => by subst e9; exact decide_eq_true zo))⟩⟩ [] (P := (kN 0) ∧ (k8 (dI .i64 l)) ∧ (kN n) ∧ (kM (n : Int)) ∧ (((((k + 1) : Nat) : Int) : Int) = ((k : Int) + 1)) ∧ (k8 [dl l n])) zk ⟨rfl, rfl, rfl, rfl, (by first | rfl | omega | assumption | (simp; done) | (simp; omega)), rfl⟩ (show n - (k + 1) < n - k from (by first | omega | (show _ < _; simp; omega)))
    ·refine kK [.no, .call [] (bV true) [] 0 [] none, .no, .no, .no, .b false, .no, .no, .no] ((Fun 77 [.agg [iC (ka0 l (k * 2) 0), iC (ka0 l ((k * 2) + 1) 0)]] (kG []) 0 (bV true) (kG []) 0) ∧ (¬ ((0 : Int) < (k : Int)))) [(1, rV 0 0), (10, sV .i64 l n), (11, uV n), (12, uV k), (36, bV false)] [(0, some (75, .ds [dl l n]))] 2 ⟨(by have h0 := (eU (ka0 l (k * 2) 0) (ka0 l ((k * 2) + 1) 0)); rw [hx3] at h0; exact h0), zo⟩ ?_
     refine yM ?_
     refine yD [.w, .no] (qL ((k : Int) + 1)) [(1, rV 0 0), (10, sV .i64 l n), (11, uV n), (12, iV (↑k + 1))] ⟨by omega, by omega⟩ ?_
     exact qS ⟨((k + 1) : Nat), ⟨(by first | omega | assumption | simp), (fun j hj => (Nat.lt_succ_iff_lt_or_eq.1 hj).elim (ha j) (fun e9 => by subst e9; exact decide_eq_true zo))⟩⟩ [] (P := (kN 0) ∧ (k8 (dI .i64 l)) ∧ (kN n) ∧ (kM (n : Int)) ∧ (((((k + 1) : Nat) : Int) : Int) = ((k : Int) + 1)) ∧ (k8 [dl l n])) zk ⟨rfl, rfl, rfl, rfl, (by first | rfl | omega | assumption | (simp; done) | (simp; omega)), rfl⟩ (show n - (k + 1) < n - k from (by first | omega | (show _ < _; simp; omega)))
   ·have hx10 : ¬ (((0 : Int) ≤ (ka0 l (k * 2) 0)) ∧ (((ka0 l (k * 2) 0) ≤ (ka0 l ((k * 2) + 1) 0)) ∧ ((ka0 l ((k * 2) + 1) 0) ≤ 2147483647))) := of_decide_eq_false hx3
    refine kK [.no, .call [] (bV false) [] 0 [] none, .no, .no, .no] (Fun 77 [.agg [iC (ka0 l (k * 2) 0), iC (ka0 l ((k * 2) + 1) 0)]] (kG []) 0 (bV false) (kG []) 0) [(1, rV 0 0), (10, sV .i64 l n), (11, uV n), (12, uV k), (36, bV true)] [(0, some (75, .ds [dl l n]))] 2 (by have h0 := (eU (ka0 l (k * 2) 0) (ka0 l ((k * 2) + 1) 0)); rw [hx3] at h0; exact h0) ?_
    refine zt ?_
    refine kK [.no] True [(2, bV false)] [] 2 trivial ?_
    refine AW.ret ?_
    exact kC (.inr rfl) [] (P := ((jN l n) = false)) zk (by first | exact pE zo (fun j hj => ha j zo) | exact wN zo | exact wL (k := k) zo (decide_eq_false zo))
  ·refine kK [.b false] (¬ ((k : Int) < (n : Int))) [(1, rV 0 0), (10, sV .i64 l n), (11, uV n), (12, uV k), (13, bV false)] [(0, some (75, .ds [dl l n]))] 1 zo ?_
   refine AW.seq ?_
   refine zf ?_
   refine AW.exit ?_
   refine kK [.no] True [(2, bV true)] [] 1 trivial ?_
   refine AW.ret ?_
   exact kC (.inr rfl) [] (P := ((jN l n) = true)) zk (by first | exact pE zo (fun j hj => ha j zo) | exact wN zo | exact wL (k := k) zo (decide_eq_false zo))
end Go.Proofs.Ytalbpleglapihaa
