/- Sets of integers: A. No statement is proved here. -/
import Derived.Test.YtcfmjpnffembpaaGreatZW09
namespace Go.Proofs.YtcfmjpnffembpaaGreat
open Go.ChangeShapes Go.WideShapes Go.ChangeAt Go.RowKit
open Bool renaming eq_false_or_eq_true → kb2
open List renaming drop → ka4, drop_drop → ke9, getD → ka1, length → ka0, length_append → ka6, length_cons → ka8, length_drop → kb0, length_map → kc0, length_nil → kb3, length_replicate → kb4, length_reverse → kc1, length_set → kb8, length_take → ka9, take → ka3
open Nat renaming le_of_ble_eq_true → ka5, mul_one → kc5, not_lt_zero → kd3
set_option linter.unusedVariables false
set_option linter.unusedSimpArgs false
set_option maxHeartbeats 4000000
set_option maxRecDepth 100000
theorem rB {p : Prop} (h : p := by first | rfl | assumption | exact decide_eq_true (by omega) | exact decide_eq_false (by omega) | (simp; omega)) : p := h
theorem jI (a b : Int)  : Fun 147 [.agg [iC a, iC b]] (kK []) 0 (qY (D.lit (.bool (decide (0 ≤ a ∧ a ≤ b ∧ b ≤ 2147483647))))) (kK []) 0 := by
 refine Fun.mk (n := 18) Tryz.func147 rfl rfl (ka5 rfl) ?_
 intro cx hcx
 refine kL [.no, .no] True [(1, rV 0 0)] [(0, some (77, .ds [iD a, iD b]))] 1 trivial ?_
 by_cases hx1 : ((0 : Int) ≤ a)
 ·by_cases hx2 : (a ≤ b)
  ·by_cases hx3 : (b ≤ 2147483647)
   ·refine kL (.no :: .no :: .b true :: qA 5 (.b true :: qA 4 [.b true, .no, .no])) ((((0 : Int) ≤ a)) ∧ ((a ≤ b)) ∧ ((b ≤ 2147483647))) [(2, bV true)] [] 1 ⟨zo, zo, zo⟩ ?_
    refine AW.ret ?_
    exact kD (.inr rfl) [] (P := ((decide (0 ≤ a ∧ a ≤ b ∧ b ≤ 2147483647)) = true)) zk rB
   ·refine kL (.no :: .no :: .b true :: qA 5 (.b true :: qA 4 [.b false, .no, .no])) ((((0 : Int) ≤ a)) ∧ ((a ≤ b)) ∧ (¬ (b ≤ 2147483647))) [(2, bV false)] [] 1 ⟨zo, zo, zo⟩ ?_
    refine AW.ret ?_
    exact kD (.inr rfl) [] (P := ((decide (0 ≤ a ∧ a ≤ b ∧ b ≤ 2147483647)) = false)) zk rB
  ·refine kL (.no :: .no :: .b true :: qA 5 (.b false :: qA 4 [])) ((((0 : Int) ≤ a)) ∧ (¬ (a ≤ b))) [(2, bV false)] [] 1 ⟨zo, zo⟩ ?_
   refine AW.ret ?_
   exact kD (.inr rfl) [] (P := ((decide (0 ≤ a ∧ a ≤ b ∧ b ≤ 2147483647)) = false)) zk rB
 ·refine kL (.no :: .no :: .b false :: qA 5 []) (¬ ((0 : Int) ≤ a)) [(2, bV false)] [] 1 zo ?_
  refine AW.ret ?_
  exact kD (.inr rfl) [] (P := ((decide (0 ≤ a ∧ a ≤ b ∧ b ≤ 2147483647)) = false)) zk rB
theorem dZ {p : Prop} (h : p := by first | omega | assumption | simp) : p := h
theorem zD {p : Prop} (h : p := by first | omega | (simp only [uK, qX, ka6, ka8, kb3, ka9, kb0, kb4, kb8, kc0, kc1, kc5] <;> omega) | rfl) : p := h
theorem rC {p : Prop} (h : p := by first | (rw [ke9]; exact q5 _ _ _ (by first | omega | (simp only [uK, qX, ka6, ka8, kb3, ka9, kb0, kb4, kb8, kc0, kc1, kc5] <;> omega) | rfl)) | (rw [ke9, Nat.add_comm]; exact q5 _ _ _ (by first | omega | (simp only [uK, qX, ka6, ka8, kb3, ka9, kb0, kb4, kb8, kc0, kc1, kc5] <;> omega) | rfl))) : p := h
theorem j6 {p : Prop} (h : p := by first | rfl | omega | assumption | (simp; done) | (simp; omega)) : p := h
theorem j5 {p : Prop} (h : p := by first | omega | (show _ < _; simp; omega)) : p := h
theorem f6 (l : List Int) (n : Nat) (hl : ka0 l = n * 2) (hb : n ≤ 9223372036854775807) : Fun 130 [.agg [.d (D.sl (dI .i64 l) n)]] (kK []) 0 (qY (D.lit (.bool (gJ l n)))) (kK []) 0 := by
 refine Fun.mk (n := 38) Tryz.func130 rfl rfl (ka5 rfl) ?_
 intro cx hcx
 refine kL [.no, .no] True [(1, rV 0 0)] [(0, some (56, .ds [dl l n]))] 1 trivial ?_
 refine AW.seq ?_
 by_cases hx1 : ((64 : Int) < ((n : Nat) : Int))
 ·refine kP [.no, .no, .no, .b true] (((64 : Int) < (n : Int))) [(1, rV 0 0), (8, bV true)] zo ?_
  refine zt ?_
  refine kL [.no] True [(2, bV false)] [] 1 trivial ?_
  refine AW.ret ?_
  exact kD (.inr rfl) [] (P := ((gJ l n) = false)) zk (by first | exact eR zo (fun j hj => ha j zo) | exact gI zo | exact gH (k := k) zo (decide_eq_false zo))
 ·refine kP [.no, .no, .no, .b false] (¬ ((64 : Int) < (n : Int))) [(1, rV 0 0), (8, bV false)] zo ?_
  refine uB ?_
  refine AW.seq ?_
  refine kP (qA 4 []) True [(1, rV 0 0), (10, sV .i64 l n), (11, uV n), (12, iV 0)] trivial ?_
  refine AW.block ?_
  refine kZ 0 hcx (fun (x : {x : Nat // match x with | k => (k ≤ n) ∧ (∀ j, j < k → vaE l j = true)}) => match x with | ⟨k, _⟩ => (⟨[(1, rV 0 0), (10, sV .i64 l n), (11, uV n), (12, uV k)], [(0, some (56, .ds [dl l n]))], 1⟩ : ES)) (fun x => match x with | ⟨k, _⟩ => n - k) ⟨(0 : Nat), ⟨dZ, (fun j hj => absurd hj (kd3 j))⟩⟩ [] (P := (kH 0) ∧ (kM (dI .i64 l)) ∧ (kH n) ∧ (kO (n : Int)) ∧ (kO 0) ∧ (kM [dl l n])) zk ⟨rfl, rfl, rfl, rfl, rfl, rfl⟩ ?_
  rintro ⟨k, hinv0⟩
  obtain ⟨hk, ha⟩ : (k ≤ n) ∧ (∀ j, j < k → vaE l j = true) := hinv0
  refine qT (l := [(1, rV 0 0), (10, sV .i64 l n), (11, uV n), (12, uV k)]) (g := [(0, some (56, .ds [dl l n]))]) (nx := 1) rfl rfl rfl ?_
  by_cases hx2 : (((k : Nat) : Int) < ((n : Nat) : Int))
  ·refine kL [.b true] (((k : Int) < (n : Int))) [(1, rV 0 0), (10, sV .i64 l n), (11, uV n), (12, uV k), (13, bV true)] [(0, some (56, .ds [dl l n]))] 1 zo ?_
   refine AW.seq ?_
   refine vP ?_
   refine AW.seq ?_
   refine AW.block ?_
   refine kL [.no, .n k, .ds [iD (ka1 l (k * 2) 0), iD (ka1 l ((k * 2) + 1) 0)], .no, .no, .no] ((kO (k : Int)) ∧ (k < n) ∧ (ka3 2 (ka4 (k * 2) (dI .i64 l)) = [iD (ka1 l (k * 2) 0), iD (ka1 l ((k * 2) + 1) 0)]) ∧ (([iD (ka1 l (k * 2) 0), iD (ka1 l ((k * 2) + 1) 0)] : List D).length = 2)) [(1, rV 0 0), (3, uV k), (4, rV 1 0), (10, sV .i64 l n), (11, uV n), (12, uV k)] [(0, some (56, .ds [dl l n])), (1, some (77, .ds [iD (ka1 l (k * 2) 0), iD (ka1 l ((k * 2) + 1) 0)]))] 2 ⟨rfl, zo, (bN .i64 l (k * 2) 2 zD), rfl⟩ ?_
   rcases kb2 (decide (0 ≤ (ka1 l (k * 2) 0) ∧ (ka1 l (k * 2) 0) ≤ (ka1 l ((k * 2) + 1) 0) ∧ (ka1 l ((k * 2) + 1) 0) ≤ 2147483647)) with hx3 | hx3
   ·have hx4 : (((0 : Int) ≤ (ka1 l (k * 2) 0)) ∧ (((ka1 l (k * 2) 0) ≤ (ka1 l ((k * 2) + 1) 0)) ∧ ((ka1 l ((k * 2) + 1) 0) ≤ 2147483647))) := of_decide_eq_true hx3
    by_cases hx5 : ((0 : Int) < ((k : Nat) : Int))
    ·by_cases hx7 : ((ka1 l (k * 2) 0) ≤ ((ka1 l (((k - 1) * 2) + 1) 0) + 1))
     ·have hx8 : 0 ≤ ka1 l ((k - 1) * 2 + 1) 0 ∧ ka1 l ((k - 1) * 2 + 1) 0 ≤ 2147483647 := iL ha zo
      refine kL (.no :: .call [] (bV true) [] 0 [] none :: .no :: .no :: .no :: .b true :: qA 6 [.w, .n (k - 1), .no, .d (D.lit (.int .i64 (ka1 l (((k - 1) * 2) + 1) 0))), .w, .b true, .no, .no]) ((Fun 147 [.agg [iC (ka1 l (k * 2) 0), iC (ka1 l ((k * 2) + 1) 0)]] (kK []) 0 (bV true) (kK []) 0) ∧ (((0 : Int) < (k : Int))) ∧ ((-9223372036854775808) ≤ ((k : Int) - 1) ∧ ((k : Int) - 1) ≤ 9223372036854775807) ∧ ((((k : Int) - 1) : Int) = (((k - 1) : Nat) : Int)) ∧ ((k - 1) < n) ∧ ((ka4 1 (ka4 ((k - 1) * 2) (dI .i64 l)))[0]? = some (D.lit (.int .i64 (ka1 l (((k - 1) * 2) + 1) 0)))) ∧ ((-9223372036854775808) ≤ ((ka1 l (((k - 1) * 2) + 1) 0) + 1) ∧ ((ka1 l (((k - 1) * 2) + 1) 0) + 1) ≤ 9223372036854775807) ∧ (((ka1 l (k * 2) 0) ≤ ((ka1 l (((k - 1) * 2) + 1) 0) + 1)))) [(1, rV 0 0), (10, sV .i64 l n), (11, uV n), (12, uV k), (36, bV true)] [(0, some (56, .ds [dl l n]))] 2 ⟨(by have h0 := (jI (ka1 l (k * 2) 0) (ka1 l ((k * 2) + 1) 0)); rw [hx3] at h0; exact h0), zo, ⟨by omega, by omega⟩, (by first | rfl | omega), zo, rC, ⟨by omega, by omega⟩, zo⟩ ?_
      refine zt ?_
      refine kL [.no] True [(2, bV false)] [] 2 trivial ?_
      refine AW.ret ?_
      exact kD (.inr rfl) [] (P := ((gJ l n) = false)) zk (by first | exact eR zo (fun j hj => ha j zo) | exact gI zo | exact gH (k := k) zo (decide_eq_false zo))
     ·have hx9 : 0 ≤ ka1 l ((k - 1) * 2 + 1) 0 ∧ ka1 l ((k - 1) * 2 + 1) 0 ≤ 2147483647 := iL ha zo
      refine kL (.no :: .call [] (bV true) [] 0 [] none :: .no :: .no :: .no :: .b true :: qA 6 [.w, .n (k - 1), .no, .d (D.lit (.int .i64 (ka1 l (((k - 1) * 2) + 1) 0))), .w, .b false, .no, .no]) ((Fun 147 [.agg [iC (ka1 l (k * 2) 0), iC (ka1 l ((k * 2) + 1) 0)]] (kK []) 0 (bV true) (kK []) 0) ∧ (((0 : Int) < (k : Int))) ∧ ((-9223372036854775808) ≤ ((k : Int) - 1) ∧ ((k : Int) - 1) ≤ 9223372036854775807) ∧ ((((k : Int) - 1) : Int) = (((k - 1) : Nat) : Int)) ∧ ((k - 1) < n) ∧ ((ka4 1 (ka4 ((k - 1) * 2) (dI .i64 l)))[0]? = some (D.lit (.int .i64 (ka1 l (((k - 1) * 2) + 1) 0)))) ∧ ((-9223372036854775808) ≤ ((ka1 l (((k - 1) * 2) + 1) 0) + 1) ∧ ((ka1 l (((k - 1) * 2) + 1) 0) + 1) ≤ 9223372036854775807) ∧ (¬ ((ka1 l (k * 2) 0) ≤ ((ka1 l (((k - 1) * 2) + 1) 0) + 1)))) [(1, rV 0 0), (10, sV .i64 l n), (11, uV n), (12, uV k), (36, bV false)] [(0, some (56, .ds [dl l n]))] 2 ⟨(by have h0 := (jI (ka1 l (k * 2) 0) (ka1 l ((k * 2) + 1) 0)); rw [hx3] at h0; exact h0), zo, ⟨by omega, by omega⟩, (by first | rfl | omega), zo, rC, ⟨by omega, by omega⟩, zo⟩ ?_
      refine uB ?_
      refine uS [.w, .no] ((-9223372036854775808) ≤ ((k : Int) + 1) ∧ ((k : Int) + 1) ≤ 9223372036854775807) [(1, rV 0 0), (10, sV .i64 l n), (11, uV n), (12, iV (↑k + 1))] ⟨by omega, by omega⟩ ?_
      exact kW ⟨((k + 1) : Nat), ⟨dZ, (fun j hj => (Nat.lt_succ_iff_lt_or_eq.1 hj).elim (ha j) (fun e9 => by subst e9; exact decide_eq_true zo))⟩⟩ [] (P := (kH 0) ∧ (kM (dI .i64 l)) ∧ (kH n) ∧ (kO (n : Int)) ∧ (((((k + 1) : Nat) : Int) : Int) = ((k : Int) + 1)) ∧ (kM [dl l n])) zk ⟨rfl, rfl, rfl, rfl, j6, rfl⟩ (show n - (k + 1) < n - k from j5)
    ·refine kL [.no, .call [] (bV true) [] 0 [] none, .no, .no, .no, .b false, .no, .no, .no] ((Fun 147 [.agg [iC (ka1 l (k * 2) 0), iC (ka1 l ((k * 2) + 1) 0)]] (kK []) 0 (bV true) (kK []) 0) ∧ (¬ ((0 : Int) < (k : Int)))) [(1, rV 0 0), (10, sV .i64 l n), (11, uV n), (12, uV k), (36, bV false)] [(0, some (56, .ds [dl l n]))] 2 ⟨(by have h0 := (jI (ka1 l (k * 2) 0) (ka1 l ((k * 2) + 1) 0)); rw [hx3] at h0; exact h0), zo⟩ ?_
     refine uB ?_
     refine uS [.w, .no] ((-9223372036854775808) ≤ ((k : Int) + 1) ∧ ((k : Int) + 1) ≤ 9223372036854775807) [(1, rV 0 0), (10, sV .i64 l n), (11, uV n), (12, iV (↑k + 1))] ⟨by omega, by omega⟩ ?_
     exact kW ⟨((k + 1) : Nat), ⟨dZ, (fun j hj => (Nat.lt_succ_iff_lt_or_eq.1 hj).elim (ha j) (fun e9 => by subst e9; exact decide_eq_true zo))⟩⟩ [] (P := (kH 0) ∧ (kM (dI .i64 l)) ∧ (kH n) ∧ (kO (n : Int)) ∧ (((((k + 1) : Nat) : Int) : Int) = ((k : Int) + 1)) ∧ (kM [dl l n])) zk ⟨rfl, rfl, rfl, rfl, j6, rfl⟩ (show n - (k + 1) < n - k from j5)
   ·have hx10 : ¬ (((0 : Int) ≤ (ka1 l (k * 2) 0)) ∧ (((ka1 l (k * 2) 0) ≤ (ka1 l ((k * 2) + 1) 0)) ∧ ((ka1 l ((k * 2) + 1) 0) ≤ 2147483647))) := of_decide_eq_false hx3
    refine kL [.no, .call [] (bV false) [] 0 [] none, .no, .no, .no] (Fun 147 [.agg [iC (ka1 l (k * 2) 0), iC (ka1 l ((k * 2) + 1) 0)]] (kK []) 0 (bV false) (kK []) 0) [(1, rV 0 0), (10, sV .i64 l n), (11, uV n), (12, uV k), (36, bV true)] [(0, some (56, .ds [dl l n]))] 2 (by have h0 := (jI (ka1 l (k * 2) 0) (ka1 l ((k * 2) + 1) 0)); rw [hx3] at h0; exact h0) ?_
    refine zt ?_
    refine kL [.no] True [(2, bV false)] [] 2 trivial ?_
    refine AW.ret ?_
    exact kD (.inr rfl) [] (P := ((gJ l n) = false)) zk (by first | exact eR zo (fun j hj => ha j zo) | exact gI zo | exact gH (k := k) zo (decide_eq_false zo))
  ·refine kL [.b false] (¬ ((k : Int) < (n : Int))) [(1, rV 0 0), (10, sV .i64 l n), (11, uV n), (12, uV k), (13, bV false)] [(0, some (56, .ds [dl l n]))] 1 zo ?_
   refine AW.seq ?_
   refine zf ?_
   refine AW.exit ?_
   refine kL [.no] True [(2, bV true)] [] 1 trivial ?_
   refine AW.ret ?_
   exact kD (.inr rfl) [] (P := ((gJ l n) = true)) zk (by first | exact eR zo (fun j hj => ha j zo) | exact gI zo | exact gH (k := k) zo (decide_eq_false zo))
theorem cP (l : List Int) (n : Nat) (hl : ka0 l = n * 2) (hb : n ≤ 9223372036854775807) : Fun 134 [.agg [.d (D.sl (dI .i64 l) n)]] (kK []) 0 (qY (D.lit (.bool (gJ l n)))) (kK []) 0 := by
 refine Fun.mk (n := 50) Tryz.func134 rfl rfl (ka5 rfl) ?_
 intro cx hcx
 refine kL [.no, .no] True [(1, rV 0 0)] [(0, some (56, .ds [dl l n]))] 1 trivial ?_
 refine AW.seq ?_
 refine kP (qA 4 []) True [(1, rV 0 0), (6, sV .i64 l n), (7, uV n), (8, iV 0)] trivial ?_
 refine AW.block ?_
 refine kZ 0 hcx (fun (x : {x : Nat // match x with | k => (k ≤ n) ∧ (∀ j, j < k → vaE l j = true)}) => match x with | ⟨k, _⟩ => (⟨[(1, rV 0 0), (6, sV .i64 l n), (7, uV n), (8, uV k)], [(0, some (56, .ds [dl l n]))], 1⟩ : ES)) (fun x => match x with | ⟨k, _⟩ => n - k) ⟨(0 : Nat), ⟨dZ, (fun j hj => absurd hj (kd3 j))⟩⟩ [] (P := (kH 0) ∧ (kM (dI .i64 l)) ∧ (kH n) ∧ (kO (n : Int)) ∧ (kO 0) ∧ (kM [dl l n])) zk ⟨rfl, rfl, rfl, rfl, rfl, rfl⟩ ?_
 rintro ⟨k, hinv0⟩
 obtain ⟨hk, ha⟩ : (k ≤ n) ∧ (∀ j, j < k → vaE l j = true) := hinv0
 refine qT (l := [(1, rV 0 0), (6, sV .i64 l n), (7, uV n), (8, uV k)]) (g := [(0, some (56, .ds [dl l n]))]) (nx := 1) rfl rfl rfl ?_
 by_cases hx1 : (((k : Nat) : Int) < ((n : Nat) : Int))
 ·refine kL [.b true] (((k : Int) < (n : Int))) [(1, rV 0 0), (6, sV .i64 l n), (7, uV n), (8, uV k), (9, bV true)] [(0, some (56, .ds [dl l n]))] 1 zo ?_
  refine AW.seq ?_
  refine vP ?_
  refine AW.seq ?_
  refine AW.block ?_
  refine kL [.no, .n k, .ds [iD (ka1 l (k * 2) 0), iD (ka1 l ((k * 2) + 1) 0)], .no, .no, .no] ((kO (k : Int)) ∧ (k < n) ∧ (ka3 2 (ka4 (k * 2) (dI .i64 l)) = [iD (ka1 l (k * 2) 0), iD (ka1 l ((k * 2) + 1) 0)]) ∧ (([iD (ka1 l (k * 2) 0), iD (ka1 l ((k * 2) + 1) 0)] : List D).length = 2)) [(1, rV 0 0), (3, uV k), (4, rV 1 0), (6, sV .i64 l n), (7, uV n), (8, uV k)] [(0, some (56, .ds [dl l n])), (1, some (77, .ds [iD (ka1 l (k * 2) 0), iD (ka1 l ((k * 2) + 1) 0)]))] 2 ⟨rfl, zo, (bN .i64 l (k * 2) 2 zD), rfl⟩ ?_
  by_cases hx2 : ((ka1 l (k * 2) 0) < 0)
  ·refine kL (.no :: .no :: .b true :: qA 6 []) (((ka1 l (k * 2) 0) < 0)) [(1, rV 0 0), (6, sV .i64 l n), (7, uV n), (8, uV k), (44, bV true)] [(0, some (56, .ds [dl l n]))] 2 zo ?_
   refine zt ?_
   refine kL [.no] True [(2, bV false)] [] 2 trivial ?_
   refine AW.ret ?_
   exact kD (.inr rfl) [] (P := ((gJ l n) = false)) zk (by first | exact eR zo (fun j hj => ha j zo) | exact gI zo | exact gH (k := k) zo (decide_eq_false zo))
  ·by_cases hx3 : ((ka1 l ((k * 2) + 1) 0) < (ka1 l (k * 2) 0))
   ·refine kL (.no :: .no :: .b false :: qA 5 (.b true :: qA 5 [])) ((¬ ((ka1 l (k * 2) 0) < 0)) ∧ (((ka1 l ((k * 2) + 1) 0) < (ka1 l (k * 2) 0)))) [(1, rV 0 0), (6, sV .i64 l n), (7, uV n), (8, uV k), (44, bV true)] [(0, some (56, .ds [dl l n]))] 2 ⟨zo, zo⟩ ?_
    refine zt ?_
    refine kL [.no] True [(2, bV false)] [] 2 trivial ?_
    refine AW.ret ?_
    exact kD (.inr rfl) [] (P := ((gJ l n) = false)) zk (by first | exact eR zo (fun j hj => ha j zo) | exact gI zo | exact gH (k := k) zo (decide_eq_false zo))
   ·by_cases hx4 : ((2147483647 : Int) < (ka1 l ((k * 2) + 1) 0))
    ·refine kL (.no :: .no :: .b false :: qA 5 (.b false :: qA 4 [.b true, .no, .no, .no])) ((¬ ((ka1 l (k * 2) 0) < 0)) ∧ (¬ ((ka1 l ((k * 2) + 1) 0) < (ka1 l (k * 2) 0))) ∧ (((2147483647 : Int) < (ka1 l ((k * 2) + 1) 0)))) [(1, rV 0 0), (6, sV .i64 l n), (7, uV n), (8, uV k), (44, bV true)] [(0, some (56, .ds [dl l n]))] 2 ⟨zo, zo, zo⟩ ?_
     refine zt ?_
     refine kL [.no] True [(2, bV false)] [] 2 trivial ?_
     refine AW.ret ?_
     exact kD (.inr rfl) [] (P := ((gJ l n) = false)) zk (by first | exact eR zo (fun j hj => ha j zo) | exact gI zo | exact gH (k := k) zo (decide_eq_false zo))
    ·by_cases hx5 : ((0 : Int) < ((k : Nat) : Int))
     ·by_cases hx7 : (((ka1 l (k * 2) 0) - 1) ≤ (ka1 l (((k - 1) * 2) + 1) 0))
      ·have hx8 : 0 ≤ ka1 l ((k - 1) * 2 + 1) 0 ∧ ka1 l ((k - 1) * 2 + 1) 0 ≤ 2147483647 := iL ha zo
       refine kL (.no :: .no :: .b false :: qA 5 (.b false :: qA 4 [.b false, .no, .no, .no, .b true, .no, .no, .no, .w, .no, .no, .no, .w, .n (k - 1), .no, .d (D.lit (.int .i64 (ka1 l (((k - 1) * 2) + 1) 0))), .b true, .no, .no])) ((¬ ((ka1 l (k * 2) 0) < 0)) ∧ (¬ ((ka1 l ((k * 2) + 1) 0) < (ka1 l (k * 2) 0))) ∧ (¬ ((2147483647 : Int) < (ka1 l ((k * 2) + 1) 0))) ∧ (((0 : Int) < (k : Int))) ∧ ((-9223372036854775808) ≤ ((ka1 l (k * 2) 0) - 1) ∧ ((ka1 l (k * 2) 0) - 1) ≤ 9223372036854775807) ∧ ((-9223372036854775808) ≤ ((k : Int) - 1) ∧ ((k : Int) - 1) ≤ 9223372036854775807) ∧ ((((k : Int) - 1) : Int) = (((k - 1) : Nat) : Int)) ∧ ((k - 1) < n) ∧ ((ka4 1 (ka4 ((k - 1) * 2) (dI .i64 l)))[0]? = some (D.lit (.int .i64 (ka1 l (((k - 1) * 2) + 1) 0)))) ∧ ((((ka1 l (k * 2) 0) - 1) ≤ (ka1 l (((k - 1) * 2) + 1) 0)))) [(1, rV 0 0), (6, sV .i64 l n), (7, uV n), (8, uV k), (44, bV true)] [(0, some (56, .ds [dl l n]))] 2 ⟨zo, zo, zo, zo, ⟨by omega, by omega⟩, ⟨by omega, by omega⟩, (by first | rfl | omega), zo, rC, zo⟩ ?_
       refine zt ?_
       refine kL [.no] True [(2, bV false)] [] 2 trivial ?_
       refine AW.ret ?_
       exact kD (.inr rfl) [] (P := ((gJ l n) = false)) zk (by first | exact eR zo (fun j hj => ha j zo) | exact gI zo | exact gH (k := k) zo (decide_eq_false zo))
      ·have hx9 : 0 ≤ ka1 l ((k - 1) * 2 + 1) 0 ∧ ka1 l ((k - 1) * 2 + 1) 0 ≤ 2147483647 := iL ha zo
       refine kL (.no :: .no :: .b false :: qA 5 (.b false :: qA 4 [.b false, .no, .no, .no, .b true, .no, .no, .no, .w, .no, .no, .no, .w, .n (k - 1), .no, .d (D.lit (.int .i64 (ka1 l (((k - 1) * 2) + 1) 0))), .b false, .no, .no])) ((¬ ((ka1 l (k * 2) 0) < 0)) ∧ (¬ ((ka1 l ((k * 2) + 1) 0) < (ka1 l (k * 2) 0))) ∧ (¬ ((2147483647 : Int) < (ka1 l ((k * 2) + 1) 0))) ∧ (((0 : Int) < (k : Int))) ∧ ((-9223372036854775808) ≤ ((ka1 l (k * 2) 0) - 1) ∧ ((ka1 l (k * 2) 0) - 1) ≤ 9223372036854775807) ∧ ((-9223372036854775808) ≤ ((k : Int) - 1) ∧ ((k : Int) - 1) ≤ 9223372036854775807) ∧ ((((k : Int) - 1) : Int) = (((k - 1) : Nat) : Int)) ∧ ((k - 1) < n) ∧ ((ka4 1 (ka4 ((k - 1) * 2) (dI .i64 l)))[0]? = some (D.lit (.int .i64 (ka1 l (((k - 1) * 2) + 1) 0)))) ∧ (¬ (((ka1 l (k * 2) 0) - 1) ≤ (ka1 l (((k - 1) * 2) + 1) 0)))) [(1, rV 0 0), (6, sV .i64 l n), (7, uV n), (8, uV k), (44, bV false)] [(0, some (56, .ds [dl l n]))] 2 ⟨zo, zo, zo, zo, ⟨by omega, by omega⟩, ⟨by omega, by omega⟩, (by first | rfl | omega), zo, rC, zo⟩ ?_
       refine uB ?_
       refine uS [.w, .no] ((-9223372036854775808) ≤ ((k : Int) + 1) ∧ ((k : Int) + 1) ≤ 9223372036854775807) [(1, rV 0 0), (6, sV .i64 l n), (7, uV n), (8, iV (↑k + 1))] ⟨by omega, by omega⟩ ?_
       exact kW ⟨((k + 1) : Nat), ⟨dZ, (fun j hj => (Nat.lt_succ_iff_lt_or_eq.1 hj).elim (ha j) (fun e9 => by subst e9; exact decide_eq_true zo))⟩⟩ [] (P := (kH 0) ∧ (kM (dI .i64 l)) ∧ (kH n) ∧ (kO (n : Int)) ∧ (((((k + 1) : Nat) : Int) : Int) = ((k : Int) + 1)) ∧ (kM [dl l n])) zk ⟨rfl, rfl, rfl, rfl, j6, rfl⟩ (show n - (k + 1) < n - k from j5)
     ·refine kL (.no :: .no :: .b false :: qA 5 (.b false :: qA 4 [.b false, .no, .no, .no, .b false, .no, .no, .no])) ((¬ ((ka1 l (k * 2) 0) < 0)) ∧ (¬ ((ka1 l ((k * 2) + 1) 0) < (ka1 l (k * 2) 0))) ∧ (¬ ((2147483647 : Int) < (ka1 l ((k * 2) + 1) 0))) ∧ (¬ ((0 : Int) < (k : Int)))) [(1, rV 0 0), (6, sV .i64 l n), (7, uV n), (8, uV k), (44, bV false)] [(0, some (56, .ds [dl l n]))] 2 ⟨zo, zo, zo, zo⟩ ?_
      refine uB ?_
      refine uS [.w, .no] ((-9223372036854775808) ≤ ((k : Int) + 1) ∧ ((k : Int) + 1) ≤ 9223372036854775807) [(1, rV 0 0), (6, sV .i64 l n), (7, uV n), (8, iV (↑k + 1))] ⟨by omega, by omega⟩ ?_
      exact kW ⟨((k + 1) : Nat), ⟨dZ, (fun j hj => (Nat.lt_succ_iff_lt_or_eq.1 hj).elim (ha j) (fun e9 => by subst e9; exact decide_eq_true zo))⟩⟩ [] (P := (kH 0) ∧ (kM (dI .i64 l)) ∧ (kH n) ∧ (kO (n : Int)) ∧ (((((k + 1) : Nat) : Int) : Int) = ((k : Int) + 1)) ∧ (kM [dl l n])) zk ⟨rfl, rfl, rfl, rfl, j6, rfl⟩ (show n - (k + 1) < n - k from j5)
 ·refine kL [.b false] (¬ ((k : Int) < (n : Int))) [(1, rV 0 0), (6, sV .i64 l n), (7, uV n), (8, uV k), (9, bV false)] [(0, some (56, .ds [dl l n]))] 1 zo ?_
  refine AW.seq ?_
  refine zf ?_
  refine AW.exit ?_
  by_cases hx10 : (((n : Nat) : Int) ≤ 64)
  ·refine kL [.no, .no, .no, .b true, .no] (((n : Int) ≤ 64)) [(2, bV true)] [] 1 zo ?_
   refine AW.ret ?_
   exact kD (.inr rfl) [] (P := ((gJ l n) = true)) zk (by first | exact eR zo (fun j hj => ha j zo) | exact gI zo | exact gH (k := k) zo (decide_eq_false zo))
  ·have hx11 : 0 ≤ ka1 l ((k - 1) * 2 + 1) 0 ∧ ka1 l ((k - 1) * 2 + 1) 0 ≤ 2147483647 := iL ha zo
   refine kL [.no, .no, .no, .b false, .no] (¬ ((n : Int) ≤ 64)) [(2, bV false)] [] 1 zo ?_
   refine AW.ret ?_
   exact kD (.inr rfl) [] (P := ((gJ l n) = false)) zk (by first | exact eR zo (fun j hj => ha j zo) | exact gI zo | exact gH (k := k) zo (decide_eq_false zo))
theorem rA {p : Prop} (h : p := by first | omega | rfl | assumption | (simp; done) | (simp; omega)) : p := h
theorem mW (l : List Int) (n : Nat) (hl : ka0 l = n * 2) (hb : n ≤ 9223372036854775807) : Fun 135 [.agg [.d (D.sl (dI .i64 l) n)]] (kK []) 0 (sV .i64 (kB l n) (kQ l n)) (kK []) 0 := by
 refine Fun.mk (n := 8) Tryz.func135 rfl rfl (ka5 rfl) ?_
 intro cx hcx
 refine kL [.no, .no] True [(1, rV 0 0)] [(0, some (56, .ds [dl l n]))] 1 trivial ?_
 refine AW.seq ?_
 rcases kb2 (gJ l n) with hx1 | hx1
 ·refine kP [.no, .call [] (bV true) [] 0 [] none, .no] (Fun 130 [.agg [.d (dl l n)]] (kK []) 0 (bV true) (kK []) 0) [(1, rV 0 0), (5, bV false)] (by have h0 := (f6 l n zo zo); rw [hx1] at h0; exact h0) ?_
  refine uB ?_
  refine kL [.no, .no, .no] True [(2, sV .i64 l n)] [] 1 trivial ?_
  obtain ⟨hz1, hz2⟩ := k44 hx1
  refine AW.ret ?_
  exact kD (.inr rfl) [] (P := (((dI .i64 (kB l n)) : List D) = (dI .i64 l)) ∧ (((kQ l n) : Nat) = n)) zk ⟨(by first | (rw [hz1]; done) | (rw [hz1]; rfl)), rA⟩
 ·refine kP [.no, .call [] (bV false) [] 0 [] none, .no] (Fun 130 [.agg [.d (dl l n)]] (kK []) 0 (bV false) (kK []) 0) [(1, rV 0 0), (5, bV true)] (by have h0 := (f6 l n zo zo); rw [hx1] at h0; exact h0) ?_
  refine zt ?_
  refine kL [.no] True [(2, nV)] [] 1 trivial ?_
  obtain ⟨hz1, hz2⟩ := u1p hx1
  refine eH (l' := [(2, kI ([] : List D) 0)]) (g' := []) (NlS.cons rfl (.e (.c .nil)) NlS.nil) NlG.nil ?_
  refine AW.ret ?_
  exact kD (.inr rfl) [] (P := (((dI .i64 (kB l n)) : List D) = ([] : List D)) ∧ (((kQ l n) : Nat) = 0)) zk ⟨(by first | (rw [hz1]; done) | (rw [hz1]; rfl)), rA⟩
theorem n8 (l : List Int) (n : Nat) (hl : ka0 l = n * 2) (hb : n ≤ 9223372036854775807) : Fun 128 [.agg [.d (D.sl (dI .i64 l) n)]] (kK []) 0 (sV .i64 (kB l n) (kQ l n)) (kK []) 0 := by
 refine Fun.mk (n := 8) Tryz.func128 rfl rfl (ka5 rfl) ?_
 intro cx hcx
 refine kL [.no, .no] True [(1, rV 0 0)] [(0, some (56, .ds [dl l n]))] 1 trivial ?_
 refine AW.seq ?_
 rcases kb2 (gJ l n) with hx1 | hx1
 ·refine kP [.no, .call [] (bV true) [] 0 [] none, .no] (Fun 134 [.agg [.d (dl l n)]] (kK []) 0 (bV true) (kK []) 0) [(1, rV 0 0), (5, bV false)] (by have h0 := (cP l n zo zo); rw [hx1] at h0; exact h0) ?_
  refine uB ?_
  refine kL [.no, .no, .no] True [(2, sV .i64 l n)] [] 1 trivial ?_
  obtain ⟨hz1, hz2⟩ := k44 hx1
  refine AW.ret ?_
  exact kD (.inr rfl) [] (P := (((dI .i64 (kB l n)) : List D) = (dI .i64 l)) ∧ (((kQ l n) : Nat) = n)) zk ⟨(by first | (rw [hz1]; done) | (rw [hz1]; rfl)), rA⟩
 ·refine kP [.no, .call [] (bV false) [] 0 [] none, .no] (Fun 134 [.agg [.d (dl l n)]] (kK []) 0 (bV false) (kK []) 0) [(1, rV 0 0), (5, bV true)] (by have h0 := (cP l n zo zo); rw [hx1] at h0; exact h0) ?_
  refine zt ?_
  refine kL [.no] True [(2, nV)] [] 1 trivial ?_
  obtain ⟨hz1, hz2⟩ := u1p hx1
  refine eH (l' := [(2, kI ([] : List D) 0)]) (g' := []) (NlS.cons rfl (.e (.c .nil)) NlS.nil) NlG.nil ?_
  refine AW.ret ?_
  exact kD (.inr rfl) [] (P := (((dI .i64 (kB l n)) : List D) = ([] : List D)) ∧ (((kQ l n) : Nat) = 0)) zk ⟨(by first | (rw [hz1]; done) | (rw [hz1]; rfl)), rA⟩
theorem pU (l : List Int) (n : Nat) (z : Int) (hl : ka0 l = n * 2) (hb : n ≤ 9223372036854775807) : Fun 95 [.agg [.d (D.sl (dI .i64 l) n)], iE z] (kK []) 0 (qY (D.lit (.bool (oE (kB l n) z)))) (kK []) 0 := by
 refine Fun.mk (n := 25) Tryz.func95 rfl rfl (ka5 rfl) ?_
 intro cx hcx
 refine kL [.no, .no] True [(1, iV z), (2, rV 0 0)] [(0, some (56, .ds [dl l n]))] 1 trivial ?_
 refine AW.seq ?_
 have hx1 : ((ka0 (kB l n)) = ((kQ l n) * 2)) := kV (zo)
 have hx2 : (((kQ l n) ≤ 64) ∧ ((kQ l n) ≤ n)) := cF
 refine kL [.no, .call [] (sV .i64 (kB l n) (kQ l n)) [] 0 [] none, .no, .no] _ [(1, iV z), (8, sV .i64 (kB l n) (kQ l n)), (9, uV (kQ l n)), (10, iV 0)] [] 1 (mW l n zo zo) ?_
 refine AW.block ?_
 refine kZ 0 hcx (fun (x : {x : Nat // match x with | k => (k ≤ kQ l n) ∧ (∀ j, j < k → ¬ (ka1 (kB l n) (j * 2) 0 ≤ z ∧ z ≤ ka1 (kB l n) (j * 2 + 1) 0))}) => match x with | ⟨k, _⟩ => (⟨[(1, iV z), (8, sV .i64 (kB l n) (kQ l n)), (9, uV (kQ l n)), (10, uV k)], [], 1⟩ : ES)) (fun x => match x with | ⟨k, _⟩ => kQ l n - k) ⟨(0 : Nat), ⟨dZ, (fun j hj => absurd hj (kd3 j))⟩⟩ [] (P := (kO z) ∧ (kM (dI .i64 (kB l n))) ∧ (kH (kQ l n)) ∧ (kO (kQ l n : Int)) ∧ (kO 0)) zk ⟨rfl, rfl, rfl, rfl, rfl⟩ ?_
 rintro ⟨k, hinv0⟩
 obtain ⟨hk, ha⟩ : (k ≤ kQ l n) ∧ (∀ j, j < k → ¬ (ka1 (kB l n) (j * 2) 0 ≤ z ∧ z ≤ ka1 (kB l n) (j * 2 + 1) 0)) := hinv0
 refine qT (l := [(1, iV z), (8, sV .i64 (kB l n) (kQ l n)), (9, uV (kQ l n)), (10, uV k)]) (g := []) (nx := 1) rfl rfl rfl ?_
 by_cases hx3 : (((k : Nat) : Int) < (((kQ l n) : Nat) : Int))
 ·refine kL [.b true] (((k : Int) < (kQ l n : Int))) [(1, iV z), (8, sV .i64 (kB l n) (kQ l n)), (9, uV (kQ l n)), (10, uV k), (11, bV true)] [] 1 zo ?_
  refine AW.seq ?_
  refine vP ?_
  refine AW.seq ?_
  refine AW.block ?_
  refine kL [.n k, .ds [iD (ka1 (kB l n) (k * 2) 0), iD (ka1 (kB l n) ((k * 2) + 1) 0)], .no, .no] ((kO (k : Int)) ∧ (k < (kQ l n)) ∧ (ka3 2 (ka4 (k * 2) (dI .i64 (kB l n))) = [iD (ka1 (kB l n) (k * 2) 0), iD (ka1 (kB l n) ((k * 2) + 1) 0)]) ∧ (([iD (ka1 (kB l n) (k * 2) 0), iD (ka1 (kB l n) ((k * 2) + 1) 0)] : List D).length = 2)) [(1, iV z), (6, rV 1 0), (8, sV .i64 (kB l n) (kQ l n)), (9, uV (kQ l n)), (10, uV k)] [(1, some (77, .ds [iD (ka1 (kB l n) (k * 2) 0), iD (ka1 (kB l n) ((k * 2) + 1) 0)]))] 2 ⟨rfl, zo, (bN .i64 (kB l n) (k * 2) 2 zD), rfl⟩ ?_
  by_cases hx4 : ((ka1 (kB l n) (k * 2) 0) ≤ z)
  ·by_cases hx5 : (z ≤ (ka1 (kB l n) ((k * 2) + 1) 0))
   ·refine kL (.no :: .no :: .no :: .b true :: qA 4 [.b true, .no]) ((((ka1 (kB l n) (k * 2) 0) ≤ z)) ∧ ((z ≤ (ka1 (kB l n) ((k * 2) + 1) 0)))) [(1, iV z), (8, sV .i64 (kB l n) (kQ l n)), (9, uV (kQ l n)), (10, uV k), (23, bV true)] [] 2 ⟨zo, zo⟩ ?_
    refine zt ?_
    refine kP [.no] True [(4, bV true)] trivial ?_
    refine AW.ret ?_
    exact kD (.inr rfl) [] (P := ((oE (kB l n) z) = true)) zk (by first | exact u54 (k := k) (kV hl) zo zo | exact u55 (kV hl) (fun j hj => ha j zo))
   ·refine kL (.no :: .no :: .no :: .b true :: qA 4 [.b false, .no]) ((((ka1 (kB l n) (k * 2) 0) ≤ z)) ∧ (¬ (z ≤ (ka1 (kB l n) ((k * 2) + 1) 0)))) [(1, iV z), (8, sV .i64 (kB l n) (kQ l n)), (9, uV (kQ l n)), (10, uV k), (23, bV false)] [] 2 ⟨zo, zo⟩ ?_
    refine uB ?_
    refine uS [.w, .no] ((-9223372036854775808) ≤ ((k : Int) + 1) ∧ ((k : Int) + 1) ≤ 9223372036854775807) [(1, iV z), (8, sV .i64 (kB l n) (kQ l n)), (9, uV (kQ l n)), (10, iV (↑k + 1))] ⟨by omega, by omega⟩ ?_
    exact kW ⟨((k + 1) : Nat), ⟨dZ, (fun j hj => (Nat.lt_succ_iff_lt_or_eq.1 hj).elim (ha j) (fun e9 => by subst e9; omega))⟩⟩ [] (P := (kO z) ∧ (kM (dI .i64 (kB l n))) ∧ (kH (kQ l n)) ∧ (kO (kQ l n : Int)) ∧ (((((k + 1) : Nat) : Int) : Int) = ((k : Int) + 1))) zk ⟨rfl, rfl, rfl, rfl, j6⟩ (show kQ l n - (k + 1) < kQ l n - k from j5)
  ·refine kL [.no, .no, .no, .b false, .no, .no] (¬ ((ka1 (kB l n) (k * 2) 0) ≤ z)) [(1, iV z), (8, sV .i64 (kB l n) (kQ l n)), (9, uV (kQ l n)), (10, uV k), (23, bV false)] [] 2 zo ?_
   refine uB ?_
   refine uS [.w, .no] ((-9223372036854775808) ≤ ((k : Int) + 1) ∧ ((k : Int) + 1) ≤ 9223372036854775807) [(1, iV z), (8, sV .i64 (kB l n) (kQ l n)), (9, uV (kQ l n)), (10, iV (↑k + 1))] ⟨by omega, by omega⟩ ?_
   exact kW ⟨((k + 1) : Nat), ⟨dZ, (fun j hj => (Nat.lt_succ_iff_lt_or_eq.1 hj).elim (ha j) (fun e9 => by subst e9; omega))⟩⟩ [] (P := (kO z) ∧ (kM (dI .i64 (kB l n))) ∧ (kH (kQ l n)) ∧ (kO (kQ l n : Int)) ∧ (((((k + 1) : Nat) : Int) : Int) = ((k : Int) + 1))) zk ⟨rfl, rfl, rfl, rfl, j6⟩ (show kQ l n - (k + 1) < kQ l n - k from j5)
 ·refine kL [.b false] (¬ ((k : Int) < (kQ l n : Int))) [(1, iV z), (8, sV .i64 (kB l n) (kQ l n)), (9, uV (kQ l n)), (10, uV k), (11, bV false)] [] 1 zo ?_
  refine AW.seq ?_
  refine zf ?_
  refine AW.exit ?_
  refine kL [.no] True [(4, bV false)] [] 1 trivial ?_
  refine AW.ret ?_
  exact kD (.inr rfl) [] (P := ((oE (kB l n) z) = false)) zk (by first | exact u54 (k := k) (kV hl) zo zo | exact u55 (kV hl) (fun j hj => ha j zo))
end Go.Proofs.YtcfmjpnffembpaaGreat
