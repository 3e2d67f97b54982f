/- Sets of integers: A. No statement is proved here. -/
import Derived.Test.YtcfmjpnffembpaaGreatZW09
namespace Go.Proofs.YtcfmjpnffembpaaGreat
open Go.ChangeShapes Go.WideShapes Go.ChangeAt Go.RowKit
open Bool renaming eq_false_or_eq_true → ka9
open List renaming drop → ka3, drop_drop → kf2, getD → ka1, length → ka0, length_append → ka6, length_cons → kb0, length_drop → kb3, length_map → kc5, length_nil → kb1, length_replicate → kb4, length_reverse → kc0, length_set → kb8, length_take → kb2, take → ka5
open Nat renaming le_of_ble_eq_true → ka4, mul_one → kc6, not_lt_zero → kd5
set_option linter.unusedVariables false
set_option linter.unusedSimpArgs false
set_option maxHeartbeats 4000000
set_option maxRecDepth 100000
theorem tH {p : Prop} (h : p := by first | rfl | assumption | exact decide_eq_true (by omega) | exact decide_eq_false (by omega) | (simp; omega)) : p := h
theorem lO (a b : Int)  : Fun 147 [.agg [iC a, iC b]] (kH []) 0 (uP (D.lit (.bool (decide (0 ≤ a ∧ a ≤ b ∧ b ≤ 2147483647))))) (kH []) 0 := by
 refine Fun.mk (n := 18) Tryz.func147 rfl rfl (ka4 rfl) ?_
 intro cx hcx
 refine kK [.no, .no] True [(1, rV 0 0)] [(0, some (77, .ds [iD a, iD b]))] 1 trivial ?_
 by_cases hx1 : ((0 : Int) ≤ a)
 ·by_cases hx2 : (a ≤ b)
  ·by_cases hx3 : (b ≤ 2147483647)
   ·refine kK (.no :: .no :: .b true :: qE 5 (.b true :: qE 4 [.b true, .no, .no])) ((((0 : Int) ≤ a)) ∧ ((a ≤ b)) ∧ ((b ≤ 2147483647))) [(2, bV true)] [] 1 ⟨zo, zo, zo⟩ ?_
    refine AW.ret ?_
    exact kA (.inr rfl) [] (P := ((decide (0 ≤ a ∧ a ≤ b ∧ b ≤ 2147483647)) = true)) zk tH
   ·refine kK (.no :: .no :: .b true :: qE 5 (.b true :: qE 4 [.b false, .no, .no])) ((((0 : Int) ≤ a)) ∧ ((a ≤ b)) ∧ (¬ (b ≤ 2147483647))) [(2, bV false)] [] 1 ⟨zo, zo, zo⟩ ?_
    refine AW.ret ?_
    exact kA (.inr rfl) [] (P := ((decide (0 ≤ a ∧ a ≤ b ∧ b ≤ 2147483647)) = false)) zk tH
  ·refine kK (.no :: .no :: .b true :: qE 5 (.b false :: qE 4 [])) ((((0 : Int) ≤ a)) ∧ (¬ (a ≤ b))) [(2, bV false)] [] 1 ⟨zo, zo⟩ ?_
   refine AW.ret ?_
   exact kA (.inr rfl) [] (P := ((decide (0 ≤ a ∧ a ≤ b ∧ b ≤ 2147483647)) = false)) zk tH
 ·refine kK (.no :: .no :: .b false :: qE 5 []) (¬ ((0 : Int) ≤ a)) [(2, bV false)] [] 1 zo ?_
  refine AW.ret ?_
  exact kA (.inr rfl) [] (P := ((decide (0 ≤ a ∧ a ≤ b ∧ b ≤ 2147483647)) = false)) zk tH
theorem eW {p : Prop} (h : p := by first | omega | assumption | simp) : p := h
theorem k1m {p : Prop} (h : p := by first | omega | (simp only [uN, qQ, ka6, kb0, kb1, kb2, kb3, kb4, kb8, kc5, kc0, kc6] <;> omega) | rfl) : p := h
theorem tI {p : Prop} (h : p := by first | (rw [kf2]; exact q6 _ _ _ (by first | omega | (simp only [uN, qQ, ka6, kb0, kb1, kb2, kb3, kb4, kb8, kc5, kc0, kc6] <;> omega) | rfl)) | (rw [kf2, Nat.add_comm]; exact q6 _ _ _ (by first | omega | (simp only [uN, qQ, ka6, kb0, kb1, kb2, kb3, kb4, kb8, kc5, kc0, kc6] <;> omega) | rfl))) : p := h
theorem l6 {p : Prop} (h : p := by first | rfl | omega | assumption | (simp; done) | (simp; omega)) : p := h
theorem l5 {p : Prop} (h : p := by first | omega | (show _ < _; simp; omega)) : p := h
theorem iH (l : List Int) (n : Nat) (hl : ka0 l = n * 2) (hb : n ≤ 9223372036854775807) : Fun 130 [.agg [.d (D.sl (dI .i64 l) n)]] (kH []) 0 (uP (D.lit (.bool (eX l n)))) (kH []) 0 := by
 refine Fun.mk (n := 38) Tryz.func130 rfl rfl (ka4 rfl) ?_
 intro cx hcx
 refine kK [.no, .no] True [(1, rV 0 0)] [(0, some (56, .ds [dl l n]))] 1 trivial ?_
 refine AW.seq ?_
 by_cases hx1 : ((64 : Int) < ((n : Nat) : Int))
 ·refine kO [.no, .no, .no, .b true] (((64 : Int) < (n : Int))) [(1, rV 0 0), (8, bV true)] zo ?_
  refine zt ?_
  refine kK [.no] True [(2, bV false)] [] 1 trivial ?_
  refine AW.ret ?_
  exact kA (.inr rfl) [] (P := ((eX l n) = false)) zk (by first | exact fV zo (fun j hj => ha j zo) | exact iS zo | exact iQ (k := k) zo (decide_eq_false zo))
 ·refine kO [.no, .no, .no, .b false] (¬ ((64 : Int) < (n : Int))) [(1, rV 0 0), (8, bV false)] zo ?_
  refine q8 ?_
  refine AW.seq ?_
  refine kO (qE 4 []) True [(1, rV 0 0), (10, sV .i64 l n), (11, uV n), (12, iV 0)] trivial ?_
  refine AW.block ?_
  refine kY 0 hcx (fun (x : {x : Nat // match x with | k => (k ≤ n) ∧ (∀ j, j < k → vaE l j = true)}) => match x with | ⟨k, _⟩ => (⟨[(1, rV 0 0), (10, sV .i64 l n), (11, uV n), (12, uV k)], [(0, some (56, .ds [dl l n]))], 1⟩ : ES)) (fun x => match x with | ⟨k, _⟩ => n - k) ⟨(0 : Nat), ⟨eW, (fun j hj => absurd hj (kd5 j))⟩⟩ [] (P := (kJ 0) ∧ (kM (dI .i64 l)) ∧ (kJ n) ∧ (kN (n : Int)) ∧ (kN 0) ∧ (kM [dl l n])) zk ⟨rfl, rfl, rfl, rfl, rfl, rfl⟩ ?_
  rintro ⟨k, hinv0⟩
  obtain ⟨hk, ha⟩ : (k ≤ n) ∧ (∀ j, j < k → vaE l j = true) := hinv0
  refine qR (l := [(1, rV 0 0), (10, sV .i64 l n), (11, uV n), (12, uV k)]) (g := [(0, some (56, .ds [dl l n]))]) (nx := 1) rfl rfl rfl ?_
  by_cases hx2 : (((k : Nat) : Int) < ((n : Nat) : Int))
  ·refine kK [.b true] (((k : Int) < (n : Int))) [(1, rV 0 0), (10, sV .i64 l n), (11, uV n), (12, uV k), (13, bV true)] [(0, some (56, .ds [dl l n]))] 1 zo ?_
   refine AW.seq ?_
   refine vB ?_
   refine AW.seq ?_
   refine AW.block ?_
   refine kK [.no, .n k, .ds [iD (ka1 l (k * 2) 0), iD (ka1 l ((k * 2) + 1) 0)], .no, .no, .no] ((kN (k : Int)) ∧ (k < n) ∧ (ka5 2 (ka3 (k * 2) (dI .i64 l)) = [iD (ka1 l (k * 2) 0), iD (ka1 l ((k * 2) + 1) 0)]) ∧ (([iD (ka1 l (k * 2) 0), iD (ka1 l ((k * 2) + 1) 0)] : List D).length = 2)) [(1, rV 0 0), (3, uV k), (4, rV 1 0), (10, sV .i64 l n), (11, uV n), (12, uV k)] [(0, some (56, .ds [dl l n])), (1, some (77, .ds [iD (ka1 l (k * 2) 0), iD (ka1 l ((k * 2) + 1) 0)]))] 2 ⟨rfl, zo, (aM .i64 l (k * 2) 2 k1m), rfl⟩ ?_
   rcases ka9 (decide (0 ≤ (ka1 l (k * 2) 0) ∧ (ka1 l (k * 2) 0) ≤ (ka1 l ((k * 2) + 1) 0) ∧ (ka1 l ((k * 2) + 1) 0) ≤ 2147483647)) with hx3 | hx3
   ·have hx4 : (((0 : Int) ≤ (ka1 l (k * 2) 0)) ∧ (((ka1 l (k * 2) 0) ≤ (ka1 l ((k * 2) + 1) 0)) ∧ ((ka1 l ((k * 2) + 1) 0) ≤ 2147483647))) := of_decide_eq_true hx3
    by_cases hx5 : ((0 : Int) < ((k : Nat) : Int))
    ·by_cases hx7 : ((ka1 l (k * 2) 0) ≤ ((ka1 l (((k - 1) * 2) + 1) 0) + 1))
     ·have hx8 : 0 ≤ ka1 l ((k - 1) * 2 + 1) 0 ∧ ka1 l ((k - 1) * 2 + 1) 0 ≤ 2147483647 := jU ha zo
      refine kK (.no :: .call [] (bV true) [] 0 [] none :: .no :: .no :: .no :: .b true :: qE 6 [.w, .n (k - 1), .no, .d (D.lit (.int .i64 (ka1 l (((k - 1) * 2) + 1) 0))), .w, .b true, .no, .no]) ((Fun 147 [.agg [iC (ka1 l (k * 2) 0), iC (ka1 l ((k * 2) + 1) 0)]] (kH []) 0 (bV true) (kH []) 0) ∧ (((0 : Int) < (k : Int))) ∧ ((-9223372036854775808) ≤ ((k : Int) - 1) ∧ ((k : Int) - 1) ≤ 9223372036854775807) ∧ ((((k : Int) - 1) : Int) = (((k - 1) : Nat) : Int)) ∧ ((k - 1) < n) ∧ ((ka3 1 (ka3 ((k - 1) * 2) (dI .i64 l)))[0]? = some (D.lit (.int .i64 (ka1 l (((k - 1) * 2) + 1) 0)))) ∧ ((-9223372036854775808) ≤ ((ka1 l (((k - 1) * 2) + 1) 0) + 1) ∧ ((ka1 l (((k - 1) * 2) + 1) 0) + 1) ≤ 9223372036854775807) ∧ (((ka1 l (k * 2) 0) ≤ ((ka1 l (((k - 1) * 2) + 1) 0) + 1)))) [(1, rV 0 0), (10, sV .i64 l n), (11, uV n), (12, uV k), (36, bV true)] [(0, some (56, .ds [dl l n]))] 2 ⟨(by have h0 := (lO (ka1 l (k * 2) 0) (ka1 l ((k * 2) + 1) 0)); rw [hx3] at h0; exact h0), zo, ⟨by omega, by omega⟩, (by first | rfl | omega), zo, tI, ⟨by omega, by omega⟩, zo⟩ ?_
      refine zt ?_
      refine kK [.no] True [(2, bV false)] [] 2 trivial ?_
      refine AW.ret ?_
      exact kA (.inr rfl) [] (P := ((eX l n) = false)) zk (by first | exact fV zo (fun j hj => ha j zo) | exact iS zo | exact iQ (k := k) zo (decide_eq_false zo))
     ·have hx9 : 0 ≤ ka1 l ((k - 1) * 2 + 1) 0 ∧ ka1 l ((k - 1) * 2 + 1) 0 ≤ 2147483647 := jU ha zo
      refine kK (.no :: .call [] (bV true) [] 0 [] none :: .no :: .no :: .no :: .b true :: qE 6 [.w, .n (k - 1), .no, .d (D.lit (.int .i64 (ka1 l (((k - 1) * 2) + 1) 0))), .w, .b false, .no, .no]) ((Fun 147 [.agg [iC (ka1 l (k * 2) 0), iC (ka1 l ((k * 2) + 1) 0)]] (kH []) 0 (bV true) (kH []) 0) ∧ (((0 : Int) < (k : Int))) ∧ ((-9223372036854775808) ≤ ((k : Int) - 1) ∧ ((k : Int) - 1) ≤ 9223372036854775807) ∧ ((((k : Int) - 1) : Int) = (((k - 1) : Nat) : Int)) ∧ ((k - 1) < n) ∧ ((ka3 1 (ka3 ((k - 1) * 2) (dI .i64 l)))[0]? = some (D.lit (.int .i64 (ka1 l (((k - 1) * 2) + 1) 0)))) ∧ ((-9223372036854775808) ≤ ((ka1 l (((k - 1) * 2) + 1) 0) + 1) ∧ ((ka1 l (((k - 1) * 2) + 1) 0) + 1) ≤ 9223372036854775807) ∧ (¬ ((ka1 l (k * 2) 0) ≤ ((ka1 l (((k - 1) * 2) + 1) 0) + 1)))) [(1, rV 0 0), (10, sV .i64 l n), (11, uV n), (12, uV k), (36, bV false)] [(0, some (56, .ds [dl l n]))] 2 ⟨(by have h0 := (lO (ka1 l (k * 2) 0) (ka1 l ((k * 2) + 1) 0)); rw [hx3] at h0; exact h0), zo, ⟨by omega, by omega⟩, (by first | rfl | omega), zo, tI, ⟨by omega, by omega⟩, zo⟩ ?_
      refine q8 ?_
      refine uT [.w, .no] ((-9223372036854775808) ≤ ((k : Int) + 1) ∧ ((k : Int) + 1) ≤ 9223372036854775807) [(1, rV 0 0), (10, sV .i64 l n), (11, uV n), (12, iV (↑k + 1))] ⟨by omega, by omega⟩ ?_
      exact kW ⟨((k + 1) : Nat), ⟨eW, (fun j hj => (Nat.lt_succ_iff_lt_or_eq.1 hj).elim (ha j) (fun e9 => by subst e9; exact decide_eq_true zo))⟩⟩ [] (P := (kJ 0) ∧ (kM (dI .i64 l)) ∧ (kJ n) ∧ (kN (n : Int)) ∧ (((((k + 1) : Nat) : Int) : Int) = ((k : Int) + 1)) ∧ (kM [dl l n])) zk ⟨rfl, rfl, rfl, rfl, l6, rfl⟩ (show n - (k + 1) < n - k from l5)
    ·refine kK [.no, .call [] (bV true) [] 0 [] none, .no, .no, .no, .b false, .no, .no, .no] ((Fun 147 [.agg [iC (ka1 l (k * 2) 0), iC (ka1 l ((k * 2) + 1) 0)]] (kH []) 0 (bV true) (kH []) 0) ∧ (¬ ((0 : Int) < (k : Int)))) [(1, rV 0 0), (10, sV .i64 l n), (11, uV n), (12, uV k), (36, bV false)] [(0, some (56, .ds [dl l n]))] 2 ⟨(by have h0 := (lO (ka1 l (k * 2) 0) (ka1 l ((k * 2) + 1) 0)); rw [hx3] at h0; exact h0), zo⟩ ?_
     refine q8 ?_
     refine uT [.w, .no] ((-9223372036854775808) ≤ ((k : Int) + 1) ∧ ((k : Int) + 1) ≤ 9223372036854775807) [(1, rV 0 0), (10, sV .i64 l n), (11, uV n), (12, iV (↑k + 1))] ⟨by omega, by omega⟩ ?_
     exact kW ⟨((k + 1) : Nat), ⟨eW, (fun j hj => (Nat.lt_succ_iff_lt_or_eq.1 hj).elim (ha j) (fun e9 => by subst e9; exact decide_eq_true zo))⟩⟩ [] (P := (kJ 0) ∧ (kM (dI .i64 l)) ∧ (kJ n) ∧ (kN (n : Int)) ∧ (((((k + 1) : Nat) : Int) : Int) = ((k : Int) + 1)) ∧ (kM [dl l n])) zk ⟨rfl, rfl, rfl, rfl, l6, rfl⟩ (show n - (k + 1) < n - k from l5)
   ·have hx10 : ¬ (((0 : Int) ≤ (ka1 l (k * 2) 0)) ∧ (((ka1 l (k * 2) 0) ≤ (ka1 l ((k * 2) + 1) 0)) ∧ ((ka1 l ((k * 2) + 1) 0) ≤ 2147483647))) := of_decide_eq_false hx3
    refine kK [.no, .call [] (bV false) [] 0 [] none, .no, .no, .no] (Fun 147 [.agg [iC (ka1 l (k * 2) 0), iC (ka1 l ((k * 2) + 1) 0)]] (kH []) 0 (bV false) (kH []) 0) [(1, rV 0 0), (10, sV .i64 l n), (11, uV n), (12, uV k), (36, bV true)] [(0, some (56, .ds [dl l n]))] 2 (by have h0 := (lO (ka1 l (k * 2) 0) (ka1 l ((k * 2) + 1) 0)); rw [hx3] at h0; exact h0) ?_
    refine zt ?_
    refine kK [.no] True [(2, bV false)] [] 2 trivial ?_
    refine AW.ret ?_
    exact kA (.inr rfl) [] (P := ((eX l n) = false)) zk (by first | exact fV zo (fun j hj => ha j zo) | exact iS zo | exact iQ (k := k) zo (decide_eq_false zo))
  ·refine kK [.b false] (¬ ((k : Int) < (n : Int))) [(1, rV 0 0), (10, sV .i64 l n), (11, uV n), (12, uV k), (13, bV false)] [(0, some (56, .ds [dl l n]))] 1 zo ?_
   refine AW.seq ?_
   refine zf ?_
   refine AW.exit ?_
   refine kK [.no] True [(2, bV true)] [] 1 trivial ?_
   refine AW.ret ?_
   exact kA (.inr rfl) [] (P := ((eX l n) = true)) zk (by first | exact fV zo (fun j hj => ha j zo) | exact iS zo | exact iQ (k := k) zo (decide_eq_false zo))
theorem c8 (l : List Int) (n : Nat) (hl : ka0 l = n * 2) (hb : n ≤ 9223372036854775807) : Fun 134 [.agg [.d (D.sl (dI .i64 l) n)]] (kH []) 0 (uP (D.lit (.bool (eX l n)))) (kH []) 0 := by
 refine Fun.mk (n := 50) Tryz.func134 rfl rfl (ka4 rfl) ?_
 intro cx hcx
 refine kK [.no, .no] True [(1, rV 0 0)] [(0, some (56, .ds [dl l n]))] 1 trivial ?_
 refine AW.seq ?_
 refine kO (qE 4 []) True [(1, rV 0 0), (6, sV .i64 l n), (7, uV n), (8, iV 0)] trivial ?_
 refine AW.block ?_
 refine kY 0 hcx (fun (x : {x : Nat // match x with | k => (k ≤ n) ∧ (∀ j, j < k → vaE l j = true)}) => match x with | ⟨k, _⟩ => (⟨[(1, rV 0 0), (6, sV .i64 l n), (7, uV n), (8, uV k)], [(0, some (56, .ds [dl l n]))], 1⟩ : ES)) (fun x => match x with | ⟨k, _⟩ => n - k) ⟨(0 : Nat), ⟨eW, (fun j hj => absurd hj (kd5 j))⟩⟩ [] (P := (kJ 0) ∧ (kM (dI .i64 l)) ∧ (kJ n) ∧ (kN (n : Int)) ∧ (kN 0) ∧ (kM [dl l n])) zk ⟨rfl, rfl, rfl, rfl, rfl, rfl⟩ ?_
 rintro ⟨k, hinv0⟩
 obtain ⟨hk, ha⟩ : (k ≤ n) ∧ (∀ j, j < k → vaE l j = true) := hinv0
 refine qR (l := [(1, rV 0 0), (6, sV .i64 l n), (7, uV n), (8, uV k)]) (g := [(0, some (56, .ds [dl l n]))]) (nx := 1) rfl rfl rfl ?_
 by_cases hx1 : (((k : Nat) : Int) < ((n : Nat) : Int))
 ·refine kK [.b true] (((k : Int) < (n : Int))) [(1, rV 0 0), (6, sV .i64 l n), (7, uV n), (8, uV k), (9, bV true)] [(0, some (56, .ds [dl l n]))] 1 zo ?_
  refine AW.seq ?_
  refine vB ?_
  refine AW.seq ?_
  refine AW.block ?_
  refine kK [.no, .n k, .ds [iD (ka1 l (k * 2) 0), iD (ka1 l ((k * 2) + 1) 0)], .no, .no, .no] ((kN (k : Int)) ∧ (k < n) ∧ (ka5 2 (ka3 (k * 2) (dI .i64 l)) = [iD (ka1 l (k * 2) 0), iD (ka1 l ((k * 2) + 1) 0)]) ∧ (([iD (ka1 l (k * 2) 0), iD (ka1 l ((k * 2) + 1) 0)] : List D).length = 2)) [(1, rV 0 0), (3, uV k), (4, rV 1 0), (6, sV .i64 l n), (7, uV n), (8, uV k)] [(0, some (56, .ds [dl l n])), (1, some (77, .ds [iD (ka1 l (k * 2) 0), iD (ka1 l ((k * 2) + 1) 0)]))] 2 ⟨rfl, zo, (aM .i64 l (k * 2) 2 k1m), rfl⟩ ?_
  by_cases hx2 : ((ka1 l (k * 2) 0) < 0)
  ·refine kK (.no :: .no :: .b true :: qE 6 []) (((ka1 l (k * 2) 0) < 0)) [(1, rV 0 0), (6, sV .i64 l n), (7, uV n), (8, uV k), (44, bV true)] [(0, some (56, .ds [dl l n]))] 2 zo ?_
   refine zt ?_
   refine kK [.no] True [(2, bV false)] [] 2 trivial ?_
   refine AW.ret ?_
   exact kA (.inr rfl) [] (P := ((eX l n) = false)) zk (by first | exact fV zo (fun j hj => ha j zo) | exact iS zo | exact iQ (k := k) zo (decide_eq_false zo))
  ·by_cases hx3 : ((ka1 l ((k * 2) + 1) 0) < (ka1 l (k * 2) 0))
   ·refine kK (.no :: .no :: .b false :: qE 5 (.b true :: qE 5 [])) ((¬ ((ka1 l (k * 2) 0) < 0)) ∧ (((ka1 l ((k * 2) + 1) 0) < (ka1 l (k * 2) 0)))) [(1, rV 0 0), (6, sV .i64 l n), (7, uV n), (8, uV k), (44, bV true)] [(0, some (56, .ds [dl l n]))] 2 ⟨zo, zo⟩ ?_
    refine zt ?_
    refine kK [.no] True [(2, bV false)] [] 2 trivial ?_
    refine AW.ret ?_
    exact kA (.inr rfl) [] (P := ((eX l n) = false)) zk (by first | exact fV zo (fun j hj => ha j zo) | exact iS zo | exact iQ (k := k) zo (decide_eq_false zo))
   ·by_cases hx4 : ((2147483647 : Int) < (ka1 l ((k * 2) + 1) 0))
    ·refine kK (.no :: .no :: .b false :: qE 5 (.b false :: qE 4 [.b true, .no, .no, .no])) ((¬ ((ka1 l (k * 2) 0) < 0)) ∧ (¬ ((ka1 l ((k * 2) + 1) 0) < (ka1 l (k * 2) 0))) ∧ (((2147483647 : Int) < (ka1 l ((k * 2) + 1) 0)))) [(1, rV 0 0), (6, sV .i64 l n), (7, uV n), (8, uV k), (44, bV true)] [(0, some (56, .ds [dl l n]))] 2 ⟨zo, zo, zo⟩ ?_
     refine zt ?_
     refine kK [.no] True [(2, bV false)] [] 2 trivial ?_
     refine AW.ret ?_
     exact kA (.inr rfl) [] (P := ((eX l n) = false)) zk (by first | exact fV zo (fun j hj => ha j zo) | exact iS zo | exact iQ (k := k) zo (decide_eq_false zo))
    ·by_cases hx5 : ((0 : Int) < ((k : Nat) : Int))
     ·by_cases hx7 : (((ka1 l (k * 2) 0) - 1) ≤ (ka1 l (((k - 1) * 2) + 1) 0))
      ·have hx8 : 0 ≤ ka1 l ((k - 1) * 2 + 1) 0 ∧ ka1 l ((k - 1) * 2 + 1) 0 ≤ 2147483647 := jU ha zo
       refine kK (.no :: .no :: .b false :: qE 5 (.b false :: qE 4 [.b false, .no, .no, .no, .b true, .no, .no, .no, .w, .no, .no, .no, .w, .n (k - 1), .no, .d (D.lit (.int .i64 (ka1 l (((k - 1) * 2) + 1) 0))), .b true, .no, .no])) ((¬ ((ka1 l (k * 2) 0) < 0)) ∧ (¬ ((ka1 l ((k * 2) + 1) 0) < (ka1 l (k * 2) 0))) ∧ (¬ ((2147483647 : Int) < (ka1 l ((k * 2) + 1) 0))) ∧ (((0 : Int) < (k : Int))) ∧ ((-9223372036854775808) ≤ ((ka1 l (k * 2) 0) - 1) ∧ ((ka1 l (k * 2) 0) - 1) ≤ 9223372036854775807) ∧ ((-9223372036854775808) ≤ ((k : Int) - 1) ∧ ((k : Int) - 1) ≤ 9223372036854775807) ∧ ((((k : Int) - 1) : Int) = (((k - 1) : Nat) : Int)) ∧ ((k - 1) < n) ∧ ((ka3 1 (ka3 ((k - 1) * 2) (dI .i64 l)))[0]? = some (D.lit (.int .i64 (ka1 l (((k - 1) * 2) + 1) 0)))) ∧ ((((ka1 l (k * 2) 0) - 1) ≤ (ka1 l (((k - 1) * 2) + 1) 0)))) [(1, rV 0 0), (6, sV .i64 l n), (7, uV n), (8, uV k), (44, bV true)] [(0, some (56, .ds [dl l n]))] 2 ⟨zo, zo, zo, zo, ⟨by omega, by omega⟩, ⟨by omega, by omega⟩, (by first | rfl | omega), zo, tI, zo⟩ ?_
       refine zt ?_
       refine kK [.no] True [(2, bV false)] [] 2 trivial ?_
       refine AW.ret ?_
       exact kA (.inr rfl) [] (P := ((eX l n) = false)) zk (by first | exact fV zo (fun j hj => ha j zo) | exact iS zo | exact iQ (k := k) zo (decide_eq_false zo))
      ·have hx9 : 0 ≤ ka1 l ((k - 1) * 2 + 1) 0 ∧ ka1 l ((k - 1) * 2 + 1) 0 ≤ 2147483647 := jU ha zo
       refine kK (.no :: .no :: .b false :: qE 5 (.b false :: qE 4 [.b false, .no, .no, .no, .b true, .no, .no, .no, .w, .no, .no, .no, .w, .n (k - 1), .no, .d (D.lit (.int .i64 (ka1 l (((k - 1) * 2) + 1) 0))), .b false, .no, .no])) ((¬ ((ka1 l (k * 2) 0) < 0)) ∧ (¬ ((ka1 l ((k * 2) + 1) 0) < (ka1 l (k * 2) 0))) ∧ (¬ ((2147483647 : Int) < (ka1 l ((k * 2) + 1) 0))) ∧ (((0 : Int) < (k : Int))) ∧ ((-9223372036854775808) ≤ ((ka1 l (k * 2) 0) - 1) ∧ ((ka1 l (k * 2) 0) - 1) ≤ 9223372036854775807) ∧ ((-9223372036854775808) ≤ ((k : Int) - 1) ∧ ((k : Int) - 1) ≤ 9223372036854775807) ∧ ((((k : Int) - 1) : Int) = (((k - 1) : Nat) : Int)) ∧ ((k - 1) < n) ∧ ((ka3 1 (ka3 ((k - 1) * 2) (dI .i64 l)))[0]? = some (D.lit (.int .i64 (ka1 l (((k - 1) * 2) + 1) 0)))) ∧ (¬ (((ka1 l (k * 2) 0) - 1) ≤ (ka1 l (((k - 1) * 2) + 1) 0)))) [(1, rV 0 0), (6, sV .i64 l n), (7, uV n), (8, uV k), (44, bV false)] [(0, some (56, .ds [dl l n]))] 2 ⟨zo, zo, zo, zo, ⟨by omega, by omega⟩, ⟨by omega, by omega⟩, (by first | rfl | omega), zo, tI, zo⟩ ?_
       refine q8 ?_
       refine uT [.w, .no] ((-9223372036854775808) ≤ ((k : Int) + 1) ∧ ((k : Int) + 1) ≤ 9223372036854775807) [(1, rV 0 0), (6, sV .i64 l n), (7, uV n), (8, iV (↑k + 1))] ⟨by omega, by omega⟩ ?_
       exact kW ⟨((k + 1) : Nat), ⟨eW, (fun j hj => (Nat.lt_succ_iff_lt_or_eq.1 hj).elim (ha j) (fun e9 => by subst e9; exact decide_eq_true zo))⟩⟩ [] (P := (kJ 0) ∧ (kM (dI .i64 l)) ∧ (kJ n) ∧ (kN (n : Int)) ∧ (((((k + 1) : Nat) : Int) : Int) = ((k : Int) + 1)) ∧ (kM [dl l n])) zk ⟨rfl, rfl, rfl, rfl, l6, rfl⟩ (show n - (k + 1) < n - k from l5)
     ·refine kK (.no :: .no :: .b false :: qE 5 (.b false :: qE 4 [.b false, .no, .no, .no, .b false, .no, .no, .no])) ((¬ ((ka1 l (k * 2) 0) < 0)) ∧ (¬ ((ka1 l ((k * 2) + 1) 0) < (ka1 l (k * 2) 0))) ∧ (¬ ((2147483647 : Int) < (ka1 l ((k * 2) + 1) 0))) ∧ (¬ ((0 : Int) < (k : Int)))) [(1, rV 0 0), (6, sV .i64 l n), (7, uV n), (8, uV k), (44, bV false)] [(0, some (56, .ds [dl l n]))] 2 ⟨zo, zo, zo, zo⟩ ?_
      refine q8 ?_
      refine uT [.w, .no] ((-9223372036854775808) ≤ ((k : Int) + 1) ∧ ((k : Int) + 1) ≤ 9223372036854775807) [(1, rV 0 0), (6, sV .i64 l n), (7, uV n), (8, iV (↑k + 1))] ⟨by omega, by omega⟩ ?_
      exact kW ⟨((k + 1) : Nat), ⟨eW, (fun j hj => (Nat.lt_succ_iff_lt_or_eq.1 hj).elim (ha j) (fun e9 => by subst e9; exact decide_eq_true zo))⟩⟩ [] (P := (kJ 0) ∧ (kM (dI .i64 l)) ∧ (kJ n) ∧ (kN (n : Int)) ∧ (((((k + 1) : Nat) : Int) : Int) = ((k : Int) + 1)) ∧ (kM [dl l n])) zk ⟨rfl, rfl, rfl, rfl, l6, rfl⟩ (show n - (k + 1) < n - k from l5)
 ·refine kK [.b false] (¬ ((k : Int) < (n : Int))) [(1, rV 0 0), (6, sV .i64 l n), (7, uV n), (8, uV k), (9, bV false)] [(0, some (56, .ds [dl l n]))] 1 zo ?_
  refine AW.seq ?_
  refine zf ?_
  refine AW.exit ?_
  by_cases hx10 : (((n : Nat) : Int) ≤ 64)
  ·refine kK [.no, .no, .no, .b true, .no] (((n : Int) ≤ 64)) [(2, bV true)] [] 1 zo ?_
   refine AW.ret ?_
   exact kA (.inr rfl) [] (P := ((eX l n) = true)) zk (by first | exact fV zo (fun j hj => ha j zo) | exact iS zo | exact iQ (k := k) zo (decide_eq_false zo))
  ·have hx11 : 0 ≤ ka1 l ((k - 1) * 2 + 1) 0 ∧ ka1 l ((k - 1) * 2 + 1) 0 ≤ 2147483647 := jU ha zo
   refine kK [.no, .no, .no, .b false, .no] (¬ ((n : Int) ≤ 64)) [(2, bV false)] [] 1 zo ?_
   refine AW.ret ?_
   exact kA (.inr rfl) [] (P := ((eX l n) = false)) zk (by first | exact fV zo (fun j hj => ha j zo) | exact iS zo | exact iQ (k := k) zo (decide_eq_false zo))
theorem tG {p : Prop} (h : p := by first | omega | rfl | assumption | (simp; done) | (simp; omega)) : p := h
theorem iG (l : List Int) (n : Nat) (hl : ka0 l = n * 2) (hb : n ≤ 9223372036854775807) : Fun 135 [.agg [.d (D.sl (dI .i64 l) n)]] (kH []) 0 (sV .i64 (kC l n) (kP l n)) (kH []) 0 := by
 refine Fun.mk (n := 8) Tryz.func135 rfl rfl (ka4 rfl) ?_
 intro cx hcx
 refine kK [.no, .no] True [(1, rV 0 0)] [(0, some (56, .ds [dl l n]))] 1 trivial ?_
 refine AW.seq ?_
 rcases ka9 (eX l n) with hx1 | hx1
 ·refine kO [.no, .call [] (bV true) [] 0 [] none, .no] (Fun 130 [.agg [.d (dl l n)]] (kH []) 0 (bV true) (kH []) 0) [(1, rV 0 0), (5, bV false)] (by have h0 := (iH l n zo zo); rw [hx1] at h0; exact h0) ?_
  refine q8 ?_
  refine kK [.no, .no, .no] True [(2, sV .i64 l n)] [] 1 trivial ?_
  obtain ⟨hz1, hz2⟩ := k6e hx1
  refine AW.ret ?_
  exact kA (.inr rfl) [] (P := (((dI .i64 (kC l n)) : List D) = (dI .i64 l)) ∧ (((kP l n) : Nat) = n)) zk ⟨(by first | (rw [hz1]; done) | (rw [hz1]; rfl)), tG⟩
 ·refine kO [.no, .call [] (bV false) [] 0 [] none, .no] (Fun 130 [.agg [.d (dl l n)]] (kH []) 0 (bV false) (kH []) 0) [(1, rV 0 0), (5, bV true)] (by have h0 := (iH l n zo zo); rw [hx1] at h0; exact h0) ?_
  refine zt ?_
  refine kK [.no] True [(2, nV)] [] 1 trivial ?_
  obtain ⟨hz1, hz2⟩ := u5r hx1
  refine bG (l' := [(2, kG ([] : List D) 0)]) (g' := []) (NlS.cons rfl (.e (.c .nil)) NlS.nil) NlG.nil ?_
  refine AW.ret ?_
  exact kA (.inr rfl) [] (P := (((dI .i64 (kC l n)) : List D) = ([] : List D)) ∧ (((kP l n) : Nat) = 0)) zk ⟨(by first | (rw [hz1]; done) | (rw [hz1]; rfl)), tG⟩
theorem pV (l : List Int) (n : Nat) (hl : ka0 l = n * 2) (hb : n ≤ 9223372036854775807) : Fun 128 [.agg [.d (D.sl (dI .i64 l) n)]] (kH []) 0 (sV .i64 (kC l n) (kP l n)) (kH []) 0 := by
 refine Fun.mk (n := 8) Tryz.func128 rfl rfl (ka4 rfl) ?_
 intro cx hcx
 refine kK [.no, .no] True [(1, rV 0 0)] [(0, some (56, .ds [dl l n]))] 1 trivial ?_
 refine AW.seq ?_
 rcases ka9 (eX l n) with hx1 | hx1
 ·refine kO [.no, .call [] (bV true) [] 0 [] none, .no] (Fun 134 [.agg [.d (dl l n)]] (kH []) 0 (bV true) (kH []) 0) [(1, rV 0 0), (5, bV false)] (by have h0 := (c8 l n zo zo); rw [hx1] at h0; exact h0) ?_
  refine q8 ?_
  refine kK [.no, .no, .no] True [(2, sV .i64 l n)] [] 1 trivial ?_
  obtain ⟨hz1, hz2⟩ := k6e hx1
  refine AW.ret ?_
  exact kA (.inr rfl) [] (P := (((dI .i64 (kC l n)) : List D) = (dI .i64 l)) ∧ (((kP l n) : Nat) = n)) zk ⟨(by first | (rw [hz1]; done) | (rw [hz1]; rfl)), tG⟩
 ·refine kO [.no, .call [] (bV false) [] 0 [] none, .no] (Fun 134 [.agg [.d (dl l n)]] (kH []) 0 (bV false) (kH []) 0) [(1, rV 0 0), (5, bV true)] (by have h0 := (c8 l n zo zo); rw [hx1] at h0; exact h0) ?_
  refine zt ?_
  refine kK [.no] True [(2, nV)] [] 1 trivial ?_
  obtain ⟨hz1, hz2⟩ := u5r hx1
  refine bG (l' := [(2, kG ([] : List D) 0)]) (g' := []) (NlS.cons rfl (.e (.c .nil)) NlS.nil) NlG.nil ?_
  refine AW.ret ?_
  exact kA (.inr rfl) [] (P := (((dI .i64 (kC l n)) : List D) = ([] : List D)) ∧ (((kP l n) : Nat) = 0)) zk ⟨(by first | (rw [hz1]; done) | (rw [hz1]; rfl)), tG⟩
theorem s6 (l : List Int) (n : Nat) (z : Int) (hl : ka0 l = n * 2) (hb : n ≤ 9223372036854775807) : Fun 95 [.agg [.d (D.sl (dI .i64 l) n)], iE z] (kH []) 0 (uP (D.lit (.bool (dK (kC l n) z)))) (kH []) 0 := by
 refine Fun.mk (n := 25) Tryz.func95 rfl rfl (ka4 rfl) ?_
 intro cx hcx
 refine kK [.no, .no] True [(1, iV z), (2, rV 0 0)] [(0, some (56, .ds [dl l n]))] 1 trivial ?_
 refine AW.seq ?_
 have hx1 : ((ka0 (kC l n)) = ((kP l n) * 2)) := kU (zo)
 have hx2 : (((kP l n) ≤ 64) ∧ ((kP l n) ≤ n)) := aN
 refine kK [.no, .call [] (sV .i64 (kC l n) (kP l n)) [] 0 [] none, .no, .no] _ [(1, iV z), (8, sV .i64 (kC l n) (kP l n)), (9, uV (kP l n)), (10, iV 0)] [] 1 (iG l n zo zo) ?_
 refine AW.block ?_
 refine kY 0 hcx (fun (x : {x : Nat // match x with | k => (k ≤ kP l n) ∧ (∀ j, j < k → ¬ (ka1 (kC l n) (j * 2) 0 ≤ z ∧ z ≤ ka1 (kC l n) (j * 2 + 1) 0))}) => match x with | ⟨k, _⟩ => (⟨[(1, iV z), (8, sV .i64 (kC l n) (kP l n)), (9, uV (kP l n)), (10, uV k)], [], 1⟩ : ES)) (fun x => match x with | ⟨k, _⟩ => kP l n - k) ⟨(0 : Nat), ⟨eW, (fun j hj => absurd hj (kd5 j))⟩⟩ [] (P := (kN z) ∧ (kM (dI .i64 (kC l n))) ∧ (kJ (kP l n)) ∧ (kN (kP l n : Int)) ∧ (kN 0)) zk ⟨rfl, rfl, rfl, rfl, rfl⟩ ?_
 rintro ⟨k, hinv0⟩
 obtain ⟨hk, ha⟩ : (k ≤ kP l n) ∧ (∀ j, j < k → ¬ (ka1 (kC l n) (j * 2) 0 ≤ z ∧ z ≤ ka1 (kC l n) (j * 2 + 1) 0)) := hinv0
 refine qR (l := [(1, iV z), (8, sV .i64 (kC l n) (kP l n)), (9, uV (kP l n)), (10, uV k)]) (g := []) (nx := 1) rfl rfl rfl ?_
 by_cases hx3 : (((k : Nat) : Int) < (((kP l n) : Nat) : Int))
 ·refine kK [.b true] (((k : Int) < (kP l n : Int))) [(1, iV z), (8, sV .i64 (kC l n) (kP l n)), (9, uV (kP l n)), (10, uV k), (11, bV true)] [] 1 zo ?_
  refine AW.seq ?_
  refine vB ?_
  refine AW.seq ?_
  refine AW.block ?_
  refine kK [.n k, .ds [iD (ka1 (kC l n) (k * 2) 0), iD (ka1 (kC l n) ((k * 2) + 1) 0)], .no, .no] ((kN (k : Int)) ∧ (k < (kP l n)) ∧ (ka5 2 (ka3 (k * 2) (dI .i64 (kC l n))) = [iD (ka1 (kC l n) (k * 2) 0), iD (ka1 (kC l n) ((k * 2) + 1) 0)]) ∧ (([iD (ka1 (kC l n) (k * 2) 0), iD (ka1 (kC l n) ((k * 2) + 1) 0)] : List D).length = 2)) [(1, iV z), (6, rV 1 0), (8, sV .i64 (kC l n) (kP l n)), (9, uV (kP l n)), (10, uV k)] [(1, some (77, .ds [iD (ka1 (kC l n) (k * 2) 0), iD (ka1 (kC l n) ((k * 2) + 1) 0)]))] 2 ⟨rfl, zo, (aM .i64 (kC l n) (k * 2) 2 k1m), rfl⟩ ?_
  by_cases hx4 : ((ka1 (kC l n) (k * 2) 0) ≤ z)
  ·by_cases hx5 : (z ≤ (ka1 (kC l n) ((k * 2) + 1) 0))
   ·refine kK (.no :: .no :: .no :: .b true :: qE 4 [.b true, .no]) ((((ka1 (kC l n) (k * 2) 0) ≤ z)) ∧ ((z ≤ (ka1 (kC l n) ((k * 2) + 1) 0)))) [(1, iV z), (8, sV .i64 (kC l n) (kP l n)), (9, uV (kP l n)), (10, uV k), (23, bV true)] [] 2 ⟨zo, zo⟩ ?_
    refine zt ?_
    refine kO [.no] True [(4, bV true)] trivial ?_
    refine AW.ret ?_
    exact kA (.inr rfl) [] (P := ((dK (kC l n) z) = true)) zk (by first | exact k8d (k := k) (kU hl) zo zo | exact v0e (kU hl) (fun j hj => ha j zo))
   ·refine kK (.no :: .no :: .no :: .b true :: qE 4 [.b false, .no]) ((((ka1 (kC l n) (k * 2) 0) ≤ z)) ∧ (¬ (z ≤ (ka1 (kC l n) ((k * 2) + 1) 0)))) [(1, iV z), (8, sV .i64 (kC l n) (kP l n)), (9, uV (kP l n)), (10, uV k), (23, bV false)] [] 2 ⟨zo, zo⟩ ?_
    refine q8 ?_
    refine uT [.w, .no] ((-9223372036854775808) ≤ ((k : Int) + 1) ∧ ((k : Int) + 1) ≤ 9223372036854775807) [(1, iV z), (8, sV .i64 (kC l n) (kP l n)), (9, uV (kP l n)), (10, iV (↑k + 1))] ⟨by omega, by omega⟩ ?_
    exact kW ⟨((k + 1) : Nat), ⟨eW, (fun j hj => (Nat.lt_succ_iff_lt_or_eq.1 hj).elim (ha j) (fun e9 => by subst e9; omega))⟩⟩ [] (P := (kN z) ∧ (kM (dI .i64 (kC l n))) ∧ (kJ (kP l n)) ∧ (kN (kP l n : Int)) ∧ (((((k + 1) : Nat) : Int) : Int) = ((k : Int) + 1))) zk ⟨rfl, rfl, rfl, rfl, l6⟩ (show kP l n - (k + 1) < kP l n - k from l5)
  ·refine kK [.no, .no, .no, .b false, .no, .no] (¬ ((ka1 (kC l n) (k * 2) 0) ≤ z)) [(1, iV z), (8, sV .i64 (kC l n) (kP l n)), (9, uV (kP l n)), (10, uV k), (23, bV false)] [] 2 zo ?_
   refine q8 ?_
   refine uT [.w, .no] ((-9223372036854775808) ≤ ((k : Int) + 1) ∧ ((k : Int) + 1) ≤ 9223372036854775807) [(1, iV z), (8, sV .i64 (kC l n) (kP l n)), (9, uV (kP l n)), (10, iV (↑k + 1))] ⟨by omega, by omega⟩ ?_
   exact kW ⟨((k + 1) : Nat), ⟨eW, (fun j hj => (Nat.lt_succ_iff_lt_or_eq.1 hj).elim (ha j) (fun e9 => by subst e9; omega))⟩⟩ [] (P := (kN z) ∧ (kM (dI .i64 (kC l n))) ∧ (kJ (kP l n)) ∧ (kN (kP l n : Int)) ∧ (((((k + 1) : Nat) : Int) : Int) = ((k : Int) + 1))) zk ⟨rfl, rfl, rfl, rfl, l6⟩ (show kP l n - (k + 1) < kP l n - k from l5)
 ·refine kK [.b false] (¬ ((k : Int) < (kP l n : Int))) [(1, iV z), (8, sV .i64 (kC l n) (kP l n)), (9, uV (kP l n)), (10, uV k), (11, bV false)] [] 1 zo ?_
  refine AW.seq ?_
  refine zf ?_
  refine AW.exit ?_
  refine kK [.no] True [(4, bV false)] [] 1 trivial ?_
  refine AW.ret ?_
  exact kA (.inr rfl) [] (P := ((dK (kC l n) z) = false)) zk (by first | exact k8d (k := k) (kU hl) zo zo | exact v0e (kU hl) (fun j hj => ha j zo))
end Go.Proofs.YtcfmjpnffembpaaGreat
