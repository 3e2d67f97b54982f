/- Sets of integers: A. No statement is proved here. -/
import Derived.Test.YtcfmjpnffembpaaGreatZW09
namespace Go.Proofs.YtcfmjpnffembpaaGreat
open Go.ChangeShapes Go.WideShapes Go.ChangeAt Go.RowKit
set_option linter.unusedVariables false
set_option linter.unusedSimpArgs false
set_option maxHeartbeats 4000000
set_option maxRecDepth 100000
theorem zl09a2 {p : Prop} (h : p := by first | rfl | assumption | exact decide_eq_true (by omega) | exact decide_eq_false (by omega) | (simp; omega)) : p := h
theorem U_isSpan (a b : Int)  : Fun 147 [.agg [iC a, iC b]] (toG []) 0 (.e (.c (.d (D.lit (.bool (decide (0 ≤ a ∧ a ≤ b ∧ b ≤ 2147483647))))))) (toG []) 0 := by
 refine Fun.mk (n := 18) Tryz.func147 rfl rfl (Nat.le_of_ble_eq_true rfl) ?_
 intro cx hcx
 refine y9r [.no, .no] True [(1, rV 0 0)] [(0, some (77, .ds [iD a, iD b]))] 1 trivial ?_
 by_cases hx1 : ((0 : Int) ≤ a)
 ·by_cases hx2 : (a ≤ b)
  ·by_cases hx3 : (b ≤ 2147483647)
   ·refine y9r (.no :: .no :: .b true :: nz9 5 (.b true :: nz9 4 [.b true, .no, .no])) ((((0 : Int) ≤ a)) ∧ ((a ≤ b)) ∧ ((b ≤ 2147483647))) [(2, bV true)] [] 1 ⟨zo, zo, zo⟩ ?_
    refine AW.ret ?_
    exact EndP.of (.inr rfl) [] (P := ((decide (0 ≤ a ∧ a ≤ b ∧ b ≤ 2147483647)) = true)) zk zl09a2
   ·refine y9r (.no :: .no :: .b true :: nz9 5 (.b true :: nz9 4 [.b false, .no, .no])) ((((0 : Int) ≤ a)) ∧ ((a ≤ b)) ∧ (¬ (b ≤ 2147483647))) [(2, bV false)] [] 1 ⟨zo, zo, zo⟩ ?_
    refine AW.ret ?_
    exact EndP.of (.inr rfl) [] (P := ((decide (0 ≤ a ∧ a ≤ b ∧ b ≤ 2147483647)) = false)) zk zl09a2
  ·refine y9r (.no :: .no :: .b true :: nz9 5 (.b false :: nz9 4 [])) ((((0 : Int) ≤ a)) ∧ (¬ (a ≤ b))) [(2, bV false)] [] 1 ⟨zo, zo⟩ ?_
   refine AW.ret ?_
   exact EndP.of (.inr rfl) [] (P := ((decide (0 ≤ a ∧ a ≤ b ∧ b ≤ 2147483647)) = false)) zk zl09a2
 ·refine y9r (.no :: .no :: .b false :: nz9 5 []) (¬ ((0 : Int) ≤ a)) [(2, bV false)] [] 1 zo ?_
  refine AW.ret ?_
  exact EndP.of (.inr rfl) [] (P := ((decide (0 ≤ a ∧ a ≤ b ∧ b ≤ 2147483647)) = false)) zk zl09a2
theorem zl09a6 {p : Prop} (h : p := by first | omega | assumption | simp) : p := h
theorem zl09a1 {p : Prop} (h : p := by first | omega | (simp only [bsD_len, dI_len, List.length_append, List.length_cons, List.length_nil, List.length_take, List.length_drop, List.length_replicate, List.length_set, List.length_map, List.length_reverse, Nat.mul_one] <;> omega) | rfl) : p := h
theorem zl09a0 {p : Prop} (h : p := by first | (rw [List.drop_drop]; exact dI_at _ _ _ (by first | omega | (simp only [bsD_len, dI_len, List.length_append, List.length_cons, List.length_nil, List.length_take, List.length_drop, List.length_replicate, List.length_set, List.length_map, List.length_reverse, Nat.mul_one] <;> omega) | rfl)) | (rw [List.drop_drop, Nat.add_comm]; exact dI_at _ _ _ (by first | omega | (simp only [bsD_len, dI_len, List.length_append, List.length_cons, List.length_nil, List.length_take, List.length_drop, List.length_replicate, List.length_set, List.length_map, List.length_reverse, Nat.mul_one] <;> omega) | rfl))) : p := h
theorem zl09a3 {p : Prop} (h : p := by first | rfl | omega | assumption | (simp; done) | (simp; omega)) : p := h
theorem zl09a5 {p : Prop} (h : p := by first | omega | (show _ < _; simp; omega)) : p := h
theorem U_Valid (l : List Int) (n : Nat) (hl : List.length l = n * 2) (hb : n ≤ 9223372036854775807) : Fun 130 [.agg [.d (D.sl (dI .i64 l) n)]] (toG []) 0 (.e (.c (.d (D.lit (.bool (vaB l n)))))) (toG []) 0 := by
 refine Fun.mk (n := 38) Tryz.func130 rfl rfl (Nat.le_of_ble_eq_true rfl) ?_
 intro cx hcx
 refine y9r [.no, .no] True [(1, rV 0 0)] [(0, some (56, .ds [dl l n]))] 1 trivial ?_
 refine AW.seq ?_
 by_cases hx1 : ((64 : Int) < ((n : Nat) : Int))
 ·refine y9s [.no, .no, .no, .b true] (((64 : Int) < (n : Int))) [(1, rV 0 0), (8, bV true)] zo ?_
  refine zt ?_
  refine y9r [.no] True [(2, bV false)] [] 1 trivial ?_
  refine AW.ret ?_
  exact EndP.of (.inr rfl) [] (P := ((vaB l n) = false)) zk (by first | exact vaB_t zo (fun j hj => ha j zo) | exact vaB_f zo | exact vaB_s (k := k) zo (decide_eq_false zo))
 ·refine y9s [.no, .no, .no, .b false] (¬ ((64 : Int) < (n : Int))) [(1, rV 0 0), (8, bV false)] zo ?_
  refine zfs ?_
  refine AW.seq ?_
  refine y9s (nz9 4 []) True [(1, rV 0 0), (10, sV .i64 l n), (11, uV n), (12, iV 0)] trivial ?_
  refine AW.block ?_
  refine AW.loopE 0 hcx (fun (x : {x : Nat // match x with | k => (k ≤ n) ∧ (∀ j, j < k → vaE l j = true)}) => match x with | ⟨k, _⟩ => (⟨[(1, rV 0 0), (10, sV .i64 l n), (11, uV n), (12, uV k)], [(0, some (56, .ds [dl l n]))], 1⟩ : ES)) (fun x => match x with | ⟨k, _⟩ => n - k) ⟨(0 : Nat), ⟨zl09a6, (fun j hj => absurd hj (Nat.not_lt_zero j))⟩⟩ [] (P := (q9n 0) ∧ (q9d (dI .i64 l)) ∧ (q9n n) ∧ (q9i (n : Int)) ∧ (q9i 0) ∧ (q9d [dl l n])) zk ⟨rfl, rfl, rfl, rfl, rfl, rfl⟩ ?_
  rintro ⟨k, hinv0⟩
  obtain ⟨hk, ha⟩ : (k ≤ n) ∧ (∀ j, j < k → vaE l j = true) := hinv0
  refine AW.es (l := [(1, rV 0 0), (10, sV .i64 l n), (11, uV n), (12, uV k)]) (g := [(0, some (56, .ds [dl l n]))]) (nx := 1) rfl rfl rfl ?_
  by_cases hx2 : (((k : Nat) : Int) < ((n : Nat) : Int))
  ·refine y9r [.b true] (((k : Int) < (n : Int))) [(1, rV 0 0), (10, sV .i64 l n), (11, uV n), (12, uV k), (13, bV true)] [(0, some (56, .ds [dl l n]))] 1 zo ?_
   refine AW.seq ?_
   refine zts ?_
   refine AW.seq ?_
   refine AW.block ?_
   refine y9r [.no, .n k, .ds [iD (List.getD l (k * 2) 0), iD (List.getD l ((k * 2) + 1) 0)], .no, .no, .no] ((q9i (k : Int)) ∧ (k < n) ∧ (List.take 2 (List.drop (k * 2) (dI .i64 l)) = [iD (List.getD l (k * 2) 0), iD (List.getD l ((k * 2) + 1) 0)]) ∧ (([iD (List.getD l (k * 2) 0), iD (List.getD l ((k * 2) + 1) 0)] : List D).length = 2)) [(1, rV 0 0), (3, uV k), (4, rV 1 0), (10, sV .i64 l n), (11, uV n), (12, uV k)] [(0, some (56, .ds [dl l n])), (1, some (77, .ds [iD (List.getD l (k * 2) 0), iD (List.getD l ((k * 2) + 1) 0)]))] 2 ⟨rfl, zo, (dI_lds .i64 l (k * 2) 2 zl09a1), rfl⟩ ?_
   rcases Bool.eq_false_or_eq_true (decide (0 ≤ (List.getD l (k * 2) 0) ∧ (List.getD l (k * 2) 0) ≤ (List.getD l ((k * 2) + 1) 0) ∧ (List.getD l ((k * 2) + 1) 0) ≤ 2147483647)) with hx3 | hx3
   ·have hx4 : (((0 : Int) ≤ (List.getD l (k * 2) 0)) ∧ (((List.getD l (k * 2) 0) ≤ (List.getD l ((k * 2) + 1) 0)) ∧ ((List.getD l ((k * 2) + 1) 0) ≤ 2147483647))) := of_decide_eq_true hx3
    by_cases hx5 : ((0 : Int) < ((k : Nat) : Int))
    ·by_cases hx7 : ((List.getD l (k * 2) 0) ≤ ((List.getD l (((k - 1) * 2) + 1) 0) + 1))
     ·have hx8 : 0 ≤ List.getD l ((k - 1) * 2 + 1) 0 ∧ List.getD l ((k - 1) * 2 + 1) 0 ≤ 2147483647 := va_prev ha zo
      refine y9r (.no :: .call [] (bV true) [] 0 [] none :: .no :: .no :: .no :: .b true :: nz9 6 [.w, .n (k - 1), .no, .d (D.lit (.int .i64 (List.getD l (((k - 1) * 2) + 1) 0))), .w, .b true, .no, .no]) ((Fun 147 [.agg [iC (List.getD l (k * 2) 0), iC (List.getD l ((k * 2) + 1) 0)]] (toG []) 0 (bV true) (toG []) 0) ∧ (((0 : Int) < (k : Int))) ∧ ((-9223372036854775808) ≤ ((k : Int) - 1) ∧ ((k : Int) - 1) ≤ 9223372036854775807) ∧ ((((k : Int) - 1) : Int) = (((k - 1) : Nat) : Int)) ∧ ((k - 1) < n) ∧ ((List.drop 1 (List.drop ((k - 1) * 2) (dI .i64 l)))[0]? = some (D.lit (.int .i64 (List.getD l (((k - 1) * 2) + 1) 0)))) ∧ ((-9223372036854775808) ≤ ((List.getD l (((k - 1) * 2) + 1) 0) + 1) ∧ ((List.getD l (((k - 1) * 2) + 1) 0) + 1) ≤ 9223372036854775807) ∧ (((List.getD l (k * 2) 0) ≤ ((List.getD l (((k - 1) * 2) + 1) 0) + 1)))) [(1, rV 0 0), (10, sV .i64 l n), (11, uV n), (12, uV k), (36, bV true)] [(0, some (56, .ds [dl l n]))] 2 ⟨(by have h0 := (U_isSpan (List.getD l (k * 2) 0) (List.getD l ((k * 2) + 1) 0)); rw [hx3] at h0; exact h0), zo, ⟨by omega, by omega⟩, (by first | rfl | omega), zo, zl09a0, ⟨by omega, by omega⟩, zo⟩ ?_
      refine zt ?_
      refine y9r [.no] True [(2, bV false)] [] 2 trivial ?_
      refine AW.ret ?_
      exact EndP.of (.inr rfl) [] (P := ((vaB l n) = false)) zk (by first | exact vaB_t zo (fun j hj => ha j zo) | exact vaB_f zo | exact vaB_s (k := k) zo (decide_eq_false zo))
     ·have hx9 : 0 ≤ List.getD l ((k - 1) * 2 + 1) 0 ∧ List.getD l ((k - 1) * 2 + 1) 0 ≤ 2147483647 := va_prev ha zo
      refine y9r (.no :: .call [] (bV true) [] 0 [] none :: .no :: .no :: .no :: .b true :: nz9 6 [.w, .n (k - 1), .no, .d (D.lit (.int .i64 (List.getD l (((k - 1) * 2) + 1) 0))), .w, .b false, .no, .no]) ((Fun 147 [.agg [iC (List.getD l (k * 2) 0), iC (List.getD l ((k * 2) + 1) 0)]] (toG []) 0 (bV true) (toG []) 0) ∧ (((0 : Int) < (k : Int))) ∧ ((-9223372036854775808) ≤ ((k : Int) - 1) ∧ ((k : Int) - 1) ≤ 9223372036854775807) ∧ ((((k : Int) - 1) : Int) = (((k - 1) : Nat) : Int)) ∧ ((k - 1) < n) ∧ ((List.drop 1 (List.drop ((k - 1) * 2) (dI .i64 l)))[0]? = some (D.lit (.int .i64 (List.getD l (((k - 1) * 2) + 1) 0)))) ∧ ((-9223372036854775808) ≤ ((List.getD l (((k - 1) * 2) + 1) 0) + 1) ∧ ((List.getD l (((k - 1) * 2) + 1) 0) + 1) ≤ 9223372036854775807) ∧ (¬ ((List.getD l (k * 2) 0) ≤ ((List.getD l (((k - 1) * 2) + 1) 0) + 1)))) [(1, rV 0 0), (10, sV .i64 l n), (11, uV n), (12, uV k), (36, bV false)] [(0, some (56, .ds [dl l n]))] 2 ⟨(by have h0 := (U_isSpan (List.getD l (k * 2) 0) (List.getD l ((k * 2) + 1) 0)); rw [hx3] at h0; exact h0), zo, ⟨by omega, by omega⟩, (by first | rfl | omega), zo, zl09a0, ⟨by omega, by omega⟩, zo⟩ ?_
      refine zfs ?_
      refine y9h [.w, .no] ((-9223372036854775808) ≤ ((k : Int) + 1) ∧ ((k : Int) + 1) ≤ 9223372036854775807) [(1, rV 0 0), (10, sV .i64 l n), (11, uV n), (12, iV (↑k + 1))] ⟨by omega, by omega⟩ ?_
      exact Rd.of ⟨((k + 1) : Nat), ⟨zl09a6, (fun j hj => (Nat.lt_succ_iff_lt_or_eq.1 hj).elim (ha j) (fun e9 => by subst e9; exact decide_eq_true zo))⟩⟩ [] (P := (q9n 0) ∧ (q9d (dI .i64 l)) ∧ (q9n n) ∧ (q9i (n : Int)) ∧ (((((k + 1) : Nat) : Int) : Int) = ((k : Int) + 1)) ∧ (q9d [dl l n])) zk ⟨rfl, rfl, rfl, rfl, zl09a3, rfl⟩ (show n - (k + 1) < n - k from zl09a5)
    ·refine y9r [.no, .call [] (bV true) [] 0 [] none, .no, .no, .no, .b false, .no, .no, .no] ((Fun 147 [.agg [iC (List.getD l (k * 2) 0), iC (List.getD l ((k * 2) + 1) 0)]] (toG []) 0 (bV true) (toG []) 0) ∧ (¬ ((0 : Int) < (k : Int)))) [(1, rV 0 0), (10, sV .i64 l n), (11, uV n), (12, uV k), (36, bV false)] [(0, some (56, .ds [dl l n]))] 2 ⟨(by have h0 := (U_isSpan (List.getD l (k * 2) 0) (List.getD l ((k * 2) + 1) 0)); rw [hx3] at h0; exact h0), zo⟩ ?_
     refine zfs ?_
     refine y9h [.w, .no] ((-9223372036854775808) ≤ ((k : Int) + 1) ∧ ((k : Int) + 1) ≤ 9223372036854775807) [(1, rV 0 0), (10, sV .i64 l n), (11, uV n), (12, iV (↑k + 1))] ⟨by omega, by omega⟩ ?_
     exact Rd.of ⟨((k + 1) : Nat), ⟨zl09a6, (fun j hj => (Nat.lt_succ_iff_lt_or_eq.1 hj).elim (ha j) (fun e9 => by subst e9; exact decide_eq_true zo))⟩⟩ [] (P := (q9n 0) ∧ (q9d (dI .i64 l)) ∧ (q9n n) ∧ (q9i (n : Int)) ∧ (((((k + 1) : Nat) : Int) : Int) = ((k : Int) + 1)) ∧ (q9d [dl l n])) zk ⟨rfl, rfl, rfl, rfl, zl09a3, rfl⟩ (show n - (k + 1) < n - k from zl09a5)
   ·have hx10 : ¬ (((0 : Int) ≤ (List.getD l (k * 2) 0)) ∧ (((List.getD l (k * 2) 0) ≤ (List.getD l ((k * 2) + 1) 0)) ∧ ((List.getD l ((k * 2) + 1) 0) ≤ 2147483647))) := of_decide_eq_false hx3
    refine y9r [.no, .call [] (bV false) [] 0 [] none, .no, .no, .no] (Fun 147 [.agg [iC (List.getD l (k * 2) 0), iC (List.getD l ((k * 2) + 1) 0)]] (toG []) 0 (bV false) (toG []) 0) [(1, rV 0 0), (10, sV .i64 l n), (11, uV n), (12, uV k), (36, bV true)] [(0, some (56, .ds [dl l n]))] 2 (by have h0 := (U_isSpan (List.getD l (k * 2) 0) (List.getD l ((k * 2) + 1) 0)); rw [hx3] at h0; exact h0) ?_
    refine zt ?_
    refine y9r [.no] True [(2, bV false)] [] 2 trivial ?_
    refine AW.ret ?_
    exact EndP.of (.inr rfl) [] (P := ((vaB l n) = false)) zk (by first | exact vaB_t zo (fun j hj => ha j zo) | exact vaB_f zo | exact vaB_s (k := k) zo (decide_eq_false zo))
  ·refine y9r [.b false] (¬ ((k : Int) < (n : Int))) [(1, rV 0 0), (10, sV .i64 l n), (11, uV n), (12, uV k), (13, bV false)] [(0, some (56, .ds [dl l n]))] 1 zo ?_
   refine AW.seq ?_
   refine zf ?_
   refine AW.exit ?_
   refine y9r [.no] True [(2, bV true)] [] 1 trivial ?_
   refine AW.ret ?_
   exact EndP.of (.inr rfl) [] (P := ((vaB l n) = true)) zk (by first | exact vaB_t zo (fun j hj => ha j zo) | exact vaB_f zo | exact vaB_s (k := k) zo (decide_eq_false zo))
theorem U_rValid (l : List Int) (n : Nat) (hl : List.length l = n * 2) (hb : n ≤ 9223372036854775807) : Fun 134 [.agg [.d (D.sl (dI .i64 l) n)]] (toG []) 0 (.e (.c (.d (D.lit (.bool (vaB l n)))))) (toG []) 0 := by
 refine Fun.mk (n := 50) Tryz.func134 rfl rfl (Nat.le_of_ble_eq_true rfl) ?_
 intro cx hcx
 refine y9r [.no, .no] True [(1, rV 0 0)] [(0, some (56, .ds [dl l n]))] 1 trivial ?_
 refine AW.seq ?_
 refine y9s (nz9 4 []) True [(1, rV 0 0), (6, sV .i64 l n), (7, uV n), (8, iV 0)] trivial ?_
 refine AW.block ?_
 refine AW.loopE 0 hcx (fun (x : {x : Nat // match x with | k => (k ≤ n) ∧ (∀ j, j < k → vaE l j = true)}) => match x with | ⟨k, _⟩ => (⟨[(1, rV 0 0), (6, sV .i64 l n), (7, uV n), (8, uV k)], [(0, some (56, .ds [dl l n]))], 1⟩ : ES)) (fun x => match x with | ⟨k, _⟩ => n - k) ⟨(0 : Nat), ⟨zl09a6, (fun j hj => absurd hj (Nat.not_lt_zero j))⟩⟩ [] (P := (q9n 0) ∧ (q9d (dI .i64 l)) ∧ (q9n n) ∧ (q9i (n : Int)) ∧ (q9i 0) ∧ (q9d [dl l n])) zk ⟨rfl, rfl, rfl, rfl, rfl, rfl⟩ ?_
 rintro ⟨k, hinv0⟩
 obtain ⟨hk, ha⟩ : (k ≤ n) ∧ (∀ j, j < k → vaE l j = true) := hinv0
 refine AW.es (l := [(1, rV 0 0), (6, sV .i64 l n), (7, uV n), (8, uV k)]) (g := [(0, some (56, .ds [dl l n]))]) (nx := 1) rfl rfl rfl ?_
 by_cases hx1 : (((k : Nat) : Int) < ((n : Nat) : Int))
 ·refine y9r [.b true] (((k : Int) < (n : Int))) [(1, rV 0 0), (6, sV .i64 l n), (7, uV n), (8, uV k), (9, bV true)] [(0, some (56, .ds [dl l n]))] 1 zo ?_
  refine AW.seq ?_
  refine zts ?_
  refine AW.seq ?_
  refine AW.block ?_
  refine y9r [.no, .n k, .ds [iD (List.getD l (k * 2) 0), iD (List.getD l ((k * 2) + 1) 0)], .no, .no, .no] ((q9i (k : Int)) ∧ (k < n) ∧ (List.take 2 (List.drop (k * 2) (dI .i64 l)) = [iD (List.getD l (k * 2) 0), iD (List.getD l ((k * 2) + 1) 0)]) ∧ (([iD (List.getD l (k * 2) 0), iD (List.getD l ((k * 2) + 1) 0)] : List D).length = 2)) [(1, rV 0 0), (3, uV k), (4, rV 1 0), (6, sV .i64 l n), (7, uV n), (8, uV k)] [(0, some (56, .ds [dl l n])), (1, some (77, .ds [iD (List.getD l (k * 2) 0), iD (List.getD l ((k * 2) + 1) 0)]))] 2 ⟨rfl, zo, (dI_lds .i64 l (k * 2) 2 zl09a1), rfl⟩ ?_
  by_cases hx2 : ((List.getD l (k * 2) 0) < 0)
  ·refine y9r (.no :: .no :: .b true :: nz9 6 []) (((List.getD l (k * 2) 0) < 0)) [(1, rV 0 0), (6, sV .i64 l n), (7, uV n), (8, uV k), (44, bV true)] [(0, some (56, .ds [dl l n]))] 2 zo ?_
   refine zt ?_
   refine y9r [.no] True [(2, bV false)] [] 2 trivial ?_
   refine AW.ret ?_
   exact EndP.of (.inr rfl) [] (P := ((vaB l n) = false)) zk (by first | exact vaB_t zo (fun j hj => ha j zo) | exact vaB_f zo | exact vaB_s (k := k) zo (decide_eq_false zo))
  ·by_cases hx3 : ((List.getD l ((k * 2) + 1) 0) < (List.getD l (k * 2) 0))
   ·refine y9r (.no :: .no :: .b false :: nz9 5 (.b true :: nz9 5 [])) ((¬ ((List.getD l (k * 2) 0) < 0)) ∧ (((List.getD l ((k * 2) + 1) 0) < (List.getD l (k * 2) 0)))) [(1, rV 0 0), (6, sV .i64 l n), (7, uV n), (8, uV k), (44, bV true)] [(0, some (56, .ds [dl l n]))] 2 ⟨zo, zo⟩ ?_
    refine zt ?_
    refine y9r [.no] True [(2, bV false)] [] 2 trivial ?_
    refine AW.ret ?_
    exact EndP.of (.inr rfl) [] (P := ((vaB l n) = false)) zk (by first | exact vaB_t zo (fun j hj => ha j zo) | exact vaB_f zo | exact vaB_s (k := k) zo (decide_eq_false zo))
   ·by_cases hx4 : ((2147483647 : Int) < (List.getD l ((k * 2) + 1) 0))
    ·refine y9r (.no :: .no :: .b false :: nz9 5 (.b false :: nz9 4 [.b true, .no, .no, .no])) ((¬ ((List.getD l (k * 2) 0) < 0)) ∧ (¬ ((List.getD l ((k * 2) + 1) 0) < (List.getD l (k * 2) 0))) ∧ (((2147483647 : Int) < (List.getD l ((k * 2) + 1) 0)))) [(1, rV 0 0), (6, sV .i64 l n), (7, uV n), (8, uV k), (44, bV true)] [(0, some (56, .ds [dl l n]))] 2 ⟨zo, zo, zo⟩ ?_
     refine zt ?_
     refine y9r [.no] True [(2, bV false)] [] 2 trivial ?_
     refine AW.ret ?_
     exact EndP.of (.inr rfl) [] (P := ((vaB l n) = false)) zk (by first | exact vaB_t zo (fun j hj => ha j zo) | exact vaB_f zo | exact vaB_s (k := k) zo (decide_eq_false zo))
    ·by_cases hx5 : ((0 : Int) < ((k : Nat) : Int))
     ·by_cases hx7 : (((List.getD l (k * 2) 0) - 1) ≤ (List.getD l (((k - 1) * 2) + 1) 0))
      ·have hx8 : 0 ≤ List.getD l ((k - 1) * 2 + 1) 0 ∧ List.getD l ((k - 1) * 2 + 1) 0 ≤ 2147483647 := va_prev ha zo
       refine y9r (.no :: .no :: .b false :: nz9 5 (.b false :: nz9 4 [.b false, .no, .no, .no, .b true, .no, .no, .no, .w, .no, .no, .no, .w, .n (k - 1), .no, .d (D.lit (.int .i64 (List.getD l (((k - 1) * 2) + 1) 0))), .b true, .no, .no])) ((¬ ((List.getD l (k * 2) 0) < 0)) ∧ (¬ ((List.getD l ((k * 2) + 1) 0) < (List.getD l (k * 2) 0))) ∧ (¬ ((2147483647 : Int) < (List.getD l ((k * 2) + 1) 0))) ∧ (((0 : Int) < (k : Int))) ∧ ((-9223372036854775808) ≤ ((List.getD l (k * 2) 0) - 1) ∧ ((List.getD l (k * 2) 0) - 1) ≤ 9223372036854775807) ∧ ((-9223372036854775808) ≤ ((k : Int) - 1) ∧ ((k : Int) - 1) ≤ 9223372036854775807) ∧ ((((k : Int) - 1) : Int) = (((k - 1) : Nat) : Int)) ∧ ((k - 1) < n) ∧ ((List.drop 1 (List.drop ((k - 1) * 2) (dI .i64 l)))[0]? = some (D.lit (.int .i64 (List.getD l (((k - 1) * 2) + 1) 0)))) ∧ ((((List.getD l (k * 2) 0) - 1) ≤ (List.getD l (((k - 1) * 2) + 1) 0)))) [(1, rV 0 0), (6, sV .i64 l n), (7, uV n), (8, uV k), (44, bV true)] [(0, some (56, .ds [dl l n]))] 2 ⟨zo, zo, zo, zo, ⟨by omega, by omega⟩, ⟨by omega, by omega⟩, (by first | rfl | omega), zo, zl09a0, zo⟩ ?_
       refine zt ?_
       refine y9r [.no] True [(2, bV false)] [] 2 trivial ?_
       refine AW.ret ?_
       exact EndP.of (.inr rfl) [] (P := ((vaB l n) = false)) zk (by first | exact vaB_t zo (fun j hj => ha j zo) | exact vaB_f zo | exact vaB_s (k := k) zo (decide_eq_false zo))
      ·have hx9 : 0 ≤ List.getD l ((k - 1) * 2 + 1) 0 ∧ List.getD l ((k - 1) * 2 + 1) 0 ≤ 2147483647 := va_prev ha zo
       refine y9r (.no :: .no :: .b false :: nz9 5 (.b false :: nz9 4 [.b false, .no, .no, .no, .b true, .no, .no, .no, .w, .no, .no, .no, .w, .n (k - 1), .no, .d (D.lit (.int .i64 (List.getD l (((k - 1) * 2) + 1) 0))), .b false, .no, .no])) ((¬ ((List.getD l (k * 2) 0) < 0)) ∧ (¬ ((List.getD l ((k * 2) + 1) 0) < (List.getD l (k * 2) 0))) ∧ (¬ ((2147483647 : Int) < (List.getD l ((k * 2) + 1) 0))) ∧ (((0 : Int) < (k : Int))) ∧ ((-9223372036854775808) ≤ ((List.getD l (k * 2) 0) - 1) ∧ ((List.getD l (k * 2) 0) - 1) ≤ 9223372036854775807) ∧ ((-9223372036854775808) ≤ ((k : Int) - 1) ∧ ((k : Int) - 1) ≤ 9223372036854775807) ∧ ((((k : Int) - 1) : Int) = (((k - 1) : Nat) : Int)) ∧ ((k - 1) < n) ∧ ((List.drop 1 (List.drop ((k - 1) * 2) (dI .i64 l)))[0]? = some (D.lit (.int .i64 (List.getD l (((k - 1) * 2) + 1) 0)))) ∧ (¬ (((List.getD l (k * 2) 0) - 1) ≤ (List.getD l (((k - 1) * 2) + 1) 0)))) [(1, rV 0 0), (6, sV .i64 l n), (7, uV n), (8, uV k), (44, bV false)] [(0, some (56, .ds [dl l n]))] 2 ⟨zo, zo, zo, zo, ⟨by omega, by omega⟩, ⟨by omega, by omega⟩, (by first | rfl | omega), zo, zl09a0, zo⟩ ?_
       refine zfs ?_
       refine y9h [.w, .no] ((-9223372036854775808) ≤ ((k : Int) + 1) ∧ ((k : Int) + 1) ≤ 9223372036854775807) [(1, rV 0 0), (6, sV .i64 l n), (7, uV n), (8, iV (↑k + 1))] ⟨by omega, by omega⟩ ?_
       exact Rd.of ⟨((k + 1) : Nat), ⟨zl09a6, (fun j hj => (Nat.lt_succ_iff_lt_or_eq.1 hj).elim (ha j) (fun e9 => by subst e9; exact decide_eq_true zo))⟩⟩ [] (P := (q9n 0) ∧ (q9d (dI .i64 l)) ∧ (q9n n) ∧ (q9i (n : Int)) ∧ (((((k + 1) : Nat) : Int) : Int) = ((k : Int) + 1)) ∧ (q9d [dl l n])) zk ⟨rfl, rfl, rfl, rfl, zl09a3, rfl⟩ (show n - (k + 1) < n - k from zl09a5)
     ·refine y9r (.no :: .no :: .b false :: nz9 5 (.b false :: nz9 4 [.b false, .no, .no, .no, .b false, .no, .no, .no])) ((¬ ((List.getD l (k * 2) 0) < 0)) ∧ (¬ ((List.getD l ((k * 2) + 1) 0) < (List.getD l (k * 2) 0))) ∧ (¬ ((2147483647 : Int) < (List.getD l ((k * 2) + 1) 0))) ∧ (¬ ((0 : Int) < (k : Int)))) [(1, rV 0 0), (6, sV .i64 l n), (7, uV n), (8, uV k), (44, bV false)] [(0, some (56, .ds [dl l n]))] 2 ⟨zo, zo, zo, zo⟩ ?_
      refine zfs ?_
      refine y9h [.w, .no] ((-9223372036854775808) ≤ ((k : Int) + 1) ∧ ((k : Int) + 1) ≤ 9223372036854775807) [(1, rV 0 0), (6, sV .i64 l n), (7, uV n), (8, iV (↑k + 1))] ⟨by omega, by omega⟩ ?_
      exact Rd.of ⟨((k + 1) : Nat), ⟨zl09a6, (fun j hj => (Nat.lt_succ_iff_lt_or_eq.1 hj).elim (ha j) (fun e9 => by subst e9; exact decide_eq_true zo))⟩⟩ [] (P := (q9n 0) ∧ (q9d (dI .i64 l)) ∧ (q9n n) ∧ (q9i (n : Int)) ∧ (((((k + 1) : Nat) : Int) : Int) = ((k : Int) + 1)) ∧ (q9d [dl l n])) zk ⟨rfl, rfl, rfl, rfl, zl09a3, rfl⟩ (show n - (k + 1) < n - k from zl09a5)
 ·refine y9r [.b false] (¬ ((k : Int) < (n : Int))) [(1, rV 0 0), (6, sV .i64 l n), (7, uV n), (8, uV k), (9, bV false)] [(0, some (56, .ds [dl l n]))] 1 zo ?_
  refine AW.seq ?_
  refine zf ?_
  refine AW.exit ?_
  by_cases hx10 : (((n : Nat) : Int) ≤ 64)
  ·refine y9r [.no, .no, .no, .b true, .no] (((n : Int) ≤ 64)) [(2, bV true)] [] 1 zo ?_
   refine AW.ret ?_
   exact EndP.of (.inr rfl) [] (P := ((vaB l n) = true)) zk (by first | exact vaB_t zo (fun j hj => ha j zo) | exact vaB_f zo | exact vaB_s (k := k) zo (decide_eq_false zo))
  ·have hx11 : 0 ≤ List.getD l ((k - 1) * 2 + 1) 0 ∧ List.getD l ((k - 1) * 2 + 1) 0 ≤ 2147483647 := va_prev ha zo
   refine y9r [.no, .no, .no, .b false, .no] (¬ ((n : Int) ≤ 64)) [(2, bV false)] [] 1 zo ?_
   refine AW.ret ?_
   exact EndP.of (.inr rfl) [] (P := ((vaB l n) = false)) zk (by first | exact vaB_t zo (fun j hj => ha j zo) | exact vaB_f zo | exact vaB_s (k := k) zo (decide_eq_false zo))
theorem zl09a4 {p : Prop} (h : p := by first | omega | rfl | assumption | (simp; done) | (simp; omega)) : p := h
theorem U_spans (l : List Int) (n : Nat) (hl : List.length l = n * 2) (hb : n ≤ 9223372036854775807) : Fun 135 [.agg [.d (D.sl (dI .i64 l) n)]] (toG []) 0 (sV .i64 (spS l n) (spN l n)) (toG []) 0 := by
 refine Fun.mk (n := 8) Tryz.func135 rfl rfl (Nat.le_of_ble_eq_true rfl) ?_
 intro cx hcx
 refine y9r [.no, .no] True [(1, rV 0 0)] [(0, some (56, .ds [dl l n]))] 1 trivial ?_
 refine AW.seq ?_
 rcases Bool.eq_false_or_eq_true (vaB l n) with hx1 | hx1
 ·refine y9s [.no, .call [] (bV true) [] 0 [] none, .no] (Fun 130 [.agg [.d (dl l n)]] (toG []) 0 (bV true) (toG []) 0) [(1, rV 0 0), (5, bV false)] (by have h0 := (U_Valid l n zo zo); rw [hx1] at h0; exact h0) ?_
  refine zfs ?_
  refine y9r [.no, .no, .no] True [(2, sV .i64 l n)] [] 1 trivial ?_
  obtain ⟨hz1, hz2⟩ := sp_y hx1
  refine AW.ret ?_
  exact EndP.of (.inr rfl) [] (P := (((dI .i64 (spS l n)) : List D) = (dI .i64 l)) ∧ (((spN l n) : Nat) = n)) zk ⟨(by first | (rw [hz1]; done) | (rw [hz1]; rfl)), zl09a4⟩
 ·refine y9s [.no, .call [] (bV false) [] 0 [] none, .no] (Fun 130 [.agg [.d (dl l n)]] (toG []) 0 (bV false) (toG []) 0) [(1, rV 0 0), (5, bV true)] (by have h0 := (U_Valid l n zo zo); rw [hx1] at h0; exact h0) ?_
  refine zt ?_
  refine y9r [.no] True [(2, nV)] [] 1 trivial ?_
  obtain ⟨hz1, hz2⟩ := sp_n hx1
  refine AW.rel (l' := [(2, .e (.c (.d (D.sl ([] : List D) 0))))]) (g' := []) (NlS.cons rfl (.e (.c .nil)) NlS.nil) NlG.nil ?_
  refine AW.ret ?_
  exact EndP.of (.inr rfl) [] (P := (((dI .i64 (spS l n)) : List D) = ([] : List D)) ∧ (((spN l n) : Nat) = 0)) zk ⟨(by first | (rw [hz1]; done) | (rw [hz1]; rfl)), zl09a4⟩
theorem U_rspans (l : List Int) (n : Nat) (hl : List.length l = n * 2) (hb : n ≤ 9223372036854775807) : Fun 128 [.agg [.d (D.sl (dI .i64 l) n)]] (toG []) 0 (sV .i64 (spS l n) (spN l n)) (toG []) 0 := by
 refine Fun.mk (n := 8) Tryz.func128 rfl rfl (Nat.le_of_ble_eq_true rfl) ?_
 intro cx hcx
 refine y9r [.no, .no] True [(1, rV 0 0)] [(0, some (56, .ds [dl l n]))] 1 trivial ?_
 refine AW.seq ?_
 rcases Bool.eq_false_or_eq_true (vaB l n) with hx1 | hx1
 ·refine y9s [.no, .call [] (bV true) [] 0 [] none, .no] (Fun 134 [.agg [.d (dl l n)]] (toG []) 0 (bV true) (toG []) 0) [(1, rV 0 0), (5, bV false)] (by have h0 := (U_rValid l n zo zo); rw [hx1] at h0; exact h0) ?_
  refine zfs ?_
  refine y9r [.no, .no, .no] True [(2, sV .i64 l n)] [] 1 trivial ?_
  obtain ⟨hz1, hz2⟩ := sp_y hx1
  refine AW.ret ?_
  exact EndP.of (.inr rfl) [] (P := (((dI .i64 (spS l n)) : List D) = (dI .i64 l)) ∧ (((spN l n) : Nat) = n)) zk ⟨(by first | (rw [hz1]; done) | (rw [hz1]; rfl)), zl09a4⟩
 ·refine y9s [.no, .call [] (bV false) [] 0 [] none, .no] (Fun 134 [.agg [.d (dl l n)]] (toG []) 0 (bV false) (toG []) 0) [(1, rV 0 0), (5, bV true)] (by have h0 := (U_rValid l n zo zo); rw [hx1] at h0; exact h0) ?_
  refine zt ?_
  refine y9r [.no] True [(2, nV)] [] 1 trivial ?_
  obtain ⟨hz1, hz2⟩ := sp_n hx1
  refine AW.rel (l' := [(2, .e (.c (.d (D.sl ([] : List D) 0))))]) (g' := []) (NlS.cons rfl (.e (.c .nil)) NlS.nil) NlG.nil ?_
  refine AW.ret ?_
  exact EndP.of (.inr rfl) [] (P := (((dI .i64 (spS l n)) : List D) = ([] : List D)) ∧ (((spN l n) : Nat) = 0)) zk ⟨(by first | (rw [hz1]; done) | (rw [hz1]; rfl)), zl09a4⟩
theorem U_Has (l : List Int) (n : Nat) (z : Int) (hl : List.length l = n * 2) (hb : n ≤ 9223372036854775807) : Fun 95 [.agg [.d (D.sl (dI .i64 l) n)], iE z] (toG []) 0 (.e (.c (.d (D.lit (.bool (hsB (spS l n) z)))))) (toG []) 0 := by
 refine Fun.mk (n := 25) Tryz.func95 rfl rfl (Nat.le_of_ble_eq_true rfl) ?_
 intro cx hcx
 refine y9r [.no, .no] True [(1, iV z), (2, rV 0 0)] [(0, some (56, .ds [dl l n]))] 1 trivial ?_
 refine AW.seq ?_
 have hx1 : ((List.length (spS l n)) = ((spN l n) * 2)) := sp_len (zo)
 have hx2 : (((spN l n) ≤ 64) ∧ ((spN l n) ≤ n)) := sp_le
 refine y9r [.no, .call [] (sV .i64 (spS l n) (spN l n)) [] 0 [] none, .no, .no] _ [(1, iV z), (8, sV .i64 (spS l n) (spN l n)), (9, uV (spN l n)), (10, iV 0)] [] 1 (U_spans l n zo zo) ?_
 refine AW.block ?_
 refine AW.loopE 0 hcx (fun (x : {x : Nat // match x with | k => (k ≤ spN l n) ∧ (∀ j, j < k → ¬ (List.getD (spS l n) (j * 2) 0 ≤ z ∧ z ≤ List.getD (spS l n) (j * 2 + 1) 0))}) => match x with | ⟨k, _⟩ => (⟨[(1, iV z), (8, sV .i64 (spS l n) (spN l n)), (9, uV (spN l n)), (10, uV k)], [], 1⟩ : ES)) (fun x => match x with | ⟨k, _⟩ => spN l n - k) ⟨(0 : Nat), ⟨zl09a6, (fun j hj => absurd hj (Nat.not_lt_zero j))⟩⟩ [] (P := (q9i z) ∧ (q9d (dI .i64 (spS l n))) ∧ (q9n (spN l n)) ∧ (q9i (spN l n : Int)) ∧ (q9i 0)) zk ⟨rfl, rfl, rfl, rfl, rfl⟩ ?_
 rintro ⟨k, hinv0⟩
 obtain ⟨hk, ha⟩ : (k ≤ spN l n) ∧ (∀ j, j < k → ¬ (List.getD (spS l n) (j * 2) 0 ≤ z ∧ z ≤ List.getD (spS l n) (j * 2 + 1) 0)) := hinv0
 refine AW.es (l := [(1, iV z), (8, sV .i64 (spS l n) (spN l n)), (9, uV (spN l n)), (10, uV k)]) (g := []) (nx := 1) rfl rfl rfl ?_
 by_cases hx3 : (((k : Nat) : Int) < (((spN l n) : Nat) : Int))
 ·refine y9r [.b true] (((k : Int) < (spN l n : Int))) [(1, iV z), (8, sV .i64 (spS l n) (spN l n)), (9, uV (spN l n)), (10, uV k), (11, bV true)] [] 1 zo ?_
  refine AW.seq ?_
  refine zts ?_
  refine AW.seq ?_
  refine AW.block ?_
  refine y9r [.n k, .ds [iD (List.getD (spS l n) (k * 2) 0), iD (List.getD (spS l n) ((k * 2) + 1) 0)], .no, .no] ((q9i (k : Int)) ∧ (k < (spN l n)) ∧ (List.take 2 (List.drop (k * 2) (dI .i64 (spS l n))) = [iD (List.getD (spS l n) (k * 2) 0), iD (List.getD (spS l n) ((k * 2) + 1) 0)]) ∧ (([iD (List.getD (spS l n) (k * 2) 0), iD (List.getD (spS l n) ((k * 2) + 1) 0)] : List D).length = 2)) [(1, iV z), (6, rV 1 0), (8, sV .i64 (spS l n) (spN l n)), (9, uV (spN l n)), (10, uV k)] [(1, some (77, .ds [iD (List.getD (spS l n) (k * 2) 0), iD (List.getD (spS l n) ((k * 2) + 1) 0)]))] 2 ⟨rfl, zo, (dI_lds .i64 (spS l n) (k * 2) 2 zl09a1), rfl⟩ ?_
  by_cases hx4 : ((List.getD (spS l n) (k * 2) 0) ≤ z)
  ·by_cases hx5 : (z ≤ (List.getD (spS l n) ((k * 2) + 1) 0))
   ·refine y9r (.no :: .no :: .no :: .b true :: nz9 4 [.b true, .no]) ((((List.getD (spS l n) (k * 2) 0) ≤ z)) ∧ ((z ≤ (List.getD (spS l n) ((k * 2) + 1) 0)))) [(1, iV z), (8, sV .i64 (spS l n) (spN l n)), (9, uV (spN l n)), (10, uV k), (23, bV true)] [] 2 ⟨zo, zo⟩ ?_
    refine zt ?_
    refine y9s [.no] True [(4, bV true)] trivial ?_
    refine AW.ret ?_
    exact EndP.of (.inr rfl) [] (P := ((hsB (spS l n) z) = true)) zk (by first | exact hs_t (k := k) (sp_len hl) zo zo | exact hs_f (sp_len hl) (fun j hj => ha j zo))
   ·refine y9r (.no :: .no :: .no :: .b true :: nz9 4 [.b false, .no]) ((((List.getD (spS l n) (k * 2) 0) ≤ z)) ∧ (¬ (z ≤ (List.getD (spS l n) ((k * 2) + 1) 0)))) [(1, iV z), (8, sV .i64 (spS l n) (spN l n)), (9, uV (spN l n)), (10, uV k), (23, bV false)] [] 2 ⟨zo, zo⟩ ?_
    refine zfs ?_
    refine y9h [.w, .no] ((-9223372036854775808) ≤ ((k : Int) + 1) ∧ ((k : Int) + 1) ≤ 9223372036854775807) [(1, iV z), (8, sV .i64 (spS l n) (spN l n)), (9, uV (spN l n)), (10, iV (↑k + 1))] ⟨by omega, by omega⟩ ?_
    exact Rd.of ⟨((k + 1) : Nat), ⟨zl09a6, (fun j hj => (Nat.lt_succ_iff_lt_or_eq.1 hj).elim (ha j) (fun e9 => by subst e9; omega))⟩⟩ [] (P := (q9i z) ∧ (q9d (dI .i64 (spS l n))) ∧ (q9n (spN l n)) ∧ (q9i (spN l n : Int)) ∧ (((((k + 1) : Nat) : Int) : Int) = ((k : Int) + 1))) zk ⟨rfl, rfl, rfl, rfl, zl09a3⟩ (show spN l n - (k + 1) < spN l n - k from zl09a5)
  ·refine y9r [.no, .no, .no, .b false, .no, .no] (¬ ((List.getD (spS l n) (k * 2) 0) ≤ z)) [(1, iV z), (8, sV .i64 (spS l n) (spN l n)), (9, uV (spN l n)), (10, uV k), (23, bV false)] [] 2 zo ?_
   refine zfs ?_
   refine y9h [.w, .no] ((-9223372036854775808) ≤ ((k : Int) + 1) ∧ ((k : Int) + 1) ≤ 9223372036854775807) [(1, iV z), (8, sV .i64 (spS l n) (spN l n)), (9, uV (spN l n)), (10, iV (↑k + 1))] ⟨by omega, by omega⟩ ?_
   exact Rd.of ⟨((k + 1) : Nat), ⟨zl09a6, (fun j hj => (Nat.lt_succ_iff_lt_or_eq.1 hj).elim (ha j) (fun e9 => by subst e9; omega))⟩⟩ [] (P := (q9i z) ∧ (q9d (dI .i64 (spS l n))) ∧ (q9n (spN l n)) ∧ (q9i (spN l n : Int)) ∧ (((((k + 1) : Nat) : Int) : Int) = ((k : Int) + 1))) zk ⟨rfl, rfl, rfl, rfl, zl09a3⟩ (show spN l n - (k + 1) < spN l n - k from zl09a5)
 ·refine y9r [.b false] (¬ ((k : Int) < (spN l n : Int))) [(1, iV z), (8, sV .i64 (spS l n) (spN l n)), (9, uV (spN l n)), (10, uV k), (11, bV false)] [] 1 zo ?_
  refine AW.seq ?_
  refine zf ?_
  refine AW.exit ?_
  refine y9r [.no] True [(4, bV false)] [] 1 trivial ?_
  refine AW.ret ?_
  exact EndP.of (.inr rfl) [] (P := ((hsB (spS l n) z) = false)) zk (by first | exact hs_t (k := k) (sp_len hl) zo zo | exact hs_f (sp_len hl) (fun j hj => ha j zo))
end Go.Proofs.YtcfmjpnffembpaaGreat
