/- Valid chains. No statement is proved here. -/
import Derived.Test.YtbicifcgghmhaaaGreatZD12
namespace Go.Proofs.YtbicifcgghmhaaaGreat
open Go.ChangeShapes Go.WideShapes Go.ChangeAt Go.RowKit
open Bool renaming eq_false_or_eq_true → kb3
open List renaming length → ka0, length_append → ka6, length_cons → ka9, length_drop → kb2, length_nil → kb1, length_replicate → kb4, length_set → kb9, length_take → kb0
open Nat renaming le_of_ble_eq_true → ka4
set_option linter.unusedVariables false
set_option linter.unusedSimpArgs false
set_option maxHeartbeats 4000000
set_option maxRecDepth 100000
theorem mY {p : Prop} (h : p := by first | exact u93 (by omega) (by assumption) | exact v31 (by omega) | exact v32 (by assumption)) : p := h
theorem k3m (b : List Bx) (n : Nat) (c : Int) (hn : ka0 b = n) (h1 : n ≤ 1000) (hW : BsW b) : Fun 40 [.agg [.d (D.sl (kV b) n), iC c]] (kH []) 0 (yM (D.lit (.bool (wS b c)))) (kH []) 0 := by
 refine Fun.mk (n := 22) Tryz.func40 rfl rfl (ka4 rfl) ?_
 intro cx hcx
 refine kK [.no, .no] True [(1, rV 0 0)] [(0, some (47, .ds [D.sl (kV b) n, iD c]))] 1 trivial ?_
 by_cases hx1 : (((n : Nat) : Int) ≤ 8)
 ·rcases kb3 (dA b) with hx2 | hx2
  ·by_cases hx3 : ((0 : Int) ≤ c)
   ·by_cases hx4 : (c ≤ 15)
    ·refine kK (.no :: .no :: .no :: .b true :: .no :: .no :: .no :: .call [] (bV true) [] 0 [] none :: qN 4 (.b true :: qN 4 [.b true, .no, .no])) ((((n : Int) ≤ 8)) ∧ (Fun 60 [.c (.d (D.sl (kV b) n))] (kH []) 0 (bV true) (kH []) 0) ∧ (((0 : Int) ≤ c)) ∧ ((c ≤ 15))) [(2, bV true)] [] 1 ⟨zo, (by have h0 := (aC b n zo zo (qJ : BsW b)); rw [hx2] at h0; exact h0), zo, zo⟩ ?_
     refine AW.ret ?_
     exact kB (.inr rfl) [] (P := ((wS b c) = true)) zk mY
    ·refine kK (.no :: .no :: .no :: .b true :: .no :: .no :: .no :: .call [] (bV true) [] 0 [] none :: qN 4 (.b true :: qN 4 [.b false, .no, .no])) ((((n : Int) ≤ 8)) ∧ (Fun 60 [.c (.d (D.sl (kV b) n))] (kH []) 0 (bV true) (kH []) 0) ∧ (((0 : Int) ≤ c)) ∧ (¬ (c ≤ 15))) [(2, bV false)] [] 1 ⟨zo, (by have h0 := (aC b n zo zo (qJ : BsW b)); rw [hx2] at h0; exact h0), zo, zo⟩ ?_
     refine AW.ret ?_
     exact kB (.inr rfl) [] (P := ((wS b c) = false)) zk mY
   ·refine kK (.no :: .no :: .no :: .b true :: .no :: .no :: .no :: .call [] (bV true) [] 0 [] none :: qN 4 (.b false :: qN 4 [])) ((((n : Int) ≤ 8)) ∧ (Fun 60 [.c (.d (D.sl (kV b) n))] (kH []) 0 (bV true) (kH []) 0) ∧ (¬ ((0 : Int) ≤ c))) [(2, bV false)] [] 1 ⟨zo, (by have h0 := (aC b n zo zo (qJ : BsW b)); rw [hx2] at h0; exact h0), zo⟩ ?_
    refine AW.ret ?_
    exact kB (.inr rfl) [] (P := ((wS b c) = false)) zk mY
  ·refine kK (.no :: .no :: .no :: .b true :: .no :: .no :: .no :: .call [] (bV false) [] 0 [] none :: qN 6 []) ((((n : Int) ≤ 8)) ∧ (Fun 60 [.c (.d (D.sl (kV b) n))] (kH []) 0 (bV false) (kH []) 0)) [(2, bV false)] [] 1 ⟨zo, (by have h0 := (aC b n zo zo (qJ : BsW b)); rw [hx2] at h0; exact h0)⟩ ?_
   refine AW.ret ?_
   exact kB (.inr rfl) [] (P := ((wS b c) = false)) zk mY
 ·refine kK (.no :: .no :: .no :: .b false :: qN 7 []) (¬ ((n : Int) ≤ 8)) [(2, bV false)] [] 1 zo ?_
  refine AW.ret ?_
  exact kB (.inr rfl) [] (P := ((wS b c) = false)) zk mY
theorem z6 (b : List Bx) (n : Nat) (c : Int) (hn : ka0 b = n) (h1 : n ≤ 1000) (hW : BsW b) : Fun 39 [.agg [.d (D.sl (kV b) n), iC c]] (kH []) 0 (yM (D.lit (.bool (nvB b c)))) (kH []) 0 := by
 refine Fun.mk (n := 6) Tryz.func39 rfl rfl (ka4 rfl) ?_
 intro cx hcx
 refine kK [.no, .no] True [(1, rV 0 0)] [(0, some (47, .ds [D.sl (kV b) n, iD c]))] 1 trivial ?_
 rcases kb3 (wS b c) with hx1 | hx1
 ·refine kK [.no, .call [] (bV true) [] 0 [] none, .no, .no] (Fun 40 [.agg [.d (D.sl (kV b) n), iC c]] (kH []) 0 (bV true) (kH []) 0) [(2, bV false)] [] 1 (by have h0 := (k3m b n c zo zo (qJ : BsW b)); rw [hx1] at h0; exact h0) ?_
  refine AW.ret ?_
  exact kB (.inr rfl) [] (P := ((nvB b c) = false)) zk (by first | exact u6k (by assumption) | exact v0g (by assumption))
 ·refine kK [.no, .call [] (bV false) [] 0 [] none, .no, .no] (Fun 40 [.agg [.d (D.sl (kV b) n), iC c]] (kH []) 0 (bV false) (kH []) 0) [(2, bV true)] [] 1 (by have h0 := (k3m b n c zo zo (qJ : BsW b)); rw [hx1] at h0; exact h0) ?_
  refine AW.ret ?_
  exact kB (.inr rfl) [] (P := ((nvB b c) = true)) zk (by first | exact u6k (by assumption) | exact v0g (by assumption))
theorem u5g (ps : List Pt) (n : Nat) (hn : ka0 ps = n) (h1 : n ≤ 1000) (hW : PsW ps) : Fun 70 [.c (.d (D.sl (uG ps) n)), .c (.fn 39 [])] (kH []) 0 (iV (nvK ps n)) (kH []) 0 := by
 refine Fun.mk (n := 19) Tryz.func70 rfl rfl (ka4 rfl) ?_
 intro cx hcx
 refine kK [.no] True [(0, qK (uG ps) n), (1, .e (.c (.fn 39 [])))] [] 0 trivial ?_
 refine AW.seq ?_
 refine kT [.no, .no, .no] True [(0, qK (uG ps) n), (1, .e (.c (.fn 39 []))), (7, uV n), (8, iV 0)] trivial ?_
 refine AW.block ?_
 refine qH 0 hcx (fun (x : {x : Nat // match x with | k => (k ≤ n) ∧ (nvK ps k = -1)}) => match x with | ⟨k, _⟩ => (⟨[(0, qK (uG ps) n), (1, .e (.c (.fn 39 []))), (7, uV n), (8, uV k)], [], 0⟩ : ES)) (fun x => match x with | ⟨k, _⟩ => n - k) ⟨(0 : Nat), ⟨(by first | omega | assumption | simp), rfl⟩⟩ [] (P := (kN (uG ps)) ∧ (kJ n) ∧ (kS (n : Int)) ∧ (kS 0)) zk ⟨rfl, rfl, rfl, rfl⟩ ?_
 rintro ⟨k, hinv0⟩
 obtain ⟨hk, hi⟩ : (k ≤ n) ∧ (nvK ps k = -1) := hinv0
 refine uL (l := [(0, qK (uG ps) n), (1, .e (.c (.fn 39 []))), (7, uV n), (8, uV k)]) (g := []) (nx := 0) rfl rfl rfl ?_
 by_cases hx1 : (((k : Nat) : Int) < ((n : Nat) : Int))
 ·refine kK [.b true] (((k : Int) < (n : Int))) [(0, qK (uG ps) n), (1, .e (.c (.fn 39 []))), (7, uV n), (8, uV k), (9, bV true)] [] 0 zo ?_
  refine AW.seq ?_
  refine vR ?_
  refine AW.seq ?_
  refine AW.block ?_
  refine kT [.no, .no] True [(0, qK (uG ps) n), (1, .e (.c (.fn 39 []))), (5, uV k), (7, uV n), (8, uV k)] trivial ?_
  rcases kb3 (nvB (uK ps k) (q7 ps k)) with hx3 | hx3
  ·have hx4 : ((ka0 (uK ps k)) ≤ 1000) := (PsW.get (qJ : PsW ps) (k)).2
   refine kT [.no, .no, .no, .n k, .ds [D.sl (kV (uK ps k)) (ka0 (uK ps k)), iD (q7 ps k)], .call [] (bV true) [] 0 [] none] ((kS (k : Int)) ∧ (k < n) ∧ (List.take 2 (List.drop (k * 2) (uG ps)) = [D.sl (kV (uK ps k)) (ka0 (uK ps k)), iD (q7 ps k)]) ∧ (([D.sl (kV (uK ps k)) (ka0 (uK ps k)), iD (q7 ps k)] : List D).length = 2) ∧ (Fun 39 [.agg [.d (D.sl (kV (uK ps k)) (ka0 (uK ps k))), iC (q7 ps k)]] (kH []) 0 (bV true) (kH []) 0)) [(0, qK (uG ps) n), (1, .e (.c (.fn 39 []))), (5, uV k), (7, uV n), (8, uV k), (16, bV true)] ⟨rfl, zo, (u3v (i := k) (by first | omega | (simp only [k8, kZ, q6, q8, ka6, ka9, kb1, kb0, kb2] <;> omega))), rfl, (by have h0 := (z6 (uK ps k) (ka0 (uK ps k)) (q7 ps k) rfl (by first | omega | with_reducible assumption | (simp only [k8, kZ, q6, q8, ka6, ka9, kb1, kb0, kb2, kb4, kb9] <;> omega) | rfl | assumption) (PsW.get (qJ : PsW ps) _).1); rw [hx3] at h0; exact h0)⟩ ?_
   refine zt ?_
   refine kT [.no, .no] True [(4, uV k)] trivial ?_
   refine AW.ret ?_
   exact kB (.inr rfl) [] (P := (((nvK ps n) : Int) = (k : Int))) zk (by first | rfl | exact u41 hi (by assumption) zo | (rw [show n = k by omega]; exact hi) | omega)
  ·have hx5 : ((ka0 (uK ps k)) ≤ 1000) := (PsW.get (qJ : PsW ps) (k)).2
   refine kT [.no, .no, .no, .n k, .ds [D.sl (kV (uK ps k)) (ka0 (uK ps k)), iD (q7 ps k)], .call [] (bV false) [] 0 [] none] ((kS (k : Int)) ∧ (k < n) ∧ (List.take 2 (List.drop (k * 2) (uG ps)) = [D.sl (kV (uK ps k)) (ka0 (uK ps k)), iD (q7 ps k)]) ∧ (([D.sl (kV (uK ps k)) (ka0 (uK ps k)), iD (q7 ps k)] : List D).length = 2) ∧ (Fun 39 [.agg [.d (D.sl (kV (uK ps k)) (ka0 (uK ps k))), iC (q7 ps k)]] (kH []) 0 (bV false) (kH []) 0)) [(0, qK (uG ps) n), (1, .e (.c (.fn 39 []))), (5, uV k), (7, uV n), (8, uV k), (16, bV false)] ⟨rfl, zo, (u3v (i := k) (by first | omega | (simp only [k8, kZ, q6, q8, ka6, ka9, kb1, kb0, kb2] <;> omega))), rfl, (by have h0 := (z6 (uK ps k) (ka0 (uK ps k)) (q7 ps k) rfl (by first | omega | with_reducible assumption | (simp only [k8, kZ, q6, q8, ka6, ka9, kb1, kb0, kb2, kb4, kb9] <;> omega) | rfl | assumption) (PsW.get (qJ : PsW ps) _).1); rw [hx3] at h0; exact h0)⟩ ?_
   refine yA ?_
   refine yT [.w, .no] (yQ ((k : Int) + 1)) [(0, qK (uG ps) n), (1, .e (.c (.fn 39 []))), (7, uV n), (8, iV (↑k + 1))] ⟨by omega, by omega⟩ ?_
   exact qE ⟨((k + 1) : Nat), ⟨(by first | omega | assumption | simp), (v0h hi (by assumption))⟩⟩ [] (P := (kN (uG ps)) ∧ (kJ n) ∧ (kS (n : Int)) ∧ (c7 k)) zk ⟨rfl, rfl, rfl, (by first | rfl | omega | assumption | (simp; done) | (simp; omega))⟩ (show n - (k + 1) < n - k from (by first | omega | (show _ < _; simp; omega)))
 ·refine kK [.b false] (¬ ((k : Int) < (n : Int))) [(0, qK (uG ps) n), (1, .e (.c (.fn 39 []))), (7, uV n), (8, uV k), (9, bV false)] [] 0 zo ?_
  refine AW.seq ?_
  refine zf ?_
  refine AW.exit ?_
  refine kK [.no] True [(4, iV (-1))] [] 0 trivial ?_
  refine AW.ret ?_
  exact kB (.inr rfl) [] (P := (((nvK ps n) : Int) = (-1))) zk (by first | rfl | exact u41 hi (by assumption) zo | (rw [show n = k by omega]; exact hi) | omega)
theorem u5i (ps : List Pt) (n : Nat) (hn : ka0 ps = n) (h1 : n ≤ 1000) (hW : PsW ps) : Fun 38 [.c (.d (D.sl (uG ps) n)), .c (.fn 39 [])] (kH []) 0 (yM (D.lit (.bool (nvA ps)))) (kH []) 0 := by
 refine Fun.mk (n := 9) Tryz.func38 rfl rfl (ka4 rfl) ?_
 intro cx hcx
 refine kK [.no] True [(0, qK (uG ps) n), (1, .e (.c (.fn 39 [])))] [] 0 trivial ?_
 by_cases hx1 : ((0 : Int) ≤ (nvK ps n))
 ·refine kT [.no, .no, .call [] (iV (nvK ps n)) [] 0 [] none, .b true, .no] ((_) ∧ (((0 : Int) ≤ (nvK ps n)))) [(4, bV true)] ⟨(u5g ps n zo zo (qJ : PsW ps)), zo⟩ ?_
  refine AW.ret ?_
  exact kB (.inr rfl) [] (P := ((nvA ps) = true)) zk (by first | exact u42 hn zo | exact u43 hn zo)
 ·refine kT [.no, .no, .call [] (iV (nvK ps n)) [] 0 [] none, .b false, .no] ((_) ∧ (¬ ((0 : Int) ≤ (nvK ps n)))) [(4, bV false)] ⟨(u5g ps n zo zo (qJ : PsW ps)), zo⟩ ?_
  refine AW.ret ?_
  exact kB (.inr rfl) [] (P := ((nvA ps) = false)) zk (by first | exact u42 hn zo | exact u43 hn zo)
theorem rP {p : Prop} (h : p := by first | exact v1k (by omega) (by assumption) | exact v1l (by omega) | exact v1m (by assumption)) : p := h
theorem mU (ps : List Pt) (n : Nat) (hn : ka0 ps = n) (h1 : n ≤ 1000) (hW : PsW ps) : Fun 16 [.c (.d (D.sl (uG ps) n))] (kH []) 0 (yM (D.lit (.bool (dW ps)))) (kH []) 0 := by
 refine Fun.mk (n := 16) Tryz.func16 rfl rfl (ka4 rfl) ?_
 intro cx hcx
 refine kK [.no] True [(0, qK (uG ps) n)] [] 0 trivial ?_
 by_cases hx1 : ((1 : Int) ≤ ((n : Nat) : Int))
 ·by_cases hx2 : (((n : Nat) : Int) ≤ 16)
  ·rcases kb3 (nvA ps) with hx3 | hx3
   ·refine kT [.no, .no, .b true, .no, .no, .no, .b true, .no, .no, .no, .call [] (bV true) [] 0 [] none, .no, .no, .no] ((((1 : Int) ≤ (n : Int))) ∧ (((n : Int) ≤ 16)) ∧ (Fun 38 [.c (.d (D.sl (uG ps) n)), .c (.fn 39 [])] (kH []) 0 (bV true) (kH []) 0)) [(2, bV false)] ⟨zo, zo, (by have h0 := (u5i ps n zo zo (qJ : PsW ps)); rw [hx3] at h0; exact h0)⟩ ?_
    refine AW.ret ?_
    exact kB (.inr rfl) [] (P := ((dW ps) = false)) zk rP
   ·refine kT [.no, .no, .b true, .no, .no, .no, .b true, .no, .no, .no, .call [] (bV false) [] 0 [] none, .no, .no, .no] ((((1 : Int) ≤ (n : Int))) ∧ (((n : Int) ≤ 16)) ∧ (Fun 38 [.c (.d (D.sl (uG ps) n)), .c (.fn 39 [])] (kH []) 0 (bV false) (kH []) 0)) [(2, bV true)] ⟨zo, zo, (by have h0 := (u5i ps n zo zo (qJ : PsW ps)); rw [hx3] at h0; exact h0)⟩ ?_
    refine AW.ret ?_
    exact kB (.inr rfl) [] (P := ((dW ps) = true)) zk rP
  ·refine kT [.no, .no, .b true, .no, .no, .no, .b false, .no, .no, .no, .no] ((((1 : Int) ≤ (n : Int))) ∧ (¬ ((n : Int) ≤ 16))) [(2, bV false)] ⟨zo, zo⟩ ?_
   refine AW.ret ?_
   exact kB (.inr rfl) [] (P := ((dW ps) = false)) zk rP
 ·refine kT (.no :: .no :: .b false :: qN 5 []) (¬ ((1 : Int) ≤ (n : Int))) [(2, bV false)] zo ?_
  refine AW.ret ?_
  exact kB (.inr rfl) [] (P := ((dW ps) = false)) zk rP
end Go.Proofs.YtbicifcgghmhaaaGreat
