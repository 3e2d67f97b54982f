/- Merged texts. -/
import Derived.Test.YtbicifcgghmhaaaGreatZD12
namespace Go.Proofs.YtbicifcgghmhaaaGreat
open Go.ChangeShapes Go.WideShapes Go.ChangeAt Go.RowKit
set_option linter.unusedVariables false
set_option linter.unusedSimpArgs false
set_option maxHeartbeats 4000000
set_option maxRecDepth 100000
theorem k3d (b : List Bx) (n : Nat) (c : Int) (hn : List.length b = n) (h1 : n ≤ 1000) (hW : BsW b) : Fun 40 [.agg [.d (D.sl (kN b) n), iC c]] (kF []) 0 (uW (D.lit (.bool (t5 b c)))) (kF []) 0 := by
 refine Fun.mk (n := 22) Tryz.func40 rfl rfl (Nat.le_of_ble_eq_true rfl) ?_
 intro cx hcx
 refine kH [.no, .no] True [(1, rV 0 0)] [(0, some (47, .ds [D.sl (kN b) n, iD c]))] 1 trivial ?_
 by_cases hx1 : (((n : Nat) : Int) ≤ 8)
 ·rcases Bool.eq_false_or_eq_true (cF b) with hx2 | hx2
  ·by_cases hx3 : ((0 : Int) ≤ c)
   ·by_cases hx4 : (c ≤ 15)
    ·refine kH (.no :: .no :: .no :: .b true :: .no :: .no :: .no :: .call [] (bV true) [] 0 [] none :: qE 4 (.b true :: qE 4 [.b true, .no, .no])) ((((n : Int) ≤ 8)) ∧ (Fun 60 [.c (.d (D.sl (kN b) n))] (kF []) 0 (bV true) (kF []) 0) ∧ (((0 : Int) ≤ c)) ∧ ((c ≤ 15))) [(2, bV true)] [] 1 ⟨zo, (by have h0 := (vY b n zo zo (qD : BsW b)); rw [hx2] at h0; exact h0), zo, zo⟩ ?_
     refine AW.ret ?_
     exact kA (.inr rfl) [] (P := ((t5 b c) = true)) zk (by exact u9q zo (by assumption))
    ·refine kH (.no :: .no :: .no :: .b true :: .no :: .no :: .no :: .call [] (bV true) [] 0 [] none :: qE 4 (.b true :: qE 4 [.b false, .no, .no])) ((((n : Int) ≤ 8)) ∧ (Fun 60 [.c (.d (D.sl (kN b) n))] (kF []) 0 (bV true) (kF []) 0) ∧ (((0 : Int) ≤ c)) ∧ (¬ (c ≤ 15))) [(2, bV false)] [] 1 ⟨zo, (by have h0 := (vY b n zo zo (qD : BsW b)); rw [hx2] at h0; exact h0), zo, zo⟩ ?_
     refine AW.ret ?_
     exact kA (.inr rfl) [] (P := ((t5 b c) = false)) zk (by exact u6t zo)
   ·refine kH (.no :: .no :: .no :: .b true :: .no :: .no :: .no :: .call [] (bV true) [] 0 [] none :: qE 4 (.b false :: qE 4 [])) ((((n : Int) ≤ 8)) ∧ (Fun 60 [.c (.d (D.sl (kN b) n))] (kF []) 0 (bV true) (kF []) 0) ∧ (¬ ((0 : Int) ≤ c))) [(2, bV false)] [] 1 ⟨zo, (by have h0 := (vY b n zo zo (qD : BsW b)); rw [hx2] at h0; exact h0), zo⟩ ?_
    refine AW.ret ?_
    exact kA (.inr rfl) [] (P := ((t5 b c) = false)) zk (by exact u6t zo)
  ·refine kH (.no :: .no :: .no :: .b true :: .no :: .no :: .no :: .call [] (bV false) [] 0 [] none :: qE 6 []) ((((n : Int) ≤ 8)) ∧ (Fun 60 [.c (.d (D.sl (kN b) n))] (kF []) 0 (bV false) (kF []) 0)) [(2, bV false)] [] 1 ⟨zo, (by have h0 := (vY b n zo zo (qD : BsW b)); rw [hx2] at h0; exact h0)⟩ ?_
   refine AW.ret ?_
   exact kA (.inr rfl) [] (P := ((t5 b c) = false)) zk (by exact v46 (by assumption))
 ·refine kH (.no :: .no :: .no :: .b false :: qE 7 []) (¬ ((n : Int) ≤ 8)) [(2, bV false)] [] 1 zo ?_
  refine AW.ret ?_
  exact kA (.inr rfl) [] (P := ((t5 b c) = false)) zk (by exact u6t zo)
theorem x9 (b : List Bx) (n : Nat) (c : Int) (hn : List.length b = n) (h1 : n ≤ 1000) (hW : BsW b) : Fun 39 [.agg [.d (D.sl (kN b) n), iC c]] (kF []) 0 (uW (D.lit (.bool (nvB b c)))) (kF []) 0 := by
 refine Fun.mk (n := 6) Tryz.func39 rfl rfl (Nat.le_of_ble_eq_true rfl) ?_
 intro cx hcx
 refine kH [.no, .no] True [(1, rV 0 0)] [(0, some (47, .ds [D.sl (kN b) n, iD c]))] 1 trivial ?_
 rcases Bool.eq_false_or_eq_true (t5 b c) with hx1 | hx1
 ·refine kH [.no, .call [] (bV true) [] 0 [] none, .no, .no] (Fun 40 [.agg [.d (D.sl (kN b) n), iC c]] (kF []) 0 (bV true) (kF []) 0) [(2, bV false)] [] 1 (by have h0 := (k3d b n c zo zo (qD : BsW b)); rw [hx1] at h0; exact h0) ?_
  refine AW.ret ?_
  exact kA (.inr rfl) [] (P := ((nvB b c) = false)) zk (by exact v57 (by assumption))
 ·refine kH [.no, .call [] (bV false) [] 0 [] none, .no, .no] (Fun 40 [.agg [.d (D.sl (kN b) n), iC c]] (kF []) 0 (bV false) (kF []) 0) [(2, bV true)] [] 1 (by have h0 := (k3d b n c zo zo (qD : BsW b)); rw [hx1] at h0; exact h0) ?_
  refine AW.ret ?_
  exact kA (.inr rfl) [] (P := ((nvB b c) = true)) zk (by exact v1d (by assumption))
theorem u6g (ps : List Pt) (n : Nat) (hn : List.length ps = n) (h1 : n ≤ 1000) (hW : PsW ps) : Fun 70 [.c (.d (D.sl (qN ps) n)), .c (.fn 39 [])] (kF []) 0 (iV (zG ps n)) (kF []) 0 := by
 refine Fun.mk (n := 19) Tryz.func70 rfl rfl (Nat.le_of_ble_eq_true rfl) ?_
 intro cx hcx
 refine kH [.no] True [(0, qC (qN ps) n), (1, .e (.c (.fn 39 [])))] [] 0 trivial ?_
 refine AW.seq ?_
 refine kS [.no, .no, .no] True [(0, qC (qN ps) n), (1, .e (.c (.fn 39 []))), (7, uV n), (8, iV 0)] trivial ?_
 refine AW.block ?_
 refine k8 0 hcx (fun (x : {x : Nat // match x with | k => (k ≤ n) ∧ (zG ps k = -1)}) => match x with | ⟨k, _⟩ => (⟨[(0, qC (qN ps) n), (1, .e (.c (.fn 39 []))), (7, uV n), (8, uV k)], [], 0⟩ : ES)) (fun x => match x with | ⟨k, _⟩ => n - k) ⟨(0 : Nat), ⟨zo, rfl⟩⟩ [] (P := (kJ (qN ps)) ∧ (kG n) ∧ (kM (n : Int)) ∧ (kM 0)) zk ⟨rfl, rfl, rfl, rfl⟩ ?_
 rintro ⟨k, hinv0⟩
 obtain ⟨hk, hi⟩ : (k ≤ n) ∧ (zG ps k = -1) := hinv0
 refine qW (l := [(0, qC (qN ps) n), (1, .e (.c (.fn 39 []))), (7, uV n), (8, uV k)]) (g := []) (nx := 0) rfl rfl rfl ?_
 by_cases hx1 : (((k : Nat) : Int) < ((n : Nat) : Int))
 ·refine kH [.b true] (((k : Int) < (n : Int))) [(0, qC (qN ps) n), (1, .e (.c (.fn 39 []))), (7, uV n), (8, uV k), (9, bV true)] [] 0 zo ?_
  refine AW.seq ?_
  refine vL ?_
  refine AW.seq ?_
  refine AW.block ?_
  refine kS [.no, .no] True [(0, qC (qN ps) n), (1, .e (.c (.fn 39 []))), (5, uV k), (7, uV n), (8, uV k)] trivial ?_
  rcases Bool.eq_false_or_eq_true (nvB (kR ps k) (uG ps k)) with hx3 | hx3
  ·have hx4 : ((List.length (kR ps k)) ≤ 1000) := (PsW.get (qD : PsW ps) (k)).2
   refine kS [.no, .no, .no, .n k, .ds [D.sl (kN (kR ps k)) (List.length (kR ps k)), iD (uG ps k)], .call [] (bV true) [] 0 [] none] ((kM (k : Int)) ∧ (k < n) ∧ (List.take 2 (List.drop (k * 2) (qN ps)) = [D.sl (kN (kR ps k)) (List.length (kR ps k)), iD (uG ps k)]) ∧ (([D.sl (kN (kR ps k)) (List.length (kR ps k)), iD (uG ps k)] : List D).length = 2) ∧ (Fun 39 [.agg [.d (D.sl (kN (kR ps k)) (List.length (kR ps k))), iC (uG ps k)]] (kF []) 0 (bV true) (kF []) 0)) [(0, qC (qN ps) n), (1, .e (.c (.fn 39 []))), (5, uV k), (7, uV n), (8, uV k), (16, bV true)] ⟨rfl, zo, (u4p (i := k) zo), rfl, (by have h0 := (x9 (kR ps k) (List.length (kR ps k)) (uG ps k) rfl zo (PsW.get (qD : PsW ps) _).1); rw [hx3] at h0; exact h0)⟩ ?_
   refine zt ?_
   refine kS [.no, .no] True [(4, uV k)] trivial ?_
   refine AW.ret ?_
   exact kA (.inr rfl) [] (P := (((zG ps n) : Int) = (k : Int))) zk (by exact v1f hi (by assumption) zo)
  ·have hx5 : ((List.length (kR ps k)) ≤ 1000) := (PsW.get (qD : PsW ps) (k)).2
   refine kS [.no, .no, .no, .n k, .ds [D.sl (kN (kR ps k)) (List.length (kR ps k)), iD (uG ps k)], .call [] (bV false) [] 0 [] none] ((kM (k : Int)) ∧ (k < n) ∧ (List.take 2 (List.drop (k * 2) (qN ps)) = [D.sl (kN (kR ps k)) (List.length (kR ps k)), iD (uG ps k)]) ∧ (([D.sl (kN (kR ps k)) (List.length (kR ps k)), iD (uG ps k)] : List D).length = 2) ∧ (Fun 39 [.agg [.d (D.sl (kN (kR ps k)) (List.length (kR ps k))), iC (uG ps k)]] (kF []) 0 (bV false) (kF []) 0)) [(0, qC (qN ps) n), (1, .e (.c (.fn 39 []))), (5, uV k), (7, uV n), (8, uV k), (16, bV false)] ⟨rfl, zo, (u4p (i := k) zo), rfl, (by have h0 := (x9 (kR ps k) (List.length (kR ps k)) (uG ps k) rfl zo (PsW.get (qD : PsW ps) _).1); rw [hx3] at h0; exact h0)⟩ ?_
   refine uO ?_
   refine yA [.w, .no] (u3 ((k : Int) + 1)) [(0, qC (qN ps) n), (1, .e (.c (.fn 39 []))), (7, uV n), (8, iV (↑k + 1))] ⟨by omega, by omega⟩ ?_
   exact kW ⟨((k + 1) : Nat), ⟨zo, (v1e hi (by assumption))⟩⟩ [] (P := (kJ (qN ps)) ∧ (kG n) ∧ (kM (n : Int)) ∧ (bU k)) zk ⟨rfl, rfl, rfl, (by rfl)⟩ (show n - (k + 1) < n - k from zo)
 ·refine kH [.b false] (¬ ((k : Int) < (n : Int))) [(0, qC (qN ps) n), (1, .e (.c (.fn 39 []))), (7, uV n), (8, uV k), (9, bV false)] [] 0 zo ?_
  refine AW.seq ?_
  refine zf ?_
  refine AW.exit ?_
  refine kH [.no] True [(4, iV (-1))] [] 0 trivial ?_
  refine AW.ret ?_
  exact kA (.inr rfl) [] (P := (((zG ps n) : Int) = (-1))) zk (by (rw [show n = k by omega]; exact hi))
theorem u6i (ps : List Pt) (n : Nat) (hn : List.length ps = n) (h1 : n ≤ 1000) (hW : PsW ps) : Fun 38 [.c (.d (D.sl (qN ps) n)), .c (.fn 39 [])] (kF []) 0 (uW (D.lit (.bool (nvA ps)))) (kF []) 0 := by
 refine Fun.mk (n := 9) Tryz.func38 rfl rfl (Nat.le_of_ble_eq_true rfl) ?_
 intro cx hcx
 refine kH [.no] True [(0, qC (qN ps) n), (1, .e (.c (.fn 39 [])))] [] 0 trivial ?_
 by_cases hx1 : ((0 : Int) ≤ (zG ps n))
 ·refine kS [.no, .no, .call [] (iV (zG ps n)) [] 0 [] none, .b true, .no] ((_) ∧ (((0 : Int) ≤ (zG ps n)))) [(4, bV true)] ⟨(u6g ps n zo zo (qD : PsW ps)), zo⟩ ?_
  refine AW.ret ?_
  exact kA (.inr rfl) [] (P := ((nvA ps) = true)) zk (by exact v1g hn zo)
 ·refine kS [.no, .no, .call [] (iV (zG ps n)) [] 0 [] none, .b false, .no] ((_) ∧ (¬ ((0 : Int) ≤ (zG ps n)))) [(4, bV false)] ⟨(u6g ps n zo zo (qD : PsW ps)), zo⟩ ?_
  refine AW.ret ?_
  exact kA (.inr rfl) [] (P := ((nvA ps) = false)) zk (by exact v1h hn zo)
theorem l9 (ps : List Pt) (n : Nat) (hn : List.length ps = n) (h1 : n ≤ 1000) (hW : PsW ps) : Fun 16 [.c (.d (D.sl (qN ps) n))] (kF []) 0 (uW (D.lit (.bool (cS ps)))) (kF []) 0 := by
 refine Fun.mk (n := 16) Tryz.func16 rfl rfl (Nat.le_of_ble_eq_true rfl) ?_
 intro cx hcx
 refine kH [.no] True [(0, qC (qN ps) n)] [] 0 trivial ?_
 by_cases hx1 : ((1 : Int) ≤ ((n : Nat) : Int))
 ·by_cases hx2 : (((n : Nat) : Int) ≤ 16)
  ·rcases Bool.eq_false_or_eq_true (nvA ps) with hx3 | hx3
   ·refine kS [.no, .no, .b true, .no, .no, .no, .b true, .no, .no, .no, .call [] (bV true) [] 0 [] none, .no, .no, .no] ((((1 : Int) ≤ (n : Int))) ∧ (((n : Int) ≤ 16)) ∧ (Fun 38 [.c (.d (D.sl (qN ps) n)), .c (.fn 39 [])] (kF []) 0 (bV true) (kF []) 0)) [(2, bV false)] ⟨zo, zo, (by have h0 := (u6i ps n zo zo (qD : PsW ps)); rw [hx3] at h0; exact h0)⟩ ?_
    refine AW.ret ?_
    exact kA (.inr rfl) [] (P := ((cS ps) = false)) zk (by exact v2r (by assumption))
   ·refine kS [.no, .no, .b true, .no, .no, .no, .b true, .no, .no, .no, .call [] (bV false) [] 0 [] none, .no, .no, .no] ((((1 : Int) ≤ (n : Int))) ∧ (((n : Int) ≤ 16)) ∧ (Fun 38 [.c (.d (D.sl (qN ps) n)), .c (.fn 39 [])] (kF []) 0 (bV false) (kF []) 0)) [(2, bV true)] ⟨zo, zo, (by have h0 := (u6i ps n zo zo (qD : PsW ps)); rw [hx3] at h0; exact h0)⟩ ?_
    refine AW.ret ?_
    exact kA (.inr rfl) [] (P := ((cS ps) = true)) zk (by exact v2q zo (by assumption))
  ·refine kS [.no, .no, .b true, .no, .no, .no, .b false, .no, .no, .no, .no] ((((1 : Int) ≤ (n : Int))) ∧ (¬ ((n : Int) ≤ 16))) [(2, bV false)] ⟨zo, zo⟩ ?_
   refine AW.ret ?_
   exact kA (.inr rfl) [] (P := ((cS ps) = false)) zk (by exact u5s zo)
 ·refine kS (.no :: .no :: .b false :: qE 5 []) (¬ ((1 : Int) ≤ (n : Int))) [(2, bV false)] zo ?_
  refine AW.ret ?_
  exact kA (.inr rfl) [] (P := ((cS ps) = false)) zk (by exact u5s zo)
end Go.Proofs.YtbicifcgghmhaaaGreat
namespace Go.Proofs.YtbicifcgghmhaaaGreat
open Go.ChangeShapes Go.WideShapes Go.ChangeAt Go.RowKit
set_option linter.unusedVariables false
set_option linter.unusedSimpArgs false
set_option maxHeartbeats 4000000
set_option maxRecDepth 100000
theorem nT (k : Int) (r : List Int) (rn : Nat) (m : List (List Int)) (c : Nat) (s : List Int) (sn : Nat) (k2 : Int) (r2 : List Int) (rn2 : Nat) (m2 : List (List Int)) (c2 : Nat) (s2 : List Int) (sn2 : Nat) (d : Int) (hr : List.length r = rn * 2) (hs : List.length s = sn * 2) (hc : List.length m = c) (h1 : rn ≤ 1000000) (h2 : sn ≤ 1000000) (h3 : c ≤ 1000000) (hW : MsW m) (hr2 : List.length r2 = rn2 * 2) (hs2 : List.length s2 = sn2 * 2) (hc2 : List.length m2 = c2) (h12 : rn2 ≤ 1000000) (h22 : sn2 ≤ 1000000) (h32 : c2 ≤ 1000000) (hW2 : MsW m2) : Fun 98 [.agg [iC k, .d (D.sl (dI .i64 r) rn), .d (D.sl (kI m) c), .d (D.sl (dI .i64 s) sn)], .agg [iC k2, .d (D.sl (dI .i64 r2) rn2), .d (D.sl (kI m2) c2), .d (D.sl (dI .i64 s2) sn2)], iE d] (kF []) 0 (.e (.agg [iC (zK d k k2), .d (D.sl (dI .i64 (zL d 2 r r2)) (zN d 2 rn rn2)), .d (D.sl (kI (zM d 4 m m2)) (List.length (zM d 4 m m2))), .d (D.sl (dI .i64 (zL d 8 s s2)) (zN d 8 sn sn2))])) (kF []) 0 := by
 refine Fun.mk (n := 32) Tryz.func98 rfl rfl (Nat.le_of_ble_eq_true rfl) ?_
 intro cx hcx
 refine kH [.no, .no, .no] True [(2, iV d), (3, rV 0 0), (4, rV 1 0), (6, rV 2 0)] [(0, some (63, .ds [iD k, dl r rn, D.sl (kI m) c, dl s sn])), (1, some (63, .ds [iD k2, dl r2 rn2, D.sl (kI m2) c2, dl s2 sn2])), (2, some (63, .ds [iD 0, qI, qI, qI]))] 3 trivial ?_
 refine vZ hcx [(2, iV d), (3, rV 0 0), (4, rV 1 0), (6, rV 2 0)] [(0, some (63, .ds [iD (zK d k k2), dl r rn, D.sl (kI m) c, dl s sn])), (1, some (63, .ds [iD k2, dl r2 rn2, D.sl (kI m2) c2, dl s2 sn2])), (2, some (63, .ds [iD 0, qI, qI, qI]))] 3 ?_ ?_
 ·by_cases hx1 : ((qG d 1) ≠ 0)
  ·refine kH [.no, .i (qG d 1), .b true] ((qF .and .i64 d 1 = (qG d 1)) ∧ (((qG d 1) ≠ 0))) [(2, iV d), (3, rV 0 0), (4, rV 1 0), (6, rV 2 0), (9, bV true)] [(0, some (63, .ds [iD k, dl r rn, D.sl (kI m) c, dl s sn])), (1, some (63, .ds [iD k2, dl r2 rn2, D.sl (kI m2) c2, dl s2 sn2])), (2, some (63, .ds [iD 0, qI, qI, qI]))] 3 ⟨rfl, zo⟩ ?_
   refine zt ?_
   refine aC (qE 4 []) True [(2, iV d), (3, rV 0 0), (4, rV 1 0), (6, rV 2 0)] [(0, some (63, .ds [iD k2, dl r rn, D.sl (kI m) c, dl s sn])), (1, some (63, .ds [iD k2, dl r2 rn2, D.sl (kI m2) c2, dl s2 sn2])), (2, some (63, .ds [iD 0, qI, qI, qI]))] 3 trivial ?_
   exact kW () [] (P := (kM d) ∧ (kG 0) ∧ (kG 0) ∧ (kG 0) ∧ (([iD (zK d k k2), dl r rn, D.sl (kI m) c, dl s sn] : List D) = [iD k2, dl r rn, D.sl (kI m) c, dl s sn]) ∧ (kJ [iD k2, dl r2 rn2, D.sl (kI m2) c2, dl s2 sn2]) ∧ (kJ [iD 0, qI, qI, qI])) zk ⟨rfl, rfl, rfl, rfl, (by (rw [v3y (d := d) (by omega)])), rfl, rfl⟩ True.intro
  ·refine kH [.no, .i (qG d 1), .b false] ((qF .and .i64 d 1 = (qG d 1)) ∧ (¬ ((qG d 1) ≠ 0))) [(2, iV d), (3, rV 0 0), (4, rV 1 0), (6, rV 2 0), (9, bV false)] [(0, some (63, .ds [iD k, dl r rn, D.sl (kI m) c, dl s sn])), (1, some (63, .ds [iD k2, dl r2 rn2, D.sl (kI m2) c2, dl s2 sn2])), (2, some (63, .ds [iD 0, qI, qI, qI]))] 3 ⟨rfl, zo⟩ ?_
   refine uO ?_
   exact kW () [] (P := (kM d) ∧ (kG 0) ∧ (kG 0) ∧ (kG 0) ∧ (([iD (zK d k k2), dl r rn, D.sl (kI m) c, dl s sn] : List D) = [iD k, dl r rn, D.sl (kI m) c, dl s sn]) ∧ (kJ [iD k2, dl r2 rn2, D.sl (kI m2) c2, dl s2 sn2]) ∧ (kJ [iD 0, qI, qI, qI])) zk ⟨rfl, rfl, rfl, rfl, (by (rw [v3z (d := d) (by omega)])), rfl, rfl⟩ True.intro
 ·refine vZ hcx [(2, iV d), (3, rV 0 0), (4, rV 1 0), (6, rV 2 0)] [(0, some (63, .ds [iD (zK d k k2), dl (zL d 2 r r2) (zN d 2 rn rn2), D.sl (kI m) c, dl s sn])), (1, some (63, .ds [iD k2, dl r2 rn2, D.sl (kI m2) c2, dl s2 sn2])), (2, some (63, .ds [iD 0, qI, qI, qI]))] 3 ?_ ?_
  ·by_cases hx2 : ((qG d 2) ≠ 0)
   ·refine kH [.no, .i (qG d 2), .b true] ((qF .and .i64 d 2 = (qG d 2)) ∧ (((qG d 2) ≠ 0))) [(2, iV d), (3, rV 0 0), (4, rV 1 0), (6, rV 2 0), (15, bV true)] [(0, some (63, .ds [iD (zK d k k2), dl r rn, D.sl (kI m) c, dl s sn])), (1, some (63, .ds [iD k2, dl r2 rn2, D.sl (kI m2) c2, dl s2 sn2])), (2, some (63, .ds [iD 0, qI, qI, qI]))] 3 ⟨rfl, zo⟩ ?_
    refine zt ?_
    refine aC (qE 4 []) True [(2, iV d), (3, rV 0 0), (4, rV 1 0), (6, rV 2 0)] [(0, some (63, .ds [iD (zK d k k2), dl r2 rn2, D.sl (kI m) c, dl s sn])), (1, some (63, .ds [iD k2, dl r2 rn2, D.sl (kI m2) c2, dl s2 sn2])), (2, some (63, .ds [iD 0, qI, qI, qI]))] 3 trivial ?_
    exact kW () [] (P := (kM d) ∧ (kG 0) ∧ (kG 0) ∧ (kG 0) ∧ (([iD (zK d k k2), dl (zL d 2 r r2) (zN d 2 rn rn2), D.sl (kI m) c, dl s sn] : List D) = [iD (zK d k k2), dl r2 rn2, D.sl (kI m) c, dl s sn]) ∧ (kJ [iD k2, dl r2 rn2, D.sl (kI m2) c2, dl s2 sn2]) ∧ (kJ [iD 0, qI, qI, qI])) zk ⟨rfl, rfl, rfl, rfl, (by (rw [u9k (d := d) (b := 2) (by omega), u9i (d := d) (b := 2) (by omega)])), rfl, rfl⟩ True.intro
   ·refine kH [.no, .i (qG d 2), .b false] ((qF .and .i64 d 2 = (qG d 2)) ∧ (¬ ((qG d 2) ≠ 0))) [(2, iV d), (3, rV 0 0), (4, rV 1 0), (6, rV 2 0), (15, bV false)] [(0, some (63, .ds [iD (zK d k k2), dl r rn, D.sl (kI m) c, dl s sn])), (1, some (63, .ds [iD k2, dl r2 rn2, D.sl (kI m2) c2, dl s2 sn2])), (2, some (63, .ds [iD 0, qI, qI, qI]))] 3 ⟨rfl, zo⟩ ?_
    refine uO ?_
    exact kW () [] (P := (kM d) ∧ (kG 0) ∧ (kG 0) ∧ (kG 0) ∧ (([iD (zK d k k2), dl (zL d 2 r r2) (zN d 2 rn rn2), D.sl (kI m) c, dl s sn] : List D) = [iD (zK d k k2), dl r rn, D.sl (kI m) c, dl s sn]) ∧ (kJ [iD k2, dl r2 rn2, D.sl (kI m2) c2, dl s2 sn2]) ∧ (kJ [iD 0, qI, qI, qI])) zk ⟨rfl, rfl, rfl, rfl, (by (rw [u9l (d := d) (b := 2) (by omega), u9j (d := d) (b := 2) (by omega)])), rfl, rfl⟩ True.intro
  ·refine vZ hcx [(2, iV d), (3, rV 0 0), (4, rV 1 0), (6, rV 2 0)] [(0, some (63, .ds [iD (zK d k k2), dl (zL d 2 r r2) (zN d 2 rn rn2), D.sl (kI (zM d 4 m m2)) (List.length (zM d 4 m m2)), dl s sn])), (1, some (63, .ds [iD k2, dl r2 rn2, D.sl (kI m2) c2, dl s2 sn2])), (2, some (63, .ds [iD 0, qI, qI, qI]))] 3 ?_ ?_
   ·by_cases hx3 : ((qG d 4) ≠ 0)
    ·refine kH [.no, .i (qG d 4), .b true] ((qF .and .i64 d 4 = (qG d 4)) ∧ (((qG d 4) ≠ 0))) [(2, iV d), (3, rV 0 0), (4, rV 1 0), (6, rV 2 0), (21, bV true)] [(0, some (63, .ds [iD (zK d k k2), dl (zL d 2 r r2) (zN d 2 rn rn2), D.sl (kI m) c, dl s sn])), (1, some (63, .ds [iD k2, dl r2 rn2, D.sl (kI m2) c2, dl s2 sn2])), (2, some (63, .ds [iD 0, qI, qI, qI]))] 3 ⟨rfl, zo⟩ ?_
     refine zt ?_
     refine aC (qE 4 []) True [(2, iV d), (3, rV 0 0), (4, rV 1 0), (6, rV 2 0)] [(0, some (63, .ds [iD (zK d k k2), dl (zL d 2 r r2) (zN d 2 rn rn2), D.sl (kI m2) c2, dl s sn])), (1, some (63, .ds [iD k2, dl r2 rn2, D.sl (kI m2) c2, dl s2 sn2])), (2, some (63, .ds [iD 0, qI, qI, qI]))] 3 trivial ?_
     exact kW () [] (P := (kM d) ∧ (kG 0) ∧ (kG 0) ∧ (kG 0) ∧ (([iD (zK d k k2), dl (zL d 2 r r2) (zN d 2 rn rn2), D.sl (kI (zM d 4 m m2)) (List.length (zM d 4 m m2)), dl s sn] : List D) = [iD (zK d k k2), dl (zL d 2 r r2) (zN d 2 rn rn2), D.sl (kI m2) c2, dl s sn]) ∧ (kJ [iD k2, dl r2 rn2, D.sl (kI m2) c2, dl s2 sn2]) ∧ (kJ [iD 0, qI, qI, qI])) zk ⟨rfl, rfl, rfl, rfl, (by (rw [v3w (d := d) (b := 4) (by omega), hc2])), rfl, rfl⟩ True.intro
    ·refine kH [.no, .i (qG d 4), .b false] ((qF .and .i64 d 4 = (qG d 4)) ∧ (¬ ((qG d 4) ≠ 0))) [(2, iV d), (3, rV 0 0), (4, rV 1 0), (6, rV 2 0), (21, bV false)] [(0, some (63, .ds [iD (zK d k k2), dl (zL d 2 r r2) (zN d 2 rn rn2), D.sl (kI m) c, dl s sn])), (1, some (63, .ds [iD k2, dl r2 rn2, D.sl (kI m2) c2, dl s2 sn2])), (2, some (63, .ds [iD 0, qI, qI, qI]))] 3 ⟨rfl, zo⟩ ?_
     refine uO ?_
     exact kW () [] (P := (kM d) ∧ (kG 0) ∧ (kG 0) ∧ (kG 0) ∧ (([iD (zK d k k2), dl (zL d 2 r r2) (zN d 2 rn rn2), D.sl (kI (zM d 4 m m2)) (List.length (zM d 4 m m2)), dl s sn] : List D) = [iD (zK d k k2), dl (zL d 2 r r2) (zN d 2 rn rn2), D.sl (kI m) c, dl s sn]) ∧ (kJ [iD k2, dl r2 rn2, D.sl (kI m2) c2, dl s2 sn2]) ∧ (kJ [iD 0, qI, qI, qI])) zk ⟨rfl, rfl, rfl, rfl, (by (rw [v3x (d := d) (b := 4) (by omega), hc])), rfl, rfl⟩ True.intro
   ·refine vZ hcx [(3, rV 0 0), (6, rV 2 0)] [(0, some (63, .ds [iD (zK d k k2), dl (zL d 2 r r2) (zN d 2 rn rn2), D.sl (kI (zM d 4 m m2)) (List.length (zM d 4 m m2)), dl (zL d 8 s s2) (zN d 8 sn sn2)])), (2, some (63, .ds [iD 0, qI, qI, qI]))] 3 ?_ ?_
    ·by_cases hx4 : ((qG d 8) ≠ 0)
     ·refine kH [.no, .i (qG d 8), .b true] ((qF .and .i64 d 8 = (qG d 8)) ∧ (((qG d 8) ≠ 0))) [(3, rV 0 0), (4, rV 1 0), (6, rV 2 0), (27, bV true)] [(0, some (63, .ds [iD (zK d k k2), dl (zL d 2 r r2) (zN d 2 rn rn2), D.sl (kI (zM d 4 m m2)) (List.length (zM d 4 m m2)), dl s sn])), (1, some (63, .ds [iD k2, dl r2 rn2, D.sl (kI m2) c2, dl s2 sn2])), (2, some (63, .ds [iD 0, qI, qI, qI]))] 3 ⟨rfl, zo⟩ ?_
      refine zt ?_
      refine aC (qE 4 []) True [(3, rV 0 0), (6, rV 2 0)] [(0, some (63, .ds [iD (zK d k k2), dl (zL d 2 r r2) (zN d 2 rn rn2), D.sl (kI (zM d 4 m m2)) (List.length (zM d 4 m m2)), dl s2 sn2])), (2, some (63, .ds [iD 0, qI, qI, qI]))] 3 trivial ?_
      exact kW () [] (P := (kG 0) ∧ (kG 0) ∧ (([iD (zK d k k2), dl (zL d 2 r r2) (zN d 2 rn rn2), D.sl (kI (zM d 4 m m2)) (List.length (zM d 4 m m2)), dl (zL d 8 s s2) (zN d 8 sn sn2)] : List D) = [iD (zK d k k2), dl (zL d 2 r r2) (zN d 2 rn rn2), D.sl (kI (zM d 4 m m2)) (List.length (zM d 4 m m2)), dl s2 sn2]) ∧ (kJ [iD 0, qI, qI, qI])) zk ⟨rfl, rfl, (by (rw [u9k (d := d) (b := 8) (by omega), u9i (d := d) (b := 8) (by omega)])), rfl⟩ True.intro
     ·refine kH [.no, .i (qG d 8), .b false] ((qF .and .i64 d 8 = (qG d 8)) ∧ (¬ ((qG d 8) ≠ 0))) [(3, rV 0 0), (4, rV 1 0), (6, rV 2 0), (27, bV false)] [(0, some (63, .ds [iD (zK d k k2), dl (zL d 2 r r2) (zN d 2 rn rn2), D.sl (kI (zM d 4 m m2)) (List.length (zM d 4 m m2)), dl s sn])), (1, some (63, .ds [iD k2, dl r2 rn2, D.sl (kI m2) c2, dl s2 sn2])), (2, some (63, .ds [iD 0, qI, qI, qI]))] 3 ⟨rfl, zo⟩ ?_
      refine uO ?_
      exact kW () [] (P := (kG 0) ∧ (kG 0) ∧ (([iD (zK d k k2), dl (zL d 2 r r2) (zN d 2 rn rn2), D.sl (kI (zM d 4 m m2)) (List.length (zM d 4 m m2)), dl (zL d 8 s s2) (zN d 8 sn sn2)] : List D) = [iD (zK d k k2), dl (zL d 2 r r2) (zN d 2 rn rn2), D.sl (kI (zM d 4 m m2)) (List.length (zM d 4 m m2)), dl s sn]) ∧ (kJ [iD 0, qI, qI, qI])) zk ⟨rfl, rfl, (by (rw [u9l (d := d) (b := 8) (by omega), u9j (d := d) (b := 8) (by omega)])), rfl⟩ True.intro
    ·refine kH [.no, .no] True [(6, rV 2 0)] [(2, some (63, .ds [iD (zK d k k2), dl (zL d 2 r r2) (zN d 2 rn rn2), D.sl (kI (zM d 4 m m2)) (List.length (zM d 4 m m2)), dl (zL d 8 s s2) (zN d 8 sn sn2)]))] 3 trivial ?_
     refine AW.ret ?_
     exact kA (.inr rfl) [] (P := (kM (zK d k k2)) ∧ (kJ (dI .i64 (zL d 2 r r2))) ∧ (kG (zN d 2 rn rn2)) ∧ (kJ (kI (zM d 4 m m2))) ∧ (kG (List.length (zM d 4 m m2))) ∧ (kJ (dI .i64 (zL d 8 s s2))) ∧ (kG (zN d 8 sn sn2))) zk ⟨rfl, rfl, rfl, rfl, rfl, rfl, rfl⟩
theorem mC {p : Prop} (h : p := by (simp only [qB, qA, qS, qV, qQ, List.length_append, List.length_cons, List.length_nil, List.length_take, List.length_drop, List.length_replicate, List.length_set, List.length_map, List.length_reverse, Nat.mul_one] <;> omega)) : p := h
theorem u15 (k : Int) (r : List Int) (rn : Nat) (m : List (List Int)) (c : Nat) (s : List Int) (sn : Nat) (k2 : Int) (r2 : List Int) (rn2 : Nat) (m2 : List (List Int)) (c2 : Nat) (s2 : List Int) (sn2 : Nat) (d : Int) (hr : List.length r = rn * 2) (hs : List.length s = sn * 2) (hc : List.length m = c) (h1 : rn ≤ 1000000) (h2 : sn ≤ 1000000) (h3 : c ≤ 1000000) (hW : MsW m) (hr2 : List.length r2 = rn2 * 2) (hs2 : List.length s2 = sn2 * 2) (hc2 : List.length m2 = c2) (h12 : rn2 ≤ 1000000) (h22 : sn2 ≤ 1000000) (h32 : c2 ≤ 1000000) (hW2 : MsW m2) : Fun 63 [.agg [iC k, .d (D.sl (dI .i64 r) rn), .d (D.sl (kI m) c), .d (D.sl (dI .i64 s) sn)], .agg [iC k2, .d (D.sl (dI .i64 r2) rn2), .d (D.sl (kI m2) c2), .d (D.sl (dI .i64 s2) sn2)], iE d] (kF []) 0 (.tup [.c (.d (D.sl (kN (yE ([(kE k r rn m s sn)] : List Bx) ([(kE (zK d k2 k) (zL d 2 r2 r) (zN d 2 rn2 rn) (zM d 4 m2 m) (zL d 8 s2 s) (zN d 8 sn2 sn))] : List Bx))) (List.length (yE ([(kE k r rn m s sn)] : List Bx) ([(kE (zK d k2 k) (zL d 2 r2 r) (zN d 2 rn2 rn) (zM d 4 m2 m) (zL d 8 s2 s) (zN d 8 sn2 sn))] : List Bx))))), iE (eN ([(kE k r rn m s sn)] : List Bx) ([(kE (zK d k2 k) (zL d 2 r2 r) (zN d 2 rn2 rn) (zM d 4 m2 m) (zL d 8 s2 s) (zN d 8 sn2 sn))] : List Bx))]) (kF []) 0 := by
 have hwa : BsW ([kE k r rn m s sn] : List Bx) := k14 hr hs h1 h2 hc h3 hW
 have hwz : BsW ([kE (zK d k2 k) (zL d 2 r2 r) (zN d 2 rn2 rn) (zM d 4 m2 m) (zL d 8 s2 s) (zN d 8 sn2 sn)] : List Bx) := k14 (aI hr2 hr) (aI hs2 hs) (dE h12 h1) (dE h22 h2) rfl (f8 hc2 hc h32 h3) (n6 hW2 hW)
 refine Fun.mk (n := 18) Tryz.func63 rfl rfl (Nat.le_of_ble_eq_true rfl) ?_
 intro cx hcx
 refine kH (qE 4 []) True [(2, iV d), (3, rV 0 0), (4, rV 1 0)] [(0, some (63, .ds [iD k, dl r rn, D.sl (kI m) c, dl s sn])), (1, some (63, .ds [iD k2, dl r2 rn2, D.sl (kI m2) c2, dl s2 sn2]))] 2 trivial ?_
 have hx1 : ((List.length (zL d 2 r2 r)) = ((zN d 2 rn2 rn) * 2)) := aI (zo) (zo)
 have hx2 : ((zN d 2 rn2 rn) ≤ 1000000) := dE (zo) (zo)
 have hx3 : ((List.length (zL d 8 s2 s)) = ((zN d 8 sn2 sn) * 2)) := aI (zo) (zo)
 have hx4 : ((zN d 8 sn2 sn) ≤ 1000000) := dE (zo) (zo)
 have hx5 : ((List.length (zM d 4 m2 m)) ≤ 1000000) := f8 (zo) (zo) (zo) (zo)
 have hx6 : (MsW (zM d 4 m2 m)) := n6 (qD : MsW m2) (qD : MsW m)
 have hx7 : (((0 : Int) ≤ (eN ([(kE k r rn m s sn)] : List Bx) ([(kE (zK d k2 k) (zL d 2 r2 r) (zN d 2 rn2 rn) (zM d 4 m2 m) (zL d 8 s2 s) (zN d 8 sn2 sn))] : List Bx))) ∧ ((eN ([(kE k r rn m s sn)] : List Bx) ([(kE (zK d k2 k) (zL d 2 r2 r) (zN d 2 rn2 rn) (zM d 4 m2 m) (zL d 8 s2 s) (zN d 8 sn2 sn))] : List Bx)) ≤ 3)) := sM ([(kE k r rn m s sn)] : List Bx) ([(kE (zK d k2 k) (zL d 2 r2 r) (zN d 2 rn2 rn) (zM d 4 m2 m) (zL d 8 s2 s) (zN d 8 sn2 sn))] : List Bx)
 have hx8 : ((List.length (yE ([(kE k r rn m s sn)] : List Bx) ([(kE (zK d k2 k) (zL d 2 r2 r) (zN d 2 rn2 rn) (zM d 4 m2 m) (zL d 8 s2 s) (zN d 8 sn2 sn))] : List Bx))) ≤ 64) := sL ([(kE k r rn m s sn)] : List Bx) ([(kE (zK d k2 k) (zL d 2 r2 r) (zN d 2 rn2 rn) (zM d 4 m2 m) (zL d 8 s2 s) (zN d 8 sn2 sn))] : List Bx)
 refine kH [.no, (.fz (.no)), .no, .no, .no, .call [] (.e (.agg [iC (zK d k2 k), .d (dl (zL d 2 r2 r) (zN d 2 rn2 rn)), .d (D.sl (kI (zM d 4 m2 m)) (List.length (zM d 4 m2 m))), .d (dl (zL d 8 s2 s) (zN d 8 sn2 sn))])) [] 0 [] none, (.fz (.no)), .call [] (.tup [.c (.d (D.sl (kN (yE ([(kE k r rn m s sn)] : List Bx) ([(kE (zK d k2 k) (zL d 2 r2 r) (zN d 2 rn2 rn) (zM d 4 m2 m) (zL d 8 s2 s) (zN d 8 sn2 sn))] : List Bx))) (List.length (yE ([(kE k r rn m s sn)] : List Bx) ([(kE (zK d k2 k) (zL d 2 r2 r) (zN d 2 rn2 rn) (zM d 4 m2 m) (zL d 8 s2 s) (zN d 8 sn2 sn))] : List Bx))))), iE (eN ([(kE k r rn m s sn)] : List Bx) ([(kE (zK d k2 k) (zL d 2 r2 r) (zN d 2 rn2 rn) (zM d 4 m2 m) (zL d 8 s2 s) (zN d 8 sn2 sn))] : List Bx))]) [] 0 [] (some [.c (.d (D.sl (kN ([(kE k r rn m s sn)] : List Bx)) 1)), .c (.d (D.sl (kN ([(kE (zK d k2 k) (zL d 2 r2 r) (zN d 2 rn2 rn) (zM d 4 m2 m) (zL d 8 s2 s) (zN d 8 sn2 sn))] : List Bx)) 1))]), .no, .no, .no, .no] ((([iD k, dl r rn, D.sl (kI m) c, dl s sn] : List D).length = 1 * 4) ∧ (_) ∧ (([iD (zK d k2 k), dl (zL d 2 r2 r) (zN d 2 rn2 rn), D.sl (kI (zM d 4 m2 m)) (List.length (zM d 4 m2 m)), dl (zL d 8 s2 s) (zN d 8 sn2 sn)] : List D).length = 1 * 4) ∧ (((kN ([(kE k r rn m s sn)] : List Bx)) : List D) = [iD k, dl r rn, D.sl (kI m) c, dl s sn]) ∧ (kG 1) ∧ (((kN ([(kE (zK d k2 k) (zL d 2 r2 r) (zN d 2 rn2 rn) (zM d 4 m2 m) (zL d 8 s2 s) (zN d 8 sn2 sn))] : List Bx)) : List D) = [iD (zK d k2 k), dl (zL d 2 r2 r) (zN d 2 rn2 rn), D.sl (kI (zM d 4 m2 m)) (List.length (zM d 4 m2 m)), dl (zL d 8 s2 s) (zN d 8 sn2 sn)]) ∧ (kG 1) ∧ (_)) [(6, .e (yL (yE ([(kE k r rn m s sn)] : List Bx) ([(kE (zK d k2 k) (zL d 2 r2 r) (zN d 2 rn2 rn) (zM d 4 m2 m) (zL d 8 s2 s) (zN d 8 sn2 sn))] : List Bx)))), (7, iV (eN ([(kE k r rn m s sn)] : List Bx) ([(kE (zK d k2 k) (zL d 2 r2 r) (zN d 2 rn2 rn) (zM d 4 m2 m) (zL d 8 s2 s) (zN d 8 sn2 sn))] : List Bx)))] [] 4 ⟨mC, (nT k2 r2 rn2 m2 c2 s2 sn2 k r rn m c s sn d zo zo zo zo zo zo (qD : MsW m2) zo zo zo zo zo zo (qD : MsW m)), mC, (by (subst hc; rfl)), rfl, (by rfl), rfl, (v3l ([(kE k r rn m s sn)] : List Bx) ([(kE (zK d k2 k) (zL d 2 r2 r) (zN d 2 rn2 rn) (zM d 4 m2 m) (zL d 8 s2 s) (zN d 8 sn2 sn))] : List Bx) 1 1 (by (simp only [qB, qA, qS, qV, List.length_append, List.length_cons, List.length_nil, List.length_take, List.length_drop, List.length_replicate, List.length_set] <;> omega)) (by (simp only [qB, qA, qS, qV, List.length_append, List.length_cons, List.length_nil, List.length_take, List.length_drop, List.length_replicate, List.length_set] <;> omega)) zo zo (qD : BsW ([(kE k r rn m s sn)] : List Bx)) (qD : BsW ([(kE (zK d k2 k) (zL d 2 r2 r) (zN d 2 rn2 rn) (zM d 4 m2 m) (zL d 8 s2 s) (zN d 8 sn2 sn))] : List Bx)))⟩ ?_
 refine AW.ret ?_
 exact kA (.inr rfl) [] (P := (kJ (kN (yE ([(kE k r rn m s sn)] : List Bx) ([(kE (zK d k2 k) (zL d 2 r2 r) (zN d 2 rn2 rn) (zM d 4 m2 m) (zL d 8 s2 s) (zN d 8 sn2 sn))] : List Bx)))) ∧ (kG (List.length (yE ([(kE k r rn m s sn)] : List Bx) ([(kE (zK d k2 k) (zL d 2 r2 r) (zN d 2 rn2 rn) (zM d 4 m2 m) (zL d 8 s2 s) (zN d 8 sn2 sn))] : List Bx)))) ∧ (kM (eN ([(kE k r rn m s sn)] : List Bx) ([(kE (zK d k2 k) (zL d 2 r2 r) (zN d 2 rn2 rn) (zM d 4 m2 m) (zL d 8 s2 s) (zN d 8 sn2 sn))] : List Bx)))) zk ⟨rfl, rfl, rfl⟩
abbrev eU (a : List Bx) (i : Nat) : BC := .ds [iD (kQ a i), D.sl (dI .i64 (kY a i)) (kV a i), D.sl (kI (kT a i)) (List.length (kT a i)), D.sl (dI .i64 (kX a i)) (kU a i)]
theorem u40 (a b : List Bx) (n m : Nat) (d : Int) (hn : List.length a = n) (hm : List.length b = m) (h1 : n ≤ 1000) (h2 : m ≤ 1000) (hW : BsW a) (hV : BsW b) : Fun 33 [.c (.d (D.sl (kN a) n)), .c (.d (D.sl (kN b) m)), iE d] (kF []) 0 (.tup [.c (.d (D.sl (kN (cB d a b)) (List.length (cB d a b)))), iE (jC d a b)]) (kF []) 0 := by
 refine Fun.mk (n := 53) Tryz.func33 rfl rfl (Nat.le_of_ble_eq_true rfl) ?_
 intro cx hcx
 refine kH [.no, .no] True [(0, .e (k9 a n)), (1, .e (k9 b m)), (2, iV d)] [] 0 trivial ?_
 refine kS [.no] True [(0, .e (k9 a n)), (1, .e (k9 b m)), (2, iV d), (8, nV)] trivial ?_
 refine AW.seq ?_
 refine kS [.no, .no, .no] True [(1, .e (k9 b m)), (2, iV d), (8, nV), (15, .e (k9 a n)), (16, uV n), (17, iV 0)] trivial ?_
 refine AW.block ?_
 refine AW.adoptS 8 4 63 rfl ?_
 refine k8 0 hcx (fun (x : {x : Nat × Nat × List Bx // match x with | (i, q, o) => (i ≤ n) ∧ (RI d a b i o) ∧ (List.length o = q ∧ q ≤ 64) ∧ (BsW o)}) => match x with | ⟨(i, q, o), _⟩ => (⟨[(1, .e (k9 b m)), (2, iV d), (8, oV 1 0 q 4), (15, .e (k9 a n)), (16, uV n), (17, uV i)], [(1, some (63, .ds (kN o)))], 2⟩ : ES)) (fun x => match x with | ⟨(i, q, o), _⟩ => n - i) ⟨((0 : Nat), (0 : Nat), (([] : List Bx) : List Bx)), ⟨zo, RI.zero d a b, ⟨rfl, by omega⟩, BsW.nil⟩⟩ [(1, 0)] (P := (kJ (kN b)) ∧ (kG m) ∧ (kM d) ∧ (kG 0) ∧ (kG 0) ∧ (kJ (kN a)) ∧ (kG n) ∧ (kM (n : Int)) ∧ (kM 0) ∧ (((kN ([] : List Bx)) : List D) = ([] : List D))) zk ⟨rfl, rfl, rfl, rfl, rfl, rfl, rfl, rfl, rfl, (by rfl)⟩ ?_
 rintro ⟨⟨i, q, o⟩, hinv0⟩
 obtain ⟨hi, hI, hq, hO⟩ : (i ≤ n) ∧ (RI d a b i o) ∧ (List.length o = q ∧ q ≤ 64) ∧ (BsW o) := hinv0
 refine qW (l := [(1, .e (k9 b m)), (2, iV d), (8, oV 1 0 q 4), (15, .e (k9 a n)), (16, uV n), (17, uV i)]) (g := [(1, some (63, .ds (kN o)))]) (nx := 2) rfl rfl rfl ?_
 by_cases hx1 : (((i : Nat) : Int) < ((n : Nat) : Int))
 ·refine kH [.b true] (((i : Int) < (n : Int))) [(1, .e (k9 b m)), (2, iV d), (8, oV 1 0 q 4), (15, .e (k9 a n)), (16, uV n), (17, uV i), (18, bV true)] [(1, some (63, .ds (kN o)))] 2 zo ?_
  refine AW.seq ?_
  refine vL ?_
  refine AW.seq ?_
  refine AW.block ?_
  obtain ⟨hx2, hx3, hx4, hx5, hx6⟩ := BsW.at (qD : BsW a) (i)
  refine kH [.n i, .ds (yI a i), .no, .no] ((kM (i : Int)) ∧ (i < n) ∧ (List.take 4 (List.drop (i * 4) (kN a)) = (yI a i)) ∧ (((yI a i) : List D).length = 4)) [(1, .e (k9 b m)), (2, iV d), (8, oV 1 0 q 4), (10, rV 2 0), (15, .e (k9 a n)), (16, uV n), (17, uV i)] [(1, some (63, .ds (kN o))), (2, some (63, (eU a i)))] 3 ⟨rfl, zo, (vB zo), rfl⟩ ?_
  refine kS [.no, .no, .no] True [(1, .e (k9 b m)), (2, iV d), (8, oV 1 0 q 4), (10, rV 2 0), (15, .e (k9 a n)), (16, uV n), (17, uV i), (21, .e (k9 b m)), (22, uV m), (23, iV 0)] trivial ?_
  refine AW.block ?_
  refine k8 0 hcx (fun (x : {x : Nat × Nat × List Bx // match x with | (j, p, x) => (j ≤ m) ∧ (RJ d a b i j x) ∧ (List.length x = p ∧ p ≤ 64) ∧ (BsW x)}) => match x with | ⟨(j, p, x), _⟩ => (⟨[(1, .e (k9 b m)), (2, iV d), (8, oV 3 0 p 4), (10, rV 2 0), (15, .e (k9 a n)), (16, uV n), (17, uV i), (21, .e (k9 b m)), (22, uV m), (23, uV j)], [(3, some (63, .ds (kN x))), (2, some (63, (eU a i)))], 4⟩ : ES)) (fun x => match x with | ⟨(j, p, x), _⟩ => m - j) ⟨((0 : Nat), (q : Nat), (o : List Bx)), ⟨zo, hI.in, (by assumption), hO⟩⟩ [(3, 1)] (P := (kJ (kN b)) ∧ (kG m) ∧ (kM d) ∧ (kG 0) ∧ (kG q) ∧ (kG 0) ∧ (kJ (kN a)) ∧ (kG n) ∧ (kM (n : Int)) ∧ (kM (i : Int)) ∧ (kJ (kN b)) ∧ (kG m) ∧ (kM (m : Int)) ∧ (kM 0) ∧ (kJ (kN o)) ∧ (kJ (yI a i))) zk ⟨rfl, rfl, rfl, rfl, rfl, rfl, rfl, rfl, rfl, rfl, rfl, rfl, rfl, rfl, rfl, rfl⟩ ?_
  rintro ⟨⟨j, p, x⟩, hinv1⟩
  obtain ⟨hj, hJ, hp, hX⟩ : (j ≤ m) ∧ (RJ d a b i j x) ∧ (List.length x = p ∧ p ≤ 64) ∧ (BsW x) := hinv1
  refine qW (l := [(1, .e (k9 b m)), (2, iV d), (8, oV 3 0 p 4), (10, rV 2 0), (15, .e (k9 a n)), (16, uV n), (17, uV i), (21, .e (k9 b m)), (22, uV m), (23, uV j)]) (g := [(3, some (63, .ds (kN x))), (2, some (63, (eU a i)))]) (nx := 4) rfl rfl rfl ?_
  by_cases hx7 : (((j : Nat) : Int) < ((m : Nat) : Int))
  ·refine kH [.b true] (((j : Int) < (m : Int))) [(1, .e (k9 b m)), (2, iV d), (8, oV 3 0 p 4), (10, rV 2 0), (15, .e (k9 a n)), (16, uV n), (17, uV i), (21, .e (k9 b m)), (22, uV m), (23, uV j), (24, bV true)] [(2, some (63, (eU a i))), (3, some (63, .ds (kN x)))] 4 zo ?_
   refine AW.seq ?_
   refine vL ?_
   refine AW.seq ?_
   refine AW.block ?_
   obtain ⟨hx8, hx9, hx10, hx11, hx12⟩ := BsW.at (qD : BsW b) (j)
   refine kH [.n j, .ds (yI b j), .no, .no] ((kM (j : Int)) ∧ (j < m) ∧ (List.take 4 (List.drop (j * 4) (kN b)) = (yI b j)) ∧ (((yI b j) : List D).length = 4)) [(1, .e (k9 b m)), (2, iV d), (8, oV 3 0 p 4), (10, rV 2 0), (12, rV 4 0), (15, .e (k9 a n)), (16, uV n), (17, uV i), (21, .e (k9 b m)), (22, uV m), (23, uV j)] [(2, some (63, (eU a i))), (3, some (63, .ds (kN x))), (4, some (63, .ds (yI b j)))] 5 ⟨rfl, zo, (vB zo), rfl⟩ ?_
   have hx13 : (((0 : Int) ≤ (eN ([(kE (kQ a i) (kY a i) (kV a i) (kT a i) (kX a i) (kU a i))] : List Bx) ([(kE (zK d (kQ b j) (kQ a i)) (zL d 2 (kY b j) (kY a i)) (zN d 2 (kV b j) (kV a i)) (zM d 4 (kT b j) (kT a i)) (zL d 8 (kX b j) (kX a i)) (zN d 8 (kU b j) (kU a i)))] : List Bx))) ∧ ((eN ([(kE (kQ a i) (kY a i) (kV a i) (kT a i) (kX a i) (kU a i))] : List Bx) ([(kE (zK d (kQ b j) (kQ a i)) (zL d 2 (kY b j) (kY a i)) (zN d 2 (kV b j) (kV a i)) (zM d 4 (kT b j) (kT a i)) (zL d 8 (kX b j) (kX a i)) (zN d 8 (kU b j) (kU a i)))] : List Bx)) ≤ 3)) := sM _ _
   have hx14 : ((List.length (yE ([(kE (kQ a i) (kY a i) (kV a i) (kT a i) (kX a i) (kU a i))] : List Bx) ([(kE (zK d (kQ b j) (kQ a i)) (zL d 2 (kY b j) (kY a i)) (zN d 2 (kV b j) (kV a i)) (zM d 4 (kT b j) (kT a i)) (zL d 8 (kX b j) (kX a i)) (zN d 8 (kU b j) (kU a i)))] : List Bx))) ≤ 64) := sL _ _
   refine kH (.no :: .no :: .no :: .call [] (.tup [.c (.d (D.sl (kN (yE ([(kE (kQ a i) (kY a i) (kV a i) (kT a i) (kX a i) (kU a i))] : List Bx) ([(kE (zK d (kQ b j) (kQ a i)) (zL d 2 (kY b j) (kY a i)) (zN d 2 (kV b j) (kV a i)) (zM d 4 (kT b j) (kT a i)) (zL d 8 (kX b j) (kX a i)) (zN d 8 (kU b j) (kU a i)))] : List Bx))) (List.length (yE ([(kE (kQ a i) (kY a i) (kV a i) (kT a i) (kX a i) (kU a i))] : List Bx) ([(kE (zK d (kQ b j) (kQ a i)) (zL d 2 (kY b j) (kY a i)) (zN d 2 (kV b j) (kV a i)) (zM d 4 (kT b j) (kT a i)) (zL d 8 (kX b j) (kX a i)) (zN d 8 (kU b j) (kU a i)))] : List Bx))))), iE (eN ([(kE (kQ a i) (kY a i) (kV a i) (kT a i) (kX a i) (kU a i))] : List Bx) ([(kE (zK d (kQ b j) (kQ a i)) (zL d 2 (kY b j) (kY a i)) (zN d 2 (kV b j) (kV a i)) (zM d 4 (kT b j) (kT a i)) (zL d 8 (kX b j) (kX a i)) (zN d 8 (kU b j) (kU a i)))] : List Bx))]) [] 0 [] none :: qE 5 []) _ [(1, .e (k9 b m)), (2, iV d), (8, oV 3 0 p 4), (10, rV 2 0), (13, qC (kN (yE ([(kE (kQ a i) (kY a i) (kV a i) (kT a i) (kX a i) (kU a i))] : List Bx) ([(kE (zK d (kQ b j) (kQ a i)) (zL d 2 (kY b j) (kY a i)) (zN d 2 (kV b j) (kV a i)) (zM d 4 (kT b j) (kT a i)) (zL d 8 (kX b j) (kX a i)) (zN d 8 (kU b j) (kU a i)))] : List Bx))) (List.length (yE ([(kE (kQ a i) (kY a i) (kV a i) (kT a i) (kX a i) (kU a i))] : List Bx) ([(kE (zK d (kQ b j) (kQ a i)) (zL d 2 (kY b j) (kY a i)) (zN d 2 (kV b j) (kV a i)) (zM d 4 (kT b j) (kT a i)) (zL d 8 (kX b j) (kX a i)) (zN d 8 (kU b j) (kU a i)))] : List Bx)))), (14, iV (eN ([(kE (kQ a i) (kY a i) (kV a i) (kT a i) (kX a i) (kU a i))] : List Bx) ([(kE (zK d (kQ b j) (kQ a i)) (zL d 2 (kY b j) (kY a i)) (zN d 2 (kV b j) (kV a i)) (zM d 4 (kT b j) (kT a i)) (zL d 8 (kX b j) (kX a i)) (zN d 8 (kU b j) (kU a i)))] : List Bx))), (15, .e (k9 a n)), (16, uV n), (17, uV i), (21, .e (k9 b m)), (22, uV m), (23, uV j)] [(2, some (63, (eU a i))), (3, some (63, .ds (kN x)))] 5 (u15 (kQ a i) (kY a i) (kV a i) (kT a i) (List.length (kT a i)) (kX a i) (kU a i) (kQ b j) (kY b j) (kV b j) (kT b j) (List.length (kT b j)) (kX b j) (kU b j) d zo zo rfl zo zo zo (BsW.ms (qD : BsW a) _) zo zo rfl zo zo zo (BsW.ms (qD : BsW b) _)) ?_
   refine AW.seq ?_
   by_cases hx15 : ((eN ([(kE (kQ a i) (kY a i) (kV a i) (kT a i) (kX a i) (kU a i))] : List Bx) ([(kE (zK d (kQ b j) (kQ a i)) (zL d 2 (kY b j) (kY a i)) (zN d 2 (kV b j) (kV a i)) (zM d 4 (kT b j) (kT a i)) (zL d 8 (kX b j) (kX a i)) (zN d 8 (kU b j) (kU a i)))] : List Bx)) ≠ 0)
   ·refine kS [.no, .b true, .no, .no] (((eN ([(kE (kQ a i) (kY a i) (kV a i) (kT a i) (kX a i) (kU a i))] : List Bx) ([(kE (zK d (kQ b j) (kQ a i)) (zL d 2 (kY b j) (kY a i)) (zN d 2 (kV b j) (kV a i)) (zM d 4 (kT b j) (kT a i)) (zL d 8 (kX b j) (kX a i)) (zN d 8 (kU b j) (kU a i)))] : List Bx)) ≠ 0)) [(1, .e (k9 b m)), (2, iV d), (8, oV 3 0 p 4), (10, rV 2 0), (13, qC (kN (yE ([(kE (kQ a i) (kY a i) (kV a i) (kT a i) (kX a i) (kU a i))] : List Bx) ([(kE (zK d (kQ b j) (kQ a i)) (zL d 2 (kY b j) (kY a i)) (zN d 2 (kV b j) (kV a i)) (zM d 4 (kT b j) (kT a i)) (zL d 8 (kX b j) (kX a i)) (zN d 8 (kU b j) (kU a i)))] : List Bx))) (List.length (yE ([(kE (kQ a i) (kY a i) (kV a i) (kT a i) (kX a i) (kU a i))] : List Bx) ([(kE (zK d (kQ b j) (kQ a i)) (zL d 2 (kY b j) (kY a i)) (zN d 2 (kV b j) (kV a i)) (zM d 4 (kT b j) (kT a i)) (zL d 8 (kX b j) (kX a i)) (zN d 8 (kU b j) (kU a i)))] : List Bx)))), (15, .e (k9 a n)), (16, uV n), (17, uV i), (21, .e (k9 b m)), (22, uV m), (23, uV j), (43, bV true)] zo ?_
    refine zt ?_
    refine kH [.no, .no] True [(6, nV), (7, iV 3)] [] 5 trivial ?_
    obtain ⟨hz1, hz2⟩ := u4n hJ (i := i) (j := j) zo zo hp.1 (by exact .inl (by assumption))
    refine y6 (l' := [(6, qC ([] : List D) 0), (7, iV 3)]) (g' := []) (NlS.cons rfl (.e (.c .nil)) (NlS.cons rfl (.same _) NlS.nil)) NlG.nil ?_
    refine AW.ret ?_
    exact kA (.inr rfl) [] (P := (((kN (cB d a b)) : List D) = ([] : List D)) ∧ (((List.length (cB d a b)) : Nat) = 0) ∧ (((jC d a b) : Int) = 3)) zk ⟨(by (rw [hz1]; rfl)), (by (rw [hz1]; rfl)), (by exact hz2)⟩
   ·by_cases hx16 : ((64 : Int) < (((p : Nat) : Int) + (((List.length (yE ([(kE (kQ a i) (kY a i) (kV a i) (kT a i) (kX a i) (kU a i))] : List Bx) ([(kE (zK d (kQ b j) (kQ a i)) (zL d 2 (kY b j) (kY a i)) (zN d 2 (kV b j) (kV a i)) (zM d 4 (kT b j) (kT a i)) (zL d 8 (kX b j) (kX a i)) (zN d 8 (kU b j) (kU a i)))] : List Bx))) : Nat) : Int)))
    ·refine kS (.no :: .b false :: qE 5 [.w, .b true, .no]) ((¬ ((eN ([(kE (kQ a i) (kY a i) (kV a i) (kT a i) (kX a i) (kU a i))] : List Bx) ([(kE (zK d (kQ b j) (kQ a i)) (zL d 2 (kY b j) (kY a i)) (zN d 2 (kV b j) (kV a i)) (zM d 4 (kT b j) (kT a i)) (zL d 8 (kX b j) (kX a i)) (zN d 8 (kU b j) (kU a i)))] : List Bx)) ≠ 0)) ∧ ((-9223372036854775808) ≤ ((p : Int) + (((List.length (yE ([(kE (kQ a i) (kY a i) (kV a i) (kT a i) (kX a i) (kU a i))] : List Bx) ([(kE (zK d (kQ b j) (kQ a i)) (zL d 2 (kY b j) (kY a i)) (zN d 2 (kV b j) (kV a i)) (zM d 4 (kT b j) (kT a i)) (zL d 8 (kX b j) (kX a i)) (zN d 8 (kU b j) (kU a i)))] : List Bx))) : Nat) : Int)) ∧ ((p : Int) + (((List.length (yE ([(kE (kQ a i) (kY a i) (kV a i) (kT a i) (kX a i) (kU a i))] : List Bx) ([(kE (zK d (kQ b j) (kQ a i)) (zL d 2 (kY b j) (kY a i)) (zN d 2 (kV b j) (kV a i)) (zM d 4 (kT b j) (kT a i)) (zL d 8 (kX b j) (kX a i)) (zN d 8 (kU b j) (kU a i)))] : List Bx))) : Nat) : Int)) ≤ 9223372036854775807) ∧ (((64 : Int) < ((p : Int) + (((List.length (yE ([(kE (kQ a i) (kY a i) (kV a i) (kT a i) (kX a i) (kU a i))] : List Bx) ([(kE (zK d (kQ b j) (kQ a i)) (zL d 2 (kY b j) (kY a i)) (zN d 2 (kV b j) (kV a i)) (zM d 4 (kT b j) (kT a i)) (zL d 8 (kX b j) (kX a i)) (zN d 8 (kU b j) (kU a i)))] : List Bx))) : Nat) : Int))))) [(1, .e (k9 b m)), (2, iV d), (8, oV 3 0 p 4), (10, rV 2 0), (13, qC (kN (yE ([(kE (kQ a i) (kY a i) (kV a i) (kT a i) (kX a i) (kU a i))] : List Bx) ([(kE (zK d (kQ b j) (kQ a i)) (zL d 2 (kY b j) (kY a i)) (zN d 2 (kV b j) (kV a i)) (zM d 4 (kT b j) (kT a i)) (zL d 8 (kX b j) (kX a i)) (zN d 8 (kU b j) (kU a i)))] : List Bx))) (List.length (yE ([(kE (kQ a i) (kY a i) (kV a i) (kT a i) (kX a i) (kU a i))] : List Bx) ([(kE (zK d (kQ b j) (kQ a i)) (zL d 2 (kY b j) (kY a i)) (zN d 2 (kV b j) (kV a i)) (zM d 4 (kT b j) (kT a i)) (zL d 8 (kX b j) (kX a i)) (zN d 8 (kU b j) (kU a i)))] : List Bx)))), (15, .e (k9 a n)), (16, uV n), (17, uV i), (21, .e (k9 b m)), (22, uV m), (23, uV j), (43, bV true)] ⟨zo, ⟨by omega, by omega⟩, zo⟩ ?_
     refine zt ?_
     refine kH [.no, .no] True [(6, nV), (7, iV 3)] [] 5 trivial ?_
     obtain ⟨hz1, hz2⟩ := u4n hJ (i := i) (j := j) zo zo hp.1 (by exact .inr (by assumption))
     refine y6 (l' := [(6, qC ([] : List D) 0), (7, iV 3)]) (g' := []) (NlS.cons rfl (.e (.c .nil)) (NlS.cons rfl (.same _) NlS.nil)) NlG.nil ?_
     refine AW.ret ?_
     exact kA (.inr rfl) [] (P := (((kN (cB d a b)) : List D) = ([] : List D)) ∧ (((List.length (cB d a b)) : Nat) = 0) ∧ (((jC d a b) : Int) = 3)) zk ⟨(by (rw [hz1]; rfl)), (by (rw [hz1]; rfl)), (by exact hz2)⟩
    ·refine kS (.no :: .b false :: qE 5 [.w, .b false, .no]) ((¬ ((eN ([(kE (kQ a i) (kY a i) (kV a i) (kT a i) (kX a i) (kU a i))] : List Bx) ([(kE (zK d (kQ b j) (kQ a i)) (zL d 2 (kY b j) (kY a i)) (zN d 2 (kV b j) (kV a i)) (zM d 4 (kT b j) (kT a i)) (zL d 8 (kX b j) (kX a i)) (zN d 8 (kU b j) (kU a i)))] : List Bx)) ≠ 0)) ∧ ((-9223372036854775808) ≤ ((p : Int) + (((List.length (yE ([(kE (kQ a i) (kY a i) (kV a i) (kT a i) (kX a i) (kU a i))] : List Bx) ([(kE (zK d (kQ b j) (kQ a i)) (zL d 2 (kY b j) (kY a i)) (zN d 2 (kV b j) (kV a i)) (zM d 4 (kT b j) (kT a i)) (zL d 8 (kX b j) (kX a i)) (zN d 8 (kU b j) (kU a i)))] : List Bx))) : Nat) : Int)) ∧ ((p : Int) + (((List.length (yE ([(kE (kQ a i) (kY a i) (kV a i) (kT a i) (kX a i) (kU a i))] : List Bx) ([(kE (zK d (kQ b j) (kQ a i)) (zL d 2 (kY b j) (kY a i)) (zN d 2 (kV b j) (kV a i)) (zM d 4 (kT b j) (kT a i)) (zL d 8 (kX b j) (kX a i)) (zN d 8 (kU b j) (kU a i)))] : List Bx))) : Nat) : Int)) ≤ 9223372036854775807) ∧ (¬ ((64 : Int) < ((p : Int) + (((List.length (yE ([(kE (kQ a i) (kY a i) (kV a i) (kT a i) (kX a i) (kU a i))] : List Bx) ([(kE (zK d (kQ b j) (kQ a i)) (zL d 2 (kY b j) (kY a i)) (zN d 2 (kV b j) (kV a i)) (zM d 4 (kT b j) (kT a i)) (zL d 8 (kX b j) (kX a i)) (zN d 8 (kU b j) (kU a i)))] : List Bx))) : Nat) : Int))))) [(1, .e (k9 b m)), (2, iV d), (8, oV 3 0 p 4), (10, rV 2 0), (13, qC (kN (yE ([(kE (kQ a i) (kY a i) (kV a i) (kT a i) (kX a i) (kU a i))] : List Bx) ([(kE (zK d (kQ b j) (kQ a i)) (zL d 2 (kY b j) (kY a i)) (zN d 2 (kV b j) (kV a i)) (zM d 4 (kT b j) (kT a i)) (zL d 8 (kX b j) (kX a i)) (zN d 8 (kU b j) (kU a i)))] : List Bx))) (List.length (yE ([(kE (kQ a i) (kY a i) (kV a i) (kT a i) (kX a i) (kU a i))] : List Bx) ([(kE (zK d (kQ b j) (kQ a i)) (zL d 2 (kY b j) (kY a i)) (zN d 2 (kV b j) (kV a i)) (zM d 4 (kT b j) (kT a i)) (zL d 8 (kX b j) (kX a i)) (zN d 8 (kU b j) (kU a i)))] : List Bx)))), (15, .e (k9 a n)), (16, uV n), (17, uV i), (21, .e (k9 b m)), (22, uV m), (23, uV j), (43, bV false)] ⟨zo, ⟨by omega, by omega⟩, zo⟩ ?_
     refine uO ?_
     refine aC [.no, .no, .ap none (p + (List.length (yE ([(kE (kQ a i) (kY a i) (kV a i) (kT a i) (kX a i) (kU a i))] : List Bx) ([(kE (zK d (kQ b j) (kQ a i)) (zL d 2 (kY b j) (kY a i)) (zN d 2 (kV b j) (kV a i)) (zM d 4 (kT b j) (kT a i)) (zL d 8 (kX b j) (kX a i)) (zN d 8 (kU b j) (kU a i)))] : List Bx)))) (kN (x ++ (yE ([(kE (kQ a i) (kY a i) (kV a i) (kT a i) (kX a i) (kU a i))] : List Bx) ([(kE (zK d (kQ b j) (kQ a i)) (zL d 2 (kY b j) (kY a i)) (zN d 2 (kV b j) (kV a i)) (zM d 4 (kT b j) (kT a i)) (zL d 8 (kX b j) (kX a i)) (zN d 8 (kU b j) (kU a i)))] : List Bx)))), .no] (((kN (yE ([(kE (kQ a i) (kY a i) (kV a i) (kT a i) (kX a i) (kU a i))] : List Bx) ([(kE (zK d (kQ b j) (kQ a i)) (zL d 2 (kY b j) (kY a i)) (zN d 2 (kV b j) (kV a i)) (zM d 4 (kT b j) (kT a i)) (zL d 8 (kX b j) (kX a i)) (zN d 8 (kU b j) (kU a i)))] : List Bx))).length = (List.length (yE ([(kE (kQ a i) (kY a i) (kV a i) (kT a i) (kX a i) (kU a i))] : List Bx) ([(kE (zK d (kQ b j) (kQ a i)) (zL d 2 (kY b j) (kY a i)) (zN d 2 (kV b j) (kV a i)) (zM d 4 (kT b j) (kT a i)) (zL d 8 (kX b j) (kX a i)) (zN d 8 (kU b j) (kU a i)))] : List Bx))) * 4) ∧ (((kN x) : List D).length = p * 4) ∧ ((p + (List.length (yE ([(kE (kQ a i) (kY a i) (kV a i) (kT a i) (kX a i) (kU a i))] : List Bx) ([(kE (zK d (kQ b j) (kQ a i)) (zL d 2 (kY b j) (kY a i)) (zN d 2 (kV b j) (kV a i)) (zM d 4 (kT b j) (kT a i)) (zL d 8 (kX b j) (kX a i)) (zN d 8 (kU b j) (kU a i)))] : List Bx)))) * 80 ≤ 140737488355328) ∧ (p + (List.length (yE ([(kE (kQ a i) (kY a i) (kV a i) (kT a i) (kX a i) (kU a i))] : List Bx) ([(kE (zK d (kQ b j) (kQ a i)) (zL d 2 (kY b j) (kY a i)) (zN d 2 (kV b j) (kV a i)) (zM d 4 (kT b j) (kT a i)) (zL d 8 (kX b j) (kX a i)) (zN d 8 (kU b j) (kU a i)))] : List Bx))) = (p + (List.length (yE ([(kE (kQ a i) (kY a i) (kV a i) (kT a i) (kX a i) (kU a i))] : List Bx) ([(kE (zK d (kQ b j) (kQ a i)) (zL d 2 (kY b j) (kY a i)) (zN d 2 (kV b j) (kV a i)) (zM d 4 (kT b j) (kT a i)) (zL d 8 (kX b j) (kX a i)) (zN d 8 (kU b j) (kU a i)))] : List Bx))))) ∧ (((kN x) : List D) ++ (kN (yE ([(kE (kQ a i) (kY a i) (kV a i) (kT a i) (kX a i) (kU a i))] : List Bx) ([(kE (zK d (kQ b j) (kQ a i)) (zL d 2 (kY b j) (kY a i)) (zN d 2 (kV b j) (kV a i)) (zM d 4 (kT b j) (kT a i)) (zL d 8 (kX b j) (kX a i)) (zN d 8 (kU b j) (kU a i)))] : List Bx))) = (kN (x ++ (yE ([(kE (kQ a i) (kY a i) (kV a i) (kT a i) (kX a i) (kU a i))] : List Bx) ([(kE (zK d (kQ b j) (kQ a i)) (zL d 2 (kY b j) (kY a i)) (zN d 2 (kV b j) (kV a i)) (zM d 4 (kT b j) (kT a i)) (zL d 8 (kX b j) (kX a i)) (zN d 8 (kU b j) (kU a i)))] : List Bx)))))) [(1, .e (k9 b m)), (2, iV d), (8, oV 5 0 (p + (List.length (yE ([(kE (kQ a i) (kY a i) (kV a i) (kT a i) (kX a i) (kU a i))] : List Bx) ([(kE (zK d (kQ b j) (kQ a i)) (zL d 2 (kY b j) (kY a i)) (zN d 2 (kV b j) (kV a i)) (zM d 4 (kT b j) (kT a i)) (zL d 8 (kX b j) (kX a i)) (zN d 8 (kU b j) (kU a i)))] : List Bx)))) 4), (10, rV 2 0), (15, .e (k9 a n)), (16, uV n), (17, uV i), (21, .e (k9 b m)), (22, uV m), (23, uV j)] [(2, some (63, (eU a i))), (5, some (63, .ds (kN (x ++ (yE ([(kE (kQ a i) (kY a i) (kV a i) (kT a i) (kX a i) (kU a i))] : List Bx) ([(kE (zK d (kQ b j) (kQ a i)) (zL d 2 (kY b j) (kY a i)) (zN d 2 (kV b j) (kV a i)) (zM d 4 (kT b j) (kT a i)) (zL d 8 (kX b j) (kX a i)) (zN d 8 (kU b j) (kU a i)))] : List Bx))))))] 6 ⟨mC, mC, zo, zo, (l6 _ _).symm⟩ ?_
     refine yA [.w, .no] (u3 ((j : Int) + 1)) [(1, .e (k9 b m)), (2, iV d), (8, oV 5 0 (p + (List.length (yE ([(kE (kQ a i) (kY a i) (kV a i) (kT a i) (kX a i) (kU a i))] : List Bx) ([(kE (zK d (kQ b j) (kQ a i)) (zL d 2 (kY b j) (kY a i)) (zN d 2 (kV b j) (kV a i)) (zM d 4 (kT b j) (kT a i)) (zL d 8 (kX b j) (kX a i)) (zN d 8 (kU b j) (kU a i)))] : List Bx)))) 4), (10, rV 2 0), (15, .e (k9 a n)), (16, uV n), (17, uV i), (21, .e (k9 b m)), (22, uV m), (23, iV (↑j + 1))] ⟨by omega, by omega⟩ ?_
     exact kW ⟨(((j + 1) : Nat), ((p + (List.length (yE ([(kE (kQ a i) (kY a i) (kV a i) (kT a i) (kX a i) (kU a i))] : List Bx) ([(kE (zK d (kQ b j) (kQ a i)) (zL d 2 (kY b j) (kY a i)) (zN d 2 (kV b j) (kV a i)) (zM d 4 (kT b j) (kT a i)) (zL d 8 (kX b j) (kX a i)) (zN d 8 (kU b j) (kU a i)))] : List Bx)))) : Nat), ((x ++ (yE ([(kE (kQ a i) (kY a i) (kV a i) (kT a i) (kX a i) (kU a i))] : List Bx) ([(kE (zK d (kQ b j) (kQ a i)) (zL d 2 (kY b j) (kY a i)) (zN d 2 (kV b j) (kV a i)) (zM d 4 (kT b j) (kT a i)) (zL d 8 (kX b j) (kX a i)) (zN d 8 (kU b j) (kU a i)))] : List Bx))) : List Bx)), ⟨zo, (hJ.y2 (by exact Decidable.of_not_not (by assumption)) hp.1 (by assumption)), (by (simp only [qB, qA, qS, qV, List.length_append, List.length_cons, List.length_nil] <;> omega)), (hX.app (k6u hW _ _))⟩⟩ [(3, 5)] (P := (kJ (kN b)) ∧ (kG m) ∧ (kM d) ∧ (kG 0) ∧ (kG (p + (List.length (yE ([(kE (kQ a i) (kY a i) (kV a i) (kT a i) (kX a i) (kU a i))] : List Bx) ([(kE (zK d (kQ b j) (kQ a i)) (zL d 2 (kY b j) (kY a i)) (zN d 2 (kV b j) (kV a i)) (zM d 4 (kT b j) (kT a i)) (zL d 8 (kX b j) (kX a i)) (zN d 8 (kU b j) (kU a i)))] : List Bx))))) ∧ (kG 0) ∧ (kJ (kN a)) ∧ (kG n) ∧ (kM (n : Int)) ∧ (kM (i : Int)) ∧ (kJ (kN b)) ∧ (kG m) ∧ (kM (m : Int)) ∧ (bU j) ∧ (kJ (kN (x ++ (yE ([(kE (kQ a i) (kY a i) (kV a i) (kT a i) (kX a i) (kU a i))] : List Bx) ([(kE (zK d (kQ b j) (kQ a i)) (zL d 2 (kY b j) (kY a i)) (zN d 2 (kV b j) (kV a i)) (zM d 4 (kT b j) (kT a i)) (zL d 8 (kX b j) (kX a i)) (zN d 8 (kU b j) (kU a i)))] : List Bx))))) ∧ (kJ (yI a i))) zk ⟨rfl, rfl, rfl, rfl, rfl, rfl, rfl, rfl, rfl, rfl, rfl, rfl, rfl, (by rfl), rfl, rfl⟩ (show m - (j + 1) < m - j from zo)
  ·refine kH [.b false] (¬ ((j : Int) < (m : Int))) [(1, .e (k9 b m)), (2, iV d), (8, oV 3 0 p 4), (10, rV 2 0), (15, .e (k9 a n)), (16, uV n), (17, uV i), (21, .e (k9 b m)), (22, uV m), (23, uV j), (24, bV false)] [(2, some (63, (eU a i))), (3, some (63, .ds (kN x)))] 4 zo ?_
   refine AW.seq ?_
   refine zf ?_
   refine AW.exit ?_
   refine aC [.w, .no] (u3 ((i : Int) + 1)) [(1, .e (k9 b m)), (2, iV d), (8, oV 3 0 p 4), (15, .e (k9 a n)), (16, uV n), (17, iV (↑i + 1))] [(3, some (63, .ds (kN x)))] 4 ⟨by omega, by omega⟩ ?_
   exact kW ⟨(((i + 1) : Nat), (p : Nat), (x : List Bx)), ⟨zo, (hJ.out zo), (by assumption), (by assumption)⟩⟩ [(1, 3)] (P := (kJ (kN b)) ∧ (kG m) ∧ (kM d) ∧ (kG 0) ∧ (kG p) ∧ (kJ (kN a)) ∧ (kG n) ∧ (kM (n : Int)) ∧ (bU i) ∧ (kJ (kN x))) zk ⟨rfl, rfl, rfl, rfl, rfl, rfl, rfl, rfl, (by rfl), rfl⟩ (show n - (i + 1) < n - i from zo)
 ·refine kH [.b false] (¬ ((i : Int) < (n : Int))) [(1, .e (k9 b m)), (2, iV d), (8, oV 1 0 q 4), (15, .e (k9 a n)), (16, uV n), (17, uV i), (18, bV false)] [(1, some (63, .ds (kN o)))] 2 zo ?_
  refine AW.seq ?_
  refine zf ?_
  refine AW.exit ?_
  refine AW.freeze 1 (l' := [(1, .e (k9 b m)), (2, iV d), (8, .e (k9 o q)), (15, .e (k9 a n)), (16, uV n), (17, uV i), (18, bV false)]) (g' := []) rfl (FzS.cons rfl (.same _) (FzS.cons rfl (.same _) (FzS.cons rfl (.e (.c (@FzC.own 1 ((kN o) : List D) 0 q 4 true ((kN o) : List D) (by rw [List.drop_zero, List.take_of_length_le (by (simp only [qB, qA, qS, qV, qQ, List.length_append, List.length_cons, List.length_nil, List.length_take, List.length_drop, List.length_replicate, List.length_set, List.length_map, List.length_reverse, Nat.mul_one] <;> omega))]) mC))) (FzS.cons rfl (.same _) (FzS.cons rfl (.same _) (FzS.cons rfl (.same _) (FzS.cons rfl (.same _) FzS.nil))))))) FzG.nil ?_
  have hx17 : ((List.length (bD o)) ≤ q) := (Nat.le_trans (m7 o) (Nat.le_of_eq (zo)))
  have hx18 : (((0 : Int) ≤ (jB o)) ∧ ((jB o) ≤ 1)) := hY o
  refine kH (.no :: .call [] (.tup [.c (.d (D.sl (kN (bD o)) (List.length (bD o)))), iE (jB o)]) [] 0 [] none :: qE 4 []) _ [(6, .e (yL (bD o))), (7, iV (jB o))] [] 2 (u10 o q zo zo (qD : BsW o)) ?_
  obtain ⟨hz1, hz2⟩ := v4o hI zo
  refine AW.ret ?_
  exact kA (.inr rfl) [] (P := (((kN (cB d a b)) : List D) = (kN (bD o))) ∧ (((List.length (cB d a b)) : Nat) = (List.length (bD o))) ∧ (((jC d a b) : Int) = (jB o))) zk ⟨(by (rw [hz1]; done)), (by (rw [hz1]; done)), (by exact hz2)⟩
end Go.Proofs.YtbicifcgghmhaaaGreat
