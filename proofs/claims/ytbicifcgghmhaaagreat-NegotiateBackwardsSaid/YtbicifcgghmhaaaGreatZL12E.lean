/- Ports out of dice. No statement is proved here. -/
import Derived.Test.YtbicifcgghmhaaaGreatZR12
namespace Go.Proofs.YtbicifcgghmhaaaGreat
open Go.ChangeShapes Go.WideShapes Go.ChangeAt Go.RowKit
open List renaming length → ka0, length_append → ka8, length_cons → kb0, length_drop → kb6, length_map → kc3, length_nil → kb2, length_replicate → kb5, length_reverse → kc0, length_set → kc1, length_take → kb4
set_option linter.unusedVariables false
set_option linter.unusedSimpArgs false
set_option maxHeartbeats 4000000
set_option maxRecDepth 100000
theorem lT {p : Prop} (h : p := by (simp only [qA, k9, qS, qY, q5, qP, ka8, kb0, kb2, kb4, kb6, kb5, kc1, kc3, kc0, Nat.mul_one] <;> omega)) : p := h
abbrev l8 (l : List Int) (i : Nat) : BC := .ds [D.sl (dI .u8 (yS (kC l 2) i)) (ka0 (yS (kC l 2) i))]
theorem u0b (l : List Int) (hb : Byt l) : Fun 31 [.c (.ptr 0 0), iE 1, iE 2] (kF [(0, some (70, .ds [D.sl (dI .u8 l) (ka0 l)]))]) 1 (.e (yL (jX l))) (kF [(0, some (70, .ds [D.sl (dI .u8 (d9 l)) (ka0 (d9 l))]))]) 1 := by
 have hz1 : ka0 (jX l) = 1 + kD l 2 := sT _ _
 refine Fun.mk (n := 27) Tryz.func31 rfl rfl (Nat.le_of_ble_eq_true rfl) ?_
 intro cx hcx
 refine kH [.no] True [(0, rV 0 0), (1, iV 1), (2, iV 2)] [(0, some (70, .ds [db l (ka0 l)]))] 1 trivial ?_
 refine kQ [.no] True [(0, rV 0 0), (1, iV 1), (2, iV 2), (7, nV)] trivial ?_
 refine AW.seq ?_
 have hx1 : ((((((kD l 2) : Nat) : Int) < 2) ∨ ((kD l 2) = 0)) ∧ ((kD l 2) ≤ 255)) := q8 l (2 : Int) (qC : Byt l)
 have hx2 : (Byt (kC l 2)) := qI (2 : Int) (qC : Byt l)
 refine kH (qD 4 [.w, .w, .call [0] (uV (kD l 2)) [(0, some (70, .ds [db (kC l 2) (ka0 (kC l 2))]))] 1 [] none, .w, .no]) ((uZ (1 : Int)) ∧ (uZ (2 : Int)) ∧ (_) ∧ (uZ (1 + (kD l 2 : Int)))) [(0, rV 0 0), (7, nV), (8, iV (1 + (kD l 2 : Int)))] [(0, some (70, .ds [db (kC l 2) (ka0 (kC l 2))]))] 1 ⟨⟨by omega, by omega⟩, ⟨by omega, by omega⟩, (cF l 2 (qC : Byt l)), ⟨by omega, by omega⟩⟩ ?_
 refine AW.block ?_
 refine AW.adoptS 7 4 63 rfl ?_
 refine kX 1 hcx (fun (x : {x : Nat × List Bx // match x with | (i, bs) => (i ≤ 1 + kD l 2) ∧ (bbL (kC l 2) i = bs) ∧ (ka0 bs = i)}) => match x with | ⟨(i, bs), _⟩ => (⟨[(0, rV 0 0), (7, oV 2 0 i 4), (8, iV ((1 + (kD l 2 : Int)) - (i : Int)))], [(0, some (70, (l8 l i))), (2, some (63, .ds (kP bs)))], 3⟩ : ES)) (fun x => match x with | ⟨(i, bs), _⟩ => 1 + kD l 2 - i) ⟨((0 : Nat), (([] : List Bx) : List Bx)), ⟨zo, rfl, rfl⟩⟩ [(2, 1)] (P := (kG 0) ∧ (kG 0) ∧ (kG 0) ∧ ((((1 + (kD l 2 : Int)) - 0) : Int) = (1 + (kD l 2 : Int))) ∧ (([db (yS (kC l 2) 0) (ka0 (yS (kC l 2) 0))] : List D) = [db (kC l 2) (ka0 (kC l 2))]) ∧ (((kP ([] : List Bx)) : List D) = ([] : List D))) zk ⟨rfl, rfl, rfl, (by rfl), (by rfl), (by rfl)⟩ ?_
 rintro ⟨⟨i, bs⟩, hinv0⟩
 obtain ⟨hi, hB, hn⟩ : (i ≤ 1 + kD l 2) ∧ (bbL (kC l 2) i = bs) ∧ (ka0 bs = i) := hinv0
 refine qU (l := [(0, rV 0 0), (7, oV 2 0 i 4), (8, iV ((1 + (kD l 2 : Int)) - (i : Int)))]) (g := [(0, some (70, (l8 l i))), (2, some (63, .ds (kP bs)))]) (nx := 3) rfl rfl rfl ?_
 refine AW.seq ?_
 by_cases hx3 : ((0 : Int) < ((1 + (((kD l 2) : Nat) : Int)) - ((i : Nat) : Int)))
 ·refine kH [.no, .b true] (((0 : Int) < ((1 + (kD l 2 : Int)) - (i : Int)))) [(0, rV 0 0), (7, oV 2 0 i 4), (8, iV ((1 + (kD l 2 : Int)) - ↑i)), (18, bV true)] [(0, some (70, (l8 l i))), (2, some (63, .ds (kP bs)))] 3 zo ?_
  refine vI ?_
  refine AW.seq ?_
  refine AW.block ?_
  refine vY [.no, .no, .call [0] (.e (.agg [iC (xH (yS (kC l 2) i)), .d (dl (xG (yS (kC l 2) i)) (tM (yS (kC l 2) i))), .d (D.sl (kI (j7 (yS (kC l 2) i))) (ka0 (j7 (yS (kC l 2) i)))), .d (dl (xF (yS (kC l 2) i)) (tL (yS (kC l 2) i)))])) [(0, some (70, .ds [db (boD (yS (kC l 2) i)) (ka0 (boD (yS (kC l 2) i)))]))] 1 [] none, .no, .ap none (i + 1) (kP (bs ++ ([(kE (xH (yS (kC l 2) i)) (xG (yS (kC l 2) i)) (tM (yS (kC l 2) i)) (j7 (yS (kC l 2) i)) (xF (yS (kC l 2) i)) (tL (yS (kC l 2) i)))] : List Bx))), .no] ((_) ∧ ([iD (xH (yS (kC l 2) i)), dl (xG (yS (kC l 2) i)) (tM (yS (kC l 2) i)), D.sl (kI (j7 (yS (kC l 2) i))) (ka0 (j7 (yS (kC l 2) i))), dl (xF (yS (kC l 2) i)) (tL (yS (kC l 2) i))].length = 1 * 4) ∧ (((kP bs) : List D).length = i * 4) ∧ ((i + 1) * 80 ≤ 140737488355328) ∧ (i + 1 = (i + 1)) ∧ (((kP bs) : List D) ++ [iD (xH (yS (kC l 2) i)), dl (xG (yS (kC l 2) i)) (tM (yS (kC l 2) i)), D.sl (kI (j7 (yS (kC l 2) i))) (ka0 (j7 (yS (kC l 2) i))), dl (xF (yS (kC l 2) i)) (tL (yS (kC l 2) i))] = (kP (bs ++ ([(kE (xH (yS (kC l 2) i)) (xG (yS (kC l 2) i)) (tM (yS (kC l 2) i)) (j7 (yS (kC l 2) i)) (xF (yS (kC l 2) i)) (tL (yS (kC l 2) i)))] : List Bx))))) [(0, rV 0 0), (7, oV 4 0 (i + 1) 4), (8, iV ((1 + (kD l 2 : Int)) - ↑i))] [(0, some (70, .ds [db (boD (yS (kC l 2) i)) (ka0 (boD (yS (kC l 2) i)))])), (4, some (63, .ds (kP (bs ++ ([(kE (xH (yS (kC l 2) i)) (xG (yS (kC l 2) i)) (tM (yS (kC l 2) i)) (j7 (yS (kC l 2) i)) (xF (yS (kC l 2) i)) (tL (yS (kC l 2) i)))] : List Bx)))))] 5 ⟨(v2v (yS (kC l 2) i) (fN (qC : Byt (kC l 2)) _)), lT, lT, zo, zo, (sO bs (xH (yS (kC l 2) i)) (xG (yS (kC l 2) i)) (tM (yS (kC l 2) i)) (j7 (yS (kC l 2) i)) (ka0 (j7 (yS (kC l 2) i))) (xF (yS (kC l 2) i)) (tL (yS (kC l 2) i)) (by rfl))⟩ ?_
  refine u2 [.no, .w, .no] (uZ (((1 + (kD l 2 : Int)) - (i : Int)) - 1)) [(0, rV 0 0), (7, oV 4 0 (i + 1) 4), (8, iV (((1 + (kD l 2 : Int)) - ↑i) - 1))] ⟨by omega, by omega⟩ ?_
  exact kV ⟨(((i + 1) : Nat), ((bs ++ ([(kE (xH (yS (kC l 2) i)) (xG (yS (kC l 2) i)) (tM (yS (kC l 2) i)) (j7 (yS (kC l 2) i)) (xF (yS (kC l 2) i)) (tL (yS (kC l 2) i)))] : List Bx)) : List Bx)), ⟨zo, (v58 hB), (by (simp only [qA, k9, qS, qY, q5, ka8, kb0, kb2] <;> omega))⟩⟩ [(2, 4)] (P := (kG 0) ∧ (kG 0) ∧ (kG (i + 1)) ∧ ((((1 + (kD l 2 : Int)) - (((i + 1) : Nat) : Int)) : Int) = (((1 + (kD l 2 : Int)) - (i : Int)) - 1)) ∧ (([db (yS (kC l 2) (i + 1)) (ka0 (yS (kC l 2) (i + 1)))] : List D) = [db (boD (yS (kC l 2) i)) (ka0 (boD (yS (kC l 2) i)))]) ∧ (kJ (kP (bs ++ ([(kE (xH (yS (kC l 2) i)) (xG (yS (kC l 2) i)) (tM (yS (kC l 2) i)) (j7 (yS (kC l 2) i)) (xF (yS (kC l 2) i)) (tL (yS (kC l 2) i)))] : List Bx))))) zk ⟨rfl, rfl, rfl, zo, (by rfl), rfl⟩ (show 1 + kD l 2 - (i + 1) < 1 + kD l 2 - i from zo)
 ·refine kH [.no, .b false] (¬ ((0 : Int) < ((1 + (kD l 2 : Int)) - (i : Int)))) [(0, rV 0 0), (7, oV 2 0 i 4), (8, iV ((1 + (kD l 2 : Int)) - ↑i)), (18, bV false)] [(0, some (70, (l8 l i))), (2, some (63, .ds (kP bs)))] 3 zo ?_
  refine zf ?_
  refine AW.exit ?_
  refine kH [.no, .no] True [(6, oV 2 0 i 4)] [(0, some (70, (l8 l i))), (2, some (63, .ds (kP bs)))] 3 trivial ?_
  obtain rfl : i = (1 + (kD l 2)) := (by omega)
  refine AW.freeze 2 (l' := [(6, .e (kY bs (1 + (kD l 2))))]) (g' := [(0, some (70, .ds [db (yS (kC l 2) (1 + (kD l 2))) (ka0 (yS (kC l 2) (1 + (kD l 2))))]))]) rfl (FzS.cons rfl (.e (.c (@FzC.own 2 ((kP bs) : List D) 0 (1 + (kD l 2)) 4 true ((kP bs) : List D) (by rw [List.drop_zero, List.take_of_length_le (by (simp only [qA, k9, qS, qY, q5, qP, ka8, kb0, kb2, kb4, kb6, kb5, kc1, kc3, kc0, Nat.mul_one] <;> omega))]) lT))) FzS.nil) (u1 rfl rfl FzG.nil) ?_
  refine AW.ret ?_
  exact kA (.inr rfl) [] (P := (((kP (jX l)) : List D) = (kP bs)) ∧ (((ka0 (jX l)) : Nat) = (1 + (kD l 2))) ∧ (([db (d9 l) (ka0 (d9 l))] : List D) = [db (yS (kC l 2) (1 + (kD l 2))) (ka0 (yS (kC l 2) (1 + (kD l 2))))])) zk ⟨(by (unfold jX; rw [hB]; done)), zo, (by rfl)⟩
abbrev l7 (l : List Int) (i : Nat) : BC := .ds [D.sl (dI .u8 (aD (kC l 5) i)) (ka0 (aD (kC l 5) i))]
theorem u30 (l : List Int) (hb : Byt l) : Fun 12 [.c (.ptr 0 0)] (kF [(0, some (70, .ds [D.sl (dI .u8 l) (ka0 l)]))]) 1 (oV 1 0 (1 + (kD l 5)) 2) (kF [(0, some (70, .ds [D.sl (dI .u8 (aD (kC l 5) (1 + (kD l 5)))) (ka0 (aD (kC l 5) (1 + (kD l 5))))])), (1, some (47, .ds (qH (poL (kC l 5) (1 + (kD l 5))))))]) 2 := by
 refine Fun.mk (n := 21) Tryz.func12 rfl rfl (Nat.le_of_ble_eq_true rfl) ?_
 intro cx hcx
 refine kH [.no] True [(0, rV 0 0)] [(0, some (70, .ds [db l (ka0 l)]))] 1 trivial ?_
 refine kQ [.no] True [(0, rV 0 0), (3, nV)] trivial ?_
 refine AW.seq ?_
 have hx1 : ((((((kD l 5) : Nat) : Int) < 5) ∨ ((kD l 5) = 0)) ∧ ((kD l 5) ≤ 255)) := q8 l (5 : Int) (qC : Byt l)
 have hx2 : (Byt (kC l 5)) := qI (5 : Int) (qC : Byt l)
 refine kH [.no, .call [0] (uV (kD l 5)) [(0, some (70, .ds [db (kC l 5) (ka0 (kC l 5))]))] 1 [] none, .w, .no] ((_) ∧ (uZ (1 + (kD l 5 : Int)))) [(0, rV 0 0), (3, nV), (4, iV (1 + (kD l 5 : Int)))] [(0, some (70, .ds [db (kC l 5) (ka0 (kC l 5))]))] 1 ⟨(cF l 5 (qC : Byt l)), ⟨by omega, by omega⟩⟩ ?_
 refine AW.block ?_
 refine AW.adoptS 3 2 47 rfl ?_
 refine kX 1 hcx (fun (x : {x : Nat × List Pt // match x with | (i, ps) => (i ≤ 1 + kD l 5) ∧ (poL (kC l 5) i = ps) ∧ (ka0 ps = i)}) => match x with | ⟨(i, ps), _⟩ => (⟨[(0, rV 0 0), (3, oV 2 0 i 2), (4, iV ((1 + (kD l 5 : Int)) - (i : Int)))], [(0, some (70, (l7 l i))), (2, some (47, .ds (qH ps)))], 3⟩ : ES)) (fun x => match x with | ⟨(i, ps), _⟩ => 1 + kD l 5 - i) ⟨((0 : Nat), (([] : List Pt) : List Pt)), ⟨zo, rfl, rfl⟩⟩ [(2, 1)] (P := (kG 0) ∧ (kG 0) ∧ (kG 0) ∧ ((((1 + (kD l 5 : Int)) - 0) : Int) = (1 + (kD l 5 : Int))) ∧ (([db (aD (kC l 5) 0) (ka0 (aD (kC l 5) 0))] : List D) = [db (kC l 5) (ka0 (kC l 5))]) ∧ (((qH ([] : List Pt)) : List D) = ([] : List D))) zk ⟨rfl, rfl, rfl, (by rfl), (by rfl), (by rfl)⟩ ?_
 rintro ⟨⟨i, ps⟩, hinv0⟩
 obtain ⟨hi, hB, hn⟩ : (i ≤ 1 + kD l 5) ∧ (poL (kC l 5) i = ps) ∧ (ka0 ps = i) := hinv0
 refine qU (l := [(0, rV 0 0), (3, oV 2 0 i 2), (4, iV ((1 + (kD l 5 : Int)) - (i : Int)))]) (g := [(0, some (70, (l7 l i))), (2, some (47, .ds (qH ps)))]) (nx := 3) rfl rfl rfl ?_
 refine AW.seq ?_
 by_cases hx3 : ((0 : Int) < ((1 + (((kD l 5) : Nat) : Int)) - ((i : Nat) : Int)))
 ·refine kH [.no, .b true] (((0 : Int) < ((1 + (kD l 5 : Int)) - (i : Int)))) [(0, rV 0 0), (3, oV 2 0 i 2), (4, iV ((1 + (kD l 5 : Int)) - ↑i)), (9, bV true)] [(0, some (70, (l7 l i))), (2, some (47, .ds (qH ps)))] 3 zo ?_
  refine vI ?_
  refine AW.seq ?_
  refine AW.block ?_
  have hx4 : (((1 : Nat) ≤ (ka0 (jX (aD (kC l 5) i)))) ∧ ((ka0 (jX (aD (kC l 5) i))) ≤ 2)) := (k2j ((cP (qC : Byt (kC l 5)) _)))
  have hx5 : (BsW (jX (aD (kC l 5) i))) := (u50 _ _)
  have hx6 : (Byt (d9 (aD (kC l 5) i))) := (sS ((cP (qC : Byt (kC l 5)) _)))
  have hx7 : ((((((kD (d9 (aD (kC l 5) i)) 16) : Nat) : Int) < 16) ∨ ((kD (d9 (aD (kC l 5) i)) 16) = 0)) ∧ ((kD (d9 (aD (kC l 5) i)) 16) ≤ 255)) := q8 (d9 (aD (kC l 5) i)) (16 : Int) (qC : Byt (d9 (aD (kC l 5) i)))
  have hx8 : (Byt (kC (d9 (aD (kC l 5) i)) 16)) := qI (16 : Int) (qC : Byt (d9 (aD (kC l 5) i)))
  refine vY [.no, .no, .call [0] (.e (yL (jX (aD (kC l 5) i)))) [(0, some (70, .ds [db (d9 (aD (kC l 5) i)) (ka0 (d9 (aD (kC l 5) i)))]))] 1 [] none, .no, .call [0] (iV (kD (d9 (aD (kC l 5) i)) 16 : Int)) [(0, some (70, .ds [db (kC (d9 (aD (kC l 5) i)) 16) (ka0 (kC (d9 (aD (kC l 5) i)) 16))]))] 1 [] none, .no, .no, .ap none (i + 1) (qH (ps ++ ([(u0 (jX (aD (kC l 5) i)) (kD (d9 (aD (kC l 5) i)) 16 : Int))] : List Pt))), .no] ((_) ∧ (_) ∧ ([D.sl (kP (jX (aD (kC l 5) i))) (ka0 (jX (aD (kC l 5) i))), iD (kD (d9 (aD (kC l 5) i)) 16 : Int)].length = 1 * 2) ∧ (((qH ps) : List D).length = i * 2) ∧ ((i + 1) * 32 ≤ 140737488355328) ∧ (i + 1 = (i + 1)) ∧ (((qH ps) : List D) ++ [D.sl (kP (jX (aD (kC l 5) i))) (ka0 (jX (aD (kC l 5) i))), iD (kD (d9 (aD (kC l 5) i)) 16 : Int)] = (qH (ps ++ ([(u0 (jX (aD (kC l 5) i)) (kD (d9 (aD (kC l 5) i)) 16 : Int))] : List Pt))))) [(0, rV 0 0), (3, oV 4 0 (i + 1) 2), (4, iV ((1 + (kD l 5 : Int)) - ↑i))] [(0, some (70, .ds [db (kC (d9 (aD (kC l 5) i)) 16) (ka0 (kC (d9 (aD (kC l 5) i)) 16))])), (4, some (47, .ds (qH (ps ++ ([(u0 (jX (aD (kC l 5) i)) (kD (d9 (aD (kC l 5) i)) 16 : Int))] : List Pt)))))] 5 ⟨(u0b (aD (kC l 5) i) (cP (qC : Byt (kC l 5)) _)), (cF (d9 (aD (kC l 5) i)) 16 (qC : Byt (d9 (aD (kC l 5) i)))), lT, lT, zo, zo, (lD ps (jX (aD (kC l 5) i)) (ka0 (jX (aD (kC l 5) i))) (kD (d9 (aD (kC l 5) i)) 16 : Int) (by rfl))⟩ ?_
  refine u2 [.no, .w, .no] (uZ (((1 + (kD l 5 : Int)) - (i : Int)) - 1)) [(0, rV 0 0), (3, oV 4 0 (i + 1) 2), (4, iV (((1 + (kD l 5 : Int)) - ↑i) - 1))] ⟨by omega, by omega⟩ ?_
  exact kV ⟨(((i + 1) : Nat), ((ps ++ ([(u0 (jX (aD (kC l 5) i)) (kD (d9 (aD (kC l 5) i)) 16 : Int))] : List Pt)) : List Pt)), ⟨zo, (v3r hB rfl), (by (simp only [qA, k9, qS, qY, q5, ka8, kb0, kb2] <;> omega))⟩⟩ [(2, 4)] (P := (kG 0) ∧ (kG 0) ∧ (kG (i + 1)) ∧ ((((1 + (kD l 5 : Int)) - (((i + 1) : Nat) : Int)) : Int) = (((1 + (kD l 5 : Int)) - (i : Int)) - 1)) ∧ (([db (aD (kC l 5) (i + 1)) (ka0 (aD (kC l 5) (i + 1)))] : List D) = [db (kC (d9 (aD (kC l 5) i)) 16) (ka0 (kC (d9 (aD (kC l 5) i)) 16))]) ∧ (kJ (qH (ps ++ ([(u0 (jX (aD (kC l 5) i)) (kD (d9 (aD (kC l 5) i)) 16 : Int))] : List Pt))))) zk ⟨rfl, rfl, rfl, zo, (by rfl), rfl⟩ (show 1 + kD l 5 - (i + 1) < 1 + kD l 5 - i from zo)
 ·refine kH [.no, .b false] (¬ ((0 : Int) < ((1 + (kD l 5 : Int)) - (i : Int)))) [(0, rV 0 0), (3, oV 2 0 i 2), (4, iV ((1 + (kD l 5 : Int)) - ↑i)), (9, bV false)] [(0, some (70, (l7 l i))), (2, some (47, .ds (qH ps)))] 3 zo ?_
  refine zf ?_
  refine AW.exit ?_
  refine kH [.no, .no] True [(2, oV 2 0 i 2)] [(0, some (70, (l7 l i))), (2, some (47, .ds (qH ps)))] 3 trivial ?_
  obtain rfl : i = (1 + (kD l 5)) := (by omega)
  refine AW.ret ?_
  exact kA (.inr rfl) [(1, 2)] (P := (kG 0) ∧ (kG (1 + (kD l 5))) ∧ (kJ [db (aD (kC l 5) (1 + (kD l 5))) (ka0 (aD (kC l 5) (1 + (kD l 5))))]) ∧ (((qH (poL (kC l 5) (1 + (kD l 5)))) : List D) = (qH ps))) zk ⟨rfl, rfl, rfl, (by (rw [hB]; done))⟩
theorem u2t (l : List Int) (hb : Byt l) : ∃ (ps : List Pt) (np : Nat) (qp : List Int), (PkW ps) ∧ (ka0 ps = np) ∧ (1 ≤ np ∧ np ≤ 5) ∧ (Byt qp) ∧ (Fun 12 [.c (.ptr 0 0)] (kF [(0, some (70, .ds [D.sl (dI .u8 l) (ka0 l)]))]) 1 (oV 1 0 np 2) (kF [(0, some (70, .ds [D.sl (dI .u8 qp) (ka0 qp)])), (1, some (47, .ds (qH ps)))]) 2) := ⟨(poL (kC l 5) (1 + (kD l 5))), (1 + (kD l 5)), (aD (kC l 5) (1 + (kD l 5))), (v05 (qI _ hb) (by have h9 := q8 l 5 hb; omega)), (p8 _ _), (by have h9 := q8 l 5 hb; omega), (cP (qI _ hb) _), u30 l hb⟩
end Go.Proofs.YtbicifcgghmhaaaGreat
