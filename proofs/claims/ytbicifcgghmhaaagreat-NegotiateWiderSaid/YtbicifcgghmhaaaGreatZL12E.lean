/- Ports out of dice. No statement is proved here. -/
import Derived.Test.YtbicifcgghmhaaaGreatZR12
namespace Go.Proofs.YtbicifcgghmhaaaGreat
open Go.ChangeShapes Go.WideShapes Go.ChangeAt Go.RowKit
open List renaming length → ka0, length_append → ka8, length_cons → kb0, length_drop → kb6, length_map → kc3, length_nil → kb2, length_replicate → kb5, length_reverse → kc0, length_set → kc1, length_take → kb4
set_option linter.unusedVariables false
set_option linter.unusedSimpArgs false
set_option maxHeartbeats 4000000
set_option maxRecDepth 100000
theorem mB {p : Prop} (h : p := by (simp only [qB, qA, qS, qV, q6, qQ, ka8, kb0, kb2, kb4, kb6, kb5, kc1, kc3, kc0, Nat.mul_one] <;> omega)) : p := h
abbrev mP (l : List Int) (i : Nat) : BC := .ds [D.sl (dI .u8 (yS (kC l 2) i)) (ka0 (yS (kC l 2) i))]
theorem u1d (l : List Int) (hb : Byt l) : Fun 31 [.c (.ptr 0 0), iE 1, iE 2] (kF [(0, some (70, .ds [D.sl (dI .u8 l) (ka0 l)]))]) 1 (.e (yL (lG l))) (kF [(0, some (70, .ds [D.sl (dI .u8 (eE l)) (ka0 (eE l))]))]) 1 := by
 have hz1 : ka0 (lG l) = 1 + kD l 2 := tF _ _
 refine Fun.mk (n := 27) Tryz.func31 rfl rfl (Nat.le_of_ble_eq_true rfl) ?_
 intro cx hcx
 refine kH [.no] True [(0, rV 0 0), (1, iV 1), (2, iV 2)] [(0, some (70, .ds [db l (ka0 l)]))] 1 trivial ?_
 refine kS [.no] True [(0, rV 0 0), (1, iV 1), (2, iV 2), (7, nV)] trivial ?_
 refine AW.seq ?_
 have hx1 : ((((((kD l 2) : Nat) : Int) < 2) ∨ ((kD l 2) = 0)) ∧ ((kD l 2) ≤ 255)) := q8 l (2 : Int) (qD : Byt l)
 have hx2 : (Byt (kC l 2)) := qH (2 : Int) (qD : Byt l)
 refine kH (qE 4 [.w, .w, .call [0] (uV (kD l 2)) [(0, some (70, .ds [db (kC l 2) (ka0 (kC l 2))]))] 1 [] none, .w, .no]) ((u3 (1 : Int)) ∧ (u3 (2 : Int)) ∧ (_) ∧ (u3 (1 + (kD l 2 : Int)))) [(0, rV 0 0), (7, nV), (8, iV (1 + (kD l 2 : Int)))] [(0, some (70, .ds [db (kC l 2) (ka0 (kC l 2))]))] 1 ⟨⟨by omega, by omega⟩, ⟨by omega, by omega⟩, (cQ l 2 (qD : Byt l)), ⟨by omega, by omega⟩⟩ ?_
 refine AW.block ?_
 refine AW.adoptS 7 4 63 rfl ?_
 refine k8 1 hcx (fun (x : {x : Nat × List Bx // match x with | (i, bs) => (i ≤ 1 + kD l 2) ∧ (bbL (kC l 2) i = bs) ∧ (ka0 bs = i)}) => match x with | ⟨(i, bs), _⟩ => (⟨[(0, rV 0 0), (7, oV 2 0 i 4), (8, iV ((1 + (kD l 2 : Int)) - (i : Int)))], [(0, some (70, (mP l i))), (2, some (63, .ds (kN bs)))], 3⟩ : ES)) (fun x => match x with | ⟨(i, bs), _⟩ => 1 + kD l 2 - i) ⟨((0 : Nat), (([] : List Bx) : List Bx)), ⟨zo, rfl, rfl⟩⟩ [(2, 1)] (P := (kG 0) ∧ (kG 0) ∧ (kG 0) ∧ ((((1 + (kD l 2 : Int)) - 0) : Int) = (1 + (kD l 2 : Int))) ∧ (([db (yS (kC l 2) 0) (ka0 (yS (kC l 2) 0))] : List D) = [db (kC l 2) (ka0 (kC l 2))]) ∧ (((kN ([] : List Bx)) : List D) = ([] : List D))) zk ⟨rfl, rfl, rfl, (by rfl), (by rfl), (by rfl)⟩ ?_
 rintro ⟨⟨i, bs⟩, hinv0⟩
 obtain ⟨hi, hB, hn⟩ : (i ≤ 1 + kD l 2) ∧ (bbL (kC l 2) i = bs) ∧ (ka0 bs = i) := hinv0
 refine qW (l := [(0, rV 0 0), (7, oV 2 0 i 4), (8, iV ((1 + (kD l 2 : Int)) - (i : Int)))]) (g := [(0, some (70, (mP l i))), (2, some (63, .ds (kN bs)))]) (nx := 3) rfl rfl rfl ?_
 refine AW.seq ?_
 by_cases hx3 : ((0 : Int) < ((1 + (((kD l 2) : Nat) : Int)) - ((i : Nat) : Int)))
 ·refine kH [.no, .b true] (((0 : Int) < ((1 + (kD l 2 : Int)) - (i : Int)))) [(0, rV 0 0), (7, oV 2 0 i 4), (8, iV ((1 + (kD l 2 : Int)) - ↑i)), (18, bV true)] [(0, some (70, (mP l i))), (2, some (63, .ds (kN bs)))] 3 zo ?_
  refine vL ?_
  refine AW.seq ?_
  refine AW.block ?_
  refine aC [.no, .no, .call [0] (.e (.agg [iC (eL (yS (kC l 2) i)), .d (dl (eK (yS (kC l 2) i)) (eD (yS (kC l 2) i))), .d (D.sl (kI (b9 (yS (kC l 2) i))) (ka0 (b9 (yS (kC l 2) i)))), .d (dl (eJ (yS (kC l 2) i)) (eC (yS (kC l 2) i)))])) [(0, some (70, .ds [db (boD (yS (kC l 2) i)) (ka0 (boD (yS (kC l 2) i)))]))] 1 [] none, .no, .ap none (i + 1) (kN (bs ++ ([(kE (eL (yS (kC l 2) i)) (eK (yS (kC l 2) i)) (eD (yS (kC l 2) i)) (b9 (yS (kC l 2) i)) (eJ (yS (kC l 2) i)) (eC (yS (kC l 2) i)))] : List Bx))), .no] ((_) ∧ ([iD (eL (yS (kC l 2) i)), dl (eK (yS (kC l 2) i)) (eD (yS (kC l 2) i)), D.sl (kI (b9 (yS (kC l 2) i))) (ka0 (b9 (yS (kC l 2) i))), dl (eJ (yS (kC l 2) i)) (eC (yS (kC l 2) i))].length = 1 * 4) ∧ (((kN bs) : List D).length = i * 4) ∧ ((i + 1) * 80 ≤ 140737488355328) ∧ (i + 1 = (i + 1)) ∧ (((kN bs) : List D) ++ [iD (eL (yS (kC l 2) i)), dl (eK (yS (kC l 2) i)) (eD (yS (kC l 2) i)), D.sl (kI (b9 (yS (kC l 2) i))) (ka0 (b9 (yS (kC l 2) i))), dl (eJ (yS (kC l 2) i)) (eC (yS (kC l 2) i))] = (kN (bs ++ ([(kE (eL (yS (kC l 2) i)) (eK (yS (kC l 2) i)) (eD (yS (kC l 2) i)) (b9 (yS (kC l 2) i)) (eJ (yS (kC l 2) i)) (eC (yS (kC l 2) i)))] : List Bx))))) [(0, rV 0 0), (7, oV 4 0 (i + 1) 4), (8, iV ((1 + (kD l 2 : Int)) - ↑i))] [(0, some (70, .ds [db (boD (yS (kC l 2) i)) (ka0 (boD (yS (kC l 2) i)))])), (4, some (63, .ds (kN (bs ++ ([(kE (eL (yS (kC l 2) i)) (eK (yS (kC l 2) i)) (eD (yS (kC l 2) i)) (b9 (yS (kC l 2) i)) (eJ (yS (kC l 2) i)) (eC (yS (kC l 2) i)))] : List Bx)))))] 5 ⟨(u6p (yS (kC l 2) i) (fX (qD : Byt (kC l 2)) _)), mB, mB, zo, zo, (iW bs (eL (yS (kC l 2) i)) (eK (yS (kC l 2) i)) (eD (yS (kC l 2) i)) (b9 (yS (kC l 2) i)) (ka0 (b9 (yS (kC l 2) i))) (eJ (yS (kC l 2) i)) (eC (yS (kC l 2) i)) (by rfl))⟩ ?_
  refine yA [.no, .w, .no] (u3 (((1 + (kD l 2 : Int)) - (i : Int)) - 1)) [(0, rV 0 0), (7, oV 4 0 (i + 1) 4), (8, iV (((1 + (kD l 2 : Int)) - ↑i) - 1))] ⟨by omega, by omega⟩ ?_
  exact kW ⟨(((i + 1) : Nat), ((bs ++ ([(kE (eL (yS (kC l 2) i)) (eK (yS (kC l 2) i)) (eD (yS (kC l 2) i)) (b9 (yS (kC l 2) i)) (eJ (yS (kC l 2) i)) (eC (yS (kC l 2) i)))] : List Bx)) : List Bx)), ⟨zo, (v67 hB), (by (simp only [qB, qA, qS, qV, q6, ka8, kb0, kb2] <;> omega))⟩⟩ [(2, 4)] (P := (kG 0) ∧ (kG 0) ∧ (kG (i + 1)) ∧ ((((1 + (kD l 2 : Int)) - (((i + 1) : Nat) : Int)) : Int) = (((1 + (kD l 2 : Int)) - (i : Int)) - 1)) ∧ (([db (yS (kC l 2) (i + 1)) (ka0 (yS (kC l 2) (i + 1)))] : List D) = [db (boD (yS (kC l 2) i)) (ka0 (boD (yS (kC l 2) i)))]) ∧ (kJ (kN (bs ++ ([(kE (eL (yS (kC l 2) i)) (eK (yS (kC l 2) i)) (eD (yS (kC l 2) i)) (b9 (yS (kC l 2) i)) (eJ (yS (kC l 2) i)) (eC (yS (kC l 2) i)))] : List Bx))))) zk ⟨rfl, rfl, rfl, zo, (by rfl), rfl⟩ (show 1 + kD l 2 - (i + 1) < 1 + kD l 2 - i from zo)
 ·refine kH [.no, .b false] (¬ ((0 : Int) < ((1 + (kD l 2 : Int)) - (i : Int)))) [(0, rV 0 0), (7, oV 2 0 i 4), (8, iV ((1 + (kD l 2 : Int)) - ↑i)), (18, bV false)] [(0, some (70, (mP l i))), (2, some (63, .ds (kN bs)))] 3 zo ?_
  refine zf ?_
  refine AW.exit ?_
  refine kH [.no, .no] True [(6, oV 2 0 i 4)] [(0, some (70, (mP l i))), (2, some (63, .ds (kN bs)))] 3 trivial ?_
  obtain rfl : i = (1 + (kD l 2)) := (by omega)
  refine AW.freeze 2 (l' := [(6, .e (k9 bs (1 + (kD l 2))))]) (g' := [(0, some (70, .ds [db (yS (kC l 2) (1 + (kD l 2))) (ka0 (yS (kC l 2) (1 + (kD l 2))))]))]) rfl (FzS.cons rfl (.e (.c (@FzC.own 2 ((kN bs) : List D) 0 (1 + (kD l 2)) 4 true ((kN bs) : List D) (by rw [List.drop_zero, List.take_of_length_le (by (simp only [qB, qA, qS, qV, q6, qQ, ka8, kb0, kb2, kb4, kb6, kb5, kc1, kc3, kc0, Nat.mul_one] <;> omega))]) mB))) FzS.nil) (uI rfl rfl FzG.nil) ?_
  refine AW.ret ?_
  exact kA (.inr rfl) [] (P := (((kN (lG l)) : List D) = (kN bs)) ∧ (((ka0 (lG l)) : Nat) = (1 + (kD l 2))) ∧ (([db (eE l) (ka0 (eE l))] : List D) = [db (yS (kC l 2) (1 + (kD l 2))) (ka0 (yS (kC l 2) (1 + (kD l 2))))])) zk ⟨(by (unfold lG; rw [hB]; done)), zo, (by rfl)⟩
abbrev mO (l : List Int) (i : Nat) : BC := .ds [D.sl (dI .u8 (aH (kC l 5) i)) (ka0 (aH (kC l 5) i))]
theorem u43 (l : List Int) (hb : Byt l) : Fun 12 [.c (.ptr 0 0)] (kF [(0, some (70, .ds [D.sl (dI .u8 l) (ka0 l)]))]) 1 (oV 1 0 (1 + (kD l 5)) 2) (kF [(0, some (70, .ds [D.sl (dI .u8 (aH (kC l 5) (1 + (kD l 5)))) (ka0 (aH (kC l 5) (1 + (kD l 5))))])), (1, some (47, .ds (qN (poL (kC l 5) (1 + (kD l 5))))))]) 2 := by
 refine Fun.mk (n := 21) Tryz.func12 rfl rfl (Nat.le_of_ble_eq_true rfl) ?_
 intro cx hcx
 refine kH [.no] True [(0, rV 0 0)] [(0, some (70, .ds [db l (ka0 l)]))] 1 trivial ?_
 refine kS [.no] True [(0, rV 0 0), (3, nV)] trivial ?_
 refine AW.seq ?_
 have hx1 : ((((((kD l 5) : Nat) : Int) < 5) ∨ ((kD l 5) = 0)) ∧ ((kD l 5) ≤ 255)) := q8 l (5 : Int) (qD : Byt l)
 have hx2 : (Byt (kC l 5)) := qH (5 : Int) (qD : Byt l)
 refine kH [.no, .call [0] (uV (kD l 5)) [(0, some (70, .ds [db (kC l 5) (ka0 (kC l 5))]))] 1 [] none, .w, .no] ((_) ∧ (u3 (1 + (kD l 5 : Int)))) [(0, rV 0 0), (3, nV), (4, iV (1 + (kD l 5 : Int)))] [(0, some (70, .ds [db (kC l 5) (ka0 (kC l 5))]))] 1 ⟨(cQ l 5 (qD : Byt l)), ⟨by omega, by omega⟩⟩ ?_
 refine AW.block ?_
 refine AW.adoptS 3 2 47 rfl ?_
 refine k8 1 hcx (fun (x : {x : Nat × List Pt // match x with | (i, ps) => (i ≤ 1 + kD l 5) ∧ (poL (kC l 5) i = ps) ∧ (ka0 ps = i)}) => match x with | ⟨(i, ps), _⟩ => (⟨[(0, rV 0 0), (3, oV 2 0 i 2), (4, iV ((1 + (kD l 5 : Int)) - (i : Int)))], [(0, some (70, (mO l i))), (2, some (47, .ds (qN ps)))], 3⟩ : ES)) (fun x => match x with | ⟨(i, ps), _⟩ => 1 + kD l 5 - i) ⟨((0 : Nat), (([] : List Pt) : List Pt)), ⟨zo, rfl, rfl⟩⟩ [(2, 1)] (P := (kG 0) ∧ (kG 0) ∧ (kG 0) ∧ ((((1 + (kD l 5 : Int)) - 0) : Int) = (1 + (kD l 5 : Int))) ∧ (([db (aH (kC l 5) 0) (ka0 (aH (kC l 5) 0))] : List D) = [db (kC l 5) (ka0 (kC l 5))]) ∧ (((qN ([] : List Pt)) : List D) = ([] : List D))) zk ⟨rfl, rfl, rfl, (by rfl), (by rfl), (by rfl)⟩ ?_
 rintro ⟨⟨i, ps⟩, hinv0⟩
 obtain ⟨hi, hB, hn⟩ : (i ≤ 1 + kD l 5) ∧ (poL (kC l 5) i = ps) ∧ (ka0 ps = i) := hinv0
 refine qW (l := [(0, rV 0 0), (3, oV 2 0 i 2), (4, iV ((1 + (kD l 5 : Int)) - (i : Int)))]) (g := [(0, some (70, (mO l i))), (2, some (47, .ds (qN ps)))]) (nx := 3) rfl rfl rfl ?_
 refine AW.seq ?_
 by_cases hx3 : ((0 : Int) < ((1 + (((kD l 5) : Nat) : Int)) - ((i : Nat) : Int)))
 ·refine kH [.no, .b true] (((0 : Int) < ((1 + (kD l 5 : Int)) - (i : Int)))) [(0, rV 0 0), (3, oV 2 0 i 2), (4, iV ((1 + (kD l 5 : Int)) - ↑i)), (9, bV true)] [(0, some (70, (mO l i))), (2, some (47, .ds (qN ps)))] 3 zo ?_
  refine vL ?_
  refine AW.seq ?_
  refine AW.block ?_
  have hx4 : (((1 : Nat) ≤ (ka0 (lG (aH (kC l 5) i)))) ∧ ((ka0 (lG (aH (kC l 5) i))) ≤ 2)) := (k34 ((cU (qD : Byt (kC l 5)) _)))
  have hx5 : (BsW (lG (aH (kC l 5) i))) := (u61 _ _)
  have hx6 : (Byt (eE (aH (kC l 5) i))) := (tE ((cU (qD : Byt (kC l 5)) _)))
  have hx7 : ((((((kD (eE (aH (kC l 5) i)) 16) : Nat) : Int) < 16) ∨ ((kD (eE (aH (kC l 5) i)) 16) = 0)) ∧ ((kD (eE (aH (kC l 5) i)) 16) ≤ 255)) := q8 (eE (aH (kC l 5) i)) (16 : Int) (qD : Byt (eE (aH (kC l 5) i)))
  have hx8 : (Byt (kC (eE (aH (kC l 5) i)) 16)) := qH (16 : Int) (qD : Byt (eE (aH (kC l 5) i)))
  refine aC [.no, .no, .call [0] (.e (yL (lG (aH (kC l 5) i)))) [(0, some (70, .ds [db (eE (aH (kC l 5) i)) (ka0 (eE (aH (kC l 5) i)))]))] 1 [] none, .no, .call [0] (iV (kD (eE (aH (kC l 5) i)) 16 : Int)) [(0, some (70, .ds [db (kC (eE (aH (kC l 5) i)) 16) (ka0 (kC (eE (aH (kC l 5) i)) 16))]))] 1 [] none, .no, .no, .ap none (i + 1) (qN (ps ++ ([(dW (lG (aH (kC l 5) i)) (kD (eE (aH (kC l 5) i)) 16 : Int))] : List Pt))), .no] ((_) ∧ (_) ∧ ([D.sl (kN (lG (aH (kC l 5) i))) (ka0 (lG (aH (kC l 5) i))), iD (kD (eE (aH (kC l 5) i)) 16 : Int)].length = 1 * 2) ∧ (((qN ps) : List D).length = i * 2) ∧ ((i + 1) * 32 ≤ 140737488355328) ∧ (i + 1 = (i + 1)) ∧ (((qN ps) : List D) ++ [D.sl (kN (lG (aH (kC l 5) i))) (ka0 (lG (aH (kC l 5) i))), iD (kD (eE (aH (kC l 5) i)) 16 : Int)] = (qN (ps ++ ([(dW (lG (aH (kC l 5) i)) (kD (eE (aH (kC l 5) i)) 16 : Int))] : List Pt))))) [(0, rV 0 0), (3, oV 4 0 (i + 1) 2), (4, iV ((1 + (kD l 5 : Int)) - ↑i))] [(0, some (70, .ds [db (kC (eE (aH (kC l 5) i)) 16) (ka0 (kC (eE (aH (kC l 5) i)) 16))])), (4, some (47, .ds (qN (ps ++ ([(dW (lG (aH (kC l 5) i)) (kD (eE (aH (kC l 5) i)) 16 : Int))] : List Pt)))))] 5 ⟨(u1d (aH (kC l 5) i) (cU (qD : Byt (kC l 5)) _)), (cQ (eE (aH (kC l 5) i)) 16 (qD : Byt (eE (aH (kC l 5) i)))), mB, mB, zo, zo, (u1r ps (lG (aH (kC l 5) i)) (ka0 (lG (aH (kC l 5) i))) (kD (eE (aH (kC l 5) i)) 16 : Int) (by rfl))⟩ ?_
  refine yA [.no, .w, .no] (u3 (((1 + (kD l 5 : Int)) - (i : Int)) - 1)) [(0, rV 0 0), (3, oV 4 0 (i + 1) 2), (4, iV (((1 + (kD l 5 : Int)) - ↑i) - 1))] ⟨by omega, by omega⟩ ?_
  exact kW ⟨(((i + 1) : Nat), ((ps ++ ([(dW (lG (aH (kC l 5) i)) (kD (eE (aH (kC l 5) i)) 16 : Int))] : List Pt)) : List Pt)), ⟨zo, (v4q hB rfl), (by (simp only [qB, qA, qS, qV, q6, ka8, kb0, kb2] <;> omega))⟩⟩ [(2, 4)] (P := (kG 0) ∧ (kG 0) ∧ (kG (i + 1)) ∧ ((((1 + (kD l 5 : Int)) - (((i + 1) : Nat) : Int)) : Int) = (((1 + (kD l 5 : Int)) - (i : Int)) - 1)) ∧ (([db (aH (kC l 5) (i + 1)) (ka0 (aH (kC l 5) (i + 1)))] : List D) = [db (kC (eE (aH (kC l 5) i)) 16) (ka0 (kC (eE (aH (kC l 5) i)) 16))]) ∧ (kJ (qN (ps ++ ([(dW (lG (aH (kC l 5) i)) (kD (eE (aH (kC l 5) i)) 16 : Int))] : List Pt))))) zk ⟨rfl, rfl, rfl, zo, (by rfl), rfl⟩ (show 1 + kD l 5 - (i + 1) < 1 + kD l 5 - i from zo)
 ·refine kH [.no, .b false] (¬ ((0 : Int) < ((1 + (kD l 5 : Int)) - (i : Int)))) [(0, rV 0 0), (3, oV 2 0 i 2), (4, iV ((1 + (kD l 5 : Int)) - ↑i)), (9, bV false)] [(0, some (70, (mO l i))), (2, some (47, .ds (qN ps)))] 3 zo ?_
  refine zf ?_
  refine AW.exit ?_
  refine kH [.no, .no] True [(2, oV 2 0 i 2)] [(0, some (70, (mO l i))), (2, some (47, .ds (qN ps)))] 3 trivial ?_
  obtain rfl : i = (1 + (kD l 5)) := (by omega)
  refine AW.ret ?_
  exact kA (.inr rfl) [(1, 2)] (P := (kG 0) ∧ (kG (1 + (kD l 5))) ∧ (kJ [db (aH (kC l 5) (1 + (kD l 5))) (ka0 (aH (kC l 5) (1 + (kD l 5))))]) ∧ (((qN (poL (kC l 5) (1 + (kD l 5)))) : List D) = (qN ps))) zk ⟨rfl, rfl, rfl, (by (rw [hB]; done))⟩
theorem u3v (l : List Int) (hb : Byt l) : ∃ (ps : List Pt) (np : Nat) (qp : List Int), (PkW ps) ∧ (ka0 ps = np) ∧ (1 ≤ np ∧ np ≤ 5) ∧ (Byt qp) ∧ (Fun 12 [.c (.ptr 0 0)] (kF [(0, some (70, .ds [D.sl (dI .u8 l) (ka0 l)]))]) 1 (oV 1 0 np 2) (kF [(0, some (70, .ds [D.sl (dI .u8 qp) (ka0 qp)])), (1, some (47, .ds (qN ps)))]) 2) := ⟨(poL (kC l 5) (1 + (kD l 5))), (1 + (kD l 5)), (aH (kC l 5) (1 + (kD l 5))), (v17 (qH _ hb) (by have h9 := q8 l 5 hb; omega)), (rU _ _), (by have h9 := q8 l 5 hb; omega), (cU (qH _ hb) _), u43 l hb⟩
end Go.Proofs.YtbicifcgghmhaaaGreat
