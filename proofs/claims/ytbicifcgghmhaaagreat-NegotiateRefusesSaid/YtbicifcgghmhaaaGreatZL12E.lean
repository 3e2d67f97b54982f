/- Ports out of dice. No statement is proved here. -/
import Derived.Test.YtbicifcgghmhaaaGreatZR12
namespace Go.Proofs.YtbicifcgghmhaaaGreat
open Go.ChangeShapes Go.WideShapes Go.ChangeAt Go.RowKit
open List renaming length → ka0, length_append → ka6, length_cons → ka9, length_drop → kb2, length_map → kc4, length_nil → kb1, length_replicate → kb4, length_reverse → kc1, length_set → kb9, length_take → kb0
set_option linter.unusedVariables false
set_option linter.unusedSimpArgs false
set_option maxHeartbeats 4000000
set_option maxRecDepth 100000
theorem rL {p : Prop} (h : p := by first | rfl | omega | assumption | (simp; done) | (simp; omega)) : p := h
theorem jT {p : Prop} (h : p := by first | rfl | with_reducible assumption) : p := h
theorem mW {p : Prop} (h : p := by first | omega | (simp only [k8, kZ, q6, q8, kY, qW, ka6, ka9, kb1, kb0, kb2, kb4, kb9, kc4, kc1, Nat.mul_one] <;> omega) | rfl) : p := h
abbrev nG (l : List Int) (i : Nat) : BC := .ds [D.sl (dI .u8 (vB (kD l 2) i)) (ka0 (vB (kD l 2) i))]
theorem u0n (l : List Int) (hb : Byt l) : Fun 31 [.c (.ptr 0 0), iE 1, iE 2] (kH [(0, some (70, .ds [D.sl (dI .u8 l) (ka0 l)]))]) 1 (.e (vA (jG l))) (kH [(0, some (70, .ds [D.sl (dI .u8 (e8 l)) (ka0 (e8 l))]))]) 1 := by
 have hz1 : ka0 (jG l) = 1 + kA l 2 := tY _ _
 refine Fun.mk (n := 27) Tryz.func31 rfl rfl (Nat.le_of_ble_eq_true rfl) ?_
 intro cx hcx
 refine kK [.no] True [(0, rV 0 0), (1, iV 1), (2, iV 2)] [(0, some (70, .ds [db l (ka0 l)]))] 1 trivial ?_
 refine kT [.no] True [(0, rV 0 0), (1, iV 1), (2, iV 2), (7, nV)] trivial ?_
 refine AW.seq ?_
 have hx1 : ((((((kA l 2) : Nat) : Int) < 2) ∨ ((kA l 2) = 0)) ∧ ((kA l 2) ≤ 255)) := uN l (2 : Int) (qJ : Byt l)
 have hx2 : (Byt (kD l 2)) := qR (2 : Int) (qJ : Byt l)
 refine kK (qN 4 [.w, .w, .call [0] (uV (kA l 2)) [(0, some (70, .ds [db (kD l 2) (ka0 (kD l 2))]))] 1 [] none, .w, .no]) ((yQ (1 : Int)) ∧ (yQ (2 : Int)) ∧ (_) ∧ (yQ (1 + (kA l 2 : Int)))) [(0, rV 0 0), (7, nV), (8, iV (1 + (kA l 2 : Int)))] [(0, some (70, .ds [db (kD l 2) (ka0 (kD l 2))]))] 1 ⟨⟨by omega, by omega⟩, ⟨by omega, by omega⟩, (c5 l 2 (qJ : Byt l)), ⟨by omega, by omega⟩⟩ ?_
 refine AW.block ?_
 refine AW.adoptS 7 4 63 rfl ?_
 refine qH 1 hcx (fun (x : {x : Nat × List Bx // match x with | (i, bs) => (i ≤ 1 + kA l 2) ∧ (bbL (kD l 2) i = bs) ∧ (ka0 bs = i)}) => match x with | ⟨(i, bs), _⟩ => (⟨[(0, rV 0 0), (7, oV 2 0 i 4), (8, iV ((1 + (kA l 2 : Int)) - (i : Int)))], [(0, some (70, (nG l i))), (2, some (63, .ds (kV bs)))], 3⟩ : ES)) (fun x => match x with | ⟨(i, bs), _⟩ => 1 + kA l 2 - i) ⟨((0 : Nat), (([] : List Bx) : List Bx)), ⟨(by first | omega | assumption | simp), rfl, rfl⟩⟩ [(2, 1)] (P := (kJ 0) ∧ (kJ 0) ∧ (kJ 0) ∧ ((((1 + (kA l 2 : Int)) - 0) : Int) = (1 + (kA l 2 : Int))) ∧ (([db (vB (kD l 2) 0) (ka0 (vB (kD l 2) 0))] : List D) = [db (kD l 2) (ka0 (kD l 2))]) ∧ (((kV ([] : List Bx)) : List D) = ([] : List D))) zk ⟨rfl, rfl, rfl, rL, jT, jT⟩ ?_
 rintro ⟨⟨i, bs⟩, hinv0⟩
 obtain ⟨hi, hB, hn⟩ : (i ≤ 1 + kA l 2) ∧ (bbL (kD l 2) i = bs) ∧ (ka0 bs = i) := hinv0
 refine uL (l := [(0, rV 0 0), (7, oV 2 0 i 4), (8, iV ((1 + (kA l 2 : Int)) - (i : Int)))]) (g := [(0, some (70, (nG l i))), (2, some (63, .ds (kV bs)))]) (nx := 3) rfl rfl rfl ?_
 refine AW.seq ?_
 by_cases hx3 : ((0 : Int) < ((1 + (((kA l 2) : Nat) : Int)) - ((i : Nat) : Int)))
 ·refine kK [.no, .b true] (((0 : Int) < ((1 + (kA l 2 : Int)) - (i : Int)))) [(0, rV 0 0), (7, oV 2 0 i 4), (8, iV ((1 + (kA l 2 : Int)) - ↑i)), (18, bV true)] [(0, some (70, (nG l i))), (2, some (63, .ds (kV bs)))] 3 zo ?_
  refine vR ?_
  refine AW.seq ?_
  refine AW.block ?_
  refine aG [.no, .no, .call [0] (.e (.agg [iC (zQ (vB (kD l 2) i)), .d (dl (zP (vB (kD l 2) i)) (wO (vB (kD l 2) i))), .d (D.sl (kL (mB (vB (kD l 2) i))) (ka0 (mB (vB (kD l 2) i)))), .d (dl (zO (vB (kD l 2) i)) (wN (vB (kD l 2) i)))])) [(0, some (70, .ds [db (boD (vB (kD l 2) i)) (ka0 (boD (vB (kD l 2) i)))]))] 1 [] none, .no, .ap none (i + 1) (kV (bs ++ ([(kF (zQ (vB (kD l 2) i)) (zP (vB (kD l 2) i)) (wO (vB (kD l 2) i)) (mB (vB (kD l 2) i)) (zO (vB (kD l 2) i)) (wN (vB (kD l 2) i)))] : List Bx))), .no] ((_) ∧ ([iD (zQ (vB (kD l 2) i)), dl (zP (vB (kD l 2) i)) (wO (vB (kD l 2) i)), D.sl (kL (mB (vB (kD l 2) i))) (ka0 (mB (vB (kD l 2) i))), dl (zO (vB (kD l 2) i)) (wN (vB (kD l 2) i))].length = 1 * 4) ∧ (((kV bs) : List D).length = i * 4) ∧ ((i + 1) * 80 ≤ 140737488355328) ∧ (i + 1 = (i + 1)) ∧ (((kV bs) : List D) ++ [iD (zQ (vB (kD l 2) i)), dl (zP (vB (kD l 2) i)) (wO (vB (kD l 2) i)), D.sl (kL (mB (vB (kD l 2) i))) (ka0 (mB (vB (kD l 2) i))), dl (zO (vB (kD l 2) i)) (wN (vB (kD l 2) i))] = (kV (bs ++ ([(kF (zQ (vB (kD l 2) i)) (zP (vB (kD l 2) i)) (wO (vB (kD l 2) i)) (mB (vB (kD l 2) i)) (zO (vB (kD l 2) i)) (wN (vB (kD l 2) i)))] : List Bx))))) [(0, rV 0 0), (7, oV 4 0 (i + 1) 4), (8, iV ((1 + (kA l 2 : Int)) - ↑i))] [(0, some (70, .ds [db (boD (vB (kD l 2) i)) (ka0 (boD (vB (kD l 2) i)))])), (4, some (63, .ds (kV (bs ++ ([(kF (zQ (vB (kD l 2) i)) (zP (vB (kD l 2) i)) (wO (vB (kD l 2) i)) (mB (vB (kD l 2) i)) (zO (vB (kD l 2) i)) (wN (vB (kD l 2) i)))] : List Bx)))))] 5 ⟨(v2r (vB (kD l 2) i) (gG (qJ : Byt (kD l 2)) _)), mW, mW, zo, zo, (tT bs (zQ (vB (kD l 2) i)) (zP (vB (kD l 2) i)) (wO (vB (kD l 2) i)) (mB (vB (kD l 2) i)) (ka0 (mB (vB (kD l 2) i))) (zO (vB (kD l 2) i)) (wN (vB (kD l 2) i)) (by first | rfl | omega))⟩ ?_
  refine yT [.no, .w, .no] (yQ (((1 + (kA l 2 : Int)) - (i : Int)) - 1)) [(0, rV 0 0), (7, oV 4 0 (i + 1) 4), (8, iV (((1 + (kA l 2 : Int)) - ↑i) - 1))] ⟨by omega, by omega⟩ ?_
  exact qE ⟨(((i + 1) : Nat), ((bs ++ ([(kF (zQ (vB (kD l 2) i)) (zP (vB (kD l 2) i)) (wO (vB (kD l 2) i)) (mB (vB (kD l 2) i)) (zO (vB (kD l 2) i)) (wN (vB (kD l 2) i)))] : List Bx)) : List Bx)), ⟨(by first | omega | assumption | simp), (v4c hB), (by first | omega | (simp only [k8, kZ, q6, q8, kY, ka6, ka9, kb1] <;> omega))⟩⟩ [(2, 4)] (P := (kJ 0) ∧ (kJ 0) ∧ (kJ (i + 1)) ∧ ((((1 + (kA l 2 : Int)) - (((i + 1) : Nat) : Int)) : Int) = (((1 + (kA l 2 : Int)) - (i : Int)) - 1)) ∧ (([db (vB (kD l 2) (i + 1)) (ka0 (vB (kD l 2) (i + 1)))] : List D) = [db (boD (vB (kD l 2) i)) (ka0 (boD (vB (kD l 2) i)))]) ∧ (kN (kV (bs ++ ([(kF (zQ (vB (kD l 2) i)) (zP (vB (kD l 2) i)) (wO (vB (kD l 2) i)) (mB (vB (kD l 2) i)) (zO (vB (kD l 2) i)) (wN (vB (kD l 2) i)))] : List Bx))))) zk ⟨rfl, rfl, rfl, rL, jT, rfl⟩ (show 1 + kA l 2 - (i + 1) < 1 + kA l 2 - i from (by first | omega | (show _ < _; simp; omega)))
 ·refine kK [.no, .b false] (¬ ((0 : Int) < ((1 + (kA l 2 : Int)) - (i : Int)))) [(0, rV 0 0), (7, oV 2 0 i 4), (8, iV ((1 + (kA l 2 : Int)) - ↑i)), (18, bV false)] [(0, some (70, (nG l i))), (2, some (63, .ds (kV bs)))] 3 zo ?_
  refine zf ?_
  refine AW.exit ?_
  refine kK [.no, .no] True [(6, oV 2 0 i 4)] [(0, some (70, (nG l i))), (2, some (63, .ds (kV bs)))] 3 trivial ?_
  obtain rfl : i = (1 + (kA l 2)) := (by omega)
  refine AW.freeze 2 (l' := [(6, .e (qC bs (1 + (kA l 2))))]) (g' := [(0, some (70, .ds [db (vB (kD l 2) (1 + (kA l 2))) (ka0 (vB (kD l 2) (1 + (kA l 2))))]))]) rfl (FzS.cons rfl (.e (.c (@FzC.own 2 ((kV bs) : List D) 0 (1 + (kA l 2)) 4 true ((kV bs) : List D) (by rw [List.drop_zero, List.take_of_length_le (by first | omega | (simp only [k8, kZ, q6, q8, kY, qW, ka6, ka9, kb1, kb0, kb2, kb4, kb9, kc4, kc1, Nat.mul_one] <;> omega))]) mW))) FzS.nil) (yW rfl rfl FzG.nil) ?_
  refine AW.ret ?_
  exact kB (.inr rfl) [] (P := (((kV (jG l)) : List D) = (kV bs)) ∧ (((ka0 (jG l)) : Nat) = (1 + (kA l 2))) ∧ (([db (e8 l) (ka0 (e8 l))] : List D) = [db (vB (kD l 2) (1 + (kA l 2))) (ka0 (vB (kD l 2) (1 + (kA l 2))))])) zk ⟨(by first | rfl | (rw [hB]; done) | (rw [hB]; rfl) | (unfold jG; rw [hB]; done) | (unfold jG; rw [hB]; rfl)), (by first | rfl | omega), (by first | rfl | (rw [hB]; done) | (rw [hB]; rfl) | (unfold jG; rw [hB]; done) | (unfold jG; rw [hB]; rfl))⟩
abbrev nF (l : List Int) (i : Nat) : BC := .ds [D.sl (dI .u8 (aI (kD l 5) i)) (ka0 (aI (kD l 5) i))]
theorem u3c (l : List Int) (hb : Byt l) : Fun 12 [.c (.ptr 0 0)] (kH [(0, some (70, .ds [D.sl (dI .u8 l) (ka0 l)]))]) 1 (oV 1 0 (1 + (kA l 5)) 2) (kH [(0, some (70, .ds [D.sl (dI .u8 (aI (kD l 5) (1 + (kA l 5)))) (ka0 (aI (kD l 5) (1 + (kA l 5))))])), (1, some (47, .ds (uG (qU (kD l 5) (1 + (kA l 5))))))]) 2 := by
 refine Fun.mk (n := 21) Tryz.func12 rfl rfl (Nat.le_of_ble_eq_true rfl) ?_
 intro cx hcx
 refine kK [.no] True [(0, rV 0 0)] [(0, some (70, .ds [db l (ka0 l)]))] 1 trivial ?_
 refine kT [.no] True [(0, rV 0 0), (3, nV)] trivial ?_
 refine AW.seq ?_
 have hx1 : ((((((kA l 5) : Nat) : Int) < 5) ∨ ((kA l 5) = 0)) ∧ ((kA l 5) ≤ 255)) := uN l (5 : Int) (qJ : Byt l)
 have hx2 : (Byt (kD l 5)) := qR (5 : Int) (qJ : Byt l)
 refine kK [.no, .call [0] (uV (kA l 5)) [(0, some (70, .ds [db (kD l 5) (ka0 (kD l 5))]))] 1 [] none, .w, .no] ((_) ∧ (yQ (1 + (kA l 5 : Int)))) [(0, rV 0 0), (3, nV), (4, iV (1 + (kA l 5 : Int)))] [(0, some (70, .ds [db (kD l 5) (ka0 (kD l 5))]))] 1 ⟨(c5 l 5 (qJ : Byt l)), ⟨by omega, by omega⟩⟩ ?_
 refine AW.block ?_
 refine AW.adoptS 3 2 47 rfl ?_
 refine qH 1 hcx (fun (x : {x : Nat × List Pt // match x with | (i, ps) => (i ≤ 1 + kA l 5) ∧ (qU (kD l 5) i = ps) ∧ (ka0 ps = i)}) => match x with | ⟨(i, ps), _⟩ => (⟨[(0, rV 0 0), (3, oV 2 0 i 2), (4, iV ((1 + (kA l 5 : Int)) - (i : Int)))], [(0, some (70, (nF l i))), (2, some (47, .ds (uG ps)))], 3⟩ : ES)) (fun x => match x with | ⟨(i, ps), _⟩ => 1 + kA l 5 - i) ⟨((0 : Nat), (([] : List Pt) : List Pt)), ⟨(by first | omega | assumption | simp), rfl, rfl⟩⟩ [(2, 1)] (P := (kJ 0) ∧ (kJ 0) ∧ (kJ 0) ∧ ((((1 + (kA l 5 : Int)) - 0) : Int) = (1 + (kA l 5 : Int))) ∧ (([db (aI (kD l 5) 0) (ka0 (aI (kD l 5) 0))] : List D) = [db (kD l 5) (ka0 (kD l 5))]) ∧ (((uG ([] : List Pt)) : List D) = ([] : List D))) zk ⟨rfl, rfl, rfl, rL, jT, jT⟩ ?_
 rintro ⟨⟨i, ps⟩, hinv0⟩
 obtain ⟨hi, hB, hn⟩ : (i ≤ 1 + kA l 5) ∧ (qU (kD l 5) i = ps) ∧ (ka0 ps = i) := hinv0
 refine uL (l := [(0, rV 0 0), (3, oV 2 0 i 2), (4, iV ((1 + (kA l 5 : Int)) - (i : Int)))]) (g := [(0, some (70, (nF l i))), (2, some (47, .ds (uG ps)))]) (nx := 3) rfl rfl rfl ?_
 refine AW.seq ?_
 by_cases hx3 : ((0 : Int) < ((1 + (((kA l 5) : Nat) : Int)) - ((i : Nat) : Int)))
 ·refine kK [.no, .b true] (((0 : Int) < ((1 + (kA l 5 : Int)) - (i : Int)))) [(0, rV 0 0), (3, oV 2 0 i 2), (4, iV ((1 + (kA l 5 : Int)) - ↑i)), (9, bV true)] [(0, some (70, (nF l i))), (2, some (47, .ds (uG ps)))] 3 zo ?_
  refine vR ?_
  refine AW.seq ?_
  refine AW.block ?_
  have hx4 : (((1 : Nat) ≤ (ka0 (jG (aI (kD l 5) i)))) ∧ ((ka0 (jG (aI (kD l 5) i))) ≤ 2)) := (k3f ((dC (qJ : Byt (kD l 5)) _)))
  have hx5 : (BsW (jG (aI (kD l 5) i))) := (u52 _ _)
  have hx6 : (Byt (e8 (aI (kD l 5) i))) := (tX ((dC (qJ : Byt (kD l 5)) _)))
  have hx7 : ((((((kA (e8 (aI (kD l 5) i)) 16) : Nat) : Int) < 16) ∨ ((kA (e8 (aI (kD l 5) i)) 16) = 0)) ∧ ((kA (e8 (aI (kD l 5) i)) 16) ≤ 255)) := uN (e8 (aI (kD l 5) i)) (16 : Int) (qJ : Byt (e8 (aI (kD l 5) i)))
  have hx8 : (Byt (kD (e8 (aI (kD l 5) i)) 16)) := qR (16 : Int) (qJ : Byt (e8 (aI (kD l 5) i)))
  refine aG [.no, .no, .call [0] (.e (vA (jG (aI (kD l 5) i)))) [(0, some (70, .ds [db (e8 (aI (kD l 5) i)) (ka0 (e8 (aI (kD l 5) i)))]))] 1 [] none, .no, .call [0] (iV (kA (e8 (aI (kD l 5) i)) 16 : Int)) [(0, some (70, .ds [db (kD (e8 (aI (kD l 5) i)) 16) (ka0 (kD (e8 (aI (kD l 5) i)) 16))]))] 1 [] none, .no, .no, .ap none (i + 1) (uG (ps ++ ([(hZ (jG (aI (kD l 5) i)) (kA (e8 (aI (kD l 5) i)) 16 : Int))] : List Pt))), .no] ((_) ∧ (_) ∧ ([D.sl (kV (jG (aI (kD l 5) i))) (ka0 (jG (aI (kD l 5) i))), iD (kA (e8 (aI (kD l 5) i)) 16 : Int)].length = 1 * 2) ∧ (((uG ps) : List D).length = i * 2) ∧ ((i + 1) * 32 ≤ 140737488355328) ∧ (i + 1 = (i + 1)) ∧ (((uG ps) : List D) ++ [D.sl (kV (jG (aI (kD l 5) i))) (ka0 (jG (aI (kD l 5) i))), iD (kA (e8 (aI (kD l 5) i)) 16 : Int)] = (uG (ps ++ ([(hZ (jG (aI (kD l 5) i)) (kA (e8 (aI (kD l 5) i)) 16 : Int))] : List Pt))))) [(0, rV 0 0), (3, oV 4 0 (i + 1) 2), (4, iV ((1 + (kA l 5 : Int)) - ↑i))] [(0, some (70, .ds [db (kD (e8 (aI (kD l 5) i)) 16) (ka0 (kD (e8 (aI (kD l 5) i)) 16))])), (4, some (47, .ds (uG (ps ++ ([(hZ (jG (aI (kD l 5) i)) (kA (e8 (aI (kD l 5) i)) 16 : Int))] : List Pt)))))] 5 ⟨(u0n (aI (kD l 5) i) (dC (qJ : Byt (kD l 5)) _)), (c5 (e8 (aI (kD l 5) i)) 16 (qJ : Byt (e8 (aI (kD l 5) i)))), mW, mW, zo, zo, (u17 ps (jG (aI (kD l 5) i)) (ka0 (jG (aI (kD l 5) i))) (kA (e8 (aI (kD l 5) i)) 16 : Int) (by first | rfl | omega))⟩ ?_
  refine yT [.no, .w, .no] (yQ (((1 + (kA l 5 : Int)) - (i : Int)) - 1)) [(0, rV 0 0), (3, oV 4 0 (i + 1) 2), (4, iV (((1 + (kA l 5 : Int)) - ↑i) - 1))] ⟨by omega, by omega⟩ ?_
  exact qE ⟨(((i + 1) : Nat), ((ps ++ ([(hZ (jG (aI (kD l 5) i)) (kA (e8 (aI (kD l 5) i)) 16 : Int))] : List Pt)) : List Pt)), ⟨(by first | omega | assumption | simp), (v39 hB rfl), (by first | omega | (simp only [k8, kZ, q6, q8, kY, ka6, ka9, kb1] <;> omega))⟩⟩ [(2, 4)] (P := (kJ 0) ∧ (kJ 0) ∧ (kJ (i + 1)) ∧ ((((1 + (kA l 5 : Int)) - (((i + 1) : Nat) : Int)) : Int) = (((1 + (kA l 5 : Int)) - (i : Int)) - 1)) ∧ (([db (aI (kD l 5) (i + 1)) (ka0 (aI (kD l 5) (i + 1)))] : List D) = [db (kD (e8 (aI (kD l 5) i)) 16) (ka0 (kD (e8 (aI (kD l 5) i)) 16))]) ∧ (kN (uG (ps ++ ([(hZ (jG (aI (kD l 5) i)) (kA (e8 (aI (kD l 5) i)) 16 : Int))] : List Pt))))) zk ⟨rfl, rfl, rfl, rL, jT, rfl⟩ (show 1 + kA l 5 - (i + 1) < 1 + kA l 5 - i from (by first | omega | (show _ < _; simp; omega)))
 ·refine kK [.no, .b false] (¬ ((0 : Int) < ((1 + (kA l 5 : Int)) - (i : Int)))) [(0, rV 0 0), (3, oV 2 0 i 2), (4, iV ((1 + (kA l 5 : Int)) - ↑i)), (9, bV false)] [(0, some (70, (nF l i))), (2, some (47, .ds (uG ps)))] 3 zo ?_
  refine zf ?_
  refine AW.exit ?_
  refine kK [.no, .no] True [(2, oV 2 0 i 2)] [(0, some (70, (nF l i))), (2, some (47, .ds (uG ps)))] 3 trivial ?_
  obtain rfl : i = (1 + (kA l 5)) := (by omega)
  refine AW.ret ?_
  exact kB (.inr rfl) [(1, 2)] (P := (kJ 0) ∧ (kJ (1 + (kA l 5))) ∧ (kN [db (aI (kD l 5) (1 + (kA l 5))) (ka0 (aI (kD l 5) (1 + (kA l 5))))]) ∧ (((uG (qU (kD l 5) (1 + (kA l 5)))) : List D) = (uG ps))) zk ⟨rfl, rfl, rfl, (by first | rfl | (rw [hB]; done) | (rw [hB]; rfl))⟩
end Go.Proofs.YtbicifcgghmhaaaGreat
