/- Ports out of dice. No statement is proved here. -/
import Derived.Test.YtbicifcgghmhaaaGreatZR12
namespace Go.Proofs.YtbicifcgghmhaaaGreat
open Go.ChangeShapes Go.WideShapes Go.ChangeAt Go.RowKit
open List renaming length → ka0, length_append → ka6, length_cons → ka9, length_drop → kb2, length_map → kc3, length_nil → kb0, length_replicate → kb4, length_reverse → kc1, length_set → kb8, length_take → kb1
set_option linter.unusedVariables false
set_option linter.unusedSimpArgs false
set_option maxHeartbeats 4000000
set_option maxRecDepth 100000
theorem rG {p : Prop} (h : p := by first | rfl | omega | assumption | (simp; done) | (simp; omega)) : p := h
theorem jS {p : Prop} (h : p := by first | rfl | with_reducible assumption) : p := h
theorem mV {p : Prop} (h : p := by first | omega | (simp only [kZ, kY, q5, q8, kX, qV, ka6, ka9, kb0, kb1, kb2, kb4, kb8, kc3, kc1, Nat.mul_one] <;> omega) | rfl) : p := h
abbrev nE (l : List Int) (i : Nat) : BC := .ds [D.sl (dI .u8 (y6 (kC l 2) i)) (ka0 (y6 (kC l 2) i))]
theorem u10 (l : List Int) (hb : Byt l) : Fun 31 [.c (.ptr 0 0), iE 1, iE 2] (kF [(0, some (70, .ds [D.sl (dI .u8 l) (ka0 l)]))]) 1 (.e (y5 (jD l))) (kF [(0, some (70, .ds [D.sl (dI .u8 (eY l)) (ka0 (eY l))]))]) 1 := by
 have hz1 : ka0 (jD l) = 1 + kA l 2 := tY _ _
 refine Fun.mk (n := 27) Tryz.func31 rfl rfl (Nat.le_of_ble_eq_true rfl) ?_
 intro cx hcx
 refine kI [.no] True [(0, rV 0 0), (1, iV 1), (2, iV 2)] [(0, some (70, .ds [db l (ka0 l)]))] 1 trivial ?_
 refine kS [.no] True [(0, rV 0 0), (1, iV 1), (2, iV 2), (7, nV)] trivial ?_
 refine AW.seq ?_
 have hx1 : ((((((kA l 2) : Nat) : Int) < 2) ∨ ((kA l 2) = 0)) ∧ ((kA l 2) ≤ 255)) := uK l (2 : Int) (qJ : Byt l)
 have hx2 : (Byt (kC l 2)) := qR (2 : Int) (qJ : Byt l)
 refine kI (qN 4 [.w, .w, .call [0] (uV (kA l 2)) [(0, some (70, .ds [db (kC l 2) (ka0 (kC l 2))]))] 1 [] none, .w, .no]) ((yF (1 : Int)) ∧ (yF (2 : Int)) ∧ (_) ∧ (yF (1 + (kA l 2 : Int)))) [(0, rV 0 0), (7, nV), (8, iV (1 + (kA l 2 : Int)))] [(0, some (70, .ds [db (kC l 2) (ka0 (kC l 2))]))] 1 ⟨⟨by omega, by omega⟩, ⟨by omega, by omega⟩, (cZ l 2 (qJ : Byt l)), ⟨by omega, by omega⟩⟩ ?_
 refine AW.block ?_
 refine AW.adoptS 7 4 63 rfl ?_
 refine qF 1 hcx (fun (x : {x : Nat × List Bx // match x with | (i, bs) => (i ≤ 1 + kA l 2) ∧ (bbL (kC l 2) i = bs) ∧ (ka0 bs = i)}) => match x with | ⟨(i, bs), _⟩ => (⟨[(0, rV 0 0), (7, oV 2 0 i 4), (8, iV ((1 + (kA l 2 : Int)) - (i : Int)))], [(0, some (70, (nE l i))), (2, some (63, .ds (kU bs)))], 3⟩ : ES)) (fun x => match x with | ⟨(i, bs), _⟩ => 1 + kA l 2 - i) ⟨((0 : Nat), (([] : List Bx) : List Bx)), ⟨(by first | omega | assumption | simp), rfl, rfl⟩⟩ [(2, 1)] (P := (kH 0) ∧ (kH 0) ∧ (kH 0) ∧ ((((1 + (kA l 2 : Int)) - 0) : Int) = (1 + (kA l 2 : Int))) ∧ (([db (y6 (kC l 2) 0) (ka0 (y6 (kC l 2) 0))] : List D) = [db (kC l 2) (ka0 (kC l 2))]) ∧ (((kU ([] : List Bx)) : List D) = ([] : List D))) zk ⟨rfl, rfl, rfl, rG, jS, jS⟩ ?_
 rintro ⟨⟨i, bs⟩, hinv0⟩
 obtain ⟨hi, hB, hn⟩ : (i ≤ 1 + kA l 2) ∧ (bbL (kC l 2) i = bs) ∧ (ka0 bs = i) := hinv0
 refine uG (l := [(0, rV 0 0), (7, oV 2 0 i 4), (8, iV ((1 + (kA l 2 : Int)) - (i : Int)))]) (g := [(0, some (70, (nE l i))), (2, some (63, .ds (kU bs)))]) (nx := 3) rfl rfl rfl ?_
 refine AW.seq ?_
 by_cases hx3 : ((0 : Int) < ((1 + (((kA l 2) : Nat) : Int)) - ((i : Nat) : Int)))
 ·refine kI [.no, .b true] (((0 : Int) < ((1 + (kA l 2 : Int)) - (i : Int)))) [(0, rV 0 0), (7, oV 2 0 i 4), (8, iV ((1 + (kA l 2 : Int)) - ↑i)), (18, bV true)] [(0, some (70, (nE l i))), (2, some (63, .ds (kU bs)))] 3 zo ?_
  refine vO ?_
  refine AW.seq ?_
  refine AW.block ?_
  refine aB [.no, .no, .call [0] (.e (.agg [iC (zQ (y6 (kC l 2) i)), .d (dl (zP (y6 (kC l 2) i)) (wM (y6 (kC l 2) i))), .d (D.sl (kK (mA (y6 (kC l 2) i))) (ka0 (mA (y6 (kC l 2) i)))), .d (dl (zO (y6 (kC l 2) i)) (wL (y6 (kC l 2) i)))])) [(0, some (70, .ds [db (boD (y6 (kC l 2) i)) (ka0 (boD (y6 (kC l 2) i)))]))] 1 [] none, .no, .ap none (i + 1) (kU (bs ++ ([(kD (zQ (y6 (kC l 2) i)) (zP (y6 (kC l 2) i)) (wM (y6 (kC l 2) i)) (mA (y6 (kC l 2) i)) (zO (y6 (kC l 2) i)) (wL (y6 (kC l 2) i)))] : List Bx))), .no] ((_) ∧ ([iD (zQ (y6 (kC l 2) i)), dl (zP (y6 (kC l 2) i)) (wM (y6 (kC l 2) i)), D.sl (kK (mA (y6 (kC l 2) i))) (ka0 (mA (y6 (kC l 2) i))), dl (zO (y6 (kC l 2) i)) (wL (y6 (kC l 2) i))].length = 1 * 4) ∧ (((kU bs) : List D).length = i * 4) ∧ ((i + 1) * 80 ≤ 140737488355328) ∧ (i + 1 = (i + 1)) ∧ (((kU bs) : List D) ++ [iD (zQ (y6 (kC l 2) i)), dl (zP (y6 (kC l 2) i)) (wM (y6 (kC l 2) i)), D.sl (kK (mA (y6 (kC l 2) i))) (ka0 (mA (y6 (kC l 2) i))), dl (zO (y6 (kC l 2) i)) (wL (y6 (kC l 2) i))] = (kU (bs ++ ([(kD (zQ (y6 (kC l 2) i)) (zP (y6 (kC l 2) i)) (wM (y6 (kC l 2) i)) (mA (y6 (kC l 2) i)) (zO (y6 (kC l 2) i)) (wL (y6 (kC l 2) i)))] : List Bx))))) [(0, rV 0 0), (7, oV 4 0 (i + 1) 4), (8, iV ((1 + (kA l 2 : Int)) - ↑i))] [(0, some (70, .ds [db (boD (y6 (kC l 2) i)) (ka0 (boD (y6 (kC l 2) i)))])), (4, some (63, .ds (kU (bs ++ ([(kD (zQ (y6 (kC l 2) i)) (zP (y6 (kC l 2) i)) (wM (y6 (kC l 2) i)) (mA (y6 (kC l 2) i)) (zO (y6 (kC l 2) i)) (wL (y6 (kC l 2) i)))] : List Bx)))))] 5 ⟨(v36 (y6 (kC l 2) i) (gG (qJ : Byt (kC l 2)) _)), mV, mV, zo, zo, (tS bs (zQ (y6 (kC l 2) i)) (zP (y6 (kC l 2) i)) (wM (y6 (kC l 2) i)) (mA (y6 (kC l 2) i)) (ka0 (mA (y6 (kC l 2) i))) (zO (y6 (kC l 2) i)) (wL (y6 (kC l 2) i)) (by first | rfl | omega))⟩ ?_
  refine yK [.no, .w, .no] (yF (((1 + (kA l 2 : Int)) - (i : Int)) - 1)) [(0, rV 0 0), (7, oV 4 0 (i + 1) 4), (8, iV (((1 + (kA l 2 : Int)) - ↑i) - 1))] ⟨by omega, by omega⟩ ?_
  exact Rd.of ⟨(((i + 1) : Nat), ((bs ++ ([(kD (zQ (y6 (kC l 2) i)) (zP (y6 (kC l 2) i)) (wM (y6 (kC l 2) i)) (mA (y6 (kC l 2) i)) (zO (y6 (kC l 2) i)) (wL (y6 (kC l 2) i)))] : List Bx)) : List Bx)), ⟨(by first | omega | assumption | simp), (v4s hB), (by first | omega | (simp only [kZ, kY, q5, q8, kX, ka6, ka9, kb0] <;> omega))⟩⟩ [(2, 4)] (P := (kH 0) ∧ (kH 0) ∧ (kH (i + 1)) ∧ ((((1 + (kA l 2 : Int)) - (((i + 1) : Nat) : Int)) : Int) = (((1 + (kA l 2 : Int)) - (i : Int)) - 1)) ∧ (([db (y6 (kC l 2) (i + 1)) (ka0 (y6 (kC l 2) (i + 1)))] : List D) = [db (boD (y6 (kC l 2) i)) (ka0 (boD (y6 (kC l 2) i)))]) ∧ (kM (kU (bs ++ ([(kD (zQ (y6 (kC l 2) i)) (zP (y6 (kC l 2) i)) (wM (y6 (kC l 2) i)) (mA (y6 (kC l 2) i)) (zO (y6 (kC l 2) i)) (wL (y6 (kC l 2) i)))] : List Bx))))) zk ⟨rfl, rfl, rfl, rG, jS, rfl⟩ (show 1 + kA l 2 - (i + 1) < 1 + kA l 2 - i from (by first | omega | (show _ < _; simp; omega)))
 ·refine kI [.no, .b false] (¬ ((0 : Int) < ((1 + (kA l 2 : Int)) - (i : Int)))) [(0, rV 0 0), (7, oV 2 0 i 4), (8, iV ((1 + (kA l 2 : Int)) - ↑i)), (18, bV false)] [(0, some (70, (nE l i))), (2, some (63, .ds (kU bs)))] 3 zo ?_
  refine zf ?_
  refine AW.exit ?_
  refine kI [.no, .no] True [(6, oV 2 0 i 4)] [(0, some (70, (nE l i))), (2, some (63, .ds (kU bs)))] 3 trivial ?_
  obtain rfl : i = (1 + (kA l 2)) := (by omega)
  refine AW.freeze 2 (l' := [(6, .e (qB bs (1 + (kA l 2))))]) (g' := [(0, some (70, .ds [db (y6 (kC l 2) (1 + (kA l 2))) (ka0 (y6 (kC l 2) (1 + (kA l 2))))]))]) rfl (FzS.cons rfl (.e (.c (@FzC.own 2 ((kU bs) : List D) 0 (1 + (kA l 2)) 4 true ((kU bs) : List D) (by rw [List.drop_zero, List.take_of_length_le (by first | omega | (simp only [kZ, kY, q5, q8, kX, qV, ka6, ka9, kb0, kb1, kb2, kb4, kb8, kc3, kc1, Nat.mul_one] <;> omega))]) mV))) FzS.nil) (yH rfl rfl FzG.nil) ?_
  refine AW.ret ?_
  exact EndP.of (.inr rfl) [] (P := (((kU (jD l)) : List D) = (kU bs)) ∧ (((ka0 (jD l)) : Nat) = (1 + (kA l 2))) ∧ (([db (eY l) (ka0 (eY l))] : List D) = [db (y6 (kC l 2) (1 + (kA l 2))) (ka0 (y6 (kC l 2) (1 + (kA l 2))))])) zk ⟨(by first | rfl | (rw [hB]; done) | (rw [hB]; rfl) | (unfold jD; rw [hB]; done) | (unfold jD; rw [hB]; rfl)), (by first | rfl | omega), (by first | rfl | (rw [hB]; done) | (rw [hB]; rfl) | (unfold jD; rw [hB]; done) | (unfold jD; rw [hB]; rfl))⟩
abbrev nD (l : List Int) (i : Nat) : BC := .ds [D.sl (dI .u8 (aF (kC l 5) i)) (ka0 (aF (kC l 5) i))]
theorem u3r (l : List Int) (hb : Byt l) : Fun 12 [.c (.ptr 0 0)] (kF [(0, some (70, .ds [D.sl (dI .u8 l) (ka0 l)]))]) 1 (oV 1 0 (1 + (kA l 5)) 2) (kF [(0, some (70, .ds [D.sl (dI .u8 (aF (kC l 5) (1 + (kA l 5)))) (ka0 (aF (kC l 5) (1 + (kA l 5))))])), (1, some (47, .ds (qU (uI (kC l 5) (1 + (kA l 5))))))]) 2 := by
 refine Fun.mk (n := 21) Tryz.func12 rfl rfl (Nat.le_of_ble_eq_true rfl) ?_
 intro cx hcx
 refine kI [.no] True [(0, rV 0 0)] [(0, some (70, .ds [db l (ka0 l)]))] 1 trivial ?_
 refine kS [.no] True [(0, rV 0 0), (3, nV)] trivial ?_
 refine AW.seq ?_
 have hx1 : ((((((kA l 5) : Nat) : Int) < 5) ∨ ((kA l 5) = 0)) ∧ ((kA l 5) ≤ 255)) := uK l (5 : Int) (qJ : Byt l)
 have hx2 : (Byt (kC l 5)) := qR (5 : Int) (qJ : Byt l)
 refine kI [.no, .call [0] (uV (kA l 5)) [(0, some (70, .ds [db (kC l 5) (ka0 (kC l 5))]))] 1 [] none, .w, .no] ((_) ∧ (yF (1 + (kA l 5 : Int)))) [(0, rV 0 0), (3, nV), (4, iV (1 + (kA l 5 : Int)))] [(0, some (70, .ds [db (kC l 5) (ka0 (kC l 5))]))] 1 ⟨(cZ l 5 (qJ : Byt l)), ⟨by omega, by omega⟩⟩ ?_
 refine AW.block ?_
 refine AW.adoptS 3 2 47 rfl ?_
 refine qF 1 hcx (fun (x : {x : Nat × List Pt // match x with | (i, ps) => (i ≤ 1 + kA l 5) ∧ (uI (kC l 5) i = ps) ∧ (ka0 ps = i)}) => match x with | ⟨(i, ps), _⟩ => (⟨[(0, rV 0 0), (3, oV 2 0 i 2), (4, iV ((1 + (kA l 5 : Int)) - (i : Int)))], [(0, some (70, (nD l i))), (2, some (47, .ds (qU ps)))], 3⟩ : ES)) (fun x => match x with | ⟨(i, ps), _⟩ => 1 + kA l 5 - i) ⟨((0 : Nat), (([] : List Pt) : List Pt)), ⟨(by first | omega | assumption | simp), rfl, rfl⟩⟩ [(2, 1)] (P := (kH 0) ∧ (kH 0) ∧ (kH 0) ∧ ((((1 + (kA l 5 : Int)) - 0) : Int) = (1 + (kA l 5 : Int))) ∧ (([db (aF (kC l 5) 0) (ka0 (aF (kC l 5) 0))] : List D) = [db (kC l 5) (ka0 (kC l 5))]) ∧ (((qU ([] : List Pt)) : List D) = ([] : List D))) zk ⟨rfl, rfl, rfl, rG, jS, jS⟩ ?_
 rintro ⟨⟨i, ps⟩, hinv0⟩
 obtain ⟨hi, hB, hn⟩ : (i ≤ 1 + kA l 5) ∧ (uI (kC l 5) i = ps) ∧ (ka0 ps = i) := hinv0
 refine uG (l := [(0, rV 0 0), (3, oV 2 0 i 2), (4, iV ((1 + (kA l 5 : Int)) - (i : Int)))]) (g := [(0, some (70, (nD l i))), (2, some (47, .ds (qU ps)))]) (nx := 3) rfl rfl rfl ?_
 refine AW.seq ?_
 by_cases hx3 : ((0 : Int) < ((1 + (((kA l 5) : Nat) : Int)) - ((i : Nat) : Int)))
 ·refine kI [.no, .b true] (((0 : Int) < ((1 + (kA l 5 : Int)) - (i : Int)))) [(0, rV 0 0), (3, oV 2 0 i 2), (4, iV ((1 + (kA l 5 : Int)) - ↑i)), (9, bV true)] [(0, some (70, (nD l i))), (2, some (47, .ds (qU ps)))] 3 zo ?_
  refine vO ?_
  refine AW.seq ?_
  refine AW.block ?_
  have hx4 : (((1 : Nat) ≤ (ka0 (jD (aF (kC l 5) i)))) ∧ ((ka0 (jD (aF (kC l 5) i))) ≤ 2)) := (k3k ((dA (qJ : Byt (kC l 5)) _)))
  have hx5 : (BsW (jD (aF (kC l 5) i))) := (u5j _ _)
  have hx6 : (Byt (eY (aF (kC l 5) i))) := (tX ((dA (qJ : Byt (kC l 5)) _)))
  have hx7 : ((((((kA (eY (aF (kC l 5) i)) 16) : Nat) : Int) < 16) ∨ ((kA (eY (aF (kC l 5) i)) 16) = 0)) ∧ ((kA (eY (aF (kC l 5) i)) 16) ≤ 255)) := uK (eY (aF (kC l 5) i)) (16 : Int) (qJ : Byt (eY (aF (kC l 5) i)))
  have hx8 : (Byt (kC (eY (aF (kC l 5) i)) 16)) := qR (16 : Int) (qJ : Byt (eY (aF (kC l 5) i)))
  refine aB [.no, .no, .call [0] (.e (y5 (jD (aF (kC l 5) i)))) [(0, some (70, .ds [db (eY (aF (kC l 5) i)) (ka0 (eY (aF (kC l 5) i)))]))] 1 [] none, .no, .call [0] (iV (kA (eY (aF (kC l 5) i)) 16 : Int)) [(0, some (70, .ds [db (kC (eY (aF (kC l 5) i)) 16) (ka0 (kC (eY (aF (kC l 5) i)) 16))]))] 1 [] none, .no, .no, .ap none (i + 1) (qU (ps ++ ([(e8 (jD (aF (kC l 5) i)) (kA (eY (aF (kC l 5) i)) 16 : Int))] : List Pt))), .no] ((_) ∧ (_) ∧ ([D.sl (kU (jD (aF (kC l 5) i))) (ka0 (jD (aF (kC l 5) i))), iD (kA (eY (aF (kC l 5) i)) 16 : Int)].length = 1 * 2) ∧ (((qU ps) : List D).length = i * 2) ∧ ((i + 1) * 32 ≤ 140737488355328) ∧ (i + 1 = (i + 1)) ∧ (((qU ps) : List D) ++ [D.sl (kU (jD (aF (kC l 5) i))) (ka0 (jD (aF (kC l 5) i))), iD (kA (eY (aF (kC l 5) i)) 16 : Int)] = (qU (ps ++ ([(e8 (jD (aF (kC l 5) i)) (kA (eY (aF (kC l 5) i)) 16 : Int))] : List Pt))))) [(0, rV 0 0), (3, oV 4 0 (i + 1) 2), (4, iV ((1 + (kA l 5 : Int)) - ↑i))] [(0, some (70, .ds [db (kC (eY (aF (kC l 5) i)) 16) (ka0 (kC (eY (aF (kC l 5) i)) 16))])), (4, some (47, .ds (qU (ps ++ ([(e8 (jD (aF (kC l 5) i)) (kA (eY (aF (kC l 5) i)) 16 : Int))] : List Pt)))))] 5 ⟨(u10 (aF (kC l 5) i) (dA (qJ : Byt (kC l 5)) _)), (cZ (eY (aF (kC l 5) i)) 16 (qJ : Byt (eY (aF (kC l 5) i)))), mV, mV, zo, zo, (u1k ps (jD (aF (kC l 5) i)) (ka0 (jD (aF (kC l 5) i))) (kA (eY (aF (kC l 5) i)) 16 : Int) (by first | rfl | omega))⟩ ?_
  refine yK [.no, .w, .no] (yF (((1 + (kA l 5 : Int)) - (i : Int)) - 1)) [(0, rV 0 0), (3, oV 4 0 (i + 1) 2), (4, iV (((1 + (kA l 5 : Int)) - ↑i) - 1))] ⟨by omega, by omega⟩ ?_
  exact Rd.of ⟨(((i + 1) : Nat), ((ps ++ ([(e8 (jD (aF (kC l 5) i)) (kA (eY (aF (kC l 5) i)) 16 : Int))] : List Pt)) : List Pt)), ⟨(by first | omega | assumption | simp), (v3o hB rfl), (by first | omega | (simp only [kZ, kY, q5, q8, kX, ka6, ka9, kb0] <;> omega))⟩⟩ [(2, 4)] (P := (kH 0) ∧ (kH 0) ∧ (kH (i + 1)) ∧ ((((1 + (kA l 5 : Int)) - (((i + 1) : Nat) : Int)) : Int) = (((1 + (kA l 5 : Int)) - (i : Int)) - 1)) ∧ (([db (aF (kC l 5) (i + 1)) (ka0 (aF (kC l 5) (i + 1)))] : List D) = [db (kC (eY (aF (kC l 5) i)) 16) (ka0 (kC (eY (aF (kC l 5) i)) 16))]) ∧ (kM (qU (ps ++ ([(e8 (jD (aF (kC l 5) i)) (kA (eY (aF (kC l 5) i)) 16 : Int))] : List Pt))))) zk ⟨rfl, rfl, rfl, rG, jS, rfl⟩ (show 1 + kA l 5 - (i + 1) < 1 + kA l 5 - i from (by first | omega | (show _ < _; simp; omega)))
 ·refine kI [.no, .b false] (¬ ((0 : Int) < ((1 + (kA l 5 : Int)) - (i : Int)))) [(0, rV 0 0), (3, oV 2 0 i 2), (4, iV ((1 + (kA l 5 : Int)) - ↑i)), (9, bV false)] [(0, some (70, (nD l i))), (2, some (47, .ds (qU ps)))] 3 zo ?_
  refine zf ?_
  refine AW.exit ?_
  refine kI [.no, .no] True [(2, oV 2 0 i 2)] [(0, some (70, (nD l i))), (2, some (47, .ds (qU ps)))] 3 trivial ?_
  obtain rfl : i = (1 + (kA l 5)) := (by omega)
  refine AW.ret ?_
  exact EndP.of (.inr rfl) [(1, 2)] (P := (kH 0) ∧ (kH (1 + (kA l 5))) ∧ (kM [db (aF (kC l 5) (1 + (kA l 5))) (ka0 (aF (kC l 5) (1 + (kA l 5))))]) ∧ (((qU (uI (kC l 5) (1 + (kA l 5)))) : List D) = (qU ps))) zk ⟨rfl, rfl, rfl, (by first | rfl | (rw [hB]; done) | (rw [hB]; rfl))⟩
end Go.Proofs.YtbicifcgghmhaaaGreat
