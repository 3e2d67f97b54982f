/- Lists of boxes out of dice. No statement is proved here. -/
import Derived.Test.YtcfmjpnffembpaaGreatZL10F
namespace Go.Proofs.YtcfmjpnffembpaaGreat
open Go.ChangeShapes Go.WideShapes Go.ChangeAt Go.RowKit
open List renaming length → ka0, length_append → ka6, length_cons → kb0, length_drop → kb3, length_map → kc5, length_nil → kb1, length_replicate → kb4, length_reverse → kc0, length_set → kb8, length_take → kb2
set_option linter.unusedVariables false
set_option linter.unusedSimpArgs false
attribute [local irreducible] aZ yW aU fM vS kD kB yG p9 eE rB rA
set_option maxHeartbeats 4000000
set_option maxRecDepth 100000
def u7 (k : Int) (r : List Int) (rn : Nat) (m : List (List Int)) (s : List Int) (sn : Nat) : Bx := ⟨k, r, rn, m, s, sn⟩
theorem oD (xs : List Bx) (k : Int) (r : List Int) (rn : Nat) (m : List (List Int)) (c : Nat) (s : List Int) (sn : Nat) (h : m.length = c) : kE xs ++ [D.lit (.int .i64 k), D.sl (dI .i64 r) rn, D.sl (kI m) c, D.sl (dI .i64 s) sn] = kE (xs ++ [u7 k r rn m s sn]) := by
 subst h; rw [lI]; rfl
def boX (l : List Int) : Bx := u7 (boK l) (boR l) (zE l) (nT l) (boS l) (zD l)
def yY (l : List Int) : Nat → List Int
 | 0 => l
 | i + 1 => boD (yY l i)
def bbL (l : List Int) : Nat → List Bx
 | 0 => []
 | i + 1 => bbL l i ++ [boX (yY l i)]
theorem u3d {l : List Int} (h : Byt l) : Byt (boD l) := by
 unfold boD bo5 bo4 bo3 bo2 bo1
 exact j7 (qH _ (aP (aP (aF (qH _ (qH _ h)) _)))) _
theorem iB {l : List Int} (h : Byt l) : ∀ i, Byt (yY l i)
 | 0 => h
 | i + 1 => u3d (iB h i)
theorem k7j (l : List Int) : 1 + kD l 3 ≤ 1000000 := by
 by_cases h : l.length = 0 ∨ (3 : Int) ≤ 1
 ·have := eB h; omega
 ·have h1 : kD l 3 = (List.getD l 0 0 % 3).toNat := by unfold kD; exact if_neg h
  have := Int.emod_lt_of_pos (List.getD l 0 0) (b := 3) (by omega)
  omega
theorem u4u (l : List Int) : BxW (boX l) := by
 have h1 := pD (aZ rtT (bo2 l) 5) (aU rtT (bo2 l) 5)
 have h2 := pD (aZ szT (bo3 l) 4) (aU szT (bo3 l) 4)
 have h3 := k25 (bo5 l) (boN l)
 have h5 := k7j (bo4 l)
 show ka0 (boR l) = zE l * 2 ∧ ka0 (boS l) = zD l * 2 ∧ zE l ≤ 1000000 ∧ zD l ≤ 1000000 ∧ ka0 (nT l) ≤ 1000000 ∧ MsW (nT l)
 unfold boR zE boS zD nT
 refine ⟨lA _ _, lA _ _, ?_, ?_, ?_, k7l _ _⟩
 ·exact Nat.le_trans h1.2 (by omega)
 ·exact Nat.le_trans h2.2 (by omega)
 ·exact Nat.le_trans h3 h5
theorem oE (l : List Int) : ∀ i, ka0 (bbL l i) = i
 | 0 => rfl
 | i + 1 => by rw [bbL, ka6, oE l i]; rfl
theorem u50 (l : List Int) : ∀ i, BsW (bbL l i)
 | 0 => BsW.nil
 | i + 1 => (u50 l i).app (BsW.one (u4u _))
theorem v2w {l : List Int} {i : Nat} {bs : List Bx} (h : bbL l i = bs) : bbL l (i + 1) = bs ++ [u7 (boK (yY l i)) (boR (yY l i)) (zE (yY l i)) (nT (yY l i)) (boS (yY l i)) (zD (yY l i))] := by
 subst h; rfl
theorem BsW.box {xs : List Bx} (h : BsW xs) (i : Nat) : BxW (u7 (kQ xs i) (kZ xs i) (kX xs i) (kL xs i) (qA xs i) (k8 xs i)) := h.get i
abbrev oQ (l : List Int) (i : Nat) : BC := .ds [D.sl (dI .u8 (yY (kB l 5) i)) (ka0 (yY (kB l 5) i))]
theorem u3r (l : List Int) (hb : Byt l) : Fun 37 [.c (.ptr 0 0), iE 0, iE 4] (kH [(0, some (95, .ds [D.sl (dI .u8 l) (ka0 l)]))]) 1 (oV 1 0 (kD l 5) 4) (kH [(0, some (95, .ds [D.sl (dI .u8 (yY (kB l 5) (kD l 5))) (ka0 (yY (kB l 5) (kD l 5)))])), (1, some (59, .ds (kE (bbL (kB l 5) (kD l 5)))))]) 2 := by
 refine Fun.mk (n := 27) Tryz.func37 rfl rfl (Nat.le_of_ble_eq_true rfl) ?_
 intro cx hcx
 refine kK [.no] True [(0, rV 0 0), (1, iV 0), (2, iV 4)] [(0, some (95, .ds [db l (ka0 l)]))] 1 trivial ?_
 refine kO [.no] True [(0, rV 0 0), (1, iV 0), (2, iV 4), (7, nV)] trivial ?_
 refine AW.seq ?_
 have hx1 : ((((((kD l 5) : Nat) : Int) < 5) ∨ ((kD l 5) = 0)) ∧ ((kD l 5) ≤ 255)) := qP l (5 : Int) (qD : Byt l)
 have hx2 : (Byt (kB l 5)) := qH (5 : Int) (qD : Byt l)
 refine kK (qE 4 [.w, .w, .call [0] (uV (kD l 5)) [(0, some (95, .ds [db (kB l 5) (ka0 (kB l 5))]))] 1 [] none, .w, .no]) (((-9223372036854775808) ≤ (4 : Int) ∧ (4 : Int) ≤ 9223372036854775807) ∧ ((-9223372036854775808) ≤ (5 : Int) ∧ (5 : Int) ≤ 9223372036854775807) ∧ (_) ∧ ((-9223372036854775808) ≤ (0 + (kD l 5 : Int)) ∧ (0 + (kD l 5 : Int)) ≤ 9223372036854775807)) [(0, rV 0 0), (7, nV), (8, iV (0 + (kD l 5 : Int)))] [(0, some (95, .ds [db (kB l 5) (ka0 (kB l 5))]))] 1 ⟨⟨by omega, by omega⟩, ⟨by omega, by omega⟩, (uS l 5 (qD : Byt l)), ⟨by omega, by omega⟩⟩ ?_
 refine AW.block ?_
 refine AW.adoptS 7 4 59 rfl ?_
 refine kY 1 hcx (fun (x : {x : Nat × List Bx // match x with | (i, bs) => (i ≤ kD l 5) ∧ (bbL (kB l 5) i = bs) ∧ (ka0 bs = i)}) => match x with | ⟨(i, bs), _⟩ => (⟨[(0, rV 0 0), (7, oV 2 0 i 4), (8, iV ((kD l 5 : Int) - (i : Int)))], [(0, some (95, (oQ l i))), (2, some (59, .ds (kE bs)))], 3⟩ : ES)) (fun x => match x with | ⟨(i, bs), _⟩ => kD l 5 - i) ⟨((0 : Nat), (([] : List Bx) : List Bx)), ⟨(by first | omega | assumption | simp), rfl, rfl⟩⟩ [(2, 1)] (P := (kJ 0) ∧ (kJ 0) ∧ (kJ 0) ∧ ((((kD l 5 : Int) - 0) : Int) = (0 + (kD l 5 : Int))) ∧ (([db (yY (kB l 5) 0) (ka0 (yY (kB l 5) 0))] : List D) = [db (kB l 5) (ka0 (kB l 5))]) ∧ (((kE ([] : List Bx)) : List D) = ([] : List D))) zk ⟨rfl, rfl, rfl, (by first | rfl | omega | assumption | (simp; done) | (simp; omega)), (by first | rfl | with_reducible assumption), (by first | rfl | with_reducible assumption)⟩ ?_
 rintro ⟨⟨i, bs⟩, hinv0⟩
 obtain ⟨hi, hB, hn⟩ : (i ≤ kD l 5) ∧ (bbL (kB l 5) i = bs) ∧ (ka0 bs = i) := hinv0
 refine qR (l := [(0, rV 0 0), (7, oV 2 0 i 4), (8, iV ((kD l 5 : Int) - (i : Int)))]) (g := [(0, some (95, (oQ l i))), (2, some (59, .ds (kE bs)))]) (nx := 3) rfl rfl rfl ?_
 refine AW.seq ?_
 by_cases hx3 : ((0 : Int) < ((((kD l 5) : Nat) : Int) - ((i : Nat) : Int)))
 ·refine kK [.no, .b true] (((0 : Int) < ((kD l 5 : Int) - (i : Int)))) [(0, rV 0 0), (7, oV 2 0 i 4), (8, iV ((kD l 5 : Int) - ↑i)), (18, bV true)] [(0, some (95, (oQ l i))), (2, some (59, .ds (kE bs)))] 3 zo ?_
  refine vB ?_
  refine AW.seq ?_
  refine AW.block ?_
  refine aH [.no, .no, .call [0] (.e (.agg [iC (boK (yY (kB l 5) i)), .d (dl (boR (yY (kB l 5) i)) (zE (yY (kB l 5) i))), .d (D.sl (kI (nT (yY (kB l 5) i))) (ka0 (nT (yY (kB l 5) i)))), .d (dl (boS (yY (kB l 5) i)) (zD (yY (kB l 5) i)))])) [(0, some (95, .ds [db (boD (yY (kB l 5) i)) (ka0 (boD (yY (kB l 5) i)))]))] 1 [] none, .no, .ap none (i + 1) (kE (bs ++ ([(u7 (boK (yY (kB l 5) i)) (boR (yY (kB l 5) i)) (zE (yY (kB l 5) i)) (nT (yY (kB l 5) i)) (boS (yY (kB l 5) i)) (zD (yY (kB l 5) i)))] : List Bx))), .no] ((_) ∧ ([iD (boK (yY (kB l 5) i)), dl (boR (yY (kB l 5) i)) (zE (yY (kB l 5) i)), D.sl (kI (nT (yY (kB l 5) i))) (ka0 (nT (yY (kB l 5) i))), dl (boS (yY (kB l 5) i)) (zD (yY (kB l 5) i))].length = 1 * 4) ∧ (((kE bs) : List D).length = i * 4) ∧ ((i + 1) * 80 ≤ 140737488355328) ∧ (i + 1 = (i + 1)) ∧ (((kE bs) : List D) ++ [iD (boK (yY (kB l 5) i)), dl (boR (yY (kB l 5) i)) (zE (yY (kB l 5) i)), D.sl (kI (nT (yY (kB l 5) i))) (ka0 (nT (yY (kB l 5) i))), dl (boS (yY (kB l 5) i)) (zD (yY (kB l 5) i))] = (kE (bs ++ ([(u7 (boK (yY (kB l 5) i)) (boR (yY (kB l 5) i)) (zE (yY (kB l 5) i)) (nT (yY (kB l 5) i)) (boS (yY (kB l 5) i)) (zD (yY (kB l 5) i)))] : List Bx))))) [(0, rV 0 0), (7, oV 4 0 (i + 1) 4), (8, iV ((kD l 5 : Int) - ↑i))] [(0, some (95, .ds [db (boD (yY (kB l 5) i)) (ka0 (boD (yY (kB l 5) i)))])), (4, some (59, .ds (kE (bs ++ ([(u7 (boK (yY (kB l 5) i)) (boR (yY (kB l 5) i)) (zE (yY (kB l 5) i)) (nT (yY (kB l 5) i)) (boS (yY (kB l 5) i)) (zD (yY (kB l 5) i)))] : List Bx)))))] 5 ⟨(v1q (yY (kB l 5) i) (iB (qD : Byt (kB l 5)) _)), (by first | omega | (simp only [qC, qB, qQ, ka6, kb0, kb1, kb2, kb3, kb4, kb8, kc5, kc0, Nat.mul_one] <;> omega) | rfl), (by first | omega | (simp only [qC, qB, qQ, ka6, kb0, kb1, kb2, kb3, kb4, kb8, kc5, kc0, Nat.mul_one] <;> omega) | rfl), zo, zo, (oD bs (boK (yY (kB l 5) i)) (boR (yY (kB l 5) i)) (zE (yY (kB l 5) i)) (nT (yY (kB l 5) i)) (ka0 (nT (yY (kB l 5) i))) (boS (yY (kB l 5) i)) (zD (yY (kB l 5) i)) (by first | rfl | omega))⟩ ?_
  refine uT [.no, .w, .no] ((-9223372036854775808) ≤ (((kD l 5 : Int) - (i : Int)) - 1) ∧ (((kD l 5 : Int) - (i : Int)) - 1) ≤ 9223372036854775807) [(0, rV 0 0), (7, oV 4 0 (i + 1) 4), (8, iV (((kD l 5 : Int) - ↑i) - 1))] ⟨by omega, by omega⟩ ?_
  exact kW ⟨(((i + 1) : Nat), ((bs ++ ([(u7 (boK (yY (kB l 5) i)) (boR (yY (kB l 5) i)) (zE (yY (kB l 5) i)) (nT (yY (kB l 5) i)) (boS (yY (kB l 5) i)) (zD (yY (kB l 5) i)))] : List Bx)) : List Bx)), ⟨(by first | omega | assumption | simp), (v2w hB), (by first | omega | (simp only [qC, qB, ka6, kb0, kb1] <;> omega))⟩⟩ [(2, 4)] (P := (kJ 0) ∧ (kJ 0) ∧ (kJ (i + 1)) ∧ ((((kD l 5 : Int) - (((i + 1) : Nat) : Int)) : Int) = (((kD l 5 : Int) - (i : Int)) - 1)) ∧ (([db (yY (kB l 5) (i + 1)) (ka0 (yY (kB l 5) (i + 1)))] : List D) = [db (boD (yY (kB l 5) i)) (ka0 (boD (yY (kB l 5) i)))]) ∧ (kM (kE (bs ++ ([(u7 (boK (yY (kB l 5) i)) (boR (yY (kB l 5) i)) (zE (yY (kB l 5) i)) (nT (yY (kB l 5) i)) (boS (yY (kB l 5) i)) (zD (yY (kB l 5) i)))] : List Bx))))) zk ⟨rfl, rfl, rfl, (by first | rfl | omega | assumption | (simp; done) | (simp; omega)), (by first | rfl | with_reducible assumption), rfl⟩ (show kD l 5 - (i + 1) < kD l 5 - i from (by first | omega | (show _ < _; simp; omega)))
 ·refine kK [.no, .b false] (¬ ((0 : Int) < ((kD l 5 : Int) - (i : Int)))) [(0, rV 0 0), (7, oV 2 0 i 4), (8, iV ((kD l 5 : Int) - ↑i)), (18, bV false)] [(0, some (95, (oQ l i))), (2, some (59, .ds (kE bs)))] 3 zo ?_
  refine zf ?_
  refine AW.exit ?_
  refine kK [.no, .no] True [(6, oV 2 0 i 4)] [(0, some (95, (oQ l i))), (2, some (59, .ds (kE bs)))] 3 trivial ?_
  obtain rfl : i = (kD l 5) := (by omega)
  refine AW.ret ?_
  exact kA (.inr rfl) [(1, 2)] (P := (kJ 0) ∧ (kJ (kD l 5)) ∧ (kM [db (yY (kB l 5) (kD l 5)) (ka0 (yY (kB l 5) (kD l 5)))]) ∧ (((kE (bbL (kB l 5) (kD l 5))) : List D) = (kE bs))) zk ⟨rfl, rfl, rfl, (by first | rfl | (rw [hB]; done) | (rw [hB]; rfl))⟩
end Go.Proofs.YtcfmjpnffembpaaGreat
