/- Lists of boxes out of dice. No statement is proved here. -/
import Derived.Test.YtcfmjpnffembpaaGreatZL10F
namespace Go.Proofs.YtcfmjpnffembpaaGreat
open Go.ChangeShapes Go.WideShapes Go.ChangeAt Go.RowKit
open List renaming length → ka0, length_append → ka6, length_cons → ka8, length_drop → kb0, length_map → kc0, length_nil → kb3, length_replicate → kb4, length_reverse → kc1, length_set → kb8, length_take → ka9
set_option linter.unusedVariables false
set_option linter.unusedSimpArgs false
attribute [local irreducible] aX yQ a6 fU vY kA kC yB rK d9 oK xP
set_option maxHeartbeats 4000000
set_option maxRecDepth 100000
def y7 (k : Int) (r : List Int) (rn : Nat) (m : List (List Int)) (s : List Int) (sn : Nat) : Bx := ⟨k, r, rn, m, s, sn⟩
theorem k23 (xs : List Bx) (k : Int) (r : List Int) (rn : Nat) (m : List (List Int)) (c : Nat) (s : List Int) (sn : Nat) (h : m.length = c) : kF xs ++ [D.lit (.int .i64 k), D.sl (dI .i64 r) rn, D.sl (kJ m) c, D.sl (dI .i64 s) sn] = kF (xs ++ [y7 k r rn m s sn]) := by
 subst h; rw [jA]; rfl
def boX (l : List Int) : Bx := y7 (boK l) (boR l) (xV l) (n3 l) (boS l) (xU l)
def yP (l : List Int) : Nat → List Int
 | 0 => l
 | i + 1 => boD (yP l i)
def qL (l : List Int) : Nat → List Bx
 | 0 => []
 | i + 1 => qL l i ++ [boX (yP l i)]
theorem k9v {l : List Int} (h : Byt l) : Byt (boD l) := by
 unfold boD bo5 bo4 bo3 bo2 bo1
 exact mN (qK _ (bU (bU (bD (qK _ (qK _ h)) _)))) _
theorem mU {l : List Int} (h : Byt l) : ∀ i, Byt (yP l i)
 | 0 => h
 | i + 1 => k9v (mU h i)
theorem k52 (l : List Int) : 1 + kA l 3 ≤ 1000000 := by
 by_cases h : l.length = 0 ∨ (3 : Int) ≤ 1
 ·have := dJ h; omega
 ·have h1 : kA l 3 = (List.getD l 0 0 % 3).toNat := by unfold kA; exact if_neg h
  have := Int.emod_lt_of_pos (List.getD l 0 0) (b := 3) (by omega)
  omega
theorem u5i (l : List Int) : BxW (boX l) := by
 have h1 := r5 (aX rtT (bo2 l) 5) (a6 rtT (bo2 l) 5)
 have h2 := r5 (aX szT (bo3 l) 4) (a6 szT (bo3 l) 4)
 have h3 := k53 (bo5 l) (boN l)
 have h5 := k52 (bo4 l)
 show ka0 (boR l) = xV l * 2 ∧ ka0 (boS l) = xU l * 2 ∧ xV l ≤ 1000000 ∧ xU l ≤ 1000000 ∧ ka0 (n3 l) ≤ 1000000 ∧ MsW (n3 l)
 unfold boR xV boS xU n3
 refine ⟨mO _ _, mO _ _, ?_, ?_, ?_, k54 _ _⟩
 ·exact Nat.le_trans h1.2 (by omega)
 ·exact Nat.le_trans h2.2 (by omega)
 ·exact Nat.le_trans h3 h5
theorem sY (l : List Int) : ∀ i, ka0 (qL l i) = i
 | 0 => rfl
 | i + 1 => by rw [qL, ka6, sY l i]; rfl
theorem k7b (l : List Int) : ∀ i, BsW (qL l i)
 | 0 => BsW.nil
 | i + 1 => (k7b l i).app (BsW.one (u5i _))
theorem u75 {l : List Int} {i : Nat} {bs : List Bx} (h : qL l i = bs) : qL l (i + 1) = bs ++ [y7 (boK (yP l i)) (boR (yP l i)) (xV (yP l i)) (n3 (yP l i)) (boS (yP l i)) (xU (yP l i))] := by
 subst h; rfl
theorem BsW.box {xs : List Bx} (h : BsW xs) (i : Nat) : BxW (y7 (qJ xs i) (qR xs i) (qM xs i) (kY xs i) (qS xs i) (qN xs i)) := h.get i
abbrev nD (l : List Int) (i : Nat) : BC := .ds [D.sl (dI .u8 (yP (kC l 5) i)) (ka0 (yP (kC l 5) i))]
theorem f8 (l : List Int) (hb : Byt l) : Fun 37 [.c (.ptr 0 0), iE 0, iE 4] (kK [(0, some (95, .ds [D.sl (dI .u8 l) (ka0 l)]))]) 1 (oV 1 0 (kA l 5) 4) (kK [(0, some (95, .ds [D.sl (dI .u8 (yP (kC l 5) (kA l 5))) (ka0 (yP (kC l 5) (kA l 5)))])), (1, some (59, .ds (kF (qL (kC l 5) (kA l 5)))))]) 2 := by
 refine Fun.mk (n := 27) Tryz.func37 rfl rfl (Nat.le_of_ble_eq_true rfl) ?_
 intro cx hcx
 refine kL [.no] True [(0, rV 0 0), (1, iV 0), (2, iV 4)] [(0, some (95, .ds [db l (ka0 l)]))] 1 trivial ?_
 refine kP [.no] True [(0, rV 0 0), (1, iV 0), (2, iV 4), (7, nV)] trivial ?_
 refine AW.seq ?_
 have hx1 : ((((((kA l 5) : Nat) : Int) < 5) ∨ ((kA l 5) = 0)) ∧ ((kA l 5) ≤ 255)) := uA l (5 : Int) (qF : Byt l)
 have hx2 : (Byt (kC l 5)) := qK (5 : Int) (qF : Byt l)
 refine kL (qA 4 [.w, .w, .call [0] (uV (kA l 5)) [(0, some (95, .ds [db (kC l 5) (ka0 (kC l 5))]))] 1 [] none, .w, .no]) (((-9223372036854775808) ≤ (4 : Int) ∧ (4 : Int) ≤ 9223372036854775807) ∧ ((-9223372036854775808) ≤ (5 : Int) ∧ (5 : Int) ≤ 9223372036854775807) ∧ (_) ∧ ((-9223372036854775808) ≤ (0 + (kA l 5 : Int)) ∧ (0 + (kA l 5 : Int)) ≤ 9223372036854775807)) [(0, rV 0 0), (7, nV), (8, iV (0 + (kA l 5 : Int)))] [(0, some (95, .ds [db (kC l 5) (ka0 (kC l 5))]))] 1 ⟨⟨by omega, by omega⟩, ⟨by omega, by omega⟩, (uQ l 5 (qF : Byt l)), ⟨by omega, by omega⟩⟩ ?_
 refine AW.block ?_
 refine AW.adoptS 7 4 59 rfl ?_
 refine kZ 1 hcx (fun (x : {x : Nat × List Bx // match x with | (i, bs) => (i ≤ kA l 5) ∧ (qL (kC l 5) i = bs) ∧ (ka0 bs = i)}) => match x with | ⟨(i, bs), _⟩ => (⟨[(0, rV 0 0), (7, oV 2 0 i 4), (8, iV ((kA l 5 : Int) - (i : Int)))], [(0, some (95, (nD l i))), (2, some (59, .ds (kF bs)))], 3⟩ : ES)) (fun x => match x with | ⟨(i, bs), _⟩ => kA l 5 - i) ⟨((0 : Nat), (([] : List Bx) : List Bx)), ⟨(by first | omega | assumption | simp), rfl, rfl⟩⟩ [(2, 1)] (P := (kH 0) ∧ (kH 0) ∧ (kH 0) ∧ ((((kA l 5 : Int) - 0) : Int) = (0 + (kA l 5 : Int))) ∧ (([db (yP (kC l 5) 0) (ka0 (yP (kC l 5) 0))] : List D) = [db (kC l 5) (ka0 (kC l 5))]) ∧ (((kF ([] : List Bx)) : List D) = ([] : List D))) zk ⟨rfl, rfl, rfl, (by first | rfl | omega | assumption | (simp; done) | (simp; omega)), (by first | rfl | with_reducible assumption), (by first | rfl | with_reducible assumption)⟩ ?_
 rintro ⟨⟨i, bs⟩, hinv0⟩
 obtain ⟨hi, hB, hn⟩ : (i ≤ kA l 5) ∧ (qL (kC l 5) i = bs) ∧ (ka0 bs = i) := hinv0
 refine qT (l := [(0, rV 0 0), (7, oV 2 0 i 4), (8, iV ((kA l 5 : Int) - (i : Int)))]) (g := [(0, some (95, (nD l i))), (2, some (59, .ds (kF bs)))]) (nx := 3) rfl rfl rfl ?_
 refine AW.seq ?_
 by_cases hx3 : ((0 : Int) < ((((kA l 5) : Nat) : Int) - ((i : Nat) : Int)))
 ·refine kL [.no, .b true] (((0 : Int) < ((kA l 5 : Int) - (i : Int)))) [(0, rV 0 0), (7, oV 2 0 i 4), (8, iV ((kA l 5 : Int) - ↑i)), (18, bV true)] [(0, some (95, (nD l i))), (2, some (59, .ds (kF bs)))] 3 zo ?_
  refine vP ?_
  refine AW.seq ?_
  refine AW.block ?_
  refine a5 [.no, .no, .call [0] (.e (.agg [iC (boK (yP (kC l 5) i)), .d (dl (boR (yP (kC l 5) i)) (xV (yP (kC l 5) i))), .d (D.sl (kJ (n3 (yP (kC l 5) i))) (ka0 (n3 (yP (kC l 5) i)))), .d (dl (boS (yP (kC l 5) i)) (xU (yP (kC l 5) i)))])) [(0, some (95, .ds [db (boD (yP (kC l 5) i)) (ka0 (boD (yP (kC l 5) i)))]))] 1 [] none, .no, .ap none (i + 1) (kF (bs ++ ([(y7 (boK (yP (kC l 5) i)) (boR (yP (kC l 5) i)) (xV (yP (kC l 5) i)) (n3 (yP (kC l 5) i)) (boS (yP (kC l 5) i)) (xU (yP (kC l 5) i)))] : List Bx))), .no] ((_) ∧ ([iD (boK (yP (kC l 5) i)), dl (boR (yP (kC l 5) i)) (xV (yP (kC l 5) i)), D.sl (kJ (n3 (yP (kC l 5) i))) (ka0 (n3 (yP (kC l 5) i))), dl (boS (yP (kC l 5) i)) (xU (yP (kC l 5) i))].length = 1 * 4) ∧ (((kF bs) : List D).length = i * 4) ∧ ((i + 1) * 80 ≤ 140737488355328) ∧ (i + 1 = (i + 1)) ∧ (((kF bs) : List D) ++ [iD (boK (yP (kC l 5) i)), dl (boR (yP (kC l 5) i)) (xV (yP (kC l 5) i)), D.sl (kJ (n3 (yP (kC l 5) i))) (ka0 (n3 (yP (kC l 5) i))), dl (boS (yP (kC l 5) i)) (xU (yP (kC l 5) i))] = (kF (bs ++ ([(y7 (boK (yP (kC l 5) i)) (boR (yP (kC l 5) i)) (xV (yP (kC l 5) i)) (n3 (yP (kC l 5) i)) (boS (yP (kC l 5) i)) (xU (yP (kC l 5) i)))] : List Bx))))) [(0, rV 0 0), (7, oV 4 0 (i + 1) 4), (8, iV ((kA l 5 : Int) - ↑i))] [(0, some (95, .ds [db (boD (yP (kC l 5) i)) (ka0 (boD (yP (kC l 5) i)))])), (4, some (59, .ds (kF (bs ++ ([(y7 (boK (yP (kC l 5) i)) (boR (yP (kC l 5) i)) (xV (yP (kC l 5) i)) (n3 (yP (kC l 5) i)) (boS (yP (kC l 5) i)) (xU (yP (kC l 5) i)))] : List Bx)))))] 5 ⟨(u68 (yP (kC l 5) i) (mU (qF : Byt (kC l 5)) _)), (by first | omega | (simp only [qC, qB, qX, ka6, ka8, kb3, ka9, kb0, kb4, kb8, kc0, kc1, Nat.mul_one] <;> omega) | rfl), (by first | omega | (simp only [qC, qB, qX, ka6, ka8, kb3, ka9, kb0, kb4, kb8, kc0, kc1, Nat.mul_one] <;> omega) | rfl), zo, zo, (k23 bs (boK (yP (kC l 5) i)) (boR (yP (kC l 5) i)) (xV (yP (kC l 5) i)) (n3 (yP (kC l 5) i)) (ka0 (n3 (yP (kC l 5) i))) (boS (yP (kC l 5) i)) (xU (yP (kC l 5) i)) (by first | rfl | omega))⟩ ?_
  refine uS [.no, .w, .no] ((-9223372036854775808) ≤ (((kA l 5 : Int) - (i : Int)) - 1) ∧ (((kA l 5 : Int) - (i : Int)) - 1) ≤ 9223372036854775807) [(0, rV 0 0), (7, oV 4 0 (i + 1) 4), (8, iV (((kA l 5 : Int) - ↑i) - 1))] ⟨by omega, by omega⟩ ?_
  exact kW ⟨(((i + 1) : Nat), ((bs ++ ([(y7 (boK (yP (kC l 5) i)) (boR (yP (kC l 5) i)) (xV (yP (kC l 5) i)) (n3 (yP (kC l 5) i)) (boS (yP (kC l 5) i)) (xU (yP (kC l 5) i)))] : List Bx)) : List Bx)), ⟨(by first | omega | assumption | simp), (u75 hB), (by first | omega | (simp only [qC, qB, ka6, ka8, kb3] <;> omega))⟩⟩ [(2, 4)] (P := (kH 0) ∧ (kH 0) ∧ (kH (i + 1)) ∧ ((((kA l 5 : Int) - (((i + 1) : Nat) : Int)) : Int) = (((kA l 5 : Int) - (i : Int)) - 1)) ∧ (([db (yP (kC l 5) (i + 1)) (ka0 (yP (kC l 5) (i + 1)))] : List D) = [db (boD (yP (kC l 5) i)) (ka0 (boD (yP (kC l 5) i)))]) ∧ (kM (kF (bs ++ ([(y7 (boK (yP (kC l 5) i)) (boR (yP (kC l 5) i)) (xV (yP (kC l 5) i)) (n3 (yP (kC l 5) i)) (boS (yP (kC l 5) i)) (xU (yP (kC l 5) i)))] : List Bx))))) zk ⟨rfl, rfl, rfl, (by first | rfl | omega | assumption | (simp; done) | (simp; omega)), (by first | rfl | with_reducible assumption), rfl⟩ (show kA l 5 - (i + 1) < kA l 5 - i from (by first | omega | (show _ < _; simp; omega)))
 ·refine kL [.no, .b false] (¬ ((0 : Int) < ((kA l 5 : Int) - (i : Int)))) [(0, rV 0 0), (7, oV 2 0 i 4), (8, iV ((kA l 5 : Int) - ↑i)), (18, bV false)] [(0, some (95, (nD l i))), (2, some (59, .ds (kF bs)))] 3 zo ?_
  refine zf ?_
  refine AW.exit ?_
  refine kL [.no, .no] True [(6, oV 2 0 i 4)] [(0, some (95, (nD l i))), (2, some (59, .ds (kF bs)))] 3 trivial ?_
  obtain rfl : i = (kA l 5) := (by omega)
  refine AW.ret ?_
  exact kD (.inr rfl) [(1, 2)] (P := (kH 0) ∧ (kH (kA l 5)) ∧ (kM [db (yP (kC l 5) (kA l 5)) (ka0 (yP (kC l 5) (kA l 5)))]) ∧ (((kF (qL (kC l 5) (kA l 5))) : List D) = (kF bs))) zk ⟨rfl, rfl, rfl, (by first | rfl | (rw [hB]; done) | (rw [hB]; rfl))⟩
end Go.Proofs.YtcfmjpnffembpaaGreat
