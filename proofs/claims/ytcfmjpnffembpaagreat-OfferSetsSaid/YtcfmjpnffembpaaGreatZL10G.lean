/- Lists of boxes out of dice. No statement is proved here. -/
import Derived.Test.YtcfmjpnffembpaaGreatZL10F
namespace Go.Proofs.YtcfmjpnffembpaaGreat
open Go.ChangeShapes Go.WideShapes Go.ChangeAt Go.RowKit
open List renaming length → ka0, length_append → ka9, length_cons → kb0, length_drop → kb5, length_map → kc0, length_nil → kb3, length_replicate → kb4, length_reverse → kb9, length_set → kc1, length_take → kb2
set_option linter.unusedVariables false
set_option linter.unusedSimpArgs false
attribute [local irreducible] bB y8 bE fP vY kA kD yH pS d7 nX xB
set_option maxHeartbeats 4000000
set_option maxRecDepth 100000
def uO (k : Int) (r : List Int) (rn : Nat) (m : List (List Int)) (s : List Int) (sn : Nat) : Bx := ⟨k, r, rn, m, s, sn⟩
theorem fZ (xs : List Bx) (k : Int) (r : List Int) (rn : Nat) (m : List (List Int)) (c : Nat) (s : List Int) (sn : Nat) (h : m.length = c) : kP xs ++ [D.lit (.int .i64 k), D.sl (dI .i64 r) rn, D.sl (kL m) c, D.sl (dI .i64 s) sn] = kP (xs ++ [uO k r rn m s sn]) := by
 subst h; rw [iT]; rfl
def boX (l : List Int) : Bx := uO (boK l) (z3 l) (xF l) (nB l) (z0 l) (xE l)
def yX (l : List Int) : Nat → List Int
 | 0 => l
 | i + 1 => boD (yX l i)
def qM (l : List Int) : Nat → List Bx
 | 0 => []
 | i + 1 => qM l i ++ [boX (yX l i)]
theorem k9a {l : List Int} (h : Byt l) : Byt (boD l) := by
 unfold boD bo5 bo4 bo3 bo2 bo1
 exact lT (qL _ (bZ (bZ (bJ (qL _ (qL _ h)) _)))) _
theorem l5 {l : List Int} (h : Byt l) : ∀ i, Byt (yX l i)
 | 0 => h
 | i + 1 => k9a (l5 h i)
theorem k47 (l : List Int) : 1 + kA l 3 ≤ 1000000 := by
 by_cases h : l.length = 0 ∨ (3 : Int) ≤ 1
 ·have := fO h; omega
 ·have h1 : kA l 3 = (List.getD l 0 0 % 3).toNat := by unfold kA; exact if_neg h
  have := Int.emod_lt_of_pos (List.getD l 0 0) (b := 3) (by omega)
  omega
theorem u6b (l : List Int) : BxW (boX l) := by
 have h1 := rH (bB rtT (bo2 l) 5) (bE rtT (bo2 l) 5)
 have h2 := rH (bB szT (bo3 l) 4) (bE szT (bo3 l) 4)
 have h3 := k49 (bo5 l) (boN l)
 have h5 := k47 (bo4 l)
 show ka0 (z3 l) = xF l * 2 ∧ ka0 (z0 l) = xE l * 2 ∧ xF l ≤ 1000000 ∧ xE l ≤ 1000000 ∧ ka0 (nB l) ≤ 1000000 ∧ MsW (nB l)
 unfold z3 xF z0 xE nB
 refine ⟨lU _ _, lU _ _, ?_, ?_, ?_, k4a _ _⟩
 ·exact Nat.le_trans h1.2 (by omega)
 ·exact Nat.le_trans h2.2 (by omega)
 ·exact Nat.le_trans h3 h5
theorem sG (l : List Int) : ∀ i, ka0 (qM l i) = i
 | 0 => rfl
 | i + 1 => by rw [qM, ka9, sG l i]; rfl
theorem k6o (l : List Int) : ∀ i, BsW (qM l i)
 | 0 => BsW.nil
 | i + 1 => (k6o l i).app (BsW.one (u6b _))
theorem u8y {l : List Int} {i : Nat} {bs : List Bx} (h : qM l i = bs) : qM l (i + 1) = bs ++ [uO (boK (yX l i)) (z3 (yX l i)) (xF (yX l i)) (nB (yX l i)) (z0 (yX l i)) (xE (yX l i))] := by
 subst h; rfl
theorem BsW.box {xs : List Bx} (h : BsW xs) (i : Nat) : BxW (uO (k9 xs i) (qF xs i) (qB xs i) (kY xs i) (qG xs i) (qC xs i)) := h.get i
abbrev mF (l : List Int) (i : Nat) : BC := .ds [D.sl (dI .u8 (yX (kD l 5) i)) (ka0 (yX (kD l 5) i))]
theorem f9 (l : List Int) (hb : Byt l) : Fun 37 [.c (.ptr 0 0), iE 0, iE 4] (kE [(0, some (95, .ds [D.sl (dI .u8 l) (ka0 l)]))]) 1 (oV 1 0 (kA l 5) 4) (kE [(0, some (95, .ds [D.sl (dI .u8 (yX (kD l 5) (kA l 5))) (ka0 (yX (kD l 5) (kA l 5)))])), (1, some (59, .ds (kP (qM (kD l 5) (kA l 5)))))]) 2 := by
 refine Fun.mk (n := 27) Tryz.func37 rfl rfl (Nat.le_of_ble_eq_true rfl) ?_
 intro cx hcx
 refine kI [.no] True [(0, rV 0 0), (1, iV 0), (2, iV 4)] [(0, some (95, .ds [db l (ka0 l)]))] 1 trivial ?_
 refine kN [.no] True [(0, rV 0 0), (1, iV 0), (2, iV 4), (7, nV)] trivial ?_
 refine AW.seq ?_
 have hx1 : ((((((kA l 5) : Nat) : Int) < 5) ∨ ((kA l 5) = 0)) ∧ ((kA l 5) ≤ 255)) := uG l (5 : Int) (kZ : Byt l)
 have hx2 : (Byt (kD l 5)) := qL (5 : Int) (kZ : Byt l)
 refine kI (kT 4 [.w, .w, .call [0] (uV (kA l 5)) [(0, some (95, .ds [db (kD l 5) (ka0 (kD l 5))]))] 1 [] none, .w, .no]) ((uZ (4 : Int)) ∧ (uZ (5 : Int)) ∧ (_) ∧ (uZ (0 + (kA l 5 : Int)))) [(0, rV 0 0), (7, nV), (8, iV (0 + (kA l 5 : Int)))] [(0, some (95, .ds [db (kD l 5) (ka0 (kD l 5))]))] 1 ⟨⟨by omega, by omega⟩, ⟨by omega, by omega⟩, (uQ l 5 (kZ : Byt l)), ⟨by omega, by omega⟩⟩ ?_
 refine AW.block ?_
 refine AW.adoptS 7 4 59 rfl ?_
 refine kU 1 hcx (fun (x : {x : Nat × List Bx // match x with | (i, bs) => (i ≤ kA l 5) ∧ (qM (kD l 5) i = bs) ∧ (ka0 bs = i)}) => match x with | ⟨(i, bs), _⟩ => (⟨[(0, rV 0 0), (7, oV 2 0 i 4), (8, iV ((kA l 5 : Int) - (i : Int)))], [(0, some (95, (mF l i))), (2, some (59, .ds (kP bs)))], 3⟩ : ES)) (fun x => match x with | ⟨(i, bs), _⟩ => kA l 5 - i) ⟨((0 : Nat), (([] : List Bx) : List Bx)), ⟨zo, rfl, rfl⟩⟩ [(2, 1)] (P := (kG 0) ∧ (kG 0) ∧ (kG 0) ∧ ((((kA l 5 : Int) - 0) : Int) = (0 + (kA l 5 : Int))) ∧ (([db (yX (kD l 5) 0) (ka0 (yX (kD l 5) 0))] : List D) = [db (kD l 5) (ka0 (kD l 5))]) ∧ (((kP ([] : List Bx)) : List D) = ([] : List D))) zk ⟨rfl, rfl, rfl, zo, (by rfl), (by rfl)⟩ ?_
 rintro ⟨⟨i, bs⟩, hinv0⟩
 obtain ⟨hi, hB, hn⟩ : (i ≤ kA l 5) ∧ (qM (kD l 5) i = bs) ∧ (ka0 bs = i) := hinv0
 refine qN (l := [(0, rV 0 0), (7, oV 2 0 i 4), (8, iV ((kA l 5 : Int) - (i : Int)))]) (g := [(0, some (95, (mF l i))), (2, some (59, .ds (kP bs)))]) (nx := 3) rfl rfl rfl ?_
 refine AW.seq ?_
 by_cases hx3 : ((0 : Int) < ((((kA l 5) : Nat) : Int) - ((i : Nat) : Int)))
 ·refine kI [.no, .b true] (((0 : Int) < ((kA l 5 : Int) - (i : Int)))) [(0, rV 0 0), (7, oV 2 0 i 4), (8, iV ((kA l 5 : Int) - ↑i)), (18, bV true)] [(0, some (95, (mF l i))), (2, some (59, .ds (kP bs)))] 3 zo ?_
  refine yW ?_
  refine AW.seq ?_
  refine AW.block ?_
  refine aD [.no, .no, .call [0] (.e (.agg [iC (boK (yX (kD l 5) i)), .d (dl (z3 (yX (kD l 5) i)) (xF (yX (kD l 5) i))), .d (D.sl (kL (nB (yX (kD l 5) i))) (ka0 (nB (yX (kD l 5) i)))), .d (dl (z0 (yX (kD l 5) i)) (xE (yX (kD l 5) i)))])) [(0, some (95, .ds [db (boD (yX (kD l 5) i)) (ka0 (boD (yX (kD l 5) i)))]))] 1 [] none, .no, .ap none (i + 1) (kP (bs ++ ([(uO (boK (yX (kD l 5) i)) (z3 (yX (kD l 5) i)) (xF (yX (kD l 5) i)) (nB (yX (kD l 5) i)) (z0 (yX (kD l 5) i)) (xE (yX (kD l 5) i)))] : List Bx))), .no] ((_) ∧ ([iD (boK (yX (kD l 5) i)), dl (z3 (yX (kD l 5) i)) (xF (yX (kD l 5) i)), D.sl (kL (nB (yX (kD l 5) i))) (ka0 (nB (yX (kD l 5) i))), dl (z0 (yX (kD l 5) i)) (xE (yX (kD l 5) i))].length = 1 * 4) ∧ (((kP bs) : List D).length = i * 4) ∧ ((i + 1) * 80 ≤ 140737488355328) ∧ (i + 1 = (i + 1)) ∧ (((kP bs) : List D) ++ [iD (boK (yX (kD l 5) i)), dl (z3 (yX (kD l 5) i)) (xF (yX (kD l 5) i)), D.sl (kL (nB (yX (kD l 5) i))) (ka0 (nB (yX (kD l 5) i))), dl (z0 (yX (kD l 5) i)) (xE (yX (kD l 5) i))] = (kP (bs ++ ([(uO (boK (yX (kD l 5) i)) (z3 (yX (kD l 5) i)) (xF (yX (kD l 5) i)) (nB (yX (kD l 5) i)) (z0 (yX (kD l 5) i)) (xE (yX (kD l 5) i)))] : List Bx))))) [(0, rV 0 0), (7, oV 4 0 (i + 1) 4), (8, iV ((kA l 5 : Int) - ↑i))] [(0, some (95, .ds [db (boD (yX (kD l 5) i)) (ka0 (boD (yX (kD l 5) i)))])), (4, some (59, .ds (kP (bs ++ ([(uO (boK (yX (kD l 5) i)) (z3 (yX (kD l 5) i)) (xF (yX (kD l 5) i)) (nB (yX (kD l 5) i)) (z0 (yX (kD l 5) i)) (xE (yX (kD l 5) i)))] : List Bx)))))] 5 ⟨(u74 (yX (kD l 5) i) (l5 (kZ : Byt (kD l 5)) _)), (by (simp only [qH, qE, uA, ka9, kb0, kb3, kb2, kb5, kb4, kc1, kc0, kb9, Nat.mul_one] <;> omega)), (by (simp only [qH, qE, uA, ka9, kb0, kb3, kb2, kb5, kb4, kc1, kc0, kb9, Nat.mul_one] <;> omega)), zo, zo, (fZ bs (boK (yX (kD l 5) i)) (z3 (yX (kD l 5) i)) (xF (yX (kD l 5) i)) (nB (yX (kD l 5) i)) (ka0 (nB (yX (kD l 5) i))) (z0 (yX (kD l 5) i)) (xE (yX (kD l 5) i)) (by rfl))⟩ ?_
  refine uJ [.no, .w, .no] (uZ (((kA l 5 : Int) - (i : Int)) - 1)) [(0, rV 0 0), (7, oV 4 0 (i + 1) 4), (8, iV (((kA l 5 : Int) - ↑i) - 1))] ⟨by omega, by omega⟩ ?_
  exact kX ⟨(((i + 1) : Nat), ((bs ++ ([(uO (boK (yX (kD l 5) i)) (z3 (yX (kD l 5) i)) (xF (yX (kD l 5) i)) (nB (yX (kD l 5) i)) (z0 (yX (kD l 5) i)) (xE (yX (kD l 5) i)))] : List Bx)) : List Bx)), ⟨zo, (u8y hB), (by (simp only [qH, qE, ka9, kb0, kb3] <;> omega))⟩⟩ [(2, 4)] (P := (kG 0) ∧ (kG 0) ∧ (kG (i + 1)) ∧ ((((kA l 5 : Int) - (((i + 1) : Nat) : Int)) : Int) = (((kA l 5 : Int) - (i : Int)) - 1)) ∧ (([db (yX (kD l 5) (i + 1)) (ka0 (yX (kD l 5) (i + 1)))] : List D) = [db (boD (yX (kD l 5) i)) (ka0 (boD (yX (kD l 5) i)))]) ∧ (kJ (kP (bs ++ ([(uO (boK (yX (kD l 5) i)) (z3 (yX (kD l 5) i)) (xF (yX (kD l 5) i)) (nB (yX (kD l 5) i)) (z0 (yX (kD l 5) i)) (xE (yX (kD l 5) i)))] : List Bx))))) zk ⟨rfl, rfl, rfl, zo, (by rfl), rfl⟩ (show kA l 5 - (i + 1) < kA l 5 - i from zo)
 ·refine kI [.no, .b false] (¬ ((0 : Int) < ((kA l 5 : Int) - (i : Int)))) [(0, rV 0 0), (7, oV 2 0 i 4), (8, iV ((kA l 5 : Int) - ↑i)), (18, bV false)] [(0, some (95, (mF l i))), (2, some (59, .ds (kP bs)))] 3 zo ?_
  refine zf ?_
  refine AW.exit ?_
  refine kI [.no, .no] True [(6, oV 2 0 i 4)] [(0, some (95, (mF l i))), (2, some (59, .ds (kP bs)))] 3 trivial ?_
  obtain rfl : i = (kA l 5) := (by omega)
  refine AW.ret ?_
  exact kC (.inr rfl) [(1, 2)] (P := (kG 0) ∧ (kG (kA l 5)) ∧ (kJ [db (yX (kD l 5) (kA l 5)) (ka0 (yX (kD l 5) (kA l 5)))]) ∧ (((kP (qM (kD l 5) (kA l 5))) : List D) = (kP bs))) zk ⟨rfl, rfl, rfl, (by (rw [hB]; done))⟩
end Go.Proofs.YtcfmjpnffembpaaGreat
