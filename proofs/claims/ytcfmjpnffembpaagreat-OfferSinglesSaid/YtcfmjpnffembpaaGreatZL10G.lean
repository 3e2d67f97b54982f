/- Lists of boxes out of dice. No statement is proved here. -/
import Derived.Test.YtcfmjpnffembpaaGreatZL10F
namespace Go.Proofs.YtcfmjpnffembpaaGreat
open Go.ChangeShapes Go.WideShapes Go.ChangeAt Go.RowKit
set_option linter.unusedVariables false
set_option linter.unusedSimpArgs false
attribute [local irreducible] seL seD seN mkL mkN nextN nextL maV thB knD mtD mtS
set_option maxHeartbeats 4000000
set_option maxRecDepth 100000
def mkBx (k : Int) (r : List Int) (rn : Nat) (m : List (List Int)) (s : List Int) (sn : Nat) : Bx := ⟨k, r, rn, m, s, sn⟩
theorem bxD_cat (xs : List Bx) (k : Int) (r : List Int) (rn : Nat) (m : List (List Int)) (c : Nat) (s : List Int) (sn : Nat) (h : m.length = c) : bxD xs ++ [D.lit (.int .i64 k), D.sl (dI .i64 r) rn, D.sl (msD m) c, D.sl (dI .i64 s) sn] = bxD (xs ++ [mkBx k r rn m s sn]) := by
 subst h; rw [bxD_app]; rfl
def boX (l : List Int) : Bx := mkBx (boK l) (boR l) (boA l) (boM l) (boS l) (boB l)
def bbD (l : List Int) : Nat → List Int
 | 0 => l
 | i + 1 => boD (bbD l i)
def bbL (l : List Int) : Nat → List Bx
 | 0 => []
 | i + 1 => bbL l i ++ [boX (bbD l i)]
theorem boD_byt {l : List Int} (h : Byt l) : Byt (boD l) := by
 unfold boD bo5 bo4 bo3 bo2 bo1
 exact mtD_byt (nextL_byt _ (seD_byt (seD_byt (knD_byt (nextL_byt _ (nextL_byt _ h)) _)))) _
theorem bbD_byt {l : List Int} (h : Byt l) : ∀ i, Byt (bbD l i)
 | 0 => h
 | i + 1 => boD_byt (bbD_byt h i)
theorem nextN_le (l : List Int) : 1 + nextN l 3 ≤ 1000000 := by
 by_cases h : l.length = 0 ∨ (3 : Int) ≤ 1
 ·have := nextV_yes h; omega
 ·have h1 : nextN l 3 = (List.getD l 0 0 % 3).toNat := by unfold nextN; exact if_neg h
  have := Int.emod_lt_of_pos (List.getD l 0 0) (b := 3) (by omega)
  omega
theorem boX_W (l : List Int) : BxW (boX l) := by
 have h1 := mk_rng (seL rtT (bo2 l) 5) (seN rtT (bo2 l) 5)
 have h2 := mk_rng (seL szT (bo3 l) 4) (seN szT (bo3 l) 4)
 have h3 := mtS_le (bo5 l) (boN l)
 have h5 := nextN_le (bo4 l)
 show List.length (boR l) = boA l * 2 ∧ List.length (boS l) = boB l * 2 ∧ boA l ≤ 1000000 ∧ boB l ≤ 1000000 ∧ List.length (boM l) ≤ 1000000 ∧ MsW (boM l)
 unfold boR boA boS boB boM
 refine ⟨mkL_len _ _, mkL_len _ _, ?_, ?_, ?_, mtS_W _ _⟩
 ·exact Nat.le_trans h1.2 (by omega)
 ·exact Nat.le_trans h2.2 (by omega)
 ·exact Nat.le_trans h3 h5
theorem bbL_len (l : List Int) : ∀ i, List.length (bbL l i) = i
 | 0 => rfl
 | i + 1 => by rw [bbL, List.length_append, bbL_len l i]; rfl
theorem bbL_W (l : List Int) : ∀ i, BsW (bbL l i)
 | 0 => BsW.nil
 | i + 1 => (bbL_W l i).app (BsW.one (boX_W _))
theorem bs_s {l : List Int} {i : Nat} {bs : List Bx} (h : bbL l i = bs) : bbL l (i + 1) = bs ++ [mkBx (boK (bbD l i)) (boR (bbD l i)) (boA (bbD l i)) (boM (bbD l i)) (boS (bbD l i)) (boB (bbD l i))] := by
 subst h; rfl
theorem BsW.box {xs : List Bx} (h : BsW xs) (i : Nat) : BxW (mkBx (qbK xs i) (qbR xs i) (qbN xs i) (qbM xs i) (qbS xs i) (qbT xs i)) := h.get i
abbrev t0G2_0 (l : List Int) (i : Nat) : BC := .ds [D.sl (dI .u8 (bbD (nextL l 5) i)) (List.length (bbD (nextL l 5) i))]
theorem G_Boxes (l : List Int) (hb : Byt l) : Fun 37 [.c (.ptr 0 0), iE 0, iE 4] (toG [(0, some (95, .ds [D.sl (dI .u8 l) (List.length l)]))]) 1 (oV 1 0 (nextN l 5) 4) (toG [(0, some (95, .ds [D.sl (dI .u8 (bbD (nextL l 5) (nextN l 5))) (List.length (bbD (nextL l 5) (nextN l 5)))])), (1, some (59, .ds (bxD (bbL (nextL l 5) (nextN l 5)))))]) 2 := by
 refine Fun.mk (n := 27) Tryz.func37 rfl rfl (Nat.le_of_ble_eq_true rfl) ?_
 intro cx hcx
 refine y9r [.no] True [(0, rV 0 0), (1, iV 0), (2, iV 4)] [(0, some (95, .ds [db l (List.length l)]))] 1 trivial ?_
 refine y9s [.no] True [(0, rV 0 0), (1, iV 0), (2, iV 4), (7, nV)] trivial ?_
 refine AW.seq ?_
 have hx1 : ((((((nextN l 5) : Nat) : Int) < 5) ∨ ((nextN l 5) = 0)) ∧ ((nextN l 5) ≤ 255)) := nextV_in l (5 : Int) ((show Byt l by with_reducible assumption))
 have hx2 : (Byt (nextL l 5)) := nextL_byt (5 : Int) ((show Byt l by with_reducible assumption))
 refine y9r (nz9 4 [.w, .w, .call [0] (uV (nextN l 5)) [(0, some (95, .ds [db (nextL l 5) (List.length (nextL l 5))]))] 1 [] none, .w, .no]) (((-9223372036854775808) ≤ (4 : Int) ∧ (4 : Int) ≤ 9223372036854775807) ∧ ((-9223372036854775808) ≤ (5 : Int) ∧ (5 : Int) ≤ 9223372036854775807) ∧ (_) ∧ ((-9223372036854775808) ≤ (0 + (nextN l 5 : Int)) ∧ (0 + (nextN l 5 : Int)) ≤ 9223372036854775807)) [(0, rV 0 0), (7, nV), (8, iV (0 + (nextN l 5 : Int)))] [(0, some (95, .ds [db (nextL l 5) (List.length (nextL l 5))]))] 1 ⟨⟨by omega, by omega⟩, ⟨by omega, by omega⟩, (G_Next l 5 (show Byt l by with_reducible assumption)), ⟨by omega, by omega⟩⟩ ?_
 refine AW.block ?_
 refine AW.adoptS 7 4 59 rfl ?_
 refine AW.loopE 1 hcx (fun (x : {x : Nat × List Bx // match x with | (i, bs) => (i ≤ nextN l 5) ∧ (bbL (nextL l 5) i = bs) ∧ (List.length bs = i)}) => match x with | ⟨(i, bs), _⟩ => (⟨[(0, rV 0 0), (7, oV 2 0 i 4), (8, iV ((nextN l 5 : Int) - (i : Int)))], [(0, some (95, (t0G2_0 l i))), (2, some (59, .ds (bxD bs)))], 3⟩ : ES)) (fun x => match x with | ⟨(i, bs), _⟩ => nextN l 5 - i) ⟨((0 : Nat), (([] : List Bx) : List Bx)), ⟨(by first | omega | assumption | simp), rfl, rfl⟩⟩ [(2, 1)] (P := (q9n 0) ∧ (q9n 0) ∧ (q9n 0) ∧ ((((nextN l 5 : Int) - 0) : Int) = (0 + (nextN l 5 : Int))) ∧ (([db (bbD (nextL l 5) 0) (List.length (bbD (nextL l 5) 0))] : List D) = [db (nextL l 5) (List.length (nextL l 5))]) ∧ (((bxD ([] : List Bx)) : List D) = ([] : List D))) zk ⟨rfl, rfl, rfl, (by first | rfl | omega | assumption | (simp; done) | (simp; omega)), (by first | rfl | with_reducible assumption), (by first | rfl | with_reducible assumption)⟩ ?_
 rintro ⟨⟨i, bs⟩, hinv0⟩
 obtain ⟨hi, hB, hn⟩ : (i ≤ nextN l 5) ∧ (bbL (nextL l 5) i = bs) ∧ (List.length bs = i) := hinv0
 refine AW.es (l := [(0, rV 0 0), (7, oV 2 0 i 4), (8, iV ((nextN l 5 : Int) - (i : Int)))]) (g := [(0, some (95, (t0G2_0 l i))), (2, some (59, .ds (bxD bs)))]) (nx := 3) rfl rfl rfl ?_
 refine AW.seq ?_
 by_cases hx3 : ((0 : Int) < ((((nextN l 5) : Nat) : Int) - ((i : Nat) : Int)))
 ·refine y9r [.no, .b true] (((0 : Int) < ((nextN l 5 : Int) - (i : Int)))) [(0, rV 0 0), (7, oV 2 0 i 4), (8, iV ((nextN l 5 : Int) - ↑i)), (18, bV true)] [(0, some (95, (t0G2_0 l i))), (2, some (59, .ds (bxD bs)))] 3 zo ?_
  refine zts ?_
  refine AW.seq ?_
  refine AW.block ?_
  refine y9g [.no, .no, .call [0] (.e (.agg [iC (boK (bbD (nextL l 5) i)), .d (dl (boR (bbD (nextL l 5) i)) (boA (bbD (nextL l 5) i))), .d (D.sl (msD (boM (bbD (nextL l 5) i))) (List.length (boM (bbD (nextL l 5) i)))), .d (dl (boS (bbD (nextL l 5) i)) (boB (bbD (nextL l 5) i)))])) [(0, some (95, .ds [db (boD (bbD (nextL l 5) i)) (List.length (boD (bbD (nextL l 5) i)))]))] 1 [] none, .no, .ap none (i + 1) (bxD (bs ++ ([(mkBx (boK (bbD (nextL l 5) i)) (boR (bbD (nextL l 5) i)) (boA (bbD (nextL l 5) i)) (boM (bbD (nextL l 5) i)) (boS (bbD (nextL l 5) i)) (boB (bbD (nextL l 5) i)))] : List Bx))), .no] ((_) ∧ ([iD (boK (bbD (nextL l 5) i)), dl (boR (bbD (nextL l 5) i)) (boA (bbD (nextL l 5) i)), D.sl (msD (boM (bbD (nextL l 5) i))) (List.length (boM (bbD (nextL l 5) i))), dl (boS (bbD (nextL l 5) i)) (boB (bbD (nextL l 5) i))].length = 1 * 4) ∧ (((bxD bs) : List D).length = i * 4) ∧ ((i + 1) * 80 ≤ 140737488355328) ∧ (i + 1 = (i + 1)) ∧ (((bxD bs) : List D) ++ [iD (boK (bbD (nextL l 5) i)), dl (boR (bbD (nextL l 5) i)) (boA (bbD (nextL l 5) i)), D.sl (msD (boM (bbD (nextL l 5) i))) (List.length (boM (bbD (nextL l 5) i))), dl (boS (bbD (nextL l 5) i)) (boB (bbD (nextL l 5) i))] = (bxD (bs ++ ([(mkBx (boK (bbD (nextL l 5) i)) (boR (bbD (nextL l 5) i)) (boA (bbD (nextL l 5) i)) (boM (bbD (nextL l 5) i)) (boS (bbD (nextL l 5) i)) (boB (bbD (nextL l 5) i)))] : List Bx))))) [(0, rV 0 0), (7, oV 4 0 (i + 1) 4), (8, iV ((nextN l 5 : Int) - ↑i))] [(0, some (95, .ds [db (boD (bbD (nextL l 5) i)) (List.length (boD (bbD (nextL l 5) i)))])), (4, some (59, .ds (bxD (bs ++ ([(mkBx (boK (bbD (nextL l 5) i)) (boR (bbD (nextL l 5) i)) (boA (bbD (nextL l 5) i)) (boM (bbD (nextL l 5) i)) (boS (bbD (nextL l 5) i)) (boB (bbD (nextL l 5) i)))] : List Bx)))))] 5 ⟨(F_Box (bbD (nextL l 5) i) (bbD_byt (show Byt (nextL l 5) by with_reducible assumption) _)), (by first | omega | (simp only [msD_len, bxD_len, dI_len, List.length_append, List.length_cons, List.length_nil, List.length_take, List.length_drop, List.length_replicate, List.length_set, List.length_map, List.length_reverse, Nat.mul_one] <;> omega) | rfl), (by first | omega | (simp only [msD_len, bxD_len, dI_len, List.length_append, List.length_cons, List.length_nil, List.length_take, List.length_drop, List.length_replicate, List.length_set, List.length_map, List.length_reverse, Nat.mul_one] <;> omega) | rfl), zo, zo, (bxD_cat bs (boK (bbD (nextL l 5) i)) (boR (bbD (nextL l 5) i)) (boA (bbD (nextL l 5) i)) (boM (bbD (nextL l 5) i)) (List.length (boM (bbD (nextL l 5) i))) (boS (bbD (nextL l 5) i)) (boB (bbD (nextL l 5) i)) (by first | rfl | omega))⟩ ?_
  refine y9h [.no, .w, .no] ((-9223372036854775808) ≤ (((nextN l 5 : Int) - (i : Int)) - 1) ∧ (((nextN l 5 : Int) - (i : Int)) - 1) ≤ 9223372036854775807) [(0, rV 0 0), (7, oV 4 0 (i + 1) 4), (8, iV (((nextN l 5 : Int) - ↑i) - 1))] ⟨by omega, by omega⟩ ?_
  exact Rd.of ⟨(((i + 1) : Nat), ((bs ++ ([(mkBx (boK (bbD (nextL l 5) i)) (boR (bbD (nextL l 5) i)) (boA (bbD (nextL l 5) i)) (boM (bbD (nextL l 5) i)) (boS (bbD (nextL l 5) i)) (boB (bbD (nextL l 5) i)))] : List Bx)) : List Bx)), ⟨(by first | omega | assumption | simp), (bs_s hB), (by first | omega | (simp only [msD_len, bxD_len, List.length_append, List.length_cons, List.length_nil] <;> omega))⟩⟩ [(2, 4)] (P := (q9n 0) ∧ (q9n 0) ∧ (q9n (i + 1)) ∧ ((((nextN l 5 : Int) - (((i + 1) : Nat) : Int)) : Int) = (((nextN l 5 : Int) - (i : Int)) - 1)) ∧ (([db (bbD (nextL l 5) (i + 1)) (List.length (bbD (nextL l 5) (i + 1)))] : List D) = [db (boD (bbD (nextL l 5) i)) (List.length (boD (bbD (nextL l 5) i)))]) ∧ (q9d (bxD (bs ++ ([(mkBx (boK (bbD (nextL l 5) i)) (boR (bbD (nextL l 5) i)) (boA (bbD (nextL l 5) i)) (boM (bbD (nextL l 5) i)) (boS (bbD (nextL l 5) i)) (boB (bbD (nextL l 5) i)))] : List Bx))))) zk ⟨rfl, rfl, rfl, (by first | rfl | omega | assumption | (simp; done) | (simp; omega)), (by first | rfl | with_reducible assumption), rfl⟩ (show nextN l 5 - (i + 1) < nextN l 5 - i from (by first | omega | (show _ < _; simp; omega)))
 ·refine y9r [.no, .b false] (¬ ((0 : Int) < ((nextN l 5 : Int) - (i : Int)))) [(0, rV 0 0), (7, oV 2 0 i 4), (8, iV ((nextN l 5 : Int) - ↑i)), (18, bV false)] [(0, some (95, (t0G2_0 l i))), (2, some (59, .ds (bxD bs)))] 3 zo ?_
  refine zf ?_
  refine AW.exit ?_
  refine y9r [.no, .no] True [(6, oV 2 0 i 4)] [(0, some (95, (t0G2_0 l i))), (2, some (59, .ds (bxD bs)))] 3 trivial ?_
  obtain rfl : i = (nextN l 5) := (by omega)
  refine AW.ret ?_
  exact EndP.of (.inr rfl) [(1, 2)] (P := (q9n 0) ∧ (q9n (nextN l 5)) ∧ (q9d [db (bbD (nextL l 5) (nextN l 5)) (List.length (bbD (nextL l 5) (nextN l 5)))]) ∧ (((bxD (bbL (nextL l 5) (nextN l 5))) : List D) = (bxD bs))) zk ⟨rfl, rfl, rfl, (by first | rfl | (rw [hB]; done) | (rw [hB]; rfl))⟩
end Go.Proofs.YtcfmjpnffembpaaGreat
