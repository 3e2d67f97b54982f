/- A law of offers. No statement is proved here. -/
import Derived.Test.YtcfmjpnffembpaaGreatZL10S
import Derived.Test.YtcfmjpnffembpaaGreatZB10
import Derived.Test.YtcfmjpnffembpaaGreatZL10U
import Derived.Test.YtcfmjpnffembpaaGreatZL10W
namespace Go.Proofs.YtcfmjpnffembpaaGreat
open Go.ChangeShapes Go.WideShapes Go.ChangeAt Go.RowKit
open List renaming length → ka0
set_option linter.unusedVariables false
set_option linter.unusedSimpArgs false
set_option maxHeartbeats 4000000
set_option maxRecDepth 100000
theorem v1p (s : List Int) (n : Nat) (hy : Byt s) (hn : ka0 s = n) (h1 : n ≤ 9223372036854775807) : Fun 8 [.c (.d (D.sl (dI .u8 s) n))] (kH []) 0 (bV true) (kH []) 0 := by
  refine Fun.mk (n := 84) Tryz.func8 rfl rfl (Nat.le_of_ble_eq_true rfl) ?_
  intro cx hcx
  refine kK [.no] True [(0, sV .u8 s n)] [] 0 trivial ?_
  refine AW.seq ?_
  refine kO [.call [] (bV true) [] 0 [] none, .no] _ [(0, sV .u8 s n), (12, bV false)] (u87) ?_
  refine q8 ?_
  obtain ⟨xs1, bs2, k3, r4, z5, m6, q7, hx1, hx2, hx3, hx4, hx5, hx6, hx7, hx8, hx9, hF7⟩ := (u82 s n (qD : Byt s) zo zo)
  refine kK (.no :: .call [] (.tup [.c (.d (D.sl (kE xs1) (ka0 xs1))), .c (.d (D.sl (kE bs2) (ka0 bs2))), .agg [iC k3, iC r4, .d (dl m6 (ka0 m6)), iC z5], .c (.ptr 0 0)]) [(0, some (95, .ds [db q7 (ka0 q7)]))] 1 [] none :: qE 10 []) _ [(3, kG (kE xs1) (ka0 xs1)), (4, kG (kE bs2) (ka0 bs2))] [] 2 hF7 ?_
  have hx10 : mO xs1 bs2 = 0 := v2j (by assumption) (by assumption) (by assumption) (by assumption) ⟨by omega, by omega⟩
  have hx11 : (((0 : Int) ≤ (mO xs1 bs2)) ∧ ((mO xs1 bs2) ≤ 3)) := u2d xs1 bs2
  have hx12 : ((ka0 (d7 xs1 bs2)) ≤ 64) := u6q xs1 bs2
  refine kO (.no :: .no :: .call [] (.tup [.c (.d (D.sl (kE (d7 xs1 bs2)) (ka0 (d7 xs1 bs2)))), iE (mO xs1 bs2)]) [] 0 [] none :: qE 5 []) _ [(3, kG (kE xs1) (ka0 xs1)), (4, kG (kE bs2) (ka0 bs2)), (7, kG (kE (d7 xs1 bs2)) (ka0 (d7 xs1 bs2))), (8, iV (mO xs1 bs2))] (v1g xs1 bs2 (ka0 xs1) (ka0 bs2) rfl rfl zo zo (qD : BsW xs1) (qD : BsW bs2)) ?_
  have hx13 : (((0 : Int) ≤ (qN xs1 bs2)) ∧ ((qN xs1 bs2) ≤ 15)) := hZ xs1 bs2
  refine kO [.no, .no, .call [] (iV (qN xs1 bs2)) [] 0 [] none, .no] _ [(3, kG (kE xs1) (ka0 xs1)), (4, kG (kE bs2) (ka0 bs2)), (7, kG (kE (d7 xs1 bs2)) (ka0 (d7 xs1 bs2))), (8, iV (mO xs1 bs2)), (9, iV (qN xs1 bs2))] (iK xs1 bs2 (ka0 xs1) (ka0 bs2) rfl rfl zo zo (qD : BsW xs1) (qD : BsW bs2)) ?_
  refine AW.seq ?_
  by_cases hx16 : ((qN xs1 bs2) = 0)
  · have hx17 : (qN xs1 bs2 = 0 ∧ 1 ≤ ka0 (d7 xs1 bs2)) ∨ (¬ qN xs1 bs2 = 0 ∧ ka0 (d7 xs1 bs2) = 0) := u0i (by assumption) (by assumption) (by assumption) (by assumption) ⟨by omega, by omega⟩
    have hx18 : qN bs2 xs1 = qN xs1 bs2 := u0h (by assumption) (by assumption) (by assumption) (by assumption) ⟨by omega, by omega⟩
    have hx19 : (((0 : Int) ≤ (qN bs2 xs1)) ∧ ((qN bs2 xs1) ≤ 15)) := hZ bs2 xs1
    refine kK (.no :: .b false :: .no :: .no :: .b true :: .no :: .no :: .b true :: qE 5 [.call [] (iV (qN bs2 xs1)) [] 0 [] none, .no, .b false, .no]) ((¬ ((mO xs1 bs2) ≠ 0)) ∧ (((qN xs1 bs2) = 0)) ∧ (((0 : Int) < (ka0 (d7 xs1 bs2) : Int))) ∧ (_) ∧ (¬ ((qN bs2 xs1) ≠ (qN xs1 bs2)))) [(3, kG (kE xs1) (ka0 xs1)), (4, kG (kE bs2) (ka0 bs2)), (9, iV (qN xs1 bs2)), (45, bV false)] [] 2 ⟨zo, zo, zo, (iK bs2 xs1 (ka0 bs2) (ka0 xs1) rfl rfl zo zo (qD : BsW bs2) (qD : BsW xs1)), zo⟩ ?_
    refine q8 ?_
    refine AW.seq ?_
    have hx20 : (1 ≤ ka0 xs1 ∧ 1 ≤ ka0 bs2) ∨ qN xs1 bs2 = 15 := xI (by assumption) (by assumption) (by assumption) (by assumption) ⟨by omega, by omega⟩
    refine kO (.no :: .b true :: qE 4 []) (((qN xs1 bs2) = 0)) [(3, kG (kE xs1) (ka0 xs1)), (4, kG (kE bs2) (ka0 bs2)), (9, iV (qN xs1 bs2)), (57, bV true)] zo ?_
    refine zt ?_
    refine kO [.no, .b true, .no, .no, .no] (((qN xs1 bs2) = 0)) [(2, bV true)] zo ?_
    refine AW.ret ?_
    exact kA (.inr rfl) [] (P := (true = true)) zk rfl
  · have hx21 : (qN xs1 bs2 = 0 ∧ 1 ≤ ka0 (d7 xs1 bs2)) ∨ (¬ qN xs1 bs2 = 0 ∧ ka0 (d7 xs1 bs2) = 0) := u0i (by assumption) (by assumption) (by assumption) (by assumption) ⟨by omega, by omega⟩
    have hx22 : qN bs2 xs1 = qN xs1 bs2 := u0h (by assumption) (by assumption) (by assumption) (by assumption) ⟨by omega, by omega⟩
    have hx23 : (((0 : Int) ≤ (qN bs2 xs1)) ∧ ((qN bs2 xs1) ≤ 15)) := hZ bs2 xs1
    refine kK (.no :: .b false :: .no :: .no :: .b false :: .no :: .no :: .b false :: qE 5 [.call [] (iV (qN bs2 xs1)) [] 0 [] none, .no, .b false, .no]) ((¬ ((mO xs1 bs2) ≠ 0)) ∧ (¬ ((qN xs1 bs2) = 0)) ∧ (¬ ((0 : Int) < (ka0 (d7 xs1 bs2) : Int))) ∧ (_) ∧ (¬ ((qN bs2 xs1) ≠ (qN xs1 bs2)))) [(3, kG (kE xs1) (ka0 xs1)), (4, kG (kE bs2) (ka0 bs2)), (9, iV (qN xs1 bs2)), (45, bV false)] [] 2 ⟨zo, zo, zo, (iK bs2 xs1 (ka0 bs2) (ka0 xs1) rfl rfl zo zo (qD : BsW bs2) (qD : BsW xs1)), zo⟩ ?_
    refine q8 ?_
    refine AW.seq ?_
    by_cases hx25 : ((((ka0 xs1) : Nat) : Int) = 0)
    · have hx26 : (1 ≤ ka0 xs1 ∧ 1 ≤ ka0 bs2) ∨ qN xs1 bs2 = 15 := xI (by assumption) (by assumption) (by assumption) (by assumption) ⟨by omega, by omega⟩
      refine kK [.no, .b false, .no, .no, .no, .b true, .no, .no, .no] ((¬ ((qN xs1 bs2) = 0)) ∧ (((ka0 xs1 : Int) = 0))) [(3, kG (kE xs1) (ka0 xs1)), (4, kG (kE bs2) (ka0 bs2)), (9, iV (qN xs1 bs2)), (57, bV true)] [] 2 ⟨zo, zo⟩ ?_
      refine zt ?_
      refine kO [.no, .b false, .no, .no, .b true, .no, .no] ((¬ ((qN xs1 bs2) = 0)) ∧ (((qN xs1 bs2) = 15))) [(2, bV true)] ⟨zo, zo⟩ ?_
      refine AW.ret ?_
      exact kA (.inr rfl) [] (P := (true = true)) zk rfl
    · by_cases hx28 : ((((ka0 bs2) : Nat) : Int) = 0)
      · have hx29 : (1 ≤ ka0 xs1 ∧ 1 ≤ ka0 bs2) ∨ qN xs1 bs2 = 15 := xI (by assumption) (by assumption) (by assumption) (by assumption) ⟨by omega, by omega⟩
        refine kK [.no, .b false, .no, .no, .no, .b false, .no, .no, .no, .no, .b true, .no] ((¬ ((qN xs1 bs2) = 0)) ∧ (¬ ((ka0 xs1 : Int) = 0)) ∧ (((ka0 bs2 : Int) = 0))) [(3, kG (kE xs1) (ka0 xs1)), (4, kG (kE bs2) (ka0 bs2)), (9, iV (qN xs1 bs2)), (57, bV true)] [] 2 ⟨zo, zo, zo⟩ ?_
        refine zt ?_
        refine kO [.no, .b false, .no, .no, .b true, .no, .no] ((¬ ((qN xs1 bs2) = 0)) ∧ (((qN xs1 bs2) = 15))) [(2, bV true)] ⟨zo, zo⟩ ?_
        refine AW.ret ?_
        exact kA (.inr rfl) [] (P := (true = true)) zk rfl
      · have hx30 : (1 ≤ ka0 xs1 ∧ 1 ≤ ka0 bs2) ∨ qN xs1 bs2 = 15 := xI (by assumption) (by assumption) (by assumption) (by assumption) ⟨by omega, by omega⟩
        refine kK [.no, .b false, .no, .no, .no, .b false, .no, .no, .no, .no, .b false, .no] ((¬ ((qN xs1 bs2) = 0)) ∧ (¬ ((ka0 xs1 : Int) = 0)) ∧ (¬ ((ka0 bs2 : Int) = 0))) [(3, kG (kE xs1) (ka0 xs1)), (4, kG (kE bs2) (ka0 bs2)), (9, iV (qN xs1 bs2)), (57, bV false)] [] 2 ⟨zo, zo, zo⟩ ?_
        refine q8 ?_
        refine AW.seq ?_
        refine kO [.no] True [(3, kG (kE xs1) (ka0 xs1)), (4, kG (kE bs2) (ka0 bs2)), (9, iV (qN xs1 bs2)), (10, iV 1)] trivial ?_
        refine AW.block ?_
        refine AW.rounds 5 ?_
        refine AWr.join hcx [(3, kG (kE xs1) (ka0 xs1)), (4, kG (kE bs2) (ka0 bs2)), (9, iV (qN xs1 bs2)), (10, iV 2)] [] 2 ?_ ?_
        · refine AW.seq ?_
          refine kK [.no, .b true] (((1 : Int) ≤ 8)) [(3, kG (kE xs1) (ka0 xs1)), (4, kG (kE bs2) (ka0 bs2)), (9, iV (qN xs1 bs2)), (10, iV 1), (65, bV true)] [] 2 zo ?_
          refine vB ?_
          refine AW.seq ?_
          refine AW.block ?_
          by_cases hx31 : ((qK (qN xs1 bs2) 1) ≠ 0)
          · have hx32 : apB xs1 bs2 (dM (qN xs1 bs2) 1) = false := xH (by assumption) (by assumption) (by assumption) (by assumption) ⟨by omega, by omega⟩ zo zo zo zo zo
            refine kK (.no :: .no :: .i (qK (qN xs1 bs2) 1) :: .b true :: qE 5 [.i (dM (qN xs1 bs2) 1), .call [] (bV false) [] 0 [] none, .no]) ((qG .and .i64 (qN xs1 bs2) 1 = (qK (qN xs1 bs2) 1)) ∧ (((qK (qN xs1 bs2) 1) ≠ 0)) ∧ (qG .andNot .i64 (qN xs1 bs2) 1 = (dM (qN xs1 bs2) 1)) ∧ (Fun 33 [.c (.d (D.sl (kE xs1) (ka0 xs1))), .c (.d (D.sl (kE bs2) (ka0 bs2))), iE (dM (qN xs1 bs2) 1)] (kH []) 0 (bV false) (kH []) 0)) [(3, kG (kE xs1) (ka0 xs1)), (4, kG (kE bs2) (ka0 bs2)), (9, iV (qN xs1 bs2)), (10, iV 1), (79, bV false)] [] 2 ⟨rfl, zo, rfl, (by have h0 := (lP xs1 bs2 (ka0 xs1) (ka0 bs2) (dM (qN xs1 bs2) 1) rfl rfl zo zo (qD : BsV xs1) (qD : BsV bs2) (qD : BsF xs1) (qD : BsF bs2) (qD : BsW xs1) (qD : BsW bs2)); rw [hx32] at h0; exact h0)⟩ ?_
            refine q8 ?_
            refine uT [.no, .w, .no] ((-9223372036854775808) ≤ (2 : Int) ∧ (2 : Int) ≤ 9223372036854775807) [(3, kG (kE xs1) (ka0 xs1)), (4, kG (kE bs2) (ka0 bs2)), (9, iV (qN xs1 bs2)), (10, iV 2)] ⟨by omega, by omega⟩ ?_
            exact kW () [] (P := (kM (kE xs1)) ∧ (kJ (ka0 xs1)) ∧ (kM (kE bs2)) ∧ (kJ (ka0 bs2)) ∧ (kN (qN xs1 bs2)) ∧ (kN 2)) zk ⟨rfl, rfl, rfl, rfl, rfl, rfl⟩ True.intro
          · refine zr [.no, .no, .i (qK (qN xs1 bs2) 1), .b false, .no, .no] [3, 4, 9, 10, 79] [] ((qG .and .i64 (qN xs1 bs2) 1 = (qK (qN xs1 bs2) 1)) ∧ (¬ ((qK (qN xs1 bs2) 1) ≠ 0))) [(3, kG (kE xs1) (ka0 xs1)), (4, kG (kE bs2) (ka0 bs2)), (9, iV (qN xs1 bs2)), (10, iV 1), (79, bV false)] [] 2 ⟨rfl, zo⟩ ?_
            refine q8 ?_
            refine aH [.no, .w, .no] ((-9223372036854775808) ≤ (2 : Int) ∧ (2 : Int) ≤ 9223372036854775807) [(3, kG (kE xs1) (ka0 xs1)), (4, kG (kE bs2) (ka0 bs2)), (9, iV (qN xs1 bs2)), (10, iV 2)] [] 2 ⟨by omega, by omega⟩ ?_
            exact kW () [] (P := (kM (kE xs1)) ∧ (kJ (ka0 xs1)) ∧ (kM (kE bs2)) ∧ (kJ (ka0 bs2)) ∧ (kN (qN xs1 bs2)) ∧ (kN 2)) zk ⟨rfl, rfl, rfl, rfl, rfl, rfl⟩ True.intro
        · refine AWr.join hcx [(3, kG (kE xs1) (ka0 xs1)), (4, kG (kE bs2) (ka0 bs2)), (9, iV (qN xs1 bs2)), (10, iV 4)] [] 2 ?_ ?_
          · refine AW.seq ?_
            refine kK [.no, .b true] (((2 : Int) ≤ 8)) [(3, kG (kE xs1) (ka0 xs1)), (4, kG (kE bs2) (ka0 bs2)), (9, iV (qN xs1 bs2)), (10, iV 2), (65, bV true)] [] 2 zo ?_
            refine vB ?_
            refine AW.seq ?_
            refine AW.block ?_
            by_cases hx33 : ((qK (qN xs1 bs2) 2) ≠ 0)
            · have hx34 : apB xs1 bs2 (dM (qN xs1 bs2) 2) = false := xH (by assumption) (by assumption) (by assumption) (by assumption) ⟨by omega, by omega⟩ zo zo zo zo zo
              refine kK (.no :: .no :: .i (qK (qN xs1 bs2) 2) :: .b true :: qE 5 [.i (dM (qN xs1 bs2) 2), .call [] (bV false) [] 0 [] none, .no]) ((qG .and .i64 (qN xs1 bs2) 2 = (qK (qN xs1 bs2) 2)) ∧ (((qK (qN xs1 bs2) 2) ≠ 0)) ∧ (qG .andNot .i64 (qN xs1 bs2) 2 = (dM (qN xs1 bs2) 2)) ∧ (Fun 33 [.c (.d (D.sl (kE xs1) (ka0 xs1))), .c (.d (D.sl (kE bs2) (ka0 bs2))), iE (dM (qN xs1 bs2) 2)] (kH []) 0 (bV false) (kH []) 0)) [(3, kG (kE xs1) (ka0 xs1)), (4, kG (kE bs2) (ka0 bs2)), (9, iV (qN xs1 bs2)), (10, iV 2), (79, bV false)] [] 2 ⟨rfl, zo, rfl, (by have h0 := (lP xs1 bs2 (ka0 xs1) (ka0 bs2) (dM (qN xs1 bs2) 2) rfl rfl zo zo (qD : BsV xs1) (qD : BsV bs2) (qD : BsF xs1) (qD : BsF bs2) (qD : BsW xs1) (qD : BsW bs2)); rw [hx34] at h0; exact h0)⟩ ?_
              refine q8 ?_
              refine uT [.no, .w, .no] ((-9223372036854775808) ≤ (4 : Int) ∧ (4 : Int) ≤ 9223372036854775807) [(3, kG (kE xs1) (ka0 xs1)), (4, kG (kE bs2) (ka0 bs2)), (9, iV (qN xs1 bs2)), (10, iV 4)] ⟨by omega, by omega⟩ ?_
              exact kW () [] (P := (kM (kE xs1)) ∧ (kJ (ka0 xs1)) ∧ (kM (kE bs2)) ∧ (kJ (ka0 bs2)) ∧ (kN (qN xs1 bs2)) ∧ (kN 4)) zk ⟨rfl, rfl, rfl, rfl, rfl, rfl⟩ True.intro
            · refine zr [.no, .no, .i (qK (qN xs1 bs2) 2), .b false, .no, .no] [3, 4, 9, 10, 79] [] ((qG .and .i64 (qN xs1 bs2) 2 = (qK (qN xs1 bs2) 2)) ∧ (¬ ((qK (qN xs1 bs2) 2) ≠ 0))) [(3, kG (kE xs1) (ka0 xs1)), (4, kG (kE bs2) (ka0 bs2)), (9, iV (qN xs1 bs2)), (10, iV 2), (79, bV false)] [] 2 ⟨rfl, zo⟩ ?_
              refine q8 ?_
              refine aH [.no, .w, .no] ((-9223372036854775808) ≤ (4 : Int) ∧ (4 : Int) ≤ 9223372036854775807) [(3, kG (kE xs1) (ka0 xs1)), (4, kG (kE bs2) (ka0 bs2)), (9, iV (qN xs1 bs2)), (10, iV 4)] [] 2 ⟨by omega, by omega⟩ ?_
              exact kW () [] (P := (kM (kE xs1)) ∧ (kJ (ka0 xs1)) ∧ (kM (kE bs2)) ∧ (kJ (ka0 bs2)) ∧ (kN (qN xs1 bs2)) ∧ (kN 4)) zk ⟨rfl, rfl, rfl, rfl, rfl, rfl⟩ True.intro
          · refine AWr.join hcx [(3, kG (kE xs1) (ka0 xs1)), (4, kG (kE bs2) (ka0 bs2)), (9, iV (qN xs1 bs2)), (10, iV 8)] [] 2 ?_ ?_
            · refine AW.seq ?_
              refine kK [.no, .b true] (((4 : Int) ≤ 8)) [(3, kG (kE xs1) (ka0 xs1)), (4, kG (kE bs2) (ka0 bs2)), (9, iV (qN xs1 bs2)), (10, iV 4), (65, bV true)] [] 2 zo ?_
              refine vB ?_
              refine AW.seq ?_
              refine AW.block ?_
              by_cases hx35 : ((qK (qN xs1 bs2) 4) ≠ 0)
              · have hx36 : apB xs1 bs2 (dM (qN xs1 bs2) 4) = false := xH (by assumption) (by assumption) (by assumption) (by assumption) ⟨by omega, by omega⟩ zo zo zo zo zo
                refine kK (.no :: .no :: .i (qK (qN xs1 bs2) 4) :: .b true :: qE 5 [.i (dM (qN xs1 bs2) 4), .call [] (bV false) [] 0 [] none, .no]) ((qG .and .i64 (qN xs1 bs2) 4 = (qK (qN xs1 bs2) 4)) ∧ (((qK (qN xs1 bs2) 4) ≠ 0)) ∧ (qG .andNot .i64 (qN xs1 bs2) 4 = (dM (qN xs1 bs2) 4)) ∧ (Fun 33 [.c (.d (D.sl (kE xs1) (ka0 xs1))), .c (.d (D.sl (kE bs2) (ka0 bs2))), iE (dM (qN xs1 bs2) 4)] (kH []) 0 (bV false) (kH []) 0)) [(3, kG (kE xs1) (ka0 xs1)), (4, kG (kE bs2) (ka0 bs2)), (9, iV (qN xs1 bs2)), (10, iV 4), (79, bV false)] [] 2 ⟨rfl, zo, rfl, (by have h0 := (lP xs1 bs2 (ka0 xs1) (ka0 bs2) (dM (qN xs1 bs2) 4) rfl rfl zo zo (qD : BsV xs1) (qD : BsV bs2) (qD : BsF xs1) (qD : BsF bs2) (qD : BsW xs1) (qD : BsW bs2)); rw [hx36] at h0; exact h0)⟩ ?_
                refine q8 ?_
                refine uT [.no, .w, .no] ((-9223372036854775808) ≤ (8 : Int) ∧ (8 : Int) ≤ 9223372036854775807) [(3, kG (kE xs1) (ka0 xs1)), (4, kG (kE bs2) (ka0 bs2)), (9, iV (qN xs1 bs2)), (10, iV 8)] ⟨by omega, by omega⟩ ?_
                exact kW () [] (P := (kM (kE xs1)) ∧ (kJ (ka0 xs1)) ∧ (kM (kE bs2)) ∧ (kJ (ka0 bs2)) ∧ (kN (qN xs1 bs2)) ∧ (kN 8)) zk ⟨rfl, rfl, rfl, rfl, rfl, rfl⟩ True.intro
              · refine zr [.no, .no, .i (qK (qN xs1 bs2) 4), .b false, .no, .no] [3, 4, 9, 10, 79] [] ((qG .and .i64 (qN xs1 bs2) 4 = (qK (qN xs1 bs2) 4)) ∧ (¬ ((qK (qN xs1 bs2) 4) ≠ 0))) [(3, kG (kE xs1) (ka0 xs1)), (4, kG (kE bs2) (ka0 bs2)), (9, iV (qN xs1 bs2)), (10, iV 4), (79, bV false)] [] 2 ⟨rfl, zo⟩ ?_
                refine q8 ?_
                refine aH [.no, .w, .no] ((-9223372036854775808) ≤ (8 : Int) ∧ (8 : Int) ≤ 9223372036854775807) [(3, kG (kE xs1) (ka0 xs1)), (4, kG (kE bs2) (ka0 bs2)), (9, iV (qN xs1 bs2)), (10, iV 8)] [] 2 ⟨by omega, by omega⟩ ?_
                exact kW () [] (P := (kM (kE xs1)) ∧ (kJ (ka0 xs1)) ∧ (kM (kE bs2)) ∧ (kJ (ka0 bs2)) ∧ (kN (qN xs1 bs2)) ∧ (kN 8)) zk ⟨rfl, rfl, rfl, rfl, rfl, rfl⟩ True.intro
            · refine AWr.join hcx [(3, kG (kE xs1) (ka0 xs1)), (4, kG (kE bs2) (ka0 bs2)), (9, iV (qN xs1 bs2)), (10, iV 16)] [] 2 ?_ ?_
              · refine AW.seq ?_
                refine kK [.no, .b true] (((8 : Int) ≤ 8)) [(3, kG (kE xs1) (ka0 xs1)), (4, kG (kE bs2) (ka0 bs2)), (9, iV (qN xs1 bs2)), (10, iV 8), (65, bV true)] [] 2 zo ?_
                refine vB ?_
                refine AW.seq ?_
                refine AW.block ?_
                by_cases hx37 : ((qK (qN xs1 bs2) 8) ≠ 0)
                · have hx38 : apB xs1 bs2 (dM (qN xs1 bs2) 8) = false := xH (by assumption) (by assumption) (by assumption) (by assumption) ⟨by omega, by omega⟩ zo zo zo zo zo
                  refine kK (.no :: .no :: .i (qK (qN xs1 bs2) 8) :: .b true :: qE 5 [.i (dM (qN xs1 bs2) 8), .call [] (bV false) [] 0 [] none, .no]) ((qG .and .i64 (qN xs1 bs2) 8 = (qK (qN xs1 bs2) 8)) ∧ (((qK (qN xs1 bs2) 8) ≠ 0)) ∧ (qG .andNot .i64 (qN xs1 bs2) 8 = (dM (qN xs1 bs2) 8)) ∧ (Fun 33 [.c (.d (D.sl (kE xs1) (ka0 xs1))), .c (.d (D.sl (kE bs2) (ka0 bs2))), iE (dM (qN xs1 bs2) 8)] (kH []) 0 (bV false) (kH []) 0)) [(3, kG (kE xs1) (ka0 xs1)), (4, kG (kE bs2) (ka0 bs2)), (9, iV (qN xs1 bs2)), (10, iV 8), (79, bV false)] [] 2 ⟨rfl, zo, rfl, (by have h0 := (lP xs1 bs2 (ka0 xs1) (ka0 bs2) (dM (qN xs1 bs2) 8) rfl rfl zo zo (qD : BsV xs1) (qD : BsV bs2) (qD : BsF xs1) (qD : BsF bs2) (qD : BsW xs1) (qD : BsW bs2)); rw [hx38] at h0; exact h0)⟩ ?_
                  refine q8 ?_
                  refine uT [.no, .w, .no] ((-9223372036854775808) ≤ (16 : Int) ∧ (16 : Int) ≤ 9223372036854775807) [(3, kG (kE xs1) (ka0 xs1)), (4, kG (kE bs2) (ka0 bs2)), (9, iV (qN xs1 bs2)), (10, iV 16)] ⟨by omega, by omega⟩ ?_
                  exact kW () [] (P := (kM (kE xs1)) ∧ (kJ (ka0 xs1)) ∧ (kM (kE bs2)) ∧ (kJ (ka0 bs2)) ∧ (kN (qN xs1 bs2)) ∧ (kN 16)) zk ⟨rfl, rfl, rfl, rfl, rfl, rfl⟩ True.intro
                · refine zr [.no, .no, .i (qK (qN xs1 bs2) 8), .b false, .no, .no] [3, 4, 9, 10, 79] [] ((qG .and .i64 (qN xs1 bs2) 8 = (qK (qN xs1 bs2) 8)) ∧ (¬ ((qK (qN xs1 bs2) 8) ≠ 0))) [(3, kG (kE xs1) (ka0 xs1)), (4, kG (kE bs2) (ka0 bs2)), (9, iV (qN xs1 bs2)), (10, iV 8), (79, bV false)] [] 2 ⟨rfl, zo⟩ ?_
                  refine q8 ?_
                  refine aH [.no, .w, .no] ((-9223372036854775808) ≤ (16 : Int) ∧ (16 : Int) ≤ 9223372036854775807) [(3, kG (kE xs1) (ka0 xs1)), (4, kG (kE bs2) (ka0 bs2)), (9, iV (qN xs1 bs2)), (10, iV 16)] [] 2 ⟨by omega, by omega⟩ ?_
                  exact kW () [] (P := (kM (kE xs1)) ∧ (kJ (ka0 xs1)) ∧ (kM (kE bs2)) ∧ (kJ (ka0 bs2)) ∧ (kN (qN xs1 bs2)) ∧ (kN 16)) zk ⟨rfl, rfl, rfl, rfl, rfl, rfl⟩ True.intro
              · refine AWr.s ?_
                refine AW.seq ?_
                refine kK [.no, .b false] (¬ ((16 : Int) ≤ 8)) [(3, kG (kE xs1) (ka0 xs1)), (4, kG (kE bs2) (ka0 bs2)), (9, iV (qN xs1 bs2)), (10, iV 16), (65, bV false)] [] 2 zo ?_
                refine zf ?_
                refine AW.exit ?_
                have hx39 : apB xs1 bs2 (qN xs1 bs2) = true := v0y (by assumption) (by assumption) (by assumption) (by assumption) ⟨by omega, by omega⟩ zo zo zo
                refine kK [.no, .no, .no, .call [] (bV true) [] 0 [] none, .no] (Fun 33 [.c (.d (D.sl (kE xs1) (ka0 xs1))), .c (.d (D.sl (kE bs2) (ka0 bs2))), iE (qN xs1 bs2)] (kH []) 0 (bV true) (kH []) 0) [(2, bV true)] [] 2 (by have h0 := (lP xs1 bs2 (ka0 xs1) (ka0 bs2) (qN xs1 bs2) rfl rfl zo zo (qD : BsV xs1) (qD : BsV bs2) (qD : BsF xs1) (qD : BsF bs2) (qD : BsW xs1) (qD : BsW bs2)); rw [hx39] at h0; exact h0) ?_
                refine AW.ret ?_
                exact kA (.inr rfl) [] (P := (true = true)) zk rfl
theorem Sl.max {k : IntKind} {w : World} {a : Option Addr} {len cap : Nat} {l : List Int} (h : Sl k w a len cap l) : ka0 l ≤ 9223372036854775807 := by
  obtain ⟨h1, h2, h3, _⟩ := h
  unfold maxLen at h3
  omega
theorem k2s {w : World}  {xa0 : Option Addr} {xl0 xc0 : Nat} {s : List Int} (hs0 : Sl .u8 w xa0 xl0 xc0 s)  : Calls Tryz.prog 8 #[.slice xa0 xl0 xc0] w fun e w' => e = .returned (.bool true) ∧ Below w.heap.size w w' :=
  (v1p s (ka0 s) (u8c fun x hx => bounds_u8 (hs0.wf x hx)) rfl hs0.max).walk ⟨u1r hs0, trivial⟩
end Go.Proofs.YtcfmjpnffembpaaGreat
