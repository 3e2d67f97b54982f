/- Descriptors are decoded as the reference does. No statement is proved here. -/
import Derived.Test.YtdbjebdomdnbkaaGreatZD11W
namespace Go.Proofs.YtdbjebdomdnbkaaGreat
open Go.ChangeShapes Go.WideShapes Go.ChangeAt Go.RowKit
open Int renaming emod_lt_of_pos → ki0, emod_nonneg → kj2, toNat → kb5
open List renaming append_nil → kd1, drop_zero → kd7, getD → ka0, length → ka1, length_append → ka4, length_cons → kb3, length_drop → kb9, length_map → kc8, length_nil → kb6, length_replicate → kb8, length_reverse → kc6, length_set → kc4, length_take → kb4, nil_append → kg9, set → kd9, take → ka2, take_of_length_le → kc3
open Nat renaming mul_one → kd0
set_option linter.unusedVariables false
set_option linter.unusedSimpArgs false
set_option maxHeartbeats 4000000
set_option maxRecDepth 100000
theorem x8 {p : Prop} (h : p := by (simp only [qA, k8, pbL_len, qP, qI, vB, uF, ka4, kb3, kb6, kb4, kb9, kb8, kc4, kc8, kc6, kd0] <;> omega)) : p := h
theorem dA {p : Prop} (h : p := by (simp only [qA, k8, pbL_len, qP, qI, vB, ka4, kb3, kb6, kb4, kb9, kb8, kc4] <;> omega)) : p := h
abbrev u7 (rw : List Int) (p : Nat) (B10 : List Int) (z11 : Nat) (A : List Int) : BC := .ds [D.sl (dI .u8 rw) p, D.sl (dI .u8 (B10 ++ (pbL (kI B10) 4))) (z11 + 4), D.sl (dI .u8 (rw ++ (pbL (kI rw) 4))) (p + 4), D.sl (dI .u8 (A ++ (pbL (kI A) 4))) (z11 + 4), D.sl (dI .u8 A) z11]
abbrev u6 (rw : List Int) (p : Nat) (B10 : List Int) (z11 : Nat) (A2 : List Int) (k : Nat) : BC := .ds [D.sl (dI .u8 rw) p, D.sl (dI .u8 (B10 ++ (pbL (kI B10) 4))) (z11 + 4), D.sl (dI .u8 (rw ++ (pbL (kI rw) 4))) (p + 4), D.sl (dI .u8 (A2 ++ (pbL (kI A2) 4))) (k + 4), D.sl (dI .u8 A2) k]
theorem u7c (rw sd : List Int) (p m : Nat) (x y u : Int) (hp : ka1 rw = p) (hb1 : p ≤ 9223372036854775807) (hy1 : Byt rw) (hm : ka1 sd = m) (hb : m ≤ 9223372036854775807) (hy : Byt sd) (hx : 0 ≤ x ∧ x ≤ 65535) (hv : 0 ≤ y ∧ y ≤ 255) (hu : 0 ≤ u ∧ u ≤ 255) : Fun 3 [.c (.d (D.sl (dI .u8 rw) p)), .c (.d (D.sl (dI .u8 sd) m)), .c (.d (D.lit (.int .u16 x))), .c (.d (D.lit (.int .u8 y))), .c (.d (D.lit (.int .u8 u)))] (kD []) 0 (bV true) (kD []) 0 := by
  refine Fun.mk (n := 94) Tryz.func3 rfl rfl (Nat.le_of_ble_eq_true rfl) ?_
  intro cx hcx
  refine kG [.no] True [(0, sV .u8 rw p), (1, sV .u8 sd m), (2, kP (D.lit (.int .u16 x))), (3, kP (D.lit (.int .u8 y))), (4, kP (D.lit (.int .u8 u)))] [] 0 trivial ?_
  refine AW.seq ?_
  refine kV [.call [] (bV true) [] 0 [] none, .no] _ [(0, sV .u8 rw p), (1, sV .u8 sd m), (2, kP (D.lit (.int .u16 x))), (3, kP (D.lit (.int .u8 y))), (4, kP (D.lit (.int .u8 u))), (21, bV false)] (u3t) ?_
  refine uM ?_
  refine AW.seq ?_
  by_cases hx1 : ((600 : Int) < ((p : Nat) : Int))
  · refine zr [.no, .no, .b true] [0, 1, 2, 3, 4, 24] [] (((600 : Int) < (p : Int))) [(0, sV .u8 rw p), (1, sV .u8 sd m), (2, kP (D.lit (.int .u16 x))), (3, kP (D.lit (.int .u8 y))), (4, kP (D.lit (.int .u8 u))), (24, bV true)] [] 0 zo ?_
    refine zt ?_
    refine kG [.no] True [(10, bV true)] [] 0 trivial ?_
    refine AW.ret ?_
    exact kB (.inr rfl) [] (P := (true = true)) zk rfl
  · refine zr [.no, .no, .b false] [0, 1, 2, 3, 4, 24] [] (¬ ((600 : Int) < (p : Int))) [(0, sV .u8 rw p), (1, sV .u8 sd m), (2, kP (D.lit (.int .u16 x))), (3, kP (D.lit (.int .u8 y))), (4, kP (D.lit (.int .u8 u))), (24, bV false)] [] 0 zo ?_
    refine uM ?_
    obtain ⟨id1, nm2, d13, d24, d35, d46, d57, bs8, n9, hx2, hF9⟩ := (u3r sd m zo zo (kL : Byt sd))
    obtain ⟨B10, z11, hx3, hx4, hx5, hx6, hx7, hF11⟩ := (k1t id1 nm2 d13 d24 d35 d46 d57 bs8 n9 zo)
    refine kG (.no :: .call [] (.e (.agg [.d (D.lit (.int .u64 id1)), .d (D.lit (.string (strOfNums nm2))), iC d13, iC d24, iC d35, iC d46, iC d57, .d (D.sl (kX bs8) n9)])) [] 0 [] none :: .call [] (.tup [.c (.d (db (B10 ++ (pbL (kI B10) 4)) (z11 + 4))), iE 0]) [] 0 [] none :: kJ 5 []) ((_) ∧ (_)) [(0, sV .u8 rw p), (2, kP (D.lit (.int .u16 x))), (3, kP (D.lit (.int .u8 y))), (4, kP (D.lit (.int .u8 u))), (11, sV .u8 (B10 ++ (pbL (kI B10) 4)) (z11 + 4))] [] 0 ⟨hF9, hF11⟩ ?_
    refine kG [.no, .no, .no, .w, .sls 0 ((z11 + 4) - 4) ((z11 + 4) - 4) (dI .u8 (ka2 ((z11 + 4) - 4) (B10 ++ (pbL (kI B10) 4)))), .ap none ((z11 + 4) - 4) (dI .u8 (ka2 ((z11 + 4) - 4) (B10 ++ (pbL (kI B10) 4)))), .no] ((qB ((((z11 + 4) : Nat) : Int) - 4)) ∧ (kQ 0) ∧ ((((((z11 + 4) : Nat) : Int) - 4) : Int) = ((((z11 + 4) - 4) : Nat) : Int)) ∧ ((0 : Nat) ≤ ((z11 + 4) - 4)) ∧ (((z11 + 4) - 4) ≤ (z11 + 4)) ∧ (((z11 + 4) - 4) - 0 = ((z11 + 4) - 4)) ∧ (ka2 (((z11 + 4) - 4) * 1) (List.drop (0 * 1) (dI .u8 (B10 ++ (pbL (kI B10) 4)))) = (dI .u8 (ka2 ((z11 + 4) - 4) (B10 ++ (pbL (kI B10) 4))))) ∧ ((dI .u8 (ka2 ((z11 + 4) - 4) (B10 ++ (pbL (kI B10) 4)))).length = ((z11 + 4) - 4) * 1) ∧ (((z11 + 4) - 4) * 1 ≤ 140737488355328) ∧ (((z11 + 4) - 4) = ((z11 + 4) - 4)) ∧ (kY (dI .u8 (ka2 ((z11 + 4) - 4) (B10 ++ (pbL (kI B10) 4)))))) [(0, sV .u8 rw p), (2, kP (D.lit (.int .u16 x))), (3, kP (D.lit (.int .u8 y))), (4, kP (D.lit (.int .u8 u))), (11, sV .u8 (B10 ++ (pbL (kI B10) 4)) (z11 + 4)), (13, oV 0 0 ((z11 + 4) - 4) 1)] [(0, some (5, .ds (dI .u8 (ka2 ((z11 + 4) - 4) (B10 ++ (pbL (kI B10) 4))))))] 1 ⟨⟨by omega, by omega⟩, rfl, zo, zo, zo, zo, (by (simp only [c9, bY, uK, kd0, Nat.zero_mul, kd7, kg9, kd1]; done)), x8, zo, rfl, rfl⟩ ?_
    rw [show ka2 (((z11 + 4) - 4)) ((B10 ++ (pbL (kI B10) 4))) = B10 from u7r (by assumption)]
    rw [show ((z11 + 4) - 4) = z11 by omega]
    have hx8 : 0 ≤ (x % ((z11 : Nat) : Int)) ∧ (x % ((z11 : Nat) : Int)) < ((z11 : Nat) : Int) := ⟨kj2 _ zo, ki0 _ zo⟩
    have hx9 : 0 ≤ (ka0 B10 (kb5 (x % ((z11 : Nat) : Int))) 0) ∧ (ka0 B10 (kb5 (x % ((z11 : Nat) : Int))) 0) ≤ 255 := (kL : Byt B10).at _ zo
    refine kG [.no, .no, .w, .no, .no, .ps, .n2 (kb5 (x % (z11 : Int))) (kb5 (x % (z11 : Int))), .d (D.lit (.int .u8 (ka0 B10 (kb5 (x % (z11 : Int))) 0))), .no, .i (((ka0 B10 (kb5 (x % (z11 : Int))) 0) + y) % 256), .n2 (kb5 (x % (z11 : Int))) (kb5 (x % (z11 : Int))), .ds (dI .u8 (kd9 B10 (kb5 (x % (z11 : Int))) (((ka0 B10 (kb5 (x % (z11 : Int))) 0) + y) % 256)))] ((qB x) ∧ ((0 : Int) ≤ (x : Int)) ∧ ((0 : Int) < ((z11 : Int) : Int)) ∧ (((x % (z11 : Int)) : Int) = (((kb5 (x % (z11 : Int))) : Nat) : Int)) ∧ ((kb5 (x % (z11 : Int))) < z11) ∧ ((0 : Nat) + (kb5 (x % (z11 : Int))) * 1 = (kb5 (x % (z11 : Int)))) ∧ ((dI .u8 B10)[(kb5 (x % (z11 : Int)))]? = some (D.lit (.int .u8 (ka0 B10 (kb5 (x % (z11 : Int))) 0)))) ∧ (IntKind.u8.wrap (((ka0 B10 (kb5 (x % (z11 : Int))) 0) + y) : Int) = (((ka0 B10 (kb5 (x % (z11 : Int))) 0) + y) % 256)) ∧ (((x % (z11 : Int)) : Int) = (((kb5 (x % (z11 : Int))) : Nat) : Int)) ∧ ((kb5 (x % (z11 : Int))) < z11) ∧ ((0 : Nat) + (kb5 (x % (z11 : Int))) * 1 = (kb5 (x % (z11 : Int)))) ∧ ((kb5 (x % (z11 : Int))) + 1 ≤ (dI .u8 B10).length) ∧ (wK (dI .u8 B10) (kb5 (x % (z11 : Int))) [D.lit (.int .u8 (((ka0 B10 (kb5 (x % (z11 : Int))) 0) + y) % 256))] = dI .u8 (kd9 B10 (kb5 (x % (z11 : Int))) (((ka0 B10 (kb5 (x % (z11 : Int))) 0) + y) % 256)))) [(0, sV .u8 rw p), (4, kP (D.lit (.int .u8 u))), (11, sV .u8 (B10 ++ (pbL (kI B10) 4)) (z11 + 4)), (13, oV 0 0 z11 1)] [(0, some (5, .ds (dI .u8 (kd9 B10 (kb5 (x % ↑z11)) (((ka0 B10 (kb5 (x % ↑z11)) 0) + y) % 256)))))] 1 ⟨⟨by omega, by omega⟩, zo, zo, zo, zo, zo, (fD _ _ _ zo), (wrap_u8 _), zo, zo, zo, x8, (k62 _ _ _ _)⟩ ?_
    refine AW.seq ?_
    by_cases hx12 : ((u % 3) = 0)
    · refine AW.freeze 0 (l' := [(0, sV .u8 rw p), (4, kP (D.lit (.int .u8 u))), (11, sV .u8 (B10 ++ (pbL (kI B10) 4)) (z11 + 4)), (13, sV .u8 (kd9 B10 (kb5 (x % (z11 : Int))) (((ka0 B10 (kb5 (x % (z11 : Int))) 0) + y) % 256)) z11)]) (g' := []) rfl (FzS.cons rfl (.same _) (FzS.cons rfl (.same _) (FzS.cons rfl (.same _) (FzS.cons rfl (.e (.c (@FzC.own 0 ((dI .u8 (kd9 B10 (kb5 (x % (z11 : Int))) (((ka0 B10 (kb5 (x % (z11 : Int))) 0) + y) % 256))) : List D) 0 z11 1 true ((dI .u8 (kd9 B10 (kb5 (x % (z11 : Int))) (((ka0 B10 (kb5 (x % (z11 : Int))) 0) + y) % 256))) : List D) (by rw [kd7, kd0, kc3 (by (simp only [qA, k8, pbL_len, qP, qI, vB, uF, ka4, kb3, kb6, kb4, kb9, kb8, kc4, kc8, kc6, kd0] <;> omega))]) x8))) FzS.nil)))) FzG.nil ?_
      have hx13 : Byt (kd9 B10 (kb5 (x % ((z11 : Nat) : Int))) (((ka0 B10 (kb5 (x % ((z11 : Nat) : Int))) 0) + y) % 256)) := (Byt.set (kL : Byt B10) _ zo)
      have hA : ka1 (kd9 B10 (kb5 (x % ((z11 : Nat) : Int))) (((ka0 B10 (kb5 (x % ((z11 : Nat) : Int))) 0) + y) % 256)) = z11 := by rw [kc4]; assumption
      generalize (kd9 B10 (kb5 (x % ((z11 : Nat) : Int))) (((ka0 B10 (kb5 (x % ((z11 : Nat) : Int))) 0) + y) % 256)) = A at *
      have hx14 : 0 ≤ (u % ((z11 : Nat) : Int)) ∧ (u % ((z11 : Nat) : Int)) < ((z11 : Nat) : Int) := ⟨kj2 _ zo, ki0 _ zo⟩
      refine kG [.no, .ps, .b true] (((0 : Int) ≤ (u : Int)) ∧ ((0 : Int) < (3 : Int)) ∧ (((u % 3) = 0))) [(0, sV .u8 rw p), (4, kP (D.lit (.int .u8 u))), (11, sV .u8 (B10 ++ (pbL (kI B10) 4)) (z11 + 4)), (13, sV .u8 A z11), (50, bV true)] [] 1 ⟨zo, zo, zo⟩ ?_
      refine zt ?_
      refine uG (kJ 4 [.w, .no, .no, .ps, .w, .sls 0 (kb5 ((z11 : Int) - (u % (z11 : Int)))) (kb5 ((z11 : Int) - (u % (z11 : Int)))) (dI .u8 (ka2 (kb5 ((z11 : Int) - (u % (z11 : Int)))) A)), .no]) ((qB u) ∧ ((0 : Int) ≤ (u : Int)) ∧ ((0 : Int) < ((z11 : Int) : Int)) ∧ (qB ((z11 : Int) - (u % (z11 : Int)))) ∧ (kQ 0) ∧ ((((z11 : Int) - (u % (z11 : Int))) : Int) = (((kb5 ((z11 : Int) - (u % (z11 : Int)))) : Nat) : Int)) ∧ ((0 : Nat) ≤ (kb5 ((z11 : Int) - (u % (z11 : Int))))) ∧ ((kb5 ((z11 : Int) - (u % (z11 : Int)))) ≤ z11) ∧ ((kb5 ((z11 : Int) - (u % (z11 : Int)))) - 0 = (kb5 ((z11 : Int) - (u % (z11 : Int))))) ∧ (ka2 ((kb5 ((z11 : Int) - (u % (z11 : Int)))) * 1) (List.drop (0 * 1) (dI .u8 A)) = (dI .u8 (ka2 (kb5 ((z11 : Int) - (u % (z11 : Int)))) A)))) [(0, sV .u8 rw p), (11, sV .u8 (B10 ++ (pbL (kI B10) 4)) (z11 + 4)), (13, sV .u8 (ka2 (kb5 (↑z11 - (u % ↑z11))) A) (kb5 (↑z11 - (u % ↑z11))))] ⟨⟨by omega, by omega⟩, zo, zo, ⟨by omega, by omega⟩, rfl, zo, zo, zo, zo, (by (simp only [c9, bY, uK, kd0, Nat.zero_mul, kd7, kg9, kd1]; done))⟩ ?_
      refine AW.seq ?_
      have hx15 : ka1 (ka2 (kb5 (((z11 : Nat) : Int) - (u % ((z11 : Nat) : Int)))) A) = (kb5 (((z11 : Nat) : Int) - (u % ((z11 : Nat) : Int)))) := (by rw [kb4]; omega)
      have hx16 : (kb5 (((z11 : Nat) : Int) - (u % ((z11 : Nat) : Int)))) ≤ 20000 := zo
      have hx17 : Byt (ka2 (kb5 (((z11 : Nat) : Int) - (u % ((z11 : Nat) : Int)))) A) := (Byt.take (kL : Byt A) _)
      generalize (ka2 (kb5 (((z11 : Nat) : Int) - (u % ((z11 : Nat) : Int)))) A) = A2 at *
      generalize (kb5 (((z11 : Nat) : Int) - (u % ((z11 : Nat) : Int)))) = k at *
      have hx18 : (Byt (rw ++ (pbL (kI rw) 4))) := ((kL : Byt rw).app (pbL_byt _ _))
      have hx19 : (Byt (A2 ++ (pbL (kI A2) 4))) := ((kL : Byt A2).app (pbL_byt _ _))
      refine kG [.no, .no, .no, .call [] (sV .u8 (rw ++ (pbL (kI rw) 4)) (p + 4)) [] 0 [] none, .no, .call [] (sV .u8 (A2 ++ (pbL (kI A2) 4)) (k + 4)) [] 0 [] none, .no, .no, .no, .no] ((_) ∧ (_)) [(68, oV 1 0 5 1), (69, iV 5), (70, iV 0)] [(1, some (22, (u6 rw p B10 z11 A2 k)))] 2 ⟨(gL rw p zo zo (kL : Byt rw)), (gL A2 k zo zo (kL : Byt A2))⟩ ?_
      refine AW.block ?_
      refine AW.rounds 6 ?_
      refine AWr.s ?_
      refine kG [.b true] (((0 : Int) < 5)) [(68, oV 1 0 5 1), (69, iV 5), (70, iV 0), (71, bV true)] [(1, some (22, (u6 rw p B10 z11 A2 k)))] 2 zo ?_
      refine AW.seq ?_
      refine u1 ?_
      refine AW.seq ?_
      refine AW.block ?_
      refine kV [.n2 0 0, .no, .no] ((kM 0) ∧ ((0 : Nat) < 5) ∧ ((0 : Nat) + 0 * 1 = 0)) [(15, sV .u8 rw p), (68, oV 1 0 5 1), (69, iV 5), (70, iV 0)] ⟨rfl, zo, zo⟩ ?_
      have hx20 : (((0 : Int) ≤ (qR rw)) ∧ ((qR rw) ≤ 6)) := (vQ rw)
      have hx21 : ((ka1 (qK rw)) ≤ 65535) := (vP (kL : Byt rw))
      have hx22 : (BsW (qK rw)) := (dG (kL : Byt rw))
      have hx23 : ((ka1 (uX rw)) ≤ 64) := (vO rw)
      refine kG (.no :: .call [] (.tup [.agg [.d (D.lit (.int .u64 (yK rw))), .d (D.lit (.string (strOfNums (uX rw)))), iC (yP rw), iC (yO rw), iC (yN rw), iC (yM rw), iC (yL rw), .d (D.sl (kX (qK rw)) (ka1 (qK rw)))], iE (qR rw)]) [] 0 [] none :: kJ 6 []) _ [(15, sV .u8 rw p), (16, rV 2 0), (17, iV (qR rw)), (68, oV 1 0 5 1), (69, iV 5), (70, iV 0)] [(1, some (22, (u6 rw p B10 z11 A2 k))), (2, some (31, .ds [D.lit (.int .u64 (yK rw)), D.lit (.string (strOfNums (uX rw))), iD (yP rw), iD (yO rw), iD (yN rw), iD (yM rw), iD (yL rw), D.sl (kX (qK rw)) (ka1 (qK rw))]))] 3 (yU rw p zo zo (kL : Byt rw)) ?_
      refine kG (.no :: .call [] (.tup [.agg [.d (D.lit (.int .u64 (yK rw))), .d (D.lit (.string (strOfNums (uX rw)))), iC (yP rw), iC (yO rw), iC (yN rw), iC (yM rw), iC (yL rw), .d (D.sl (kX (qK rw)) (ka1 (qK rw)))], iE (qR rw)]) [] 0 [] none :: kJ 6 []) _ [(16, rV 2 0), (17, iV (qR rw)), (18, rV 3 0), (19, iV (qR rw)), (68, oV 1 0 5 1), (69, iV 5), (70, iV 0)] [(1, some (22, (u6 rw p B10 z11 A2 k))), (2, some (31, .ds [D.lit (.int .u64 (yK rw)), D.lit (.string (strOfNums (uX rw))), iD (yP rw), iD (yO rw), iD (yN rw), iD (yM rw), iD (yL rw), D.sl (kX (qK rw)) (ka1 (qK rw))])), (3, some (31, .ds [D.lit (.int .u64 (yK rw)), D.lit (.string (strOfNums (uX rw))), iD (yP rw), iD (yO rw), iD (yN rw), iD (yM rw), iD (yL rw), D.sl (kX (qK rw)) (ka1 (qK rw))]))] 4 (vM rw p zo zo (kL : Byt rw)) ?_
      refine kG [.no, .no, .b false, .no, .no, .no, .call [] (bV true) [] 0 [] none, .no, .no] ((¬ ((qR rw) ≠ (qR rw))) ∧ (_)) [(68, oV 1 0 5 1), (69, iV 5), (70, iV 0), (92, bV false)] [(1, some (22, (u6 rw p B10 z11 A2 k)))] 4 ⟨zo, (aK (yK rw) (uX rw) (yP rw) (yO rw) (yN rw) (yM rw) (yL rw) (qK rw) (ka1 (qK rw)) (aI (kL : Byt rw)) zo rfl zo (kL : BsW (qK rw)))⟩ ?_
      refine uM ?_
      refine uG [.w, .no] (qB (1 : Int)) [(68, oV 1 0 5 1), (69, iV 5), (70, iV 1)] ⟨by omega, by omega⟩ ?_
      refine AWr.s ?_
      refine kG [.b true] (((1 : Int) < 5)) [(68, oV 1 0 5 1), (69, iV 5), (70, iV 1), (71, bV true)] [(1, some (22, (u6 rw p B10 z11 A2 k)))] 4 zo ?_
      refine AW.seq ?_
      refine u1 ?_
      refine AW.seq ?_
      refine AW.block ?_
      refine kV [.n2 1 1, .no, .no] ((kM 1) ∧ ((1 : Nat) < 5) ∧ ((0 : Nat) + 1 * 1 = 1)) [(15, sV .u8 (B10 ++ (pbL (kI B10) 4)) (z11 + 4)), (68, oV 1 0 5 1), (69, iV 5), (70, iV 1)] ⟨rfl, zo, zo⟩ ?_
      have hx24 : (((0 : Int) ≤ (qR (B10 ++ (pbL (kI B10) 4)))) ∧ ((qR (B10 ++ (pbL (kI B10) 4))) ≤ 6)) := (vQ (B10 ++ (pbL (kI B10) 4)))
      have hx25 : ((ka1 (qK (B10 ++ (pbL (kI B10) 4)))) ≤ 65535) := (vP ((Byt.app (kL : Byt B10) (pbL_byt _ _))))
      have hx26 : (BsW (qK (B10 ++ (pbL (kI B10) 4)))) := (dG ((Byt.app (kL : Byt B10) (pbL_byt _ _))))
      have hx27 : ((ka1 (uX (B10 ++ (pbL (kI B10) 4)))) ≤ 64) := (vO (B10 ++ (pbL (kI B10) 4)))
      refine kG (.no :: .call [] (.tup [.agg [.d (D.lit (.int .u64 (yK (B10 ++ (pbL (kI B10) 4))))), .d (D.lit (.string (strOfNums (uX (B10 ++ (pbL (kI B10) 4)))))), iC (yP (B10 ++ (pbL (kI B10) 4))), iC (yO (B10 ++ (pbL (kI B10) 4))), iC (yN (B10 ++ (pbL (kI B10) 4))), iC (yM (B10 ++ (pbL (kI B10) 4))), iC (yL (B10 ++ (pbL (kI B10) 4))), .d (D.sl (kX (qK (B10 ++ (pbL (kI B10) 4)))) (ka1 (qK (B10 ++ (pbL (kI B10) 4)))))], iE (qR (B10 ++ (pbL (kI B10) 4)))]) [] 0 [] none :: kJ 6 []) _ [(15, sV .u8 (B10 ++ (pbL (kI B10) 4)) (z11 + 4)), (16, rV 4 0), (17, iV (qR (B10 ++ (pbL (kI B10) 4)))), (68, oV 1 0 5 1), (69, iV 5), (70, iV 1)] [(1, some (22, (u6 rw p B10 z11 A2 k))), (4, some (31, .ds [D.lit (.int .u64 (yK (B10 ++ (pbL (kI B10) 4)))), D.lit (.string (strOfNums (uX (B10 ++ (pbL (kI B10) 4))))), iD (yP (B10 ++ (pbL (kI B10) 4))), iD (yO (B10 ++ (pbL (kI B10) 4))), iD (yN (B10 ++ (pbL (kI B10) 4))), iD (yM (B10 ++ (pbL (kI B10) 4))), iD (yL (B10 ++ (pbL (kI B10) 4))), D.sl (kX (qK (B10 ++ (pbL (kI B10) 4)))) (ka1 (qK (B10 ++ (pbL (kI B10) 4))))]))] 5 (yU (B10 ++ (pbL (kI B10) 4)) (z11 + 4) dA zo (Byt.app (kL : Byt B10) (pbL_byt _ _))) ?_
      refine kG (.no :: .call [] (.tup [.agg [.d (D.lit (.int .u64 (yK (B10 ++ (pbL (kI B10) 4))))), .d (D.lit (.string (strOfNums (uX (B10 ++ (pbL (kI B10) 4)))))), iC (yP (B10 ++ (pbL (kI B10) 4))), iC (yO (B10 ++ (pbL (kI B10) 4))), iC (yN (B10 ++ (pbL (kI B10) 4))), iC (yM (B10 ++ (pbL (kI B10) 4))), iC (yL (B10 ++ (pbL (kI B10) 4))), .d (D.sl (kX (qK (B10 ++ (pbL (kI B10) 4)))) (ka1 (qK (B10 ++ (pbL (kI B10) 4)))))], iE (qR (B10 ++ (pbL (kI B10) 4)))]) [] 0 [] none :: kJ 6 []) _ [(16, rV 4 0), (17, iV (qR (B10 ++ (pbL (kI B10) 4)))), (18, rV 5 0), (19, iV (qR (B10 ++ (pbL (kI B10) 4)))), (68, oV 1 0 5 1), (69, iV 5), (70, iV 1)] [(1, some (22, (u6 rw p B10 z11 A2 k))), (4, some (31, .ds [D.lit (.int .u64 (yK (B10 ++ (pbL (kI B10) 4)))), D.lit (.string (strOfNums (uX (B10 ++ (pbL (kI B10) 4))))), iD (yP (B10 ++ (pbL (kI B10) 4))), iD (yO (B10 ++ (pbL (kI B10) 4))), iD (yN (B10 ++ (pbL (kI B10) 4))), iD (yM (B10 ++ (pbL (kI B10) 4))), iD (yL (B10 ++ (pbL (kI B10) 4))), D.sl (kX (qK (B10 ++ (pbL (kI B10) 4)))) (ka1 (qK (B10 ++ (pbL (kI B10) 4))))])), (5, some (31, .ds [D.lit (.int .u64 (yK (B10 ++ (pbL (kI B10) 4)))), D.lit (.string (strOfNums (uX (B10 ++ (pbL (kI B10) 4))))), iD (yP (B10 ++ (pbL (kI B10) 4))), iD (yO (B10 ++ (pbL (kI B10) 4))), iD (yN (B10 ++ (pbL (kI B10) 4))), iD (yM (B10 ++ (pbL (kI B10) 4))), iD (yL (B10 ++ (pbL (kI B10) 4))), D.sl (kX (qK (B10 ++ (pbL (kI B10) 4)))) (ka1 (qK (B10 ++ (pbL (kI B10) 4))))]))] 6 (vM (B10 ++ (pbL (kI B10) 4)) (z11 + 4) dA zo (Byt.app (kL : Byt B10) (pbL_byt _ _))) ?_
      refine kG [.no, .no, .b false, .no, .no, .no, .call [] (bV true) [] 0 [] none, .no, .no] ((¬ ((qR (B10 ++ (pbL (kI B10) 4))) ≠ (qR (B10 ++ (pbL (kI B10) 4))))) ∧ (_)) [(68, oV 1 0 5 1), (69, iV 5), (70, iV 1), (92, bV false)] [(1, some (22, (u6 rw p B10 z11 A2 k)))] 6 ⟨zo, (aK (yK (B10 ++ (pbL (kI B10) 4))) (uX (B10 ++ (pbL (kI B10) 4))) (yP (B10 ++ (pbL (kI B10) 4))) (yO (B10 ++ (pbL (kI B10) 4))) (yN (B10 ++ (pbL (kI B10) 4))) (yM (B10 ++ (pbL (kI B10) 4))) (yL (B10 ++ (pbL (kI B10) 4))) (qK (B10 ++ (pbL (kI B10) 4))) (ka1 (qK (B10 ++ (pbL (kI B10) 4)))) (aI (Byt.app (kL : Byt B10) (pbL_byt _ _))) zo rfl zo (kL : BsW (qK (B10 ++ (pbL (kI B10) 4)))))⟩ ?_
      refine uM ?_
      refine uG [.w, .no] (qB (2 : Int)) [(68, oV 1 0 5 1), (69, iV 5), (70, iV 2)] ⟨by omega, by omega⟩ ?_
      refine AWr.s ?_
      refine kG [.b true] (((2 : Int) < 5)) [(68, oV 1 0 5 1), (69, iV 5), (70, iV 2), (71, bV true)] [(1, some (22, (u6 rw p B10 z11 A2 k)))] 6 zo ?_
      refine AW.seq ?_
      refine u1 ?_
      refine AW.seq ?_
      refine AW.block ?_
      refine kV [.n2 2 2, .no, .no] ((kM 2) ∧ ((2 : Nat) < 5) ∧ ((0 : Nat) + 2 * 1 = 2)) [(15, sV .u8 (rw ++ (pbL (kI rw) 4)) (p + 4)), (68, oV 1 0 5 1), (69, iV 5), (70, iV 2)] ⟨rfl, zo, zo⟩ ?_
      have hx28 : (((0 : Int) ≤ (qR (rw ++ (pbL (kI rw) 4)))) ∧ ((qR (rw ++ (pbL (kI rw) 4))) ≤ 6)) := (vQ (rw ++ (pbL (kI rw) 4)))
      have hx29 : ((ka1 (qK (rw ++ (pbL (kI rw) 4)))) ≤ 65535) := (vP (kL : Byt (rw ++ (pbL (kI rw) 4))))
      have hx30 : (BsW (qK (rw ++ (pbL (kI rw) 4)))) := (dG (kL : Byt (rw ++ (pbL (kI rw) 4))))
      have hx31 : ((ka1 (uX (rw ++ (pbL (kI rw) 4)))) ≤ 64) := (vO (rw ++ (pbL (kI rw) 4)))
      refine kG (.no :: .call [] (.tup [.agg [.d (D.lit (.int .u64 (yK (rw ++ (pbL (kI rw) 4))))), .d (D.lit (.string (strOfNums (uX (rw ++ (pbL (kI rw) 4)))))), iC (yP (rw ++ (pbL (kI rw) 4))), iC (yO (rw ++ (pbL (kI rw) 4))), iC (yN (rw ++ (pbL (kI rw) 4))), iC (yM (rw ++ (pbL (kI rw) 4))), iC (yL (rw ++ (pbL (kI rw) 4))), .d (D.sl (kX (qK (rw ++ (pbL (kI rw) 4)))) (ka1 (qK (rw ++ (pbL (kI rw) 4)))))], iE (qR (rw ++ (pbL (kI rw) 4)))]) [] 0 [] none :: kJ 6 []) _ [(15, sV .u8 (rw ++ (pbL (kI rw) 4)) (p + 4)), (16, rV 6 0), (17, iV (qR (rw ++ (pbL (kI rw) 4)))), (68, oV 1 0 5 1), (69, iV 5), (70, iV 2)] [(1, some (22, (u6 rw p B10 z11 A2 k))), (6, some (31, .ds [D.lit (.int .u64 (yK (rw ++ (pbL (kI rw) 4)))), D.lit (.string (strOfNums (uX (rw ++ (pbL (kI rw) 4))))), iD (yP (rw ++ (pbL (kI rw) 4))), iD (yO (rw ++ (pbL (kI rw) 4))), iD (yN (rw ++ (pbL (kI rw) 4))), iD (yM (rw ++ (pbL (kI rw) 4))), iD (yL (rw ++ (pbL (kI rw) 4))), D.sl (kX (qK (rw ++ (pbL (kI rw) 4)))) (ka1 (qK (rw ++ (pbL (kI rw) 4))))]))] 7 (yU (rw ++ (pbL (kI rw) 4)) (p + 4) dA zo (kL : Byt (rw ++ (pbL (kI rw) 4)))) ?_
      refine kG (.no :: .call [] (.tup [.agg [.d (D.lit (.int .u64 (yK (rw ++ (pbL (kI rw) 4))))), .d (D.lit (.string (strOfNums (uX (rw ++ (pbL (kI rw) 4)))))), iC (yP (rw ++ (pbL (kI rw) 4))), iC (yO (rw ++ (pbL (kI rw) 4))), iC (yN (rw ++ (pbL (kI rw) 4))), iC (yM (rw ++ (pbL (kI rw) 4))), iC (yL (rw ++ (pbL (kI rw) 4))), .d (D.sl (kX (qK (rw ++ (pbL (kI rw) 4)))) (ka1 (qK (rw ++ (pbL (kI rw) 4)))))], iE (qR (rw ++ (pbL (kI rw) 4)))]) [] 0 [] none :: kJ 6 []) _ [(16, rV 6 0), (17, iV (qR (rw ++ (pbL (kI rw) 4)))), (18, rV 7 0), (19, iV (qR (rw ++ (pbL (kI rw) 4)))), (68, oV 1 0 5 1), (69, iV 5), (70, iV 2)] [(1, some (22, (u6 rw p B10 z11 A2 k))), (6, some (31, .ds [D.lit (.int .u64 (yK (rw ++ (pbL (kI rw) 4)))), D.lit (.string (strOfNums (uX (rw ++ (pbL (kI rw) 4))))), iD (yP (rw ++ (pbL (kI rw) 4))), iD (yO (rw ++ (pbL (kI rw) 4))), iD (yN (rw ++ (pbL (kI rw) 4))), iD (yM (rw ++ (pbL (kI rw) 4))), iD (yL (rw ++ (pbL (kI rw) 4))), D.sl (kX (qK (rw ++ (pbL (kI rw) 4)))) (ka1 (qK (rw ++ (pbL (kI rw) 4))))])), (7, some (31, .ds [D.lit (.int .u64 (yK (rw ++ (pbL (kI rw) 4)))), D.lit (.string (strOfNums (uX (rw ++ (pbL (kI rw) 4))))), iD (yP (rw ++ (pbL (kI rw) 4))), iD (yO (rw ++ (pbL (kI rw) 4))), iD (yN (rw ++ (pbL (kI rw) 4))), iD (yM (rw ++ (pbL (kI rw) 4))), iD (yL (rw ++ (pbL (kI rw) 4))), D.sl (kX (qK (rw ++ (pbL (kI rw) 4)))) (ka1 (qK (rw ++ (pbL (kI rw) 4))))]))] 8 (vM (rw ++ (pbL (kI rw) 4)) (p + 4) dA zo (kL : Byt (rw ++ (pbL (kI rw) 4)))) ?_
      refine kG [.no, .no, .b false, .no, .no, .no, .call [] (bV true) [] 0 [] none, .no, .no] ((¬ ((qR (rw ++ (pbL (kI rw) 4))) ≠ (qR (rw ++ (pbL (kI rw) 4))))) ∧ (_)) [(68, oV 1 0 5 1), (69, iV 5), (70, iV 2), (92, bV false)] [(1, some (22, (u6 rw p B10 z11 A2 k)))] 8 ⟨zo, (aK (yK (rw ++ (pbL (kI rw) 4))) (uX (rw ++ (pbL (kI rw) 4))) (yP (rw ++ (pbL (kI rw) 4))) (yO (rw ++ (pbL (kI rw) 4))) (yN (rw ++ (pbL (kI rw) 4))) (yM (rw ++ (pbL (kI rw) 4))) (yL (rw ++ (pbL (kI rw) 4))) (qK (rw ++ (pbL (kI rw) 4))) (ka1 (qK (rw ++ (pbL (kI rw) 4)))) (aI (kL : Byt (rw ++ (pbL (kI rw) 4)))) zo rfl zo (kL : BsW (qK (rw ++ (pbL (kI rw) 4)))))⟩ ?_
      refine uM ?_
      refine uG [.w, .no] (qB (3 : Int)) [(68, oV 1 0 5 1), (69, iV 5), (70, iV 3)] ⟨by omega, by omega⟩ ?_
      refine AWr.s ?_
      refine kG [.b true] (((3 : Int) < 5)) [(68, oV 1 0 5 1), (69, iV 5), (70, iV 3), (71, bV true)] [(1, some (22, (u6 rw p B10 z11 A2 k)))] 8 zo ?_
      refine AW.seq ?_
      refine u1 ?_
      refine AW.seq ?_
      refine AW.block ?_
      refine kV [.n2 3 3, .no, .no] ((kM 3) ∧ ((3 : Nat) < 5) ∧ ((0 : Nat) + 3 * 1 = 3)) [(15, sV .u8 (A2 ++ (pbL (kI A2) 4)) (k + 4)), (68, oV 1 0 5 1), (69, iV 5), (70, iV 3)] ⟨rfl, zo, zo⟩ ?_
      have hx32 : (((0 : Int) ≤ (qR (A2 ++ (pbL (kI A2) 4)))) ∧ ((qR (A2 ++ (pbL (kI A2) 4))) ≤ 6)) := (vQ (A2 ++ (pbL (kI A2) 4)))
      have hx33 : ((ka1 (qK (A2 ++ (pbL (kI A2) 4)))) ≤ 65535) := (vP (kL : Byt (A2 ++ (pbL (kI A2) 4))))
      have hx34 : (BsW (qK (A2 ++ (pbL (kI A2) 4)))) := (dG (kL : Byt (A2 ++ (pbL (kI A2) 4))))
      have hx35 : ((ka1 (uX (A2 ++ (pbL (kI A2) 4)))) ≤ 64) := (vO (A2 ++ (pbL (kI A2) 4)))
      refine kG (.no :: .call [] (.tup [.agg [.d (D.lit (.int .u64 (yK (A2 ++ (pbL (kI A2) 4))))), .d (D.lit (.string (strOfNums (uX (A2 ++ (pbL (kI A2) 4)))))), iC (yP (A2 ++ (pbL (kI A2) 4))), iC (yO (A2 ++ (pbL (kI A2) 4))), iC (yN (A2 ++ (pbL (kI A2) 4))), iC (yM (A2 ++ (pbL (kI A2) 4))), iC (yL (A2 ++ (pbL (kI A2) 4))), .d (D.sl (kX (qK (A2 ++ (pbL (kI A2) 4)))) (ka1 (qK (A2 ++ (pbL (kI A2) 4)))))], iE (qR (A2 ++ (pbL (kI A2) 4)))]) [] 0 [] none :: kJ 6 []) _ [(15, sV .u8 (A2 ++ (pbL (kI A2) 4)) (k + 4)), (16, rV 8 0), (17, iV (qR (A2 ++ (pbL (kI A2) 4)))), (68, oV 1 0 5 1), (69, iV 5), (70, iV 3)] [(1, some (22, (u6 rw p B10 z11 A2 k))), (8, some (31, .ds [D.lit (.int .u64 (yK (A2 ++ (pbL (kI A2) 4)))), D.lit (.string (strOfNums (uX (A2 ++ (pbL (kI A2) 4))))), iD (yP (A2 ++ (pbL (kI A2) 4))), iD (yO (A2 ++ (pbL (kI A2) 4))), iD (yN (A2 ++ (pbL (kI A2) 4))), iD (yM (A2 ++ (pbL (kI A2) 4))), iD (yL (A2 ++ (pbL (kI A2) 4))), D.sl (kX (qK (A2 ++ (pbL (kI A2) 4)))) (ka1 (qK (A2 ++ (pbL (kI A2) 4))))]))] 9 (yU (A2 ++ (pbL (kI A2) 4)) (k + 4) dA zo (kL : Byt (A2 ++ (pbL (kI A2) 4)))) ?_
      refine kG (.no :: .call [] (.tup [.agg [.d (D.lit (.int .u64 (yK (A2 ++ (pbL (kI A2) 4))))), .d (D.lit (.string (strOfNums (uX (A2 ++ (pbL (kI A2) 4)))))), iC (yP (A2 ++ (pbL (kI A2) 4))), iC (yO (A2 ++ (pbL (kI A2) 4))), iC (yN (A2 ++ (pbL (kI A2) 4))), iC (yM (A2 ++ (pbL (kI A2) 4))), iC (yL (A2 ++ (pbL (kI A2) 4))), .d (D.sl (kX (qK (A2 ++ (pbL (kI A2) 4)))) (ka1 (qK (A2 ++ (pbL (kI A2) 4)))))], iE (qR (A2 ++ (pbL (kI A2) 4)))]) [] 0 [] none :: kJ 6 []) _ [(16, rV 8 0), (17, iV (qR (A2 ++ (pbL (kI A2) 4)))), (18, rV 9 0), (19, iV (qR (A2 ++ (pbL (kI A2) 4)))), (68, oV 1 0 5 1), (69, iV 5), (70, iV 3)] [(1, some (22, (u6 rw p B10 z11 A2 k))), (8, some (31, .ds [D.lit (.int .u64 (yK (A2 ++ (pbL (kI A2) 4)))), D.lit (.string (strOfNums (uX (A2 ++ (pbL (kI A2) 4))))), iD (yP (A2 ++ (pbL (kI A2) 4))), iD (yO (A2 ++ (pbL (kI A2) 4))), iD (yN (A2 ++ (pbL (kI A2) 4))), iD (yM (A2 ++ (pbL (kI A2) 4))), iD (yL (A2 ++ (pbL (kI A2) 4))), D.sl (kX (qK (A2 ++ (pbL (kI A2) 4)))) (ka1 (qK (A2 ++ (pbL (kI A2) 4))))])), (9, some (31, .ds [D.lit (.int .u64 (yK (A2 ++ (pbL (kI A2) 4)))), D.lit (.string (strOfNums (uX (A2 ++ (pbL (kI A2) 4))))), iD (yP (A2 ++ (pbL (kI A2) 4))), iD (yO (A2 ++ (pbL (kI A2) 4))), iD (yN (A2 ++ (pbL (kI A2) 4))), iD (yM (A2 ++ (pbL (kI A2) 4))), iD (yL (A2 ++ (pbL (kI A2) 4))), D.sl (kX (qK (A2 ++ (pbL (kI A2) 4)))) (ka1 (qK (A2 ++ (pbL (kI A2) 4))))]))] 10 (vM (A2 ++ (pbL (kI A2) 4)) (k + 4) dA zo (kL : Byt (A2 ++ (pbL (kI A2) 4)))) ?_
      refine kG [.no, .no, .b false, .no, .no, .no, .call [] (bV true) [] 0 [] none, .no, .no] ((¬ ((qR (A2 ++ (pbL (kI A2) 4))) ≠ (qR (A2 ++ (pbL (kI A2) 4))))) ∧ (_)) [(68, oV 1 0 5 1), (69, iV 5), (70, iV 3), (92, bV false)] [(1, some (22, (u6 rw p B10 z11 A2 k)))] 10 ⟨zo, (aK (yK (A2 ++ (pbL (kI A2) 4))) (uX (A2 ++ (pbL (kI A2) 4))) (yP (A2 ++ (pbL (kI A2) 4))) (yO (A2 ++ (pbL (kI A2) 4))) (yN (A2 ++ (pbL (kI A2) 4))) (yM (A2 ++ (pbL (kI A2) 4))) (yL (A2 ++ (pbL (kI A2) 4))) (qK (A2 ++ (pbL (kI A2) 4))) (ka1 (qK (A2 ++ (pbL (kI A2) 4)))) (aI (kL : Byt (A2 ++ (pbL (kI A2) 4)))) zo rfl zo (kL : BsW (qK (A2 ++ (pbL (kI A2) 4)))))⟩ ?_
      refine uM ?_
      refine uG [.w, .no] (qB (4 : Int)) [(68, oV 1 0 5 1), (69, iV 5), (70, iV 4)] ⟨by omega, by omega⟩ ?_
      refine AWr.s ?_
      refine kG [.b true] (((4 : Int) < 5)) [(68, oV 1 0 5 1), (69, iV 5), (70, iV 4), (71, bV true)] [(1, some (22, (u6 rw p B10 z11 A2 k)))] 10 zo ?_
      refine AW.seq ?_
      refine u1 ?_
      refine AW.seq ?_
      refine AW.block ?_
      refine kV [.n2 4 4, .no, .no] ((kM 4) ∧ ((4 : Nat) < 5) ∧ ((0 : Nat) + 4 * 1 = 4)) [(15, sV .u8 A2 k), (68, oV 1 0 5 1), (69, iV 5), (70, iV 4)] ⟨rfl, zo, zo⟩ ?_
      have hx36 : (((0 : Int) ≤ (qR A2)) ∧ ((qR A2) ≤ 6)) := (vQ A2)
      have hx37 : ((ka1 (qK A2)) ≤ 65535) := (vP (kL : Byt A2))
      have hx38 : (BsW (qK A2)) := (dG (kL : Byt A2))
      have hx39 : ((ka1 (uX A2)) ≤ 64) := (vO A2)
      refine kG (.no :: .call [] (.tup [.agg [.d (D.lit (.int .u64 (yK A2))), .d (D.lit (.string (strOfNums (uX A2)))), iC (yP A2), iC (yO A2), iC (yN A2), iC (yM A2), iC (yL A2), .d (D.sl (kX (qK A2)) (ka1 (qK A2)))], iE (qR A2)]) [] 0 [] none :: kJ 6 []) _ [(15, sV .u8 A2 k), (16, rV 10 0), (17, iV (qR A2)), (68, oV 1 0 5 1), (69, iV 5), (70, iV 4)] [(1, some (22, (u6 rw p B10 z11 A2 k))), (10, some (31, .ds [D.lit (.int .u64 (yK A2)), D.lit (.string (strOfNums (uX A2))), iD (yP A2), iD (yO A2), iD (yN A2), iD (yM A2), iD (yL A2), D.sl (kX (qK A2)) (ka1 (qK A2))]))] 11 (yU A2 k zo zo (kL : Byt A2)) ?_
      refine kG (.no :: .call [] (.tup [.agg [.d (D.lit (.int .u64 (yK A2))), .d (D.lit (.string (strOfNums (uX A2)))), iC (yP A2), iC (yO A2), iC (yN A2), iC (yM A2), iC (yL A2), .d (D.sl (kX (qK A2)) (ka1 (qK A2)))], iE (qR A2)]) [] 0 [] none :: kJ 6 []) _ [(16, rV 10 0), (17, iV (qR A2)), (18, rV 11 0), (19, iV (qR A2)), (68, oV 1 0 5 1), (69, iV 5), (70, iV 4)] [(1, some (22, (u6 rw p B10 z11 A2 k))), (10, some (31, .ds [D.lit (.int .u64 (yK A2)), D.lit (.string (strOfNums (uX A2))), iD (yP A2), iD (yO A2), iD (yN A2), iD (yM A2), iD (yL A2), D.sl (kX (qK A2)) (ka1 (qK A2))])), (11, some (31, .ds [D.lit (.int .u64 (yK A2)), D.lit (.string (strOfNums (uX A2))), iD (yP A2), iD (yO A2), iD (yN A2), iD (yM A2), iD (yL A2), D.sl (kX (qK A2)) (ka1 (qK A2))]))] 12 (vM A2 k zo zo (kL : Byt A2)) ?_
      refine kG [.no, .no, .b false, .no, .no, .no, .call [] (bV true) [] 0 [] none, .no, .no] ((¬ ((qR A2) ≠ (qR A2))) ∧ (_)) [(68, oV 1 0 5 1), (69, iV 5), (70, iV 4), (92, bV false)] [(1, some (22, (u6 rw p B10 z11 A2 k)))] 12 ⟨zo, (aK (yK A2) (uX A2) (yP A2) (yO A2) (yN A2) (yM A2) (yL A2) (qK A2) (ka1 (qK A2)) (aI (kL : Byt A2)) zo rfl zo (kL : BsW (qK A2)))⟩ ?_
      refine uM ?_
      refine uG [.w, .no] (qB (5 : Int)) [(68, oV 1 0 5 1), (69, iV 5), (70, iV 5)] ⟨by omega, by omega⟩ ?_
      refine AWr.s ?_
      refine kG [.b false] (¬ ((5 : Int) < 5)) [(68, oV 1 0 5 1), (69, iV 5), (70, iV 5), (71, bV false)] [(1, some (22, (u6 rw p B10 z11 A2 k)))] 12 zo ?_
      refine AW.seq ?_
      refine zf ?_
      refine AW.exit ?_
      refine kG [.no] True [(10, bV true)] [] 12 trivial ?_
      refine AW.ret ?_
      exact kB (.inr rfl) [] (P := (true = true)) zk rfl
    · refine AW.freeze 0 (l' := [(0, sV .u8 rw p), (4, kP (D.lit (.int .u8 u))), (11, sV .u8 (B10 ++ (pbL (kI B10) 4)) (z11 + 4)), (13, sV .u8 (kd9 B10 (kb5 (x % (z11 : Int))) (((ka0 B10 (kb5 (x % (z11 : Int))) 0) + y) % 256)) z11)]) (g' := []) rfl (FzS.cons rfl (.same _) (FzS.cons rfl (.same _) (FzS.cons rfl (.same _) (FzS.cons rfl (.e (.c (@FzC.own 0 ((dI .u8 (kd9 B10 (kb5 (x % (z11 : Int))) (((ka0 B10 (kb5 (x % (z11 : Int))) 0) + y) % 256))) : List D) 0 z11 1 true ((dI .u8 (kd9 B10 (kb5 (x % (z11 : Int))) (((ka0 B10 (kb5 (x % (z11 : Int))) 0) + y) % 256))) : List D) (by rw [kd7, kd0, kc3 (by (simp only [qA, k8, pbL_len, qP, qI, vB, uF, ka4, kb3, kb6, kb4, kb9, kb8, kc4, kc8, kc6, kd0] <;> omega))]) x8))) FzS.nil)))) FzG.nil ?_
      have hx40 : Byt (kd9 B10 (kb5 (x % ((z11 : Nat) : Int))) (((ka0 B10 (kb5 (x % ((z11 : Nat) : Int))) 0) + y) % 256)) := (Byt.set (kL : Byt B10) _ zo)
      have hA : ka1 (kd9 B10 (kb5 (x % ((z11 : Nat) : Int))) (((ka0 B10 (kb5 (x % ((z11 : Nat) : Int))) 0) + y) % 256)) = z11 := by rw [kc4]; assumption
      generalize (kd9 B10 (kb5 (x % ((z11 : Nat) : Int))) (((ka0 B10 (kb5 (x % ((z11 : Nat) : Int))) 0) + y) % 256)) = A at *
      have hx41 : 0 ≤ (u % ((z11 : Nat) : Int)) ∧ (u % ((z11 : Nat) : Int)) < ((z11 : Nat) : Int) := ⟨kj2 _ zo, ki0 _ zo⟩
      refine kG [.no, .ps, .b false] (((0 : Int) ≤ (u : Int)) ∧ ((0 : Int) < (3 : Int)) ∧ (¬ ((u % 3) = 0))) [(0, sV .u8 rw p), (4, kP (D.lit (.int .u8 u))), (11, sV .u8 (B10 ++ (pbL (kI B10) 4)) (z11 + 4)), (13, sV .u8 A z11), (50, bV false)] [] 1 ⟨zo, zo, zo⟩ ?_
      refine uM ?_
      refine AW.seq ?_
      have hx42 : (Byt (rw ++ (pbL (kI rw) 4))) := ((kL : Byt rw).app (pbL_byt _ _))
      have hx43 : (Byt (A ++ (pbL (kI A) 4))) := ((kL : Byt A).app (pbL_byt _ _))
      refine kG [.no, .no, .no, .call [] (sV .u8 (rw ++ (pbL (kI rw) 4)) (p + 4)) [] 0 [] none, .no, .call [] (sV .u8 (A ++ (pbL (kI A) 4)) (z11 + 4)) [] 0 [] none, .no, .no, .no, .no] ((_) ∧ (_)) [(68, oV 1 0 5 1), (69, iV 5), (70, iV 0)] [(1, some (22, (u7 rw p B10 z11 A)))] 2 ⟨(gL rw p zo zo (kL : Byt rw)), (gL A z11 zo zo (kL : Byt A))⟩ ?_
      refine AW.block ?_
      refine AW.rounds 6 ?_
      refine AWr.s ?_
      refine kG [.b true] (((0 : Int) < 5)) [(68, oV 1 0 5 1), (69, iV 5), (70, iV 0), (71, bV true)] [(1, some (22, (u7 rw p B10 z11 A)))] 2 zo ?_
      refine AW.seq ?_
      refine u1 ?_
      refine AW.seq ?_
      refine AW.block ?_
      refine kV [.n2 0 0, .no, .no] ((kM 0) ∧ ((0 : Nat) < 5) ∧ ((0 : Nat) + 0 * 1 = 0)) [(15, sV .u8 rw p), (68, oV 1 0 5 1), (69, iV 5), (70, iV 0)] ⟨rfl, zo, zo⟩ ?_
      have hx44 : (((0 : Int) ≤ (qR rw)) ∧ ((qR rw) ≤ 6)) := (vQ rw)
      have hx45 : ((ka1 (qK rw)) ≤ 65535) := (vP (kL : Byt rw))
      have hx46 : (BsW (qK rw)) := (dG (kL : Byt rw))
      have hx47 : ((ka1 (uX rw)) ≤ 64) := (vO rw)
      refine kG (.no :: .call [] (.tup [.agg [.d (D.lit (.int .u64 (yK rw))), .d (D.lit (.string (strOfNums (uX rw)))), iC (yP rw), iC (yO rw), iC (yN rw), iC (yM rw), iC (yL rw), .d (D.sl (kX (qK rw)) (ka1 (qK rw)))], iE (qR rw)]) [] 0 [] none :: kJ 6 []) _ [(15, sV .u8 rw p), (16, rV 2 0), (17, iV (qR rw)), (68, oV 1 0 5 1), (69, iV 5), (70, iV 0)] [(1, some (22, (u7 rw p B10 z11 A))), (2, some (31, .ds [D.lit (.int .u64 (yK rw)), D.lit (.string (strOfNums (uX rw))), iD (yP rw), iD (yO rw), iD (yN rw), iD (yM rw), iD (yL rw), D.sl (kX (qK rw)) (ka1 (qK rw))]))] 3 (yU rw p zo zo (kL : Byt rw)) ?_
      refine kG (.no :: .call [] (.tup [.agg [.d (D.lit (.int .u64 (yK rw))), .d (D.lit (.string (strOfNums (uX rw)))), iC (yP rw), iC (yO rw), iC (yN rw), iC (yM rw), iC (yL rw), .d (D.sl (kX (qK rw)) (ka1 (qK rw)))], iE (qR rw)]) [] 0 [] none :: kJ 6 []) _ [(16, rV 2 0), (17, iV (qR rw)), (18, rV 3 0), (19, iV (qR rw)), (68, oV 1 0 5 1), (69, iV 5), (70, iV 0)] [(1, some (22, (u7 rw p B10 z11 A))), (2, some (31, .ds [D.lit (.int .u64 (yK rw)), D.lit (.string (strOfNums (uX rw))), iD (yP rw), iD (yO rw), iD (yN rw), iD (yM rw), iD (yL rw), D.sl (kX (qK rw)) (ka1 (qK rw))])), (3, some (31, .ds [D.lit (.int .u64 (yK rw)), D.lit (.string (strOfNums (uX rw))), iD (yP rw), iD (yO rw), iD (yN rw), iD (yM rw), iD (yL rw), D.sl (kX (qK rw)) (ka1 (qK rw))]))] 4 (vM rw p zo zo (kL : Byt rw)) ?_
      refine kG [.no, .no, .b false, .no, .no, .no, .call [] (bV true) [] 0 [] none, .no, .no] ((¬ ((qR rw) ≠ (qR rw))) ∧ (_)) [(68, oV 1 0 5 1), (69, iV 5), (70, iV 0), (92, bV false)] [(1, some (22, (u7 rw p B10 z11 A)))] 4 ⟨zo, (aK (yK rw) (uX rw) (yP rw) (yO rw) (yN rw) (yM rw) (yL rw) (qK rw) (ka1 (qK rw)) (aI (kL : Byt rw)) zo rfl zo (kL : BsW (qK rw)))⟩ ?_
      refine uM ?_
      refine uG [.w, .no] (qB (1 : Int)) [(68, oV 1 0 5 1), (69, iV 5), (70, iV 1)] ⟨by omega, by omega⟩ ?_
      refine AWr.s ?_
      refine kG [.b true] (((1 : Int) < 5)) [(68, oV 1 0 5 1), (69, iV 5), (70, iV 1), (71, bV true)] [(1, some (22, (u7 rw p B10 z11 A)))] 4 zo ?_
      refine AW.seq ?_
      refine u1 ?_
      refine AW.seq ?_
      refine AW.block ?_
      refine kV [.n2 1 1, .no, .no] ((kM 1) ∧ ((1 : Nat) < 5) ∧ ((0 : Nat) + 1 * 1 = 1)) [(15, sV .u8 (B10 ++ (pbL (kI B10) 4)) (z11 + 4)), (68, oV 1 0 5 1), (69, iV 5), (70, iV 1)] ⟨rfl, zo, zo⟩ ?_
      have hx48 : (((0 : Int) ≤ (qR (B10 ++ (pbL (kI B10) 4)))) ∧ ((qR (B10 ++ (pbL (kI B10) 4))) ≤ 6)) := (vQ (B10 ++ (pbL (kI B10) 4)))
      have hx49 : ((ka1 (qK (B10 ++ (pbL (kI B10) 4)))) ≤ 65535) := (vP ((Byt.app (kL : Byt B10) (pbL_byt _ _))))
      have hx50 : (BsW (qK (B10 ++ (pbL (kI B10) 4)))) := (dG ((Byt.app (kL : Byt B10) (pbL_byt _ _))))
      have hx51 : ((ka1 (uX (B10 ++ (pbL (kI B10) 4)))) ≤ 64) := (vO (B10 ++ (pbL (kI B10) 4)))
      refine kG (.no :: .call [] (.tup [.agg [.d (D.lit (.int .u64 (yK (B10 ++ (pbL (kI B10) 4))))), .d (D.lit (.string (strOfNums (uX (B10 ++ (pbL (kI B10) 4)))))), iC (yP (B10 ++ (pbL (kI B10) 4))), iC (yO (B10 ++ (pbL (kI B10) 4))), iC (yN (B10 ++ (pbL (kI B10) 4))), iC (yM (B10 ++ (pbL (kI B10) 4))), iC (yL (B10 ++ (pbL (kI B10) 4))), .d (D.sl (kX (qK (B10 ++ (pbL (kI B10) 4)))) (ka1 (qK (B10 ++ (pbL (kI B10) 4)))))], iE (qR (B10 ++ (pbL (kI B10) 4)))]) [] 0 [] none :: kJ 6 []) _ [(15, sV .u8 (B10 ++ (pbL (kI B10) 4)) (z11 + 4)), (16, rV 4 0), (17, iV (qR (B10 ++ (pbL (kI B10) 4)))), (68, oV 1 0 5 1), (69, iV 5), (70, iV 1)] [(1, some (22, (u7 rw p B10 z11 A))), (4, some (31, .ds [D.lit (.int .u64 (yK (B10 ++ (pbL (kI B10) 4)))), D.lit (.string (strOfNums (uX (B10 ++ (pbL (kI B10) 4))))), iD (yP (B10 ++ (pbL (kI B10) 4))), iD (yO (B10 ++ (pbL (kI B10) 4))), iD (yN (B10 ++ (pbL (kI B10) 4))), iD (yM (B10 ++ (pbL (kI B10) 4))), iD (yL (B10 ++ (pbL (kI B10) 4))), D.sl (kX (qK (B10 ++ (pbL (kI B10) 4)))) (ka1 (qK (B10 ++ (pbL (kI B10) 4))))]))] 5 (yU (B10 ++ (pbL (kI B10) 4)) (z11 + 4) dA zo (Byt.app (kL : Byt B10) (pbL_byt _ _))) ?_
      refine kG (.no :: .call [] (.tup [.agg [.d (D.lit (.int .u64 (yK (B10 ++ (pbL (kI B10) 4))))), .d (D.lit (.string (strOfNums (uX (B10 ++ (pbL (kI B10) 4)))))), iC (yP (B10 ++ (pbL (kI B10) 4))), iC (yO (B10 ++ (pbL (kI B10) 4))), iC (yN (B10 ++ (pbL (kI B10) 4))), iC (yM (B10 ++ (pbL (kI B10) 4))), iC (yL (B10 ++ (pbL (kI B10) 4))), .d (D.sl (kX (qK (B10 ++ (pbL (kI B10) 4)))) (ka1 (qK (B10 ++ (pbL (kI B10) 4)))))], iE (qR (B10 ++ (pbL (kI B10) 4)))]) [] 0 [] none :: kJ 6 []) _ [(16, rV 4 0), (17, iV (qR (B10 ++ (pbL (kI B10) 4)))), (18, rV 5 0), (19, iV (qR (B10 ++ (pbL (kI B10) 4)))), (68, oV 1 0 5 1), (69, iV 5), (70, iV 1)] [(1, some (22, (u7 rw p B10 z11 A))), (4, some (31, .ds [D.lit (.int .u64 (yK (B10 ++ (pbL (kI B10) 4)))), D.lit (.string (strOfNums (uX (B10 ++ (pbL (kI B10) 4))))), iD (yP (B10 ++ (pbL (kI B10) 4))), iD (yO (B10 ++ (pbL (kI B10) 4))), iD (yN (B10 ++ (pbL (kI B10) 4))), iD (yM (B10 ++ (pbL (kI B10) 4))), iD (yL (B10 ++ (pbL (kI B10) 4))), D.sl (kX (qK (B10 ++ (pbL (kI B10) 4)))) (ka1 (qK (B10 ++ (pbL (kI B10) 4))))])), (5, some (31, .ds [D.lit (.int .u64 (yK (B10 ++ (pbL (kI B10) 4)))), D.lit (.string (strOfNums (uX (B10 ++ (pbL (kI B10) 4))))), iD (yP (B10 ++ (pbL (kI B10) 4))), iD (yO (B10 ++ (pbL (kI B10) 4))), iD (yN (B10 ++ (pbL (kI B10) 4))), iD (yM (B10 ++ (pbL (kI B10) 4))), iD (yL (B10 ++ (pbL (kI B10) 4))), D.sl (kX (qK (B10 ++ (pbL (kI B10) 4)))) (ka1 (qK (B10 ++ (pbL (kI B10) 4))))]))] 6 (vM (B10 ++ (pbL (kI B10) 4)) (z11 + 4) dA zo (Byt.app (kL : Byt B10) (pbL_byt _ _))) ?_
      refine kG [.no, .no, .b false, .no, .no, .no, .call [] (bV true) [] 0 [] none, .no, .no] ((¬ ((qR (B10 ++ (pbL (kI B10) 4))) ≠ (qR (B10 ++ (pbL (kI B10) 4))))) ∧ (_)) [(68, oV 1 0 5 1), (69, iV 5), (70, iV 1), (92, bV false)] [(1, some (22, (u7 rw p B10 z11 A)))] 6 ⟨zo, (aK (yK (B10 ++ (pbL (kI B10) 4))) (uX (B10 ++ (pbL (kI B10) 4))) (yP (B10 ++ (pbL (kI B10) 4))) (yO (B10 ++ (pbL (kI B10) 4))) (yN (B10 ++ (pbL (kI B10) 4))) (yM (B10 ++ (pbL (kI B10) 4))) (yL (B10 ++ (pbL (kI B10) 4))) (qK (B10 ++ (pbL (kI B10) 4))) (ka1 (qK (B10 ++ (pbL (kI B10) 4)))) (aI (Byt.app (kL : Byt B10) (pbL_byt _ _))) zo rfl zo (kL : BsW (qK (B10 ++ (pbL (kI B10) 4)))))⟩ ?_
      refine uM ?_
      refine uG [.w, .no] (qB (2 : Int)) [(68, oV 1 0 5 1), (69, iV 5), (70, iV 2)] ⟨by omega, by omega⟩ ?_
      refine AWr.s ?_
      refine kG [.b true] (((2 : Int) < 5)) [(68, oV 1 0 5 1), (69, iV 5), (70, iV 2), (71, bV true)] [(1, some (22, (u7 rw p B10 z11 A)))] 6 zo ?_
      refine AW.seq ?_
      refine u1 ?_
      refine AW.seq ?_
      refine AW.block ?_
      refine kV [.n2 2 2, .no, .no] ((kM 2) ∧ ((2 : Nat) < 5) ∧ ((0 : Nat) + 2 * 1 = 2)) [(15, sV .u8 (rw ++ (pbL (kI rw) 4)) (p + 4)), (68, oV 1 0 5 1), (69, iV 5), (70, iV 2)] ⟨rfl, zo, zo⟩ ?_
      have hx52 : (((0 : Int) ≤ (qR (rw ++ (pbL (kI rw) 4)))) ∧ ((qR (rw ++ (pbL (kI rw) 4))) ≤ 6)) := (vQ (rw ++ (pbL (kI rw) 4)))
      have hx53 : ((ka1 (qK (rw ++ (pbL (kI rw) 4)))) ≤ 65535) := (vP (kL : Byt (rw ++ (pbL (kI rw) 4))))
      have hx54 : (BsW (qK (rw ++ (pbL (kI rw) 4)))) := (dG (kL : Byt (rw ++ (pbL (kI rw) 4))))
      have hx55 : ((ka1 (uX (rw ++ (pbL (kI rw) 4)))) ≤ 64) := (vO (rw ++ (pbL (kI rw) 4)))
      refine kG (.no :: .call [] (.tup [.agg [.d (D.lit (.int .u64 (yK (rw ++ (pbL (kI rw) 4))))), .d (D.lit (.string (strOfNums (uX (rw ++ (pbL (kI rw) 4)))))), iC (yP (rw ++ (pbL (kI rw) 4))), iC (yO (rw ++ (pbL (kI rw) 4))), iC (yN (rw ++ (pbL (kI rw) 4))), iC (yM (rw ++ (pbL (kI rw) 4))), iC (yL (rw ++ (pbL (kI rw) 4))), .d (D.sl (kX (qK (rw ++ (pbL (kI rw) 4)))) (ka1 (qK (rw ++ (pbL (kI rw) 4)))))], iE (qR (rw ++ (pbL (kI rw) 4)))]) [] 0 [] none :: kJ 6 []) _ [(15, sV .u8 (rw ++ (pbL (kI rw) 4)) (p + 4)), (16, rV 6 0), (17, iV (qR (rw ++ (pbL (kI rw) 4)))), (68, oV 1 0 5 1), (69, iV 5), (70, iV 2)] [(1, some (22, (u7 rw p B10 z11 A))), (6, some (31, .ds [D.lit (.int .u64 (yK (rw ++ (pbL (kI rw) 4)))), D.lit (.string (strOfNums (uX (rw ++ (pbL (kI rw) 4))))), iD (yP (rw ++ (pbL (kI rw) 4))), iD (yO (rw ++ (pbL (kI rw) 4))), iD (yN (rw ++ (pbL (kI rw) 4))), iD (yM (rw ++ (pbL (kI rw) 4))), iD (yL (rw ++ (pbL (kI rw) 4))), D.sl (kX (qK (rw ++ (pbL (kI rw) 4)))) (ka1 (qK (rw ++ (pbL (kI rw) 4))))]))] 7 (yU (rw ++ (pbL (kI rw) 4)) (p + 4) dA zo (kL : Byt (rw ++ (pbL (kI rw) 4)))) ?_
      refine kG (.no :: .call [] (.tup [.agg [.d (D.lit (.int .u64 (yK (rw ++ (pbL (kI rw) 4))))), .d (D.lit (.string (strOfNums (uX (rw ++ (pbL (kI rw) 4)))))), iC (yP (rw ++ (pbL (kI rw) 4))), iC (yO (rw ++ (pbL (kI rw) 4))), iC (yN (rw ++ (pbL (kI rw) 4))), iC (yM (rw ++ (pbL (kI rw) 4))), iC (yL (rw ++ (pbL (kI rw) 4))), .d (D.sl (kX (qK (rw ++ (pbL (kI rw) 4)))) (ka1 (qK (rw ++ (pbL (kI rw) 4)))))], iE (qR (rw ++ (pbL (kI rw) 4)))]) [] 0 [] none :: kJ 6 []) _ [(16, rV 6 0), (17, iV (qR (rw ++ (pbL (kI rw) 4)))), (18, rV 7 0), (19, iV (qR (rw ++ (pbL (kI rw) 4)))), (68, oV 1 0 5 1), (69, iV 5), (70, iV 2)] [(1, some (22, (u7 rw p B10 z11 A))), (6, some (31, .ds [D.lit (.int .u64 (yK (rw ++ (pbL (kI rw) 4)))), D.lit (.string (strOfNums (uX (rw ++ (pbL (kI rw) 4))))), iD (yP (rw ++ (pbL (kI rw) 4))), iD (yO (rw ++ (pbL (kI rw) 4))), iD (yN (rw ++ (pbL (kI rw) 4))), iD (yM (rw ++ (pbL (kI rw) 4))), iD (yL (rw ++ (pbL (kI rw) 4))), D.sl (kX (qK (rw ++ (pbL (kI rw) 4)))) (ka1 (qK (rw ++ (pbL (kI rw) 4))))])), (7, some (31, .ds [D.lit (.int .u64 (yK (rw ++ (pbL (kI rw) 4)))), D.lit (.string (strOfNums (uX (rw ++ (pbL (kI rw) 4))))), iD (yP (rw ++ (pbL (kI rw) 4))), iD (yO (rw ++ (pbL (kI rw) 4))), iD (yN (rw ++ (pbL (kI rw) 4))), iD (yM (rw ++ (pbL (kI rw) 4))), iD (yL (rw ++ (pbL (kI rw) 4))), D.sl (kX (qK (rw ++ (pbL (kI rw) 4)))) (ka1 (qK (rw ++ (pbL (kI rw) 4))))]))] 8 (vM (rw ++ (pbL (kI rw) 4)) (p + 4) dA zo (kL : Byt (rw ++ (pbL (kI rw) 4)))) ?_
      refine kG [.no, .no, .b false, .no, .no, .no, .call [] (bV true) [] 0 [] none, .no, .no] ((¬ ((qR (rw ++ (pbL (kI rw) 4))) ≠ (qR (rw ++ (pbL (kI rw) 4))))) ∧ (_)) [(68, oV 1 0 5 1), (69, iV 5), (70, iV 2), (92, bV false)] [(1, some (22, (u7 rw p B10 z11 A)))] 8 ⟨zo, (aK (yK (rw ++ (pbL (kI rw) 4))) (uX (rw ++ (pbL (kI rw) 4))) (yP (rw ++ (pbL (kI rw) 4))) (yO (rw ++ (pbL (kI rw) 4))) (yN (rw ++ (pbL (kI rw) 4))) (yM (rw ++ (pbL (kI rw) 4))) (yL (rw ++ (pbL (kI rw) 4))) (qK (rw ++ (pbL (kI rw) 4))) (ka1 (qK (rw ++ (pbL (kI rw) 4)))) (aI (kL : Byt (rw ++ (pbL (kI rw) 4)))) zo rfl zo (kL : BsW (qK (rw ++ (pbL (kI rw) 4)))))⟩ ?_
      refine uM ?_
      refine uG [.w, .no] (qB (3 : Int)) [(68, oV 1 0 5 1), (69, iV 5), (70, iV 3)] ⟨by omega, by omega⟩ ?_
      refine AWr.s ?_
      refine kG [.b true] (((3 : Int) < 5)) [(68, oV 1 0 5 1), (69, iV 5), (70, iV 3), (71, bV true)] [(1, some (22, (u7 rw p B10 z11 A)))] 8 zo ?_
      refine AW.seq ?_
      refine u1 ?_
      refine AW.seq ?_
      refine AW.block ?_
      refine kV [.n2 3 3, .no, .no] ((kM 3) ∧ ((3 : Nat) < 5) ∧ ((0 : Nat) + 3 * 1 = 3)) [(15, sV .u8 (A ++ (pbL (kI A) 4)) (z11 + 4)), (68, oV 1 0 5 1), (69, iV 5), (70, iV 3)] ⟨rfl, zo, zo⟩ ?_
      have hx56 : (((0 : Int) ≤ (qR (A ++ (pbL (kI A) 4)))) ∧ ((qR (A ++ (pbL (kI A) 4))) ≤ 6)) := (vQ (A ++ (pbL (kI A) 4)))
      have hx57 : ((ka1 (qK (A ++ (pbL (kI A) 4)))) ≤ 65535) := (vP (kL : Byt (A ++ (pbL (kI A) 4))))
      have hx58 : (BsW (qK (A ++ (pbL (kI A) 4)))) := (dG (kL : Byt (A ++ (pbL (kI A) 4))))
      have hx59 : ((ka1 (uX (A ++ (pbL (kI A) 4)))) ≤ 64) := (vO (A ++ (pbL (kI A) 4)))
      refine kG (.no :: .call [] (.tup [.agg [.d (D.lit (.int .u64 (yK (A ++ (pbL (kI A) 4))))), .d (D.lit (.string (strOfNums (uX (A ++ (pbL (kI A) 4)))))), iC (yP (A ++ (pbL (kI A) 4))), iC (yO (A ++ (pbL (kI A) 4))), iC (yN (A ++ (pbL (kI A) 4))), iC (yM (A ++ (pbL (kI A) 4))), iC (yL (A ++ (pbL (kI A) 4))), .d (D.sl (kX (qK (A ++ (pbL (kI A) 4)))) (ka1 (qK (A ++ (pbL (kI A) 4)))))], iE (qR (A ++ (pbL (kI A) 4)))]) [] 0 [] none :: kJ 6 []) _ [(15, sV .u8 (A ++ (pbL (kI A) 4)) (z11 + 4)), (16, rV 8 0), (17, iV (qR (A ++ (pbL (kI A) 4)))), (68, oV 1 0 5 1), (69, iV 5), (70, iV 3)] [(1, some (22, (u7 rw p B10 z11 A))), (8, some (31, .ds [D.lit (.int .u64 (yK (A ++ (pbL (kI A) 4)))), D.lit (.string (strOfNums (uX (A ++ (pbL (kI A) 4))))), iD (yP (A ++ (pbL (kI A) 4))), iD (yO (A ++ (pbL (kI A) 4))), iD (yN (A ++ (pbL (kI A) 4))), iD (yM (A ++ (pbL (kI A) 4))), iD (yL (A ++ (pbL (kI A) 4))), D.sl (kX (qK (A ++ (pbL (kI A) 4)))) (ka1 (qK (A ++ (pbL (kI A) 4))))]))] 9 (yU (A ++ (pbL (kI A) 4)) (z11 + 4) dA zo (kL : Byt (A ++ (pbL (kI A) 4)))) ?_
      refine kG (.no :: .call [] (.tup [.agg [.d (D.lit (.int .u64 (yK (A ++ (pbL (kI A) 4))))), .d (D.lit (.string (strOfNums (uX (A ++ (pbL (kI A) 4)))))), iC (yP (A ++ (pbL (kI A) 4))), iC (yO (A ++ (pbL (kI A) 4))), iC (yN (A ++ (pbL (kI A) 4))), iC (yM (A ++ (pbL (kI A) 4))), iC (yL (A ++ (pbL (kI A) 4))), .d (D.sl (kX (qK (A ++ (pbL (kI A) 4)))) (ka1 (qK (A ++ (pbL (kI A) 4)))))], iE (qR (A ++ (pbL (kI A) 4)))]) [] 0 [] none :: kJ 6 []) _ [(16, rV 8 0), (17, iV (qR (A ++ (pbL (kI A) 4)))), (18, rV 9 0), (19, iV (qR (A ++ (pbL (kI A) 4)))), (68, oV 1 0 5 1), (69, iV 5), (70, iV 3)] [(1, some (22, (u7 rw p B10 z11 A))), (8, some (31, .ds [D.lit (.int .u64 (yK (A ++ (pbL (kI A) 4)))), D.lit (.string (strOfNums (uX (A ++ (pbL (kI A) 4))))), iD (yP (A ++ (pbL (kI A) 4))), iD (yO (A ++ (pbL (kI A) 4))), iD (yN (A ++ (pbL (kI A) 4))), iD (yM (A ++ (pbL (kI A) 4))), iD (yL (A ++ (pbL (kI A) 4))), D.sl (kX (qK (A ++ (pbL (kI A) 4)))) (ka1 (qK (A ++ (pbL (kI A) 4))))])), (9, some (31, .ds [D.lit (.int .u64 (yK (A ++ (pbL (kI A) 4)))), D.lit (.string (strOfNums (uX (A ++ (pbL (kI A) 4))))), iD (yP (A ++ (pbL (kI A) 4))), iD (yO (A ++ (pbL (kI A) 4))), iD (yN (A ++ (pbL (kI A) 4))), iD (yM (A ++ (pbL (kI A) 4))), iD (yL (A ++ (pbL (kI A) 4))), D.sl (kX (qK (A ++ (pbL (kI A) 4)))) (ka1 (qK (A ++ (pbL (kI A) 4))))]))] 10 (vM (A ++ (pbL (kI A) 4)) (z11 + 4) dA zo (kL : Byt (A ++ (pbL (kI A) 4)))) ?_
      refine kG [.no, .no, .b false, .no, .no, .no, .call [] (bV true) [] 0 [] none, .no, .no] ((¬ ((qR (A ++ (pbL (kI A) 4))) ≠ (qR (A ++ (pbL (kI A) 4))))) ∧ (_)) [(68, oV 1 0 5 1), (69, iV 5), (70, iV 3), (92, bV false)] [(1, some (22, (u7 rw p B10 z11 A)))] 10 ⟨zo, (aK (yK (A ++ (pbL (kI A) 4))) (uX (A ++ (pbL (kI A) 4))) (yP (A ++ (pbL (kI A) 4))) (yO (A ++ (pbL (kI A) 4))) (yN (A ++ (pbL (kI A) 4))) (yM (A ++ (pbL (kI A) 4))) (yL (A ++ (pbL (kI A) 4))) (qK (A ++ (pbL (kI A) 4))) (ka1 (qK (A ++ (pbL (kI A) 4)))) (aI (kL : Byt (A ++ (pbL (kI A) 4)))) zo rfl zo (kL : BsW (qK (A ++ (pbL (kI A) 4)))))⟩ ?_
      refine uM ?_
      refine uG [.w, .no] (qB (4 : Int)) [(68, oV 1 0 5 1), (69, iV 5), (70, iV 4)] ⟨by omega, by omega⟩ ?_
      refine AWr.s ?_
      refine kG [.b true] (((4 : Int) < 5)) [(68, oV 1 0 5 1), (69, iV 5), (70, iV 4), (71, bV true)] [(1, some (22, (u7 rw p B10 z11 A)))] 10 zo ?_
      refine AW.seq ?_
      refine u1 ?_
      refine AW.seq ?_
      refine AW.block ?_
      refine kV [.n2 4 4, .no, .no] ((kM 4) ∧ ((4 : Nat) < 5) ∧ ((0 : Nat) + 4 * 1 = 4)) [(15, sV .u8 A z11), (68, oV 1 0 5 1), (69, iV 5), (70, iV 4)] ⟨rfl, zo, zo⟩ ?_
      have hx60 : (((0 : Int) ≤ (qR A)) ∧ ((qR A) ≤ 6)) := (vQ A)
      have hx61 : ((ka1 (qK A)) ≤ 65535) := (vP (kL : Byt A))
      have hx62 : (BsW (qK A)) := (dG (kL : Byt A))
      have hx63 : ((ka1 (uX A)) ≤ 64) := (vO A)
      refine kG (.no :: .call [] (.tup [.agg [.d (D.lit (.int .u64 (yK A))), .d (D.lit (.string (strOfNums (uX A)))), iC (yP A), iC (yO A), iC (yN A), iC (yM A), iC (yL A), .d (D.sl (kX (qK A)) (ka1 (qK A)))], iE (qR A)]) [] 0 [] none :: kJ 6 []) _ [(15, sV .u8 A z11), (16, rV 10 0), (17, iV (qR A)), (68, oV 1 0 5 1), (69, iV 5), (70, iV 4)] [(1, some (22, (u7 rw p B10 z11 A))), (10, some (31, .ds [D.lit (.int .u64 (yK A)), D.lit (.string (strOfNums (uX A))), iD (yP A), iD (yO A), iD (yN A), iD (yM A), iD (yL A), D.sl (kX (qK A)) (ka1 (qK A))]))] 11 (yU A z11 zo zo (kL : Byt A)) ?_
      refine kG (.no :: .call [] (.tup [.agg [.d (D.lit (.int .u64 (yK A))), .d (D.lit (.string (strOfNums (uX A)))), iC (yP A), iC (yO A), iC (yN A), iC (yM A), iC (yL A), .d (D.sl (kX (qK A)) (ka1 (qK A)))], iE (qR A)]) [] 0 [] none :: kJ 6 []) _ [(16, rV 10 0), (17, iV (qR A)), (18, rV 11 0), (19, iV (qR A)), (68, oV 1 0 5 1), (69, iV 5), (70, iV 4)] [(1, some (22, (u7 rw p B10 z11 A))), (10, some (31, .ds [D.lit (.int .u64 (yK A)), D.lit (.string (strOfNums (uX A))), iD (yP A), iD (yO A), iD (yN A), iD (yM A), iD (yL A), D.sl (kX (qK A)) (ka1 (qK A))])), (11, some (31, .ds [D.lit (.int .u64 (yK A)), D.lit (.string (strOfNums (uX A))), iD (yP A), iD (yO A), iD (yN A), iD (yM A), iD (yL A), D.sl (kX (qK A)) (ka1 (qK A))]))] 12 (vM A z11 zo zo (kL : Byt A)) ?_
      refine kG [.no, .no, .b false, .no, .no, .no, .call [] (bV true) [] 0 [] none, .no, .no] ((¬ ((qR A) ≠ (qR A))) ∧ (_)) [(68, oV 1 0 5 1), (69, iV 5), (70, iV 4), (92, bV false)] [(1, some (22, (u7 rw p B10 z11 A)))] 12 ⟨zo, (aK (yK A) (uX A) (yP A) (yO A) (yN A) (yM A) (yL A) (qK A) (ka1 (qK A)) (aI (kL : Byt A)) zo rfl zo (kL : BsW (qK A)))⟩ ?_
      refine uM ?_
      refine uG [.w, .no] (qB (5 : Int)) [(68, oV 1 0 5 1), (69, iV 5), (70, iV 5)] ⟨by omega, by omega⟩ ?_
      refine AWr.s ?_
      refine kG [.b false] (¬ ((5 : Int) < 5)) [(68, oV 1 0 5 1), (69, iV 5), (70, iV 5), (71, bV false)] [(1, some (22, (u7 rw p B10 z11 A)))] 12 zo ?_
      refine AW.seq ?_
      refine zf ?_
      refine AW.exit ?_
      refine kG [.no] True [(10, bV true)] [] 12 trivial ?_
      refine AW.ret ?_
      exact kB (.inr rfl) [] (P := (true = true)) zk rfl
theorem Sl.max {k : IntKind} {w : World} {a : Option Addr} {len cap : Nat} {l : List Int} (h : Sl k w a len cap l) : ka1 l ≤ 9223372036854775807 := by
  obtain ⟨h1, h2, h3, _⟩ := h
  unfold maxLen at h3
  omega
theorem x5 {w : World} {x : Int} {y : Int} {u : Int} {xa0 : Option Addr} {xl0 xc0 : Nat} {rw : List Int} (hs0 : Sl .u8 w xa0 xl0 xc0 rw) {xa1 : Option Addr} {xl1 xc1 : Nat} {sd : List Int} (hs1 : Sl .u8 w xa1 xl1 xc1 sd) (hi_x : 0 ≤ x ∧ x ≤ 65535) (hi_y : 0 ≤ y ∧ y ≤ 255) (hi_u : 0 ≤ u ∧ u ≤ 255) : Calls Tryz.prog 3 #[.slice xa0 xl0 xc0, .slice xa1 xl1 xc1, .int .u16 x, .int .u8 y, .int .u8 u] w fun e w' => e = .returned (.bool true) ∧ Below w.heap.size w w' :=
  (u7c rw sd (ka1 rw) (ka1 sd) x y u rfl hs0.max (k71 fun x hx => bounds_u8 (hs0.wf x hx)) rfl hs1.max (k71 fun x hx => bounds_u8 (hs1.wf x hx)) hi_x hi_y hi_u).walk ⟨zV hs0, zV hs1, jZ rfl, jZ rfl, jZ rfl, trivial⟩
end Go.Proofs.YtdbjebdomdnbkaaGreat
