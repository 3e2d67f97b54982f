/- Merged texts. -/
import Derived.Test.YtcfmjpnffembpaaGreatZLBy
import Derived.Test.YtcfmjpnffembpaaGreatZL10D
namespace Go.Proofs.YtcfmjpnffembpaaGreat
open Go.ChangeShapes Go.WideShapes Go.ChangeAt Go.RowKit
set_option linter.unusedVariables false
set_option linter.unusedSimpArgs false
set_option maxHeartbeats 4000000
set_option maxRecDepth 100000
def nextN (l : List Int) (n : Int) : Nat := if l.length = 0 ∨ n ≤ 1 then 0 else (List.getD l 0 0 % n).toNat
def nextL (l : List Int) (n : Int) : List Int := if l.length = 0 ∨ n ≤ 1 then l else List.drop 1 l
theorem nextV_yes {l : List Int} {n : Int} (h : l.length = 0 ∨ n ≤ 1) : ((nextN l n : Nat) : Int) = 0 := by unfold nextN; rw [if_pos h]; rfl
theorem nextL_yes {l : List Int} {n : Int} (h : l.length = 0 ∨ n ≤ 1) : nextL l n = l := if_pos h
theorem nextV_no {l : List Int} {n : Int} (hb : Byt l) (h : ¬ (l.length = 0 ∨ n ≤ 1)) : ((nextN l n : Nat) : Int) = List.getD l 0 0 % n := by
  unfold nextN; rw [if_neg h]; exact Int.toNat_of_nonneg (Int.emod_nonneg _ (by omega))
theorem nextL_no {l : List Int} {n : Int} (h : ¬ (l.length = 0 ∨ n ≤ 1)) : nextL l n = List.drop 1 l := if_neg h
theorem nextL_byt {l : List Int} (n : Int) (h : Byt l) : Byt (nextL l n) := by
  unfold nextL; split
  · exact h
  · exact h.drop 1
theorem nextV_in (l : List Int) (n : Int) (h : Byt l) : (((nextN l n : Nat) : Int) < n ∨ nextN l n = 0) ∧ nextN l n ≤ 255 := by
  by_cases hn : l.length = 0 ∨ n ≤ 1
  · have := nextV_yes hn; omega
  · have e0 := nextV_no h hn
    have h0 := Byt.at h 0 (by omega)
    have e3 := Int.emod_lt_of_pos (List.getD l 0 0) (b := n) (by omega)
    have e1 := Int.mul_ediv_add_emod (List.getD l 0 0) n
    have e2 : 0 ≤ n * (List.getD l 0 0 / n) := Int.mul_nonneg (by omega) (Int.ediv_nonneg h0.1 (by omega))
    omega
theorem G_New (l : List Int) (n : Nat) (hn : List.length l = n) (hb : n ≤ 9223372036854775807) : Fun 36 [.c (.d (D.sl (dI .u8 l) n))] (toG []) 0 (rV 0 0) (toG [(0, some (95, .ds [D.sl (dI .u8 (List.take (min n 300) l)) (List.length (List.take (min n 300) l))]))]) 1 := by
  refine Fun.mk (n := 10) Tryz.func36 rfl rfl (Nat.le_of_ble_eq_true rfl) ?_
  intro cx hcx
  refine y9r [.no] True [(0, sV .u8 l n)] [] 0 trivial ?_
  refine y9r (nz9 4 [.sls 0 (min n 300) (min n 300) (dI .u8 (List.take (min n 300) l)), .no, .no, .no]) ((q9n 0) ∧ (((min (n : Int) 300) : Int) = (((min n 300) : Nat) : Int)) ∧ ((0 : Nat) ≤ (min n 300)) ∧ ((min n 300) ≤ n) ∧ ((min n 300) - 0 = (min n 300)) ∧ (List.take ((min n 300) * 1) (List.drop (0 * 1) (dI .u8 l)) = (dI .u8 (List.take (min n 300) l)))) [(2, rV 0 0)] [(0, some (95, .ds [db (List.take (min n 300) l) (min n 300)]))] 1 ⟨rfl, (by first | rfl | omega), zo, zo, zo, (by first | rfl | with_reducible assumption | exact dI_app _ _ _ | exact dI_rep _ _ _ | (simp only [dI_take, dI_drop, dI_app, Nat.mul_one, Nat.zero_mul, List.drop_zero, List.nil_append, List.append_nil]; done) | (simp only [dI_take, dI_drop, dI_app, Nat.mul_one, Nat.zero_mul, List.drop_zero, List.nil_append, List.append_nil]; rfl) | (rw [List.take_of_length_le (by simp only [bsD_len, dI_len, List.length_drop, List.length_replicate, Nat.mul_one] <;> omega)]; first | rfl | (simp only [dI_drop, Nat.mul_one, Nat.zero_mul, List.drop_zero]; done) | (simp only [dI_drop, Nat.mul_one, Nat.zero_mul, List.drop_zero]; rfl)))⟩ ?_
  refine AW.ret ?_
  exact EndP.of (.inr rfl) [] (P := (q9n 0) ∧ (([db (List.take (min n 300) l) (List.length (List.take (min n 300) l))] : List D) = [db (List.take (min n 300) l) (min n 300)])) zk ⟨rfl, (by have e9 : (List.take (min n 300) l).length = min n 300 := (by rw [List.length_take]; omega); rw [e9])⟩
theorem G_Next (l : List Int) (n : Int) (hb : Byt l) : Fun 38 [.c (.ptr 0 0), iE n] (toG [(0, some (95, .ds [D.sl (dI .u8 l) (List.length l)]))]) 1 (iV (((nextN l n) : Nat) : Int)) (toG [(0, some (95, .ds [D.sl (dI .u8 (nextL l n)) (List.length (nextL l n))]))]) 1 := by
  refine Fun.mk (n := 34) Tryz.func38 rfl rfl (Nat.le_of_ble_eq_true rfl) ?_
  intro cx hcx
  refine y9r [.no] True [(0, rV 0 0), (1, iV n)] [(0, some (95, .ds [db l (List.length l)]))] 1 trivial ?_
  refine AW.seq ?_
  by_cases hx1 : ((((List.length l) : Nat) : Int) = 0)
  · refine zr (nz9 5 [.b true, .no, .no]) [0, 1, 15] [0] (((List.length l : Int) = 0)) [(0, rV 0 0), (1, iV n), (15, bV true)] [(0, some (95, .ds [db l (List.length l)]))] 1 zo ?_
    refine zt ?_
    refine y9r [.no] True [(4, iV 0)] [(0, some (95, .ds [db l (List.length l)]))] 1 trivial ?_
    refine AW.ret ?_
    exact EndP.of (.inr rfl) [] (P := (((nextN l n : Int) : Int) = 0) ∧ (([db (nextL l n) (List.length (nextL l n))] : List D) = [db l (List.length l)])) zk ⟨(by first | rfl | exact nextV_yes zo | exact nextV_no hb zo | (rw [nextL_yes (by omega)]) | (rw [nextL_no (by omega), List.length_drop])), (by first | rw [nextL_yes (by omega)] | rw [nextL_no (by omega), List.length_drop])⟩
  · by_cases hx2 : (n ≤ 1)
    · refine zr (nz9 5 [.b false, .no, .no, .b true, .no]) [0, 1, 15] [0] ((¬ ((List.length l : Int) = 0)) ∧ ((n ≤ 1))) [(0, rV 0 0), (1, iV n), (15, bV true)] [(0, some (95, .ds [db l (List.length l)]))] 1 ⟨zo, zo⟩ ?_
      refine zt ?_
      refine y9r [.no] True [(4, iV 0)] [(0, some (95, .ds [db l (List.length l)]))] 1 trivial ?_
      refine AW.ret ?_
      exact EndP.of (.inr rfl) [] (P := (((nextN l n : Int) : Int) = 0) ∧ (([db (nextL l n) (List.length (nextL l n))] : List D) = [db l (List.length l)])) zk ⟨(by first | rfl | exact nextV_yes zo | exact nextV_no hb zo | (rw [nextL_yes (by omega)]) | (rw [nextL_no (by omega), List.length_drop])), (by first | rw [nextL_yes (by omega)] | rw [nextL_no (by omega), List.length_drop])⟩
    · refine zr (nz9 5 [.b false, .no, .no, .b false, .no]) [0, 1, 15] [0] ((¬ ((List.length l : Int) = 0)) ∧ (¬ (n ≤ 1))) [(0, rV 0 0), (1, iV n), (15, bV false)] [(0, some (95, .ds [db l (List.length l)]))] 1 ⟨zo, zo⟩ ?_
      refine zfs ?_
      have hx3 : 0 ≤ (List.getD l 0 0) ∧ (List.getD l 0 0) ≤ 255 := hb.at 0 zo
      refine y9r (nz9 4 [.n 0, .d (D.lit (.int .u8 (List.getD l 0 0))), .w, .no]) ((q9i 0) ∧ ((0 : Nat) < (List.length l)) ∧ ((List.drop 0 (dI .u8 l))[0]? = some (D.lit (.int .u8 (List.getD l 0 0)))) ∧ ((-9223372036854775808) ≤ (List.getD l 0 0) ∧ (List.getD l 0 0) ≤ 9223372036854775807)) [(0, rV 0 0), (1, iV n), (5, iV (List.getD l 0 0))] [(0, some (95, .ds [db l (List.length l)]))] 1 ⟨rfl, zo, (dI_at _ _ _ (by first | omega | (simp only [bsD_len, dI_len, List.length_append, List.length_cons, List.length_nil, List.length_take, List.length_drop, List.length_replicate, List.length_set, List.length_map, List.length_reverse, Nat.mul_one] <;> omega) | rfl)), ⟨by omega, by omega⟩⟩ ?_
      refine y9r (nz9 5 [.sls 1 (List.length l) ((List.length l) - 1) (dI .u8 (List.drop 1 l)), .no, .no, .no]) ((q9i 1) ∧ ((List.length l) = (List.length l)) ∧ ((1 : Nat) ≤ (List.length l)) ∧ ((List.length l) ≤ (List.length l)) ∧ ((List.length l) - 1 = ((List.length l) - 1)) ∧ (List.take (((List.length l) - 1) * 1) (List.drop (1 * 1) (dI .u8 l)) = (dI .u8 (List.drop 1 l)))) [(1, iV n), (5, iV (List.getD l 0 0))] [(0, some (95, .ds [db (List.drop 1 l) ((List.length l) - 1)]))] 1 ⟨rfl, rfl, zo, zo, zo, (by first | rfl | with_reducible assumption | exact dI_app _ _ _ | exact dI_rep _ _ _ | (simp only [dI_take, dI_drop, dI_app, Nat.mul_one, Nat.zero_mul, List.drop_zero, List.nil_append, List.append_nil]; done) | (simp only [dI_take, dI_drop, dI_app, Nat.mul_one, Nat.zero_mul, List.drop_zero, List.nil_append, List.append_nil]; rfl) | (rw [List.take_of_length_le (by simp only [bsD_len, dI_len, List.length_drop, List.length_replicate, Nat.mul_one] <;> omega)]; first | rfl | (simp only [dI_drop, Nat.mul_one, Nat.zero_mul, List.drop_zero]; done) | (simp only [dI_drop, Nat.mul_one, Nat.zero_mul, List.drop_zero]; rfl)))⟩ ?_
      refine y9s [.no, .no, .ps, .no] (((0 : Int) ≤ ((List.getD l 0 0) : Int)) ∧ ((0 : Int) < (n : Int))) [(4, iV ((List.getD l 0 0) % n))] ⟨zo, zo⟩ ?_
      refine AW.ret ?_
      exact EndP.of (.inr rfl) [] (P := (((nextN l n : Int) : Int) = ((List.getD l 0 0) % n)) ∧ (([db (nextL l n) (List.length (nextL l n))] : List D) = [db (List.drop 1 l) ((List.length l) - 1)])) zk ⟨(by first | rfl | exact nextV_yes zo | exact nextV_no hb zo | (rw [nextL_yes (by omega)]) | (rw [nextL_no (by omega), List.length_drop])), (by first | rw [nextL_yes (by omega)] | rw [nextL_no (by omega), List.length_drop])⟩
end Go.Proofs.YtcfmjpnffembpaaGreat
namespace Go.Proofs.YtcfmjpnffembpaaGreat
open Go.ChangeShapes Go.WideShapes Go.ChangeAt Go.RowKit
set_option linter.unusedVariables false
set_option linter.unusedSimpArgs false
/-! chapter 10: boxes out of dice -/
set_option maxHeartbeats 4000000
set_option maxRecDepth 100000
def mpT : List (List Int) := [[3], [1, 2], [1, 2, 3, 4, 5, 6], [2, 1], [1, 2, 7, 8], [4], [1, 3]]
theorem mpT_W : MsW mpT := fun l h => by
 have h1 : ∀ l ∈ mpT, List.length l ≤ 6 := by decide
 have := h1 l h; omega
def maV (l : List Int) : List Int := List.getD mpT (nextN l 7) []
def smD (l : List Int) : Nat → List Int
 | 0 => l
 | i + 1 => nextL (smD l i) 2
def smL (sp l : List Int) : Nat → List Int
 | 0 => []
 | i + 1 => if nextN (smD l i) 2 = 1 then smL sp l i ++ [List.getD sp (i * 2) 0, List.getD sp (i * 2 + 1) 0] else smL sp l i
theorem smD_byt {l : List Int} (h : Byt l) : ∀ i, Byt (smD l i)
 | 0 => h
 | i + 1 => nextL_byt _ (smD_byt h i)
theorem sm_y {sp l : List Int} {i : Nat} {o : List Int} (h : smL sp l i = o) (h1 : nextN (smD l i) 2 = 1) : smL sp l (i + 1) = o ++ [List.getD sp (i * 2) 0, List.getD sp (i * 2 + 1) 0] := by
 subst h; exact if_pos h1
theorem sm_n {sp l : List Int} {i : Nat} {o : List Int} (h : smL sp l i = o) (h1 : ¬ nextN (smD l i) 2 = 1) : smL sp l (i + 1) = o := by
 subst h; exact if_neg h1
def seL (sp l : List Int) (n : Nat) : List Int := if smL sp l n = [] then [List.getD sp (nextN (smD l n) (n : Int) * 2) 0, List.getD sp (nextN (smD l n) (n : Int) * 2 + 1) 0] else smL sp l n
def seD (sp l : List Int) (n : Nat) : List Int := if smL sp l n = [] then nextL (smD l n) (n : Int) else smD l n
def seN (sp l : List Int) (n : Nat) : Nat := (seL sp l n).length / 2
theorem seD_byt {sp l : List Int} {n : Nat} (h : Byt l) : Byt (seD sp l n) := by unfold seD; split; exact nextL_byt _ (smD_byt h n); exact smD_byt h n
theorem se_0 {sp l o : List Int} {n k i : Nat} (h : smL sp l i = o) (hi : i = n) (hl : o.length = k * 2) (hk : k = 0) : seL sp l n = o ++ [List.getD sp (nextN (smD l i) (n : Int) * 2) 0, List.getD sp (nextN (smD l i) (n : Int) * 2 + 1) 0] ∧ seD sp l n = nextL (smD l i) (n : Int) ∧ seN sp l n = k + 1 := by
 subst hi; subst hk
 have h2 : o = [] := List.eq_nil_of_length_eq_zero (by omega)
 have h0 : smL sp l i = [] := by rw [h, h2]
 have h1 : seL sp l i = [List.getD sp (nextN (smD l i) (i : Int) * 2) 0, List.getD sp (nextN (smD l i) (i : Int) * 2 + 1) 0] := if_pos h0
 refine ⟨by rw [h1, h2]; rfl, if_pos h0, ?_⟩
 unfold seN; rw [h1, List.length_cons, List.length_cons, List.length_nil]
theorem se_1 {sp l o : List Int} {n k i : Nat} (h : smL sp l i = o) (hi : i = n) (hl : o.length = k * 2) (hk : 1 ≤ k) : seL sp l n = o ∧ seD sp l n = smD l i ∧ seN sp l n = k := by
 subst hi
 have h0 : ¬ smL sp l i = [] := fun e => by rw [h] at e; rw [e] at hl; have : (0 : Nat) = k * 2 := hl; omega
 have h1 : seL sp l i = o := by unfold seL; rw [if_neg h0, h]
 refine ⟨h1, if_neg h0, ?_⟩
 unfold seN; rw [h1, hl]; omega
theorem maV_le (l : List Int) : List.length (maV l) ≤ 6 := by
 have h1 : ∀ l ∈ mpT, List.length l ≤ 6 := by decide
 unfold maV
 rw [List.getD_eq_getElem?_getD]
 cases e : mpT[nextN l 7]? with
 | none => exact Nat.zero_le _
 | some x => exact h1 x (List.mem_of_getElem? e)
theorem maV_rng {l : List Int} (h : Byt l) : 1 ≤ List.length (maV l) ∧ List.length (maV l) ≤ 6 := by
 refine ⟨?_, maV_le l⟩
 have h1 : ∀ x ∈ mpT, 1 ≤ List.length x := by decide
 have h2 := nextV_in l 7 h
 have h3 : nextN l 7 < mpT.length := by show _ < 7; omega
 unfold maV
 rw [List.getD_eq_getElem?_getD, List.getElem?_eq_getElem h3]
 exact h1 _ (List.getElem_mem h3)
theorem zl10e0 {p : Prop} (h : p := by first | omega | (simp only [msD_len, bxD_len, dI_len, List.length_append, List.length_cons, List.length_nil, List.length_take, List.length_drop, List.length_replicate, List.length_set, List.length_map, List.length_reverse, Nat.mul_one] <;> omega) | rfl) : p := h
theorem E_Maps   : Fun 99 [] (toG []) 0 (.e (.c (.d (D.sl (msD mpT) 7)))) (toG []) 0 := by
 refine Fun.mk (n := 9) Tryz.func99 rfl rfl (Nat.le_of_ble_eq_true rfl) ?_
 intro cx hcx
 refine y9r [.no] True [] [] 0 trivial ?_
 refine y9r [(.fz (.no)), (.fz (.no)), (.fz (.no)), (.fz (.no)), (.fz (.no)), (.fz (.no)), (.fz (.no)), .no, .no] ((([iD 3] : List D).length = 1 * 1) ∧ (([iD 1, iD 2] : List D).length = 2 * 1) ∧ (([iD 1, iD 2, iD 3, iD 4, iD 5, iD 6] : List D).length = 6 * 1) ∧ (([iD 2, iD 1] : List D).length = 2 * 1) ∧ (([iD 1, iD 2, iD 7, iD 8] : List D).length = 4 * 1) ∧ (([iD 4] : List D).length = 1 * 1) ∧ (([iD 1, iD 3] : List D).length = 2 * 1)) [(0, oV 7 0 7 1)] [(7, some (23, .ds [D.sl [iD 3] 1, D.sl [iD 1, iD 2] 2, D.sl [iD 1, iD 2, iD 3, iD 4, iD 5, iD 6] 6, D.sl [iD 2, iD 1] 2, D.sl [iD 1, iD 2, iD 7, iD 8] 4, D.sl [iD 4] 1, D.sl [iD 1, iD 3] 2]))] 8 ⟨zl10e0, zl10e0, zl10e0, zl10e0, zl10e0, zl10e0, zl10e0⟩ ?_
 refine AW.freeze 7 (l' := [(0, .e (.c (.d (D.sl [D.sl [iD 3] 1, D.sl [iD 1, iD 2] 2, D.sl [iD 1, iD 2, iD 3, iD 4, iD 5, iD 6] 6, D.sl [iD 2, iD 1] 2, D.sl [iD 1, iD 2, iD 7, iD 8] 4, D.sl [iD 4] 1, D.sl [iD 1, iD 3] 2] 7))))]) (g' := []) rfl (FzS.cons rfl (.e (.c (@FzC.own 7 ([D.sl [iD 3] 1, D.sl [iD 1, iD 2] 2, D.sl [iD 1, iD 2, iD 3, iD 4, iD 5, iD 6] 6, D.sl [iD 2, iD 1] 2, D.sl [iD 1, iD 2, iD 7, iD 8] 4, D.sl [iD 4] 1, D.sl [iD 1, iD 3] 2] : List D) 0 (7 : Nat) 1 true ([D.sl [iD 3] 1, D.sl [iD 1, iD 2] 2, D.sl [iD 1, iD 2, iD 3, iD 4, iD 5, iD 6] 6, D.sl [iD 2, iD 1] 2, D.sl [iD 1, iD 2, iD 7, iD 8] 4, D.sl [iD 4] 1, D.sl [iD 1, iD 3] 2] : List D) (by rw [List.drop_zero, Nat.mul_one, List.take_of_length_le (by first | omega | (simp only [msD_len, bxD_len, dI_len, List.length_append, List.length_cons, List.length_nil, List.length_take, List.length_drop, List.length_replicate, List.length_set, List.length_map, List.length_reverse, Nat.mul_one] <;> omega))]) zl10e0))) FzS.nil) FzG.nil ?_
 refine AW.ret ?_
 exact EndP.of (.inr rfl) [] (P := (((msD mpT) : List D) = [D.sl [iD 3] 1, D.sl [iD 1, iD 2] 2, D.sl [iD 1, iD 2, iD 3, iD 4, iD 5, iD 6] 6, D.sl [iD 2, iD 1] 2, D.sl [iD 1, iD 2, iD 7, iD 8] 4, D.sl [iD 4] 1, D.sl [iD 1, iD 3] 2]) ∧ (q9n 7)) zk ⟨(by first | rfl | decide), rfl⟩
theorem E_Map (l : List Int) (hb : Byt l) : Fun 58 [.c (.ptr 0 0)] (toG [(0, some (95, .ds [D.sl (dI .u8 l) (List.length l)]))]) 1 (sV .i64 (maV l) (List.length (maV l))) (toG [(0, some (95, .ds [D.sl (dI .u8 (nextL l 7)) (List.length (nextL l 7))]))]) 1 := by
 refine Fun.mk (n := 8) Tryz.func58 rfl rfl (Nat.le_of_ble_eq_true rfl) ?_
 intro cx hcx
 refine y9r [.no] True [(0, rV 0 0)] [(0, some (95, .ds [db l (List.length l)]))] 1 trivial ?_
 have hx1 : ((((((nextN l 7) : Nat) : Int) < 7) ∨ ((nextN l 7) = 0)) ∧ ((nextN l 7) ≤ 255)) := nextV_in l (7 : Int) ((show Byt l by with_reducible assumption))
 have hx2 : (Byt (nextL l 7)) := nextL_byt (7 : Int) ((show Byt l by with_reducible assumption))
 have hx3 : ((List.length (List.getD mpT (nextN l 7) ([] : List Int))) ≤ 1000000) := MsW.at mpT_W _
 refine y9r [.call [] (.e (.c (.d (D.sl (msD mpT) 7)))) [] 0 [] none, .no, .call [0] (uV (nextN l 7)) [(0, some (95, .ds [db (nextL l 7) (List.length (nextL l 7))]))] 1 [] none, .n (nextN l 7), .d (dl (List.getD mpT (nextN l 7) ([] : List Int)) (List.length (List.getD mpT (nextN l 7) ([] : List Int)))), .no] ((_) ∧ (_) ∧ (q9i (nextN l 7 : Int)) ∧ ((nextN l 7) < 7) ∧ ((List.drop (nextN l 7) (msD mpT))[0]? = some (dl (List.getD mpT (nextN l 7) ([] : List Int)) (List.length (List.getD mpT (nextN l 7) ([] : List Int)))))) [(2, sV .i64 (List.getD mpT (nextN l 7) ([] : List Int)) (List.length (List.getD mpT (nextN l 7) ([] : List Int))))] [(0, some (95, .ds [db (nextL l 7) (List.length (nextL l 7))]))] 1 ⟨(E_Maps), (G_Next l 7 (show Byt l by with_reducible assumption)), rfl, zo, (msD_at _ _ (by show _ < 7; omega))⟩ ?_
 refine AW.ret ?_
 exact EndP.of (.inr rfl) [] (P := (((dI .i64 (maV l)) : List D) = (dI .i64 (List.getD mpT (nextN l 7) ([] : List Int)))) ∧ (((List.length (maV l)) : Nat) = (List.length (List.getD mpT (nextN l 7) ([] : List Int)))) ∧ (q9d [db (nextL l 7) (List.length (nextL l 7))])) zk ⟨(by first | rfl | decide), (by first | omega | rfl | assumption | (simp; done) | (simp; omega)), rfl⟩
abbrev t0E4_0 (l : List Int) (i : Nat) : BC := .ds [D.sl (dI .u8 (smD l i)) (List.length (smD l i))]
abbrev t0E4_1 (l : List Int) (i : Nat) : BC := .ds [D.sl (dI .u8 (nextL (smD l i) 2)) (List.length (nextL (smD l i) 2))]
theorem E_set (sp : List Int) (n : Nat) (l : List Int) (hl : List.length sp = n * 2) (h1 : 1 ≤ n) (h2 : n ≤ 1000) (hb : Byt l) : Fun 123 [.c (.ptr 0 0), .c (.d (D.sl (dI .i64 sp) n))] (toG [(0, some (95, .ds [D.sl (dI .u8 l) (List.length l)]))]) 1 (.e (.agg [.d (D.sl (dI .i64 (mkL (seL sp l n) (seN sp l n))) (mkN (seL sp l n) (seN sp l n)))])) (toG [(0, some (95, .ds [D.sl (dI .u8 (seD sp l n)) (List.length (seD sp l n))]))]) 1 := by
 refine Fun.mk (n := 43) Tryz.func123 rfl rfl (Nat.le_of_ble_eq_true rfl) ?_
 intro cx hcx
 refine y9r [.no] True [(0, rV 0 0), (1, sV .i64 sp n), (4, rV 1 0)] [(0, some (95, .ds [db l (List.length l)])), (1, some (56, .ds [nl9]))] 2 trivial ?_
 refine y9s [.no] True [(0, rV 0 0), (1, sV .i64 sp n), (4, rV 1 0), (5, nV)] trivial ?_
 refine AW.seq ?_
 refine y9s [.no, .no, .no] True [(0, rV 0 0), (1, sV .i64 sp n), (4, rV 1 0), (5, nV), (10, sV .i64 sp n), (11, uV n), (12, iV 0)] trivial ?_
 refine AW.block ?_
 refine AW.adoptS 5 2 77 rfl ?_
 refine AW.loopE 1 hcx (fun (x : {x : Nat × Nat × List Int // match x with | (i, k, o) => (i ≤ n ∧ k ≤ i) ∧ (smL sp l i = o) ∧ (List.length o = k * 2)}) => match x with | ⟨(i, k, o), _⟩ => (⟨[(0, rV 0 0), (1, sV .i64 sp n), (4, rV 1 0), (5, oV 3 0 k 2), (10, sV .i64 sp n), (11, uV n), (12, uV i)], [(0, some (95, (t0E4_0 l i))), (1, some (56, .ds [nl9])), (3, some (77, .ds (dI .i64 o)))], 4⟩ : ES)) (fun x => match x with | ⟨(i, k, o), _⟩ => n - i) ⟨((0 : Nat), (0 : Nat), (([] : List Int) : List Int)), ⟨(by first | omega | assumption | simp), rfl, rfl⟩⟩ [(3, 2)] (P := (q9n 0) ∧ (q9d (dI .i64 sp)) ∧ (q9n n) ∧ (q9n 0) ∧ (q9n 0) ∧ (q9n 0) ∧ (q9d (dI .i64 sp)) ∧ (q9n n) ∧ (q9i (n : Int)) ∧ (q9i 0) ∧ (([db (smD l 0) (List.length (smD l 0))] : List D) = [db l (List.length l)]) ∧ (q9d [nl9]) ∧ (((dI .i64 ([] : List Int)) : List D) = ([] : List D))) zk ⟨rfl, rfl, rfl, rfl, rfl, rfl, rfl, rfl, rfl, rfl, (by first | rfl | with_reducible assumption), rfl, (by first | rfl | with_reducible assumption)⟩ ?_
 rintro ⟨⟨i, k, o⟩, hinv0⟩
 obtain ⟨hi, hS, ho⟩ : (i ≤ n ∧ k ≤ i) ∧ (smL sp l i = o) ∧ (List.length o = k * 2) := hinv0
 refine AW.es (l := [(0, rV 0 0), (1, sV .i64 sp n), (4, rV 1 0), (5, oV 3 0 k 2), (10, sV .i64 sp n), (11, uV n), (12, uV i)]) (g := [(0, some (95, (t0E4_0 l i))), (1, some (56, .ds [nl9])), (3, some (77, .ds (dI .i64 o)))]) (nx := 4) rfl rfl rfl ?_
 by_cases hx1 : (((i : Nat) : Int) < ((n : Nat) : Int))
 ·refine y9r [.b true] (((i : Int) < (n : Int))) [(0, rV 0 0), (1, sV .i64 sp n), (4, rV 1 0), (5, oV 3 0 k 2), (10, sV .i64 sp n), (11, uV n), (12, uV i), (13, bV true)] [(0, some (95, (t0E4_0 l i))), (1, some (56, .ds [nl9])), (3, some (77, .ds (dI .i64 o)))] 4 zo ?_
  refine AW.seq ?_
  refine zts ?_
  refine AW.seq ?_
  refine AW.block ?_
  refine y9r [.n i, .ds [iD (List.getD sp (i * 2) 0), iD (List.getD sp ((i * 2) + 1) 0)], .no, .no] ((q9i (i : Int)) ∧ (i < n) ∧ (List.take 2 (List.drop (i * 2) (dI .i64 sp)) = [iD (List.getD sp (i * 2) 0), iD (List.getD sp ((i * 2) + 1) 0)]) ∧ (([iD (List.getD sp (i * 2) 0), iD (List.getD sp ((i * 2) + 1) 0)] : List D).length = 2)) [(0, rV 0 0), (1, sV .i64 sp n), (4, rV 1 0), (5, oV 3 0 k 2), (7, rV 4 0), (10, sV .i64 sp n), (11, uV n), (12, uV i)] [(0, some (95, (t0E4_0 l i))), (1, some (56, .ds [nl9])), (3, some (77, .ds (dI .i64 o))), (4, some (77, .ds [iD (List.getD sp (i * 2) 0), iD (List.getD sp ((i * 2) + 1) 0)]))] 5 ⟨rfl, zo, (dI_lds .i64 sp (i * 2) 2 zl10e0), rfl⟩ ?_
  by_cases hx4 : ((((nextN (smD l i) 2) : Nat) : Int) = 1)
  ·have hx5 : ((((((nextN (smD l i) 2) : Nat) : Int) < 2) ∨ ((nextN (smD l i) 2) = 0)) ∧ ((nextN (smD l i) 2) ≤ 255)) := nextV_in (smD l i) (2 : Int) ((smD_byt (show Byt l by with_reducible assumption) _))
   have hx6 : (Byt (nextL (smD l i) 2)) := nextL_byt (2 : Int) ((smD_byt (show Byt l by with_reducible assumption) _))
   refine y9r [.no, .call [0] (uV (nextN (smD l i) 2)) [(0, some (95, (t0E4_1 l i)))] 1 [] none, .b true] ((_) ∧ (((nextN (smD l i) 2 : Int) = 1))) [(0, rV 0 0), (1, sV .i64 sp n), (4, rV 1 0), (5, oV 3 0 k 2), (7, rV 4 0), (10, sV .i64 sp n), (11, uV n), (12, uV i), (18, bV true)] [(0, some (95, (t0E4_1 l i))), (1, some (56, .ds [nl9])), (3, some (77, .ds (dI .i64 o))), (4, some (77, .ds [iD (List.getD sp (i * 2) 0), iD (List.getD sp ((i * 2) + 1) 0)]))] 5 ⟨(G_Next (smD l i) 2 (smD_byt (show Byt l by with_reducible assumption) _)), zo⟩ ?_
   refine zt ?_
   refine y9g [.no, .no, .no, .ap none (k + 1) (dI .i64 (o ++ ([(List.getD sp (i * 2) 0), (List.getD sp ((i * 2) + 1) 0)] : List Int))), .no] (([iD (List.getD sp (i * 2) 0), iD (List.getD sp ((i * 2) + 1) 0)].length = 1 * 2) ∧ (((dI .i64 o) : List D).length = k * 2) ∧ ((k + 1) * 16 ≤ 140737488355328) ∧ (k + 1 = (k + 1)) ∧ (((dI .i64 o) : List D) ++ [iD (List.getD sp (i * 2) 0), iD (List.getD sp ((i * 2) + 1) 0)] = (dI .i64 (o ++ ([(List.getD sp (i * 2) 0), (List.getD sp ((i * 2) + 1) 0)] : List Int))))) [(0, rV 0 0), (1, sV .i64 sp n), (4, rV 1 0), (5, oV 6 0 (k + 1) 2), (10, sV .i64 sp n), (11, uV n), (12, uV i)] [(0, some (95, (t0E4_1 l i))), (1, some (56, .ds [nl9])), (6, some (77, .ds (dI .i64 (o ++ ([(List.getD sp (i * 2) 0), (List.getD sp ((i * 2) + 1) 0)] : List Int)))))] 7 ⟨zl10e0, zl10e0, zo, zo, (dI_app .i64 o ([(List.getD sp (i * 2) 0), (List.getD sp ((i * 2) + 1) 0)] : List Int))⟩ ?_
   refine y9h [.w, .no] ((-9223372036854775808) ≤ ((i : Int) + 1) ∧ ((i : Int) + 1) ≤ 9223372036854775807) [(0, rV 0 0), (1, sV .i64 sp n), (4, rV 1 0), (5, oV 6 0 (k + 1) 2), (10, sV .i64 sp n), (11, uV n), (12, iV (↑i + 1))] ⟨by omega, by omega⟩ ?_
   exact Rd.of ⟨(((i + 1) : Nat), ((k + 1) : Nat), ((o ++ ([(List.getD sp (i * 2) 0), (List.getD sp ((i * 2) + 1) 0)] : List Int)) : List Int)), ⟨(by first | omega | assumption | simp), (by first | exact sm_y hS zo | exact sm_n hS zo), (by first | assumption | (simp only [msD_len, bxD_len, List.length_append, List.length_cons, List.length_nil] <;> omega))⟩⟩ [(3, 6)] (P := (q9n 0) ∧ (q9d (dI .i64 sp)) ∧ (q9n n) ∧ (q9n 0) ∧ (q9n 0) ∧ (q9n (k + 1)) ∧ (q9d (dI .i64 sp)) ∧ (q9n n) ∧ (q9i (n : Int)) ∧ (((((i + 1) : Nat) : Int) : Int) = ((i : Int) + 1)) ∧ (([db (smD l (i + 1)) (List.length (smD l (i + 1)))] : List D) = [db (nextL (smD l i) 2) (List.length (nextL (smD l i) 2))]) ∧ (q9d [nl9]) ∧ (q9d (dI .i64 (o ++ ([(List.getD sp (i * 2) 0), (List.getD sp ((i * 2) + 1) 0)] : List Int))))) zk ⟨rfl, rfl, rfl, rfl, rfl, rfl, rfl, rfl, rfl, (by first | rfl | omega | assumption | (simp; done) | (simp; omega)), (by first | rfl | with_reducible assumption), rfl, rfl⟩ (show n - (i + 1) < n - i from (by first | omega | (show _ < _; simp; omega)))
  ·have hx7 : ((((((nextN (smD l i) 2) : Nat) : Int) < 2) ∨ ((nextN (smD l i) 2) = 0)) ∧ ((nextN (smD l i) 2) ≤ 255)) := nextV_in (smD l i) (2 : Int) ((smD_byt (show Byt l by with_reducible assumption) _))
   have hx8 : (Byt (nextL (smD l i) 2)) := nextL_byt (2 : Int) ((smD_byt (show Byt l by with_reducible assumption) _))
   refine y9r [.no, .call [0] (uV (nextN (smD l i) 2)) [(0, some (95, (t0E4_1 l i)))] 1 [] none, .b false] ((_) ∧ (¬ ((nextN (smD l i) 2 : Int) = 1))) [(0, rV 0 0), (1, sV .i64 sp n), (4, rV 1 0), (5, oV 3 0 k 2), (7, rV 4 0), (10, sV .i64 sp n), (11, uV n), (12, uV i), (18, bV false)] [(0, some (95, (t0E4_1 l i))), (1, some (56, .ds [nl9])), (3, some (77, .ds (dI .i64 o))), (4, some (77, .ds [iD (List.getD sp (i * 2) 0), iD (List.getD sp ((i * 2) + 1) 0)]))] 5 ⟨(G_Next (smD l i) 2 (smD_byt (show Byt l by with_reducible assumption) _)), zo⟩ ?_
   refine zfs ?_
   refine y9g [.w, .no] ((-9223372036854775808) ≤ ((i : Int) + 1) ∧ ((i : Int) + 1) ≤ 9223372036854775807) [(0, rV 0 0), (1, sV .i64 sp n), (4, rV 1 0), (5, oV 3 0 k 2), (10, sV .i64 sp n), (11, uV n), (12, iV (↑i + 1))] [(0, some (95, (t0E4_1 l i))), (1, some (56, .ds [nl9])), (3, some (77, .ds (dI .i64 o)))] 5 ⟨by omega, by omega⟩ ?_
   exact Rd.of ⟨(((i + 1) : Nat), (k : Nat), (o : List Int)), ⟨(by first | omega | assumption | simp), (by first | exact sm_y hS zo | exact sm_n hS zo), (by first | assumption | (simp only [msD_len, bxD_len, List.length_append, List.length_cons, List.length_nil] <;> omega))⟩⟩ [] (P := (q9n 0) ∧ (q9d (dI .i64 sp)) ∧ (q9n n) ∧ (q9n 0) ∧ (q9n 0) ∧ (q9n k) ∧ (q9d (dI .i64 sp)) ∧ (q9n n) ∧ (q9i (n : Int)) ∧ (((((i + 1) : Nat) : Int) : Int) = ((i : Int) + 1)) ∧ (([db (smD l (i + 1)) (List.length (smD l (i + 1)))] : List D) = [db (nextL (smD l i) 2) (List.length (nextL (smD l i) 2))]) ∧ (q9d [nl9]) ∧ (q9d (dI .i64 o))) zk ⟨rfl, rfl, rfl, rfl, rfl, rfl, rfl, rfl, rfl, (by first | rfl | omega | assumption | (simp; done) | (simp; omega)), (by first | rfl | with_reducible assumption), rfl, rfl⟩ (show n - (i + 1) < n - i from (by first | omega | (show _ < _; simp; omega)))
 ·refine y9r [.b false] (¬ ((i : Int) < (n : Int))) [(0, rV 0 0), (1, sV .i64 sp n), (4, rV 1 0), (5, oV 3 0 k 2), (10, sV .i64 sp n), (11, uV n), (12, uV i), (13, bV false)] [(0, some (95, (t0E4_0 l i))), (1, some (56, .ds [nl9])), (3, some (77, .ds (dI .i64 o)))] 4 zo ?_
  refine AW.seq ?_
  refine zf ?_
  refine AW.exit ?_
  refine AW.seq ?_
  by_cases hx9 : (((k : Nat) : Int) = 0)
  ·refine y9r [.no, .no, .b true] (((k : Int) = 0)) [(0, rV 0 0), (1, sV .i64 sp n), (4, rV 1 0), (5, oV 3 0 k 2), (26, bV true)] [(0, some (95, (t0E4_0 l i))), (1, some (56, .ds [nl9])), (3, some (77, .ds (dI .i64 o)))] 4 zo ?_
   refine zt ?_
   have hx10 : ((((((nextN (smD l i) ((n : Nat) : Int)) : Nat) : Int) < ((n : Nat) : Int)) ∨ ((nextN (smD l i) ((n : Nat) : Int)) = 0)) ∧ ((nextN (smD l i) ((n : Nat) : Int)) ≤ 255)) := nextV_in (smD l i) ((n : Nat) : Int) ((smD_byt (show Byt l by with_reducible assumption) _))
   have hx11 : (Byt (nextL (smD l i) ((n : Nat) : Int))) := nextL_byt ((n : Nat) : Int) ((smD_byt (show Byt l by with_reducible assumption) _))
   refine y9g (nz9 5 [.call [0] (uV (nextN (smD l i) (n : Int))) [(0, some (95, .ds [db (nextL (smD l i) (n : Int)) (List.length (nextL (smD l i) (n : Int)))]))] 1 [] none, .n (nextN (smD l i) (n : Int)), .ds [iD (List.getD sp ((nextN (smD l i) (n : Int)) * 2) 0), iD (List.getD sp (((nextN (smD l i) (n : Int)) * 2) + 1) 0)], .no, .ap none (k + 1) (dI .i64 (o ++ ([(List.getD sp ((nextN (smD l i) (n : Int)) * 2) 0), (List.getD sp (((nextN (smD l i) (n : Int)) * 2) + 1) 0)] : List Int))), .no]) ((_) ∧ (q9i (((nextN (smD l i) (n : Int)) : Nat) : Int)) ∧ ((nextN (smD l i) (n : Int)) < n) ∧ (List.take 2 (List.drop ((nextN (smD l i) (n : Int)) * 2) (dI .i64 sp)) = [iD (List.getD sp ((nextN (smD l i) (n : Int)) * 2) 0), iD (List.getD sp (((nextN (smD l i) (n : Int)) * 2) + 1) 0)]) ∧ (([iD (List.getD sp ((nextN (smD l i) (n : Int)) * 2) 0), iD (List.getD sp (((nextN (smD l i) (n : Int)) * 2) + 1) 0)] : List D).length = 2) ∧ ([iD (List.getD sp ((nextN (smD l i) (n : Int)) * 2) 0), iD (List.getD sp (((nextN (smD l i) (n : Int)) * 2) + 1) 0)].length = 1 * 2) ∧ (((dI .i64 o) : List D).length = k * 2) ∧ ((k + 1) * 16 ≤ 140737488355328) ∧ (k + 1 = (k + 1)) ∧ (((dI .i64 o) : List D) ++ [iD (List.getD sp ((nextN (smD l i) (n : Int)) * 2) 0), iD (List.getD sp (((nextN (smD l i) (n : Int)) * 2) + 1) 0)] = (dI .i64 (o ++ ([(List.getD sp ((nextN (smD l i) (n : Int)) * 2) 0), (List.getD sp (((nextN (smD l i) (n : Int)) * 2) + 1) 0)] : List Int))))) [(4, rV 1 0), (5, oV 5 0 (k + 1) 2)] [(0, some (95, .ds [db (nextL (smD l i) ↑n) (List.length (nextL (smD l i) ↑n))])), (1, some (56, .ds [nl9])), (5, some (77, .ds (dI .i64 (o ++ ([(List.getD sp ((nextN (smD l i) ↑n) * 2) 0), (List.getD sp (((nextN (smD l i) ↑n) * 2) + 1) 0)] : List Int)))))] 6 ⟨(G_Next (smD l i) (n : Int) (smD_byt (show Byt l by with_reducible assumption) _)), rfl, zo, (dI_lds .i64 sp ((nextN (smD l i) (n : Int)) * 2) 2 zl10e0), rfl, zl10e0, zl10e0, zo, zo, (dI_app .i64 o ([(List.getD sp ((nextN (smD l i) (n : Int)) * 2) 0), (List.getD sp (((nextN (smD l i) (n : Int)) * 2) + 1) 0)] : List Int))⟩ ?_
   refine AW.freeze 5 (l' := [(4, rV 1 0), (5, sV .i64 (o ++ ([(List.getD sp ((nextN (smD l i) (n : Int)) * 2) 0), (List.getD sp (((nextN (smD l i) (n : Int)) * 2) + 1) 0)] : List Int)) (k + 1))]) (g' := [(0, some (95, .ds [db (nextL (smD l i) (n : Int)) (List.length (nextL (smD l i) (n : Int)))])), (1, some (56, .ds [nl9]))]) rfl (FzS.cons rfl (.same _) (FzS.cons rfl (.e (.c (@FzC.own 5 ((dI .i64 (o ++ ([(List.getD sp ((nextN (smD l i) (n : Int)) * 2) 0), (List.getD sp (((nextN (smD l i) (n : Int)) * 2) + 1) 0)] : List Int))) : List D) 0 (k + 1) 2 true ((dI .i64 (o ++ ([(List.getD sp ((nextN (smD l i) (n : Int)) * 2) 0), (List.getD sp (((nextN (smD l i) (n : Int)) * 2) + 1) 0)] : List Int))) : List D) (by rw [List.drop_zero, List.take_of_length_le (by first | omega | (simp only [msD_len, bxD_len, dI_len, List.length_append, List.length_cons, List.length_nil, List.length_take, List.length_drop, List.length_replicate, List.length_set, List.length_map, List.length_reverse, Nat.mul_one] <;> omega))]) zl10e0))) FzS.nil)) (FzG.keep rfl rfl (FzG.keep rfl rfl FzG.nil)) ?_
   have hx12 : ((List.length (mkL (o ++ ([(List.getD sp ((nextN (smD l i) ((n : Nat) : Int)) * 2) 0), (List.getD sp (((nextN (smD l i) ((n : Nat) : Int)) * 2) + 1) 0)] : List Int)) (k + 1))) = ((mkN (o ++ ([(List.getD sp ((nextN (smD l i) ((n : Nat) : Int)) * 2) 0), (List.getD sp (((nextN (smD l i) ((n : Nat) : Int)) * 2) + 1) 0)] : List Int)) (k + 1)) * 2)) := mkL_len (o ++ ([(List.getD sp ((nextN (smD l i) ((n : Nat) : Int)) * 2) 0), (List.getD sp (((nextN (smD l i) ((n : Nat) : Int)) * 2) + 1) 0)] : List Int)) (k + 1)
   have hx13 : ((((0 : Int) ≤ (mkE (o ++ ([(List.getD sp ((nextN (smD l i) ((n : Nat) : Int)) * 2) 0), (List.getD sp (((nextN (smD l i) ((n : Nat) : Int)) * 2) + 1) 0)] : List Int)) (k + 1))) ∧ ((mkE (o ++ ([(List.getD sp ((nextN (smD l i) ((n : Nat) : Int)) * 2) 0), (List.getD sp (((nextN (smD l i) ((n : Nat) : Int)) * 2) + 1) 0)] : List Int)) (k + 1)) ≤ 3)) ∧ ((mkN (o ++ ([(List.getD sp ((nextN (smD l i) ((n : Nat) : Int)) * 2) 0), (List.getD sp (((nextN (smD l i) ((n : Nat) : Int)) * 2) + 1) 0)] : List Int)) (k + 1)) ≤ 64)) := mk_rng (o ++ ([(List.getD sp ((nextN (smD l i) ((n : Nat) : Int)) * 2) 0), (List.getD sp (((nextN (smD l i) ((n : Nat) : Int)) * 2) + 1) 0)] : List Int)) (k + 1)
   refine y9r (.no :: .call [] (.tup [.agg [.d (dl (mkL (o ++ ([(List.getD sp ((nextN (smD l i) (n : Int)) * 2) 0), (List.getD sp (((nextN (smD l i) (n : Int)) * 2) + 1) 0)] : List Int)) (k + 1)) (mkN (o ++ ([(List.getD sp ((nextN (smD l i) (n : Int)) * 2) 0), (List.getD sp (((nextN (smD l i) (n : Int)) * 2) + 1) 0)] : List Int)) (k + 1)))], iE (mkE (o ++ ([(List.getD sp ((nextN (smD l i) (n : Int)) * 2) 0), (List.getD sp (((nextN (smD l i) (n : Int)) * 2) + 1) 0)] : List Int)) (k + 1))]) [] 0 [] none :: nz9 6 []) _ [(4, rV 1 0), (8, rV 6 0)] [(0, some (95, .ds [db (nextL (smD l i) ↑n) (List.length (nextL (smD l i) ↑n))])), (1, some (56, .ds [nl9])), (6, some (56, .ds [dl (mkL (o ++ ([(List.getD sp ((nextN (smD l i) ↑n) * 2) 0), (List.getD sp (((nextN (smD l i) ↑n) * 2) + 1) 0)] : List Int)) (k + 1)) (mkN (o ++ ([(List.getD sp ((nextN (smD l i) ↑n) * 2) 0), (List.getD sp (((nextN (smD l i) ↑n) * 2) + 1) 0)] : List Int)) (k + 1))]))] 7 (U_rMake (o ++ ([(List.getD sp ((nextN (smD l i) (n : Int)) * 2) 0), (List.getD sp (((nextN (smD l i) (n : Int)) * 2) + 1) 0)] : List Int)) (k + 1) (by first | omega | with_reducible assumption | (simp only [msD_len, bxD_len, List.length_append, List.length_cons, List.length_nil, List.length_take, List.length_drop, List.length_replicate, List.length_set] <;> omega) | rfl | assumption) zo) ?_
   refine y9r [.no, .no] True [(4, rV 1 0)] [(0, some (95, .ds [db (nextL (smD l i) ↑n) (List.length (nextL (smD l i) ↑n))])), (1, some (56, .ds [dl (mkL (o ++ ([(List.getD sp ((nextN (smD l i) ↑n) * 2) 0), (List.getD sp (((nextN (smD l i) ↑n) * 2) + 1) 0)] : List Int)) (k + 1)) (mkN (o ++ ([(List.getD sp ((nextN (smD l i) ↑n) * 2) 0), (List.getD sp (((nextN (smD l i) ↑n) * 2) + 1) 0)] : List Int)) (k + 1))]))] 7 trivial ?_
   obtain ⟨hz1, hz2, hz3⟩ := se_0 hS (show i = n by omega) ho zo
   refine AW.ret ?_
   exact EndP.of (.inr rfl) [] (P := (((dI .i64 (mkL (seL sp l n) (seN sp l n))) : List D) = (dI .i64 (mkL (o ++ ([(List.getD sp ((nextN (smD l i) (n : Int)) * 2) 0), (List.getD sp (((nextN (smD l i) (n : Int)) * 2) + 1) 0)] : List Int)) (k + 1)))) ∧ (((mkN (seL sp l n) (seN sp l n)) : Nat) = (mkN (o ++ ([(List.getD sp ((nextN (smD l i) (n : Int)) * 2) 0), (List.getD sp (((nextN (smD l i) (n : Int)) * 2) + 1) 0)] : List Int)) (k + 1))) ∧ (([db (seD sp l n) (List.length (seD sp l n))] : List D) = [db (nextL (smD l i) (n : Int)) (List.length (nextL (smD l i) (n : Int)))])) zk ⟨(by first | rfl | (rw [hz1, hz3]; done) | (rw [hz1, hz3]; rfl) | (rw [hz2]; done) | (rw [hz2]; rfl)), (by first | rfl | (rw [hz1, hz3]; done) | (rw [hz2]; done) | omega), (by first | rfl | (rw [hz1, hz3]; done) | (rw [hz1, hz3]; rfl) | (rw [hz2]; done) | (rw [hz2]; rfl))⟩
  ·refine y9r [.no, .no, .b false] (¬ ((k : Int) = 0)) [(0, rV 0 0), (1, sV .i64 sp n), (4, rV 1 0), (5, oV 3 0 k 2), (26, bV false)] [(0, some (95, (t0E4_0 l i))), (1, some (56, .ds [nl9])), (3, some (77, .ds (dI .i64 o)))] 4 zo ?_
   refine zfs ?_
   refine AW.freeze 3 (l' := [(0, rV 0 0), (1, sV .i64 sp n), (4, rV 1 0), (5, sV .i64 o k), (26, bV false)]) (g' := [(0, some (95, (t0E4_0 l i))), (1, some (56, .ds [nl9]))]) rfl (FzS.cons rfl (.same _) (FzS.cons rfl (.same _) (FzS.cons rfl (.same _) (FzS.cons rfl (.e (.c (@FzC.own 3 ((dI .i64 o) : List D) 0 k 2 true ((dI .i64 o) : List D) (by rw [List.drop_zero, List.take_of_length_le (by first | omega | (simp only [msD_len, bxD_len, dI_len, List.length_append, List.length_cons, List.length_nil, List.length_take, List.length_drop, List.length_replicate, List.length_set, List.length_map, List.length_reverse, Nat.mul_one] <;> omega))]) zl10e0))) (FzS.cons rfl (.same _) FzS.nil))))) (FzG.keep rfl rfl (FzG.keep rfl rfl FzG.nil)) ?_
   have hx14 : ((List.length (mkL o k)) = ((mkN o k) * 2)) := mkL_len o k
   have hx15 : ((((0 : Int) ≤ (mkE o k)) ∧ ((mkE o k) ≤ 3)) ∧ ((mkN o k) ≤ 64)) := mk_rng o k
   refine y9r (.no :: .call [] (.tup [.agg [.d (dl (mkL o k) (mkN o k))], iE (mkE o k)]) [] 0 [] none :: nz9 6 []) _ [(4, rV 1 0), (8, rV 4 0)] [(0, some (95, (t0E4_0 l i))), (1, some (56, .ds [nl9])), (4, some (56, .ds [dl (mkL o k) (mkN o k)]))] 5 (U_rMake o k zo zo) ?_
   refine y9r [.no, .no] True [(4, rV 1 0)] [(0, some (95, (t0E4_0 l i))), (1, some (56, .ds [dl (mkL o k) (mkN o k)]))] 5 trivial ?_
   obtain ⟨hz1, hz2, hz3⟩ := se_1 hS (show i = n by omega) ho zo
   refine AW.ret ?_
   exact EndP.of (.inr rfl) [] (P := (((dI .i64 (mkL (seL sp l n) (seN sp l n))) : List D) = (dI .i64 (mkL o k))) ∧ (((mkN (seL sp l n) (seN sp l n)) : Nat) = (mkN o k)) ∧ (([db (seD sp l n) (List.length (seD sp l n))] : List D) = [db (smD l i) (List.length (smD l i))])) zk ⟨(by first | rfl | (rw [hz1, hz3]; done) | (rw [hz1, hz3]; rfl) | (rw [hz2]; done) | (rw [hz2]; rfl)), (by first | rfl | (rw [hz1, hz3]; done) | (rw [hz2]; done) | omega), (by first | rfl | (rw [hz1, hz3]; done) | (rw [hz1, hz3]; rfl) | (rw [hz2]; done) | (rw [hz2]; rfl))⟩
end Go.Proofs.YtcfmjpnffembpaaGreat
