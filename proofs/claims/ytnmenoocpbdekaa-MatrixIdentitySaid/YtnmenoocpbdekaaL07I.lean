/- The identity. No statement is proved here. -/
import Derived.Test.YtnmenoocpbdekaaL07U
namespace Go.Proofs.Ytnmenoocpbdekaa
open Go.ChangeShapes Go.WideShapes Go.ChangeAt Go.RowKit
set_option linter.unusedVariables false
set_option linter.unusedSimpArgs false


theorem satI_id {x : Int} (h : -8388608 ≤ x ∧ x ≤ 8388607) : satI ((32768 * x + 16384) / 32768) = x := by unfold satI; omega
theorem set_at {l : List Int} {i j : Nat} {v : Int} (hi : i < List.length l) : List.getD (List.set l i v) j 0 = if i = j then v else List.getD l j 0 := by
  rw [List.getD_eq_getElem?_getD, List.getElem?_set]
  by_cases h9 : i = j
  · rw [if_pos h9, if_pos hi, if_pos h9]; rfl
  · rw [if_neg h9, if_neg h9, List.getD_eq_getElem?_getD]
theorem idL_at {n : Nat} : ∀ s, s ≤ n → ∀ r k, r < n → k < n → List.getD (idL n s) (r * n + k) 0 = if r = k ∧ r < s then 32768 else 0
  | 0, _, r, k, _, _ => by
    show List.getD (List.replicate (n * n) 0) _ 0 = _
    rw [getD_rep, if_neg (by omega)]
  | s + 1, hs, r, k, hr, hk => by
    have hl : s * n + s < List.length (idL n s) := by
      rw [idL_len]
      have := Nat.mul_le_mul_right n hs; rw [Nat.succ_mul] at this; omega
    show List.getD (List.set (idL n s) (s * n + s) 32768) (r * n + k) 0 = _
    rw [set_at hl, idL_at s (by omega) r k hr hk]
    by_cases he : s * n + s = r * n + k
    · have e1 : s = r := by rw [← at_div (f := s) (show s < n by omega), he, at_div hk]
      have e2 : s = k := by rw [← at_mod (f := s) (show s < n by omega), he, at_mod hk]
      rw [if_pos he, if_pos (by omega)]
    · rw [if_neg he]
      have h8 : ¬ (r = k ∧ r = s) := by rintro ⟨rfl, rfl⟩; exact he rfl
      by_cases h7 : r = k ∧ r < s
      · rw [if_pos h7, if_pos (by omega)]
      · rw [if_neg h7, if_neg (by omega)]
theorem split_at {j n : Nat} : j = j / n * n + j % n := by rw [Nat.mul_comm]; exact (Nat.div_add_mod j n).symm
theorem idL_MV {n : Nat} (h1 : 1 ≤ n) (h8 : n ≤ 8) : MV n n (idL n n) := ⟨h1, h8, h1, h8, idL_len n n, fun j hj => by
  rw [idL_len] at hj
  have hd : j / n < n := by rw [Nat.div_lt_iff_lt_mul (by omega)]; exact hj
  have hm : j % n < n := Nat.mod_lt _ (by omega)
  rw [split_at (j := j) (n := n), idL_at n (Nat.le_refl _) _ _ hd hm]
  split <;> omega⟩
theorem dotV_id {n r b : Nat} {w : List Int} (hr : r < n) : ∀ k, k ≤ n → dotV (idL n n) w (r * n) b k = if r < k then 32768 * List.getD w (b + r) 0 else 0
  | 0, _ => by rw [if_neg (by omega)]; rfl
  | k + 1, hk => by
    show dotV (idL n n) w (r * n) b k + _ = _
    rw [dotV_id hr k (by omega), idL_at n (Nat.le_refl _) r k hr (by omega)]
    by_cases h1 : r < k
    · rw [if_pos h1, if_neg (show ¬ (r = k ∧ r < n) by omega), if_pos (show r < k + 1 by omega)]; omega
    · by_cases h2 : r = k
      · subst h2; rw [if_neg h1, if_pos ⟨rfl, hr⟩, if_pos (Nat.lt_succ_self r)]; omega
      · rw [if_neg h1, if_neg (show ¬ (r = k ∧ r < n) by omega), if_neg (show ¬ r < k + 1 by omega)]; omega
theorem apA_id {n f : Nat} {w : List Int} (h : BV n f w) : apA (idL n n) w n n (f * n) = w := by
  have h1 := h.c1
  refine ext_len (by rw [apA_len, h.len]) fun j hj => ?_
  rw [apA_len] at hj
  have hm : j % n < n := Nat.mod_lt _ (by omega)
  unfold apA
  rw [map_getD hj]
  unfold apE
  rw [dotV_id hm n (Nat.le_refl _), if_pos hm, ← split_at, satI_id (h.at _ hj)]
theorem dotM_idl {n c p : Nat} {b : List Int} (hc : c < n) : ∀ k, k ≤ n → dotM b (idL n n) p n c k = if c < k then 32768 * List.getD b (p + c) 0 else 0
  | 0, _ => by rw [if_neg (by omega)]; rfl
  | k + 1, hk => by
    show dotM b (idL n n) p n c k + _ = _
    rw [dotM_idl hc k (by omega), idL_at n (Nat.le_refl _) k c (by omega) hc]
    by_cases h1 : c < k
    · rw [if_pos h1, if_neg (show ¬ (k = c ∧ k < n) by omega), if_pos (show c < k + 1 by omega)]; omega
    · by_cases h2 : k = c
      · subst h2; rw [if_neg h1, if_pos ⟨rfl, hc⟩, if_pos (Nat.lt_succ_self k)]; omega
      · rw [if_neg h1, if_neg (show ¬ (k = c ∧ k < n) by omega), if_neg (show ¬ c < k + 1 by omega)]; omega
theorem dotM_idr {n r c s : Nat} {a : List Int} (hr : r < n) : ∀ k, k ≤ n → dotM (idL n n) a (r * n) s c k = if r < k then 32768 * List.getD a (r * s + c) 0 else 0
  | 0, _ => by rw [if_neg (by omega)]; rfl
  | k + 1, hk => by
    show dotM (idL n n) a (r * n) s c k + _ = _
    rw [dotM_idr hr k (by omega), idL_at n (Nat.le_refl _) r k hr (by omega)]
    by_cases h1 : r < k
    · rw [if_pos h1, if_neg (show ¬ (r = k ∧ r < n) by omega), if_pos (show r < k + 1 by omega)]; omega
    · by_cases h2 : r = k
      · subst h2; rw [if_neg h1, if_pos ⟨rfl, hr⟩, if_pos (Nat.lt_succ_self r)]; omega
      · rw [if_neg h1, if_neg (show ¬ (r = k ∧ r < n) by omega), if_neg (show ¬ r < k + 1 by omega)]; omega
theorem clamp_id {x : Int} (h : -131072 ≤ x ∧ x ≤ 131072) : min (max ((32768 * x + 16384) / 32768) (-131072)) 131072 = x := by omega
theorem muA_idl {i o : Nat} {m : List Int} (h : MV i o m) : muA (idL i i) m i i (i * o) = m := by
  have h1 := h.i1
  refine ext_len (by rw [muA_len, h.len]) fun j hj => ?_
  rw [muA_len] at hj
  have hm : j % i < i := Nat.mod_lt _ (by omega)
  unfold muA
  rw [map_getD hj]
  unfold muE
  rw [dotM_idl hm i (Nat.le_refl _), if_pos hm, ← split_at, clamp_id (h.co _ (by rw [h.len]; exact hj))]
theorem muA_idr {i o : Nat} {m : List Int} (h : MV i o m) : muA m (idL o o) i o (i * o) = m := by
  have h1 := h.i1
  refine ext_len (by rw [muA_len, h.len]) fun j hj => ?_
  rw [muA_len] at hj
  have hd : j / i < o := by rw [Nat.div_lt_iff_lt_mul (by omega), Nat.mul_comm]; exact hj
  unfold muA
  rw [map_getD hj]
  unfold muE
  rw [dotM_idr hd o (Nat.le_refl _), if_pos hd, ← split_at, clamp_id (h.co _ (by rw [h.len]; exact hj))]
theorem same_to {l m : List Int} (h : l = m) : sameL l m = true := decide_eq_true h

set_option maxHeartbeats 4000000 in
set_option maxRecDepth 100000 in
theorem G_Maps   : Fun 126 [] (toG []) 0 (oV 0 0 7 1) (toG [(0, some (52, .cs [.own 1 0 1 1 true, .own 2 0 2 1 true, .own 3 0 6 1 true, .own 4 0 2 1 true, .own 5 0 4 1 true, .own 6 0 1 1 true, .own 7 0 2 1 true])), (1, some (3, .ds [iD 3])), (2, some (3, .ds [iD 1, iD 2])), (3, some (3, .ds [iD 1, iD 2, iD 3, iD 4, iD 5, iD 6])), (4, some (3, .ds [iD 2, iD 1])), (5, some (3, .ds [iD 1, iD 2, iD 7, iD 8])), (6, some (3, .ds [iD 4])), (7, some (3, .ds [iD 1, iD 3]))]) 8 := by
  refine Fun.mk (n := 9) Try.func126 rfl rfl (Nat.le_of_ble_eq_true rfl) ?_
  intro cx hcx
  refine AW.rgs [.no] [] [] (P := True) (l' := []) (g' := []) (nx' := 0) (by kernel_rfl) trivial ?_
  refine AW.rgs [.no, .no, .no, .no, .no, .no, .no, .no, .no] [0] [0, 1, 2, 3, 4, 5, 6, 7] (P := True) (l' := [(0, oV 7 0 7 1)]) (g' := [(0, some (3, .ds [iD 3])), (1, some (3, .ds [iD 1, iD 2])), (2, some (3, .ds [iD 1, iD 2, iD 3, iD 4, iD 5, iD 6])), (3, some (3, .ds [iD 2, iD 1])), (4, some (3, .ds [iD 1, iD 2, iD 7, iD 8])), (5, some (3, .ds [iD 4])), (6, some (3, .ds [iD 1, iD 3])), (7, some (52, .cs [.own 0 0 1 1 true, .own 1 0 2 1 true, .own 2 0 6 1 true, .own 3 0 2 1 true, .own 4 0 4 1 true, .own 5 0 1 1 true, .own 6 0 2 1 true]))]) (nx' := 8) (by kernel_rfl) trivial ?_
  refine AW.ret ?_
  exact EndP.of (.inr rfl) [(0, 7), (1, 0), (2, 1), (3, 2), (4, 3), (5, 4), (6, 5), (7, 6)] (P := ((0 : Nat) = 0) ∧ ((7 : Nat) = 7) ∧ ((0 : Nat) = 0) ∧ ((1 : Nat) = 1) ∧ ((0 : Nat) = 0) ∧ ((2 : Nat) = 2) ∧ ((0 : Nat) = 0) ∧ ((6 : Nat) = 6) ∧ ((0 : Nat) = 0) ∧ ((2 : Nat) = 2) ∧ ((0 : Nat) = 0) ∧ ((4 : Nat) = 4) ∧ ((0 : Nat) = 0) ∧ ((1 : Nat) = 1) ∧ ((0 : Nat) = 0) ∧ ((2 : Nat) = 2) ∧ (([iD 3] : List D) = [iD 3]) ∧ (([iD 1, iD 2] : List D) = [iD 1, iD 2]) ∧ (([iD 1, iD 2, iD 3, iD 4, iD 5, iD 6] : List D) = [iD 1, iD 2, iD 3, iD 4, iD 5, iD 6]) ∧ (([iD 2, iD 1] : List D) = [iD 2, iD 1]) ∧ (([iD 1, iD 2, iD 7, iD 8] : List D) = [iD 1, iD 2, iD 7, iD 8]) ∧ (([iD 4] : List D) = [iD 4]) ∧ (([iD 1, iD 3] : List D) = [iD 1, iD 3])) (by kernel_rfl) ⟨rfl, rfl, rfl, rfl, rfl, rfl, rfl, rfl, rfl, rfl, rfl, rfl, rfl, rfl, rfl, rfl, rfl, rfl, rfl, rfl, rfl, rfl, rfl⟩

set_option maxHeartbeats 4000000 in
set_option maxRecDepth 100000 in
theorem G_Map0 (l : List Int) (hb : Byt l) (hk : nextN l 7 = 0) : Fun 70 [.c (.ptr 0 0)] (toG [(0, some (118, .ds [D.sl (dI .u8 l) (List.length l)]))]) 1 (oV 1 0 1 1) (toG [(0, some (118, .ds [D.sl (dI .u8 (nextL l 7)) (List.length (nextL l 7))])), (1, some (3, .ds [iD 3]))]) 2 := by
  have hv7 := nextV_in l 7 hb
  refine Fun.mk (n := 8) Try.func70 rfl rfl (Nat.le_of_ble_eq_true rfl) ?_
  intro cx hcx
  refine AW.rgs [.no] [0] [0] (P := True) (l' := [(0, rV 0 0)]) (g' := [(0, some (118, .ds [D.sl (dI .u8 l) (List.length l)]))]) (nx' := 1) (by kernel_rfl) trivial ?_
  have hx1 : ((((((nextN l 7) : Nat) : Int) < 7) ∨ ((nextN l 7) = 0)) ∧ ((nextN l 7) ≤ 255)) := nextV_in l (7 : Int) ‹_›
  have hx2 : (Byt (nextL l 7)) := nextL_byt (7 : Int) ‹_›
  refine AW.rgs [.call [] (oV 0 0 7 1) [(0, some (52, .cs [.own 1 0 1 1 true, .own 2 0 2 1 true, .own 3 0 6 1 true, .own 4 0 2 1 true, .own 5 0 4 1 true, .own 6 0 1 1 true, .own 7 0 2 1 true])), (1, some (3, .ds [iD 3])), (2, some (3, .ds [iD 1, iD 2])), (3, some (3, .ds [iD 1, iD 2, iD 3, iD 4, iD 5, iD 6])), (4, some (3, .ds [iD 2, iD 1])), (5, some (3, .ds [iD 1, iD 2, iD 7, iD 8])), (6, some (3, .ds [iD 4])), (7, some (3, .ds [iD 1, iD 3]))] 8 [] none, .no, .call [0] (iV (((nextN l 7) : Nat) : Int)) [(0, some (118, .ds [D.sl (dI .u8 (nextL l 7)) (List.length (nextL l 7))]))] 1 [] none, .n2 0 0, .no, .no] [2] [0, 2] (P := (_) ∧ (_) ∧ (((((nextN l 7) : Nat) : Int) : Int) = 0) ∧ ((0 : Nat) < 7) ∧ ((0 : Nat) + 0 * 1 = 0)) (l' := [(2, oV 2 0 1 1)]) (g' := [(0, some (118, .ds [D.sl (dI .u8 (nextL l 7)) (List.length (nextL l 7))])), (2, some (3, .ds [iD 3]))]) (nx' := 9) (by kernel_rfl) ⟨(G_Maps), (G_Next l 7 (by first | omega | with_reducible assumption | (simp <;> omega) | rfl | assumption)), (by first | rfl | omega), (by omega), (by omega)⟩ ?_
  refine AW.ret ?_
  exact EndP.of (.inr rfl) [(1, 2)] (P := ((0 : Nat) = 0) ∧ ((1 : Nat) = 1) ∧ (([D.sl (dI .u8 (nextL l 7)) (List.length (nextL l 7))] : List D) = [D.sl (dI .u8 (nextL l 7)) (List.length (nextL l 7))]) ∧ (([iD 3] : List D) = [iD 3])) (by kernel_rfl) ⟨rfl, rfl, rfl, rfl⟩

set_option maxHeartbeats 4000000 in
set_option maxRecDepth 100000 in
theorem G_Map1 (l : List Int) (hb : Byt l) (hk : nextN l 7 = 1) : Fun 70 [.c (.ptr 0 0)] (toG [(0, some (118, .ds [D.sl (dI .u8 l) (List.length l)]))]) 1 (oV 1 0 2 1) (toG [(0, some (118, .ds [D.sl (dI .u8 (nextL l 7)) (List.length (nextL l 7))])), (1, some (3, .ds [iD 1, iD 2]))]) 2 := by
  have hv7 := nextV_in l 7 hb
  refine Fun.mk (n := 8) Try.func70 rfl rfl (Nat.le_of_ble_eq_true rfl) ?_
  intro cx hcx
  refine AW.rgs [.no] [0] [0] (P := True) (l' := [(0, rV 0 0)]) (g' := [(0, some (118, .ds [D.sl (dI .u8 l) (List.length l)]))]) (nx' := 1) (by kernel_rfl) trivial ?_
  have hx1 : ((((((nextN l 7) : Nat) : Int) < 7) ∨ ((nextN l 7) = 0)) ∧ ((nextN l 7) ≤ 255)) := nextV_in l (7 : Int) ‹_›
  have hx2 : (Byt (nextL l 7)) := nextL_byt (7 : Int) ‹_›
  refine AW.rgs [.call [] (oV 0 0 7 1) [(0, some (52, .cs [.own 1 0 1 1 true, .own 2 0 2 1 true, .own 3 0 6 1 true, .own 4 0 2 1 true, .own 5 0 4 1 true, .own 6 0 1 1 true, .own 7 0 2 1 true])), (1, some (3, .ds [iD 3])), (2, some (3, .ds [iD 1, iD 2])), (3, some (3, .ds [iD 1, iD 2, iD 3, iD 4, iD 5, iD 6])), (4, some (3, .ds [iD 2, iD 1])), (5, some (3, .ds [iD 1, iD 2, iD 7, iD 8])), (6, some (3, .ds [iD 4])), (7, some (3, .ds [iD 1, iD 3]))] 8 [] none, .no, .call [0] (iV (((nextN l 7) : Nat) : Int)) [(0, some (118, .ds [D.sl (dI .u8 (nextL l 7)) (List.length (nextL l 7))]))] 1 [] none, .n2 1 1, .no, .no] [2] [0, 3] (P := (_) ∧ (_) ∧ (((((nextN l 7) : Nat) : Int) : Int) = 1) ∧ ((1 : Nat) < 7) ∧ ((0 : Nat) + 1 * 1 = 1)) (l' := [(2, oV 3 0 2 1)]) (g' := [(0, some (118, .ds [D.sl (dI .u8 (nextL l 7)) (List.length (nextL l 7))])), (3, some (3, .ds [iD 1, iD 2]))]) (nx' := 9) (by kernel_rfl) ⟨(G_Maps), (G_Next l 7 (by first | omega | with_reducible assumption | (simp <;> omega) | rfl | assumption)), (by first | rfl | omega), (by omega), (by omega)⟩ ?_
  refine AW.ret ?_
  exact EndP.of (.inr rfl) [(1, 3)] (P := ((0 : Nat) = 0) ∧ ((2 : Nat) = 2) ∧ (([D.sl (dI .u8 (nextL l 7)) (List.length (nextL l 7))] : List D) = [D.sl (dI .u8 (nextL l 7)) (List.length (nextL l 7))]) ∧ (([iD 1, iD 2] : List D) = [iD 1, iD 2])) (by kernel_rfl) ⟨rfl, rfl, rfl, rfl⟩

set_option maxHeartbeats 4000000 in
set_option maxRecDepth 100000 in
theorem G_Map2 (l : List Int) (hb : Byt l) (hk : nextN l 7 = 2) : Fun 70 [.c (.ptr 0 0)] (toG [(0, some (118, .ds [D.sl (dI .u8 l) (List.length l)]))]) 1 (oV 1 0 6 1) (toG [(0, some (118, .ds [D.sl (dI .u8 (nextL l 7)) (List.length (nextL l 7))])), (1, some (3, .ds [iD 1, iD 2, iD 3, iD 4, iD 5, iD 6]))]) 2 := by
  have hv7 := nextV_in l 7 hb
  refine Fun.mk (n := 8) Try.func70 rfl rfl (Nat.le_of_ble_eq_true rfl) ?_
  intro cx hcx
  refine AW.rgs [.no] [0] [0] (P := True) (l' := [(0, rV 0 0)]) (g' := [(0, some (118, .ds [D.sl (dI .u8 l) (List.length l)]))]) (nx' := 1) (by kernel_rfl) trivial ?_
  have hx1 : ((((((nextN l 7) : Nat) : Int) < 7) ∨ ((nextN l 7) = 0)) ∧ ((nextN l 7) ≤ 255)) := nextV_in l (7 : Int) ‹_›
  have hx2 : (Byt (nextL l 7)) := nextL_byt (7 : Int) ‹_›
  refine AW.rgs [.call [] (oV 0 0 7 1) [(0, some (52, .cs [.own 1 0 1 1 true, .own 2 0 2 1 true, .own 3 0 6 1 true, .own 4 0 2 1 true, .own 5 0 4 1 true, .own 6 0 1 1 true, .own 7 0 2 1 true])), (1, some (3, .ds [iD 3])), (2, some (3, .ds [iD 1, iD 2])), (3, some (3, .ds [iD 1, iD 2, iD 3, iD 4, iD 5, iD 6])), (4, some (3, .ds [iD 2, iD 1])), (5, some (3, .ds [iD 1, iD 2, iD 7, iD 8])), (6, some (3, .ds [iD 4])), (7, some (3, .ds [iD 1, iD 3]))] 8 [] none, .no, .call [0] (iV (((nextN l 7) : Nat) : Int)) [(0, some (118, .ds [D.sl (dI .u8 (nextL l 7)) (List.length (nextL l 7))]))] 1 [] none, .n2 2 2, .no, .no] [2] [0, 4] (P := (_) ∧ (_) ∧ (((((nextN l 7) : Nat) : Int) : Int) = 2) ∧ ((2 : Nat) < 7) ∧ ((0 : Nat) + 2 * 1 = 2)) (l' := [(2, oV 4 0 6 1)]) (g' := [(0, some (118, .ds [D.sl (dI .u8 (nextL l 7)) (List.length (nextL l 7))])), (4, some (3, .ds [iD 1, iD 2, iD 3, iD 4, iD 5, iD 6]))]) (nx' := 9) (by kernel_rfl) ⟨(G_Maps), (G_Next l 7 (by first | omega | with_reducible assumption | (simp <;> omega) | rfl | assumption)), (by first | rfl | omega), (by omega), (by omega)⟩ ?_
  refine AW.ret ?_
  exact EndP.of (.inr rfl) [(1, 4)] (P := ((0 : Nat) = 0) ∧ ((6 : Nat) = 6) ∧ (([D.sl (dI .u8 (nextL l 7)) (List.length (nextL l 7))] : List D) = [D.sl (dI .u8 (nextL l 7)) (List.length (nextL l 7))]) ∧ (([iD 1, iD 2, iD 3, iD 4, iD 5, iD 6] : List D) = [iD 1, iD 2, iD 3, iD 4, iD 5, iD 6])) (by kernel_rfl) ⟨rfl, rfl, rfl, rfl⟩

set_option maxHeartbeats 4000000 in
set_option maxRecDepth 100000 in
theorem G_Map3 (l : List Int) (hb : Byt l) (hk : nextN l 7 = 3) : Fun 70 [.c (.ptr 0 0)] (toG [(0, some (118, .ds [D.sl (dI .u8 l) (List.length l)]))]) 1 (oV 1 0 2 1) (toG [(0, some (118, .ds [D.sl (dI .u8 (nextL l 7)) (List.length (nextL l 7))])), (1, some (3, .ds [iD 2, iD 1]))]) 2 := by
  have hv7 := nextV_in l 7 hb
  refine Fun.mk (n := 8) Try.func70 rfl rfl (Nat.le_of_ble_eq_true rfl) ?_
  intro cx hcx
  refine AW.rgs [.no] [0] [0] (P := True) (l' := [(0, rV 0 0)]) (g' := [(0, some (118, .ds [D.sl (dI .u8 l) (List.length l)]))]) (nx' := 1) (by kernel_rfl) trivial ?_
  have hx1 : ((((((nextN l 7) : Nat) : Int) < 7) ∨ ((nextN l 7) = 0)) ∧ ((nextN l 7) ≤ 255)) := nextV_in l (7 : Int) ‹_›
  have hx2 : (Byt (nextL l 7)) := nextL_byt (7 : Int) ‹_›
  refine AW.rgs [.call [] (oV 0 0 7 1) [(0, some (52, .cs [.own 1 0 1 1 true, .own 2 0 2 1 true, .own 3 0 6 1 true, .own 4 0 2 1 true, .own 5 0 4 1 true, .own 6 0 1 1 true, .own 7 0 2 1 true])), (1, some (3, .ds [iD 3])), (2, some (3, .ds [iD 1, iD 2])), (3, some (3, .ds [iD 1, iD 2, iD 3, iD 4, iD 5, iD 6])), (4, some (3, .ds [iD 2, iD 1])), (5, some (3, .ds [iD 1, iD 2, iD 7, iD 8])), (6, some (3, .ds [iD 4])), (7, some (3, .ds [iD 1, iD 3]))] 8 [] none, .no, .call [0] (iV (((nextN l 7) : Nat) : Int)) [(0, some (118, .ds [D.sl (dI .u8 (nextL l 7)) (List.length (nextL l 7))]))] 1 [] none, .n2 3 3, .no, .no] [2] [0, 5] (P := (_) ∧ (_) ∧ (((((nextN l 7) : Nat) : Int) : Int) = 3) ∧ ((3 : Nat) < 7) ∧ ((0 : Nat) + 3 * 1 = 3)) (l' := [(2, oV 5 0 2 1)]) (g' := [(0, some (118, .ds [D.sl (dI .u8 (nextL l 7)) (List.length (nextL l 7))])), (5, some (3, .ds [iD 2, iD 1]))]) (nx' := 9) (by kernel_rfl) ⟨(G_Maps), (G_Next l 7 (by first | omega | with_reducible assumption | (simp <;> omega) | rfl | assumption)), (by first | rfl | omega), (by omega), (by omega)⟩ ?_
  refine AW.ret ?_
  exact EndP.of (.inr rfl) [(1, 5)] (P := ((0 : Nat) = 0) ∧ ((2 : Nat) = 2) ∧ (([D.sl (dI .u8 (nextL l 7)) (List.length (nextL l 7))] : List D) = [D.sl (dI .u8 (nextL l 7)) (List.length (nextL l 7))]) ∧ (([iD 2, iD 1] : List D) = [iD 2, iD 1])) (by kernel_rfl) ⟨rfl, rfl, rfl, rfl⟩

set_option maxHeartbeats 4000000 in
set_option maxRecDepth 100000 in
theorem G_Map4 (l : List Int) (hb : Byt l) (hk : nextN l 7 = 4) : Fun 70 [.c (.ptr 0 0)] (toG [(0, some (118, .ds [D.sl (dI .u8 l) (List.length l)]))]) 1 (oV 1 0 4 1) (toG [(0, some (118, .ds [D.sl (dI .u8 (nextL l 7)) (List.length (nextL l 7))])), (1, some (3, .ds [iD 1, iD 2, iD 7, iD 8]))]) 2 := by
  have hv7 := nextV_in l 7 hb
  refine Fun.mk (n := 8) Try.func70 rfl rfl (Nat.le_of_ble_eq_true rfl) ?_
  intro cx hcx
  refine AW.rgs [.no] [0] [0] (P := True) (l' := [(0, rV 0 0)]) (g' := [(0, some (118, .ds [D.sl (dI .u8 l) (List.length l)]))]) (nx' := 1) (by kernel_rfl) trivial ?_
  have hx1 : ((((((nextN l 7) : Nat) : Int) < 7) ∨ ((nextN l 7) = 0)) ∧ ((nextN l 7) ≤ 255)) := nextV_in l (7 : Int) ‹_›
  have hx2 : (Byt (nextL l 7)) := nextL_byt (7 : Int) ‹_›
  refine AW.rgs [.call [] (oV 0 0 7 1) [(0, some (52, .cs [.own 1 0 1 1 true, .own 2 0 2 1 true, .own 3 0 6 1 true, .own 4 0 2 1 true, .own 5 0 4 1 true, .own 6 0 1 1 true, .own 7 0 2 1 true])), (1, some (3, .ds [iD 3])), (2, some (3, .ds [iD 1, iD 2])), (3, some (3, .ds [iD 1, iD 2, iD 3, iD 4, iD 5, iD 6])), (4, some (3, .ds [iD 2, iD 1])), (5, some (3, .ds [iD 1, iD 2, iD 7, iD 8])), (6, some (3, .ds [iD 4])), (7, some (3, .ds [iD 1, iD 3]))] 8 [] none, .no, .call [0] (iV (((nextN l 7) : Nat) : Int)) [(0, some (118, .ds [D.sl (dI .u8 (nextL l 7)) (List.length (nextL l 7))]))] 1 [] none, .n2 4 4, .no, .no] [2] [0, 6] (P := (_) ∧ (_) ∧ (((((nextN l 7) : Nat) : Int) : Int) = 4) ∧ ((4 : Nat) < 7) ∧ ((0 : Nat) + 4 * 1 = 4)) (l' := [(2, oV 6 0 4 1)]) (g' := [(0, some (118, .ds [D.sl (dI .u8 (nextL l 7)) (List.length (nextL l 7))])), (6, some (3, .ds [iD 1, iD 2, iD 7, iD 8]))]) (nx' := 9) (by kernel_rfl) ⟨(G_Maps), (G_Next l 7 (by first | omega | with_reducible assumption | (simp <;> omega) | rfl | assumption)), (by first | rfl | omega), (by omega), (by omega)⟩ ?_
  refine AW.ret ?_
  exact EndP.of (.inr rfl) [(1, 6)] (P := ((0 : Nat) = 0) ∧ ((4 : Nat) = 4) ∧ (([D.sl (dI .u8 (nextL l 7)) (List.length (nextL l 7))] : List D) = [D.sl (dI .u8 (nextL l 7)) (List.length (nextL l 7))]) ∧ (([iD 1, iD 2, iD 7, iD 8] : List D) = [iD 1, iD 2, iD 7, iD 8])) (by kernel_rfl) ⟨rfl, rfl, rfl, rfl⟩

set_option maxHeartbeats 4000000 in
set_option maxRecDepth 100000 in
theorem G_Map5 (l : List Int) (hb : Byt l) (hk : nextN l 7 = 5) : Fun 70 [.c (.ptr 0 0)] (toG [(0, some (118, .ds [D.sl (dI .u8 l) (List.length l)]))]) 1 (oV 1 0 1 1) (toG [(0, some (118, .ds [D.sl (dI .u8 (nextL l 7)) (List.length (nextL l 7))])), (1, some (3, .ds [iD 4]))]) 2 := by
  have hv7 := nextV_in l 7 hb
  refine Fun.mk (n := 8) Try.func70 rfl rfl (Nat.le_of_ble_eq_true rfl) ?_
  intro cx hcx
  refine AW.rgs [.no] [0] [0] (P := True) (l' := [(0, rV 0 0)]) (g' := [(0, some (118, .ds [D.sl (dI .u8 l) (List.length l)]))]) (nx' := 1) (by kernel_rfl) trivial ?_
  have hx1 : ((((((nextN l 7) : Nat) : Int) < 7) ∨ ((nextN l 7) = 0)) ∧ ((nextN l 7) ≤ 255)) := nextV_in l (7 : Int) ‹_›
  have hx2 : (Byt (nextL l 7)) := nextL_byt (7 : Int) ‹_›
  refine AW.rgs [.call [] (oV 0 0 7 1) [(0, some (52, .cs [.own 1 0 1 1 true, .own 2 0 2 1 true, .own 3 0 6 1 true, .own 4 0 2 1 true, .own 5 0 4 1 true, .own 6 0 1 1 true, .own 7 0 2 1 true])), (1, some (3, .ds [iD 3])), (2, some (3, .ds [iD 1, iD 2])), (3, some (3, .ds [iD 1, iD 2, iD 3, iD 4, iD 5, iD 6])), (4, some (3, .ds [iD 2, iD 1])), (5, some (3, .ds [iD 1, iD 2, iD 7, iD 8])), (6, some (3, .ds [iD 4])), (7, some (3, .ds [iD 1, iD 3]))] 8 [] none, .no, .call [0] (iV (((nextN l 7) : Nat) : Int)) [(0, some (118, .ds [D.sl (dI .u8 (nextL l 7)) (List.length (nextL l 7))]))] 1 [] none, .n2 5 5, .no, .no] [2] [0, 7] (P := (_) ∧ (_) ∧ (((((nextN l 7) : Nat) : Int) : Int) = 5) ∧ ((5 : Nat) < 7) ∧ ((0 : Nat) + 5 * 1 = 5)) (l' := [(2, oV 7 0 1 1)]) (g' := [(0, some (118, .ds [D.sl (dI .u8 (nextL l 7)) (List.length (nextL l 7))])), (7, some (3, .ds [iD 4]))]) (nx' := 9) (by kernel_rfl) ⟨(G_Maps), (G_Next l 7 (by first | omega | with_reducible assumption | (simp <;> omega) | rfl | assumption)), (by first | rfl | omega), (by omega), (by omega)⟩ ?_
  refine AW.ret ?_
  exact EndP.of (.inr rfl) [(1, 7)] (P := ((0 : Nat) = 0) ∧ ((1 : Nat) = 1) ∧ (([D.sl (dI .u8 (nextL l 7)) (List.length (nextL l 7))] : List D) = [D.sl (dI .u8 (nextL l 7)) (List.length (nextL l 7))]) ∧ (([iD 4] : List D) = [iD 4])) (by kernel_rfl) ⟨rfl, rfl, rfl, rfl⟩

set_option maxHeartbeats 4000000 in
set_option maxRecDepth 100000 in
theorem G_Map6 (l : List Int) (hb : Byt l) (hk : 6 ≤ nextN l 7) : Fun 70 [.c (.ptr 0 0)] (toG [(0, some (118, .ds [D.sl (dI .u8 l) (List.length l)]))]) 1 (oV 1 0 2 1) (toG [(0, some (118, .ds [D.sl (dI .u8 (nextL l 7)) (List.length (nextL l 7))])), (1, some (3, .ds [iD 1, iD 3]))]) 2 := by
  have hv7 := nextV_in l 7 hb
  refine Fun.mk (n := 8) Try.func70 rfl rfl (Nat.le_of_ble_eq_true rfl) ?_
  intro cx hcx
  refine AW.rgs [.no] [0] [0] (P := True) (l' := [(0, rV 0 0)]) (g' := [(0, some (118, .ds [D.sl (dI .u8 l) (List.length l)]))]) (nx' := 1) (by kernel_rfl) trivial ?_
  have hx1 : ((((((nextN l 7) : Nat) : Int) < 7) ∨ ((nextN l 7) = 0)) ∧ ((nextN l 7) ≤ 255)) := nextV_in l (7 : Int) ‹_›
  have hx2 : (Byt (nextL l 7)) := nextL_byt (7 : Int) ‹_›
  refine AW.rgs [.call [] (oV 0 0 7 1) [(0, some (52, .cs [.own 1 0 1 1 true, .own 2 0 2 1 true, .own 3 0 6 1 true, .own 4 0 2 1 true, .own 5 0 4 1 true, .own 6 0 1 1 true, .own 7 0 2 1 true])), (1, some (3, .ds [iD 3])), (2, some (3, .ds [iD 1, iD 2])), (3, some (3, .ds [iD 1, iD 2, iD 3, iD 4, iD 5, iD 6])), (4, some (3, .ds [iD 2, iD 1])), (5, some (3, .ds [iD 1, iD 2, iD 7, iD 8])), (6, some (3, .ds [iD 4])), (7, some (3, .ds [iD 1, iD 3]))] 8 [] none, .no, .call [0] (iV (((nextN l 7) : Nat) : Int)) [(0, some (118, .ds [D.sl (dI .u8 (nextL l 7)) (List.length (nextL l 7))]))] 1 [] none, .n2 6 6, .no, .no] [2] [0, 8] (P := (_) ∧ (_) ∧ (((((nextN l 7) : Nat) : Int) : Int) = 6) ∧ ((6 : Nat) < 7) ∧ ((0 : Nat) + 6 * 1 = 6)) (l' := [(2, oV 8 0 2 1)]) (g' := [(0, some (118, .ds [D.sl (dI .u8 (nextL l 7)) (List.length (nextL l 7))])), (8, some (3, .ds [iD 1, iD 3]))]) (nx' := 9) (by kernel_rfl) ⟨(G_Maps), (G_Next l 7 (by first | omega | with_reducible assumption | (simp <;> omega) | rfl | assumption)), (by first | rfl | omega), (by omega), (by omega)⟩ ?_
  refine AW.ret ?_
  exact EndP.of (.inr rfl) [(1, 8)] (P := ((0 : Nat) = 0) ∧ ((2 : Nat) = 2) ∧ (([D.sl (dI .u8 (nextL l 7)) (List.length (nextL l 7))] : List D) = [D.sl (dI .u8 (nextL l 7)) (List.length (nextL l 7))]) ∧ (([iD 1, iD 3] : List D) = [iD 1, iD 3])) (by kernel_rfl) ⟨rfl, rfl, rfl, rfl⟩

set_option maxHeartbeats 4000000 in
set_option maxRecDepth 100000 in
theorem C_Valid_m2   : Fun 120 [.c (.d (D.sl (dI .i64 ([1, 2, 3, 4, 5, 6] : List Int)) 6))] (toG []) 0 (bV true) (toG []) 0 := by
  refine Fun.mk (n := 31) Try.func120 rfl rfl (Nat.le_of_ble_eq_true rfl) ?_
  intro cx hcx
  refine AW.rgs [.no] [0] [] (P := True) (l' := [(0, sV .i64 ([1, 2, 3, 4, 5, 6] : List Int) 6)]) (g' := []) (nx' := 0) (by kernel_rfl) trivial ?_
  refine AW.seq ?_
  refine AW.rgs [.no, .no, .b false, .no, .no, .no, .b false, .no] [0, 12] [] (P := (¬ ((6 : Int) < 1)) ∧ (¬ ((8 : Int) < 6))) (l' := [(0, sV .i64 ([1, 2, 3, 4, 5, 6] : List Int) 6), (12, bV false)]) (g' := []) (nx' := 0) (by kernel_rfl) ⟨(by omega), (by omega)⟩ ?_
  refine AW.cond_f (.tmp (Look.of rfl)) ?_
  refine AW.skip ?_
  refine AW.seq ?_
  refine AW.rgs [.no, .no, .no] [0, 13, 14, 15] [] (P := True) (l' := [(0, sV .i64 ([1, 2, 3, 4, 5, 6] : List Int) 6), (13, sV .i64 ([1, 2, 3, 4, 5, 6] : List Int) 6), (14, iV 6), (15, iV 0)]) (g' := []) (nx' := 0) (by kernel_rfl) trivial ?_
  refine AW.block ?_
  refine AW.rounds 7 ?_
  refine AWr.s ?_
  refine AW.rgs [.b true] [0, 13, 14, 15, 16] [] (P := (((0 : Int) < 6))) (l' := [(0, sV .i64 ([1, 2, 3, 4, 5, 6] : List Int) 6), (13, sV .i64 ([1, 2, 3, 4, 5, 6] : List Int) 6), (14, iV 6), (15, iV 0), (16, bV true)]) (g' := []) (nx' := 0) (by kernel_rfl) (by omega) ?_
  refine AW.seq ?_
  refine AW.cond_t (.tmp (Look.of rfl)) ?_
  refine AW.skip ?_
  refine AW.seq ?_
  refine AW.block ?_
  refine AW.rgs [.no, .n 0, .d (D.lit (.int .i64 1)), .no, .no] [0, 3, 4, 13, 14, 15] [] (P := ((0 : Int) = 0) ∧ ((0 : Nat) < 6) ∧ ((List.drop 0 (dI .i64 ([1, 2, 3, 4, 5, 6] : List Int)))[0]? = some (D.lit (.int .i64 1)))) (l' := [(0, sV .i64 ([1, 2, 3, 4, 5, 6] : List Int) 6), (3, iV 0), (4, iV 1), (13, sV .i64 ([1, 2, 3, 4, 5, 6] : List Int) 6), (14, iV 6), (15, iV 0)]) (g' := []) (nx' := 0) (by kernel_rfl) ⟨rfl, (by omega), (by rfl)⟩ ?_
  refine AW.rgs [.no, .call [] (bV true) [] 0 [] none, .no, .no, .no, .no, .call [] (iV 0) [] 0 [] none, .no, .b false, .no] [0, 13, 14, 15, 29] [] (P := (_) ∧ (_) ∧ (¬ ((0 : Int) ≠ 0))) (l' := [(0, sV .i64 ([1, 2, 3, 4, 5, 6] : List Int) 6), (13, sV .i64 ([1, 2, 3, 4, 5, 6] : List Int) 6), (14, iV 6), (15, iV 0), (29, bV false)]) (g' := []) (nx' := 0) (by kernel_rfl) ⟨(Fun.y (C_isPos 1) (y' := bV true) (by kernel_rfl)), (Fun.cv (C_Index ([1, 2, 3, 4, 5, 6] : List Int) 6 1 rfl (by omega)) (y' := iV 0) (g1' := toG []) (by kernel_rfl) (by kernel_rfl)), (by omega)⟩ ?_
  refine AW.cond_f (.tmp (Look.of rfl)) ?_
  refine AW.skip ?_
  refine AW.rg [.w, .no] [0, 13, 14, 15] [] (P := ((-9223372036854775808) ≤ (1 : Int) ∧ (1 : Int) ≤ 9223372036854775807)) (l' := [(0, sV .i64 ([1, 2, 3, 4, 5, 6] : List Int) 6), (13, sV .i64 ([1, 2, 3, 4, 5, 6] : List Int) 6), (14, iV 6), (15, iV 1)]) (g' := []) (nx' := 0) (by kernel_rfl) ⟨by omega, by omega⟩ ?_
  refine AWr.s ?_
  refine AW.rgs [.b true] [0, 13, 14, 15, 16] [] (P := (((1 : Int) < 6))) (l' := [(0, sV .i64 ([1, 2, 3, 4, 5, 6] : List Int) 6), (13, sV .i64 ([1, 2, 3, 4, 5, 6] : List Int) 6), (14, iV 6), (15, iV 1), (16, bV true)]) (g' := []) (nx' := 0) (by kernel_rfl) (by omega) ?_
  refine AW.seq ?_
  refine AW.cond_t (.tmp (Look.of rfl)) ?_
  refine AW.skip ?_
  refine AW.seq ?_
  refine AW.block ?_
  refine AW.rgs [.no, .n 1, .d (D.lit (.int .i64 2)), .no, .no] [0, 3, 4, 13, 14, 15] [] (P := ((1 : Int) = 1) ∧ ((1 : Nat) < 6) ∧ ((List.drop 1 (dI .i64 ([1, 2, 3, 4, 5, 6] : List Int)))[0]? = some (D.lit (.int .i64 2)))) (l' := [(0, sV .i64 ([1, 2, 3, 4, 5, 6] : List Int) 6), (3, iV 1), (4, iV 2), (13, sV .i64 ([1, 2, 3, 4, 5, 6] : List Int) 6), (14, iV 6), (15, iV 1)]) (g' := []) (nx' := 0) (by kernel_rfl) ⟨rfl, (by omega), (by rfl)⟩ ?_
  refine AW.rgs [.no, .call [] (bV true) [] 0 [] none, .no, .no, .no, .no, .call [] (iV 1) [] 0 [] none, .no, .b false, .no] [0, 13, 14, 15, 29] [] (P := (_) ∧ (_) ∧ (¬ ((1 : Int) ≠ 1))) (l' := [(0, sV .i64 ([1, 2, 3, 4, 5, 6] : List Int) 6), (13, sV .i64 ([1, 2, 3, 4, 5, 6] : List Int) 6), (14, iV 6), (15, iV 1), (29, bV false)]) (g' := []) (nx' := 0) (by kernel_rfl) ⟨(Fun.y (C_isPos 2) (y' := bV true) (by kernel_rfl)), (Fun.cv (C_Index ([1, 2, 3, 4, 5, 6] : List Int) 6 2 rfl (by omega)) (y' := iV 1) (g1' := toG []) (by kernel_rfl) (by kernel_rfl)), (by omega)⟩ ?_
  refine AW.cond_f (.tmp (Look.of rfl)) ?_
  refine AW.skip ?_
  refine AW.rg [.w, .no] [0, 13, 14, 15] [] (P := ((-9223372036854775808) ≤ (2 : Int) ∧ (2 : Int) ≤ 9223372036854775807)) (l' := [(0, sV .i64 ([1, 2, 3, 4, 5, 6] : List Int) 6), (13, sV .i64 ([1, 2, 3, 4, 5, 6] : List Int) 6), (14, iV 6), (15, iV 2)]) (g' := []) (nx' := 0) (by kernel_rfl) ⟨by omega, by omega⟩ ?_
  refine AWr.s ?_
  refine AW.rgs [.b true] [0, 13, 14, 15, 16] [] (P := (((2 : Int) < 6))) (l' := [(0, sV .i64 ([1, 2, 3, 4, 5, 6] : List Int) 6), (13, sV .i64 ([1, 2, 3, 4, 5, 6] : List Int) 6), (14, iV 6), (15, iV 2), (16, bV true)]) (g' := []) (nx' := 0) (by kernel_rfl) (by omega) ?_
  refine AW.seq ?_
  refine AW.cond_t (.tmp (Look.of rfl)) ?_
  refine AW.skip ?_
  refine AW.seq ?_
  refine AW.block ?_
  refine AW.rgs [.no, .n 2, .d (D.lit (.int .i64 3)), .no, .no] [0, 3, 4, 13, 14, 15] [] (P := ((2 : Int) = 2) ∧ ((2 : Nat) < 6) ∧ ((List.drop 2 (dI .i64 ([1, 2, 3, 4, 5, 6] : List Int)))[0]? = some (D.lit (.int .i64 3)))) (l' := [(0, sV .i64 ([1, 2, 3, 4, 5, 6] : List Int) 6), (3, iV 2), (4, iV 3), (13, sV .i64 ([1, 2, 3, 4, 5, 6] : List Int) 6), (14, iV 6), (15, iV 2)]) (g' := []) (nx' := 0) (by kernel_rfl) ⟨rfl, (by omega), (by rfl)⟩ ?_
  refine AW.rgs [.no, .call [] (bV true) [] 0 [] none, .no, .no, .no, .no, .call [] (iV 2) [] 0 [] none, .no, .b false, .no] [0, 13, 14, 15, 29] [] (P := (_) ∧ (_) ∧ (¬ ((2 : Int) ≠ 2))) (l' := [(0, sV .i64 ([1, 2, 3, 4, 5, 6] : List Int) 6), (13, sV .i64 ([1, 2, 3, 4, 5, 6] : List Int) 6), (14, iV 6), (15, iV 2), (29, bV false)]) (g' := []) (nx' := 0) (by kernel_rfl) ⟨(Fun.y (C_isPos 3) (y' := bV true) (by kernel_rfl)), (Fun.cv (C_Index ([1, 2, 3, 4, 5, 6] : List Int) 6 3 rfl (by omega)) (y' := iV 2) (g1' := toG []) (by kernel_rfl) (by kernel_rfl)), (by omega)⟩ ?_
  refine AW.cond_f (.tmp (Look.of rfl)) ?_
  refine AW.skip ?_
  refine AW.rg [.w, .no] [0, 13, 14, 15] [] (P := ((-9223372036854775808) ≤ (3 : Int) ∧ (3 : Int) ≤ 9223372036854775807)) (l' := [(0, sV .i64 ([1, 2, 3, 4, 5, 6] : List Int) 6), (13, sV .i64 ([1, 2, 3, 4, 5, 6] : List Int) 6), (14, iV 6), (15, iV 3)]) (g' := []) (nx' := 0) (by kernel_rfl) ⟨by omega, by omega⟩ ?_
  refine AWr.s ?_
  refine AW.rgs [.b true] [0, 13, 14, 15, 16] [] (P := (((3 : Int) < 6))) (l' := [(0, sV .i64 ([1, 2, 3, 4, 5, 6] : List Int) 6), (13, sV .i64 ([1, 2, 3, 4, 5, 6] : List Int) 6), (14, iV 6), (15, iV 3), (16, bV true)]) (g' := []) (nx' := 0) (by kernel_rfl) (by omega) ?_
  refine AW.seq ?_
  refine AW.cond_t (.tmp (Look.of rfl)) ?_
  refine AW.skip ?_
  refine AW.seq ?_
  refine AW.block ?_
  refine AW.rgs [.no, .n 3, .d (D.lit (.int .i64 4)), .no, .no] [0, 3, 4, 13, 14, 15] [] (P := ((3 : Int) = 3) ∧ ((3 : Nat) < 6) ∧ ((List.drop 3 (dI .i64 ([1, 2, 3, 4, 5, 6] : List Int)))[0]? = some (D.lit (.int .i64 4)))) (l' := [(0, sV .i64 ([1, 2, 3, 4, 5, 6] : List Int) 6), (3, iV 3), (4, iV 4), (13, sV .i64 ([1, 2, 3, 4, 5, 6] : List Int) 6), (14, iV 6), (15, iV 3)]) (g' := []) (nx' := 0) (by kernel_rfl) ⟨rfl, (by omega), (by rfl)⟩ ?_
  refine AW.rgs [.no, .call [] (bV true) [] 0 [] none, .no, .no, .no, .no, .call [] (iV 3) [] 0 [] none, .no, .b false, .no] [0, 13, 14, 15, 29] [] (P := (_) ∧ (_) ∧ (¬ ((3 : Int) ≠ 3))) (l' := [(0, sV .i64 ([1, 2, 3, 4, 5, 6] : List Int) 6), (13, sV .i64 ([1, 2, 3, 4, 5, 6] : List Int) 6), (14, iV 6), (15, iV 3), (29, bV false)]) (g' := []) (nx' := 0) (by kernel_rfl) ⟨(Fun.y (C_isPos 4) (y' := bV true) (by kernel_rfl)), (Fun.cv (C_Index ([1, 2, 3, 4, 5, 6] : List Int) 6 4 rfl (by omega)) (y' := iV 3) (g1' := toG []) (by kernel_rfl) (by kernel_rfl)), (by omega)⟩ ?_
  refine AW.cond_f (.tmp (Look.of rfl)) ?_
  refine AW.skip ?_
  refine AW.rg [.w, .no] [0, 13, 14, 15] [] (P := ((-9223372036854775808) ≤ (4 : Int) ∧ (4 : Int) ≤ 9223372036854775807)) (l' := [(0, sV .i64 ([1, 2, 3, 4, 5, 6] : List Int) 6), (13, sV .i64 ([1, 2, 3, 4, 5, 6] : List Int) 6), (14, iV 6), (15, iV 4)]) (g' := []) (nx' := 0) (by kernel_rfl) ⟨by omega, by omega⟩ ?_
  refine AWr.s ?_
  refine AW.rgs [.b true] [0, 13, 14, 15, 16] [] (P := (((4 : Int) < 6))) (l' := [(0, sV .i64 ([1, 2, 3, 4, 5, 6] : List Int) 6), (13, sV .i64 ([1, 2, 3, 4, 5, 6] : List Int) 6), (14, iV 6), (15, iV 4), (16, bV true)]) (g' := []) (nx' := 0) (by kernel_rfl) (by omega) ?_
  refine AW.seq ?_
  refine AW.cond_t (.tmp (Look.of rfl)) ?_
  refine AW.skip ?_
  refine AW.seq ?_
  refine AW.block ?_
  refine AW.rgs [.no, .n 4, .d (D.lit (.int .i64 5)), .no, .no] [0, 3, 4, 13, 14, 15] [] (P := ((4 : Int) = 4) ∧ ((4 : Nat) < 6) ∧ ((List.drop 4 (dI .i64 ([1, 2, 3, 4, 5, 6] : List Int)))[0]? = some (D.lit (.int .i64 5)))) (l' := [(0, sV .i64 ([1, 2, 3, 4, 5, 6] : List Int) 6), (3, iV 4), (4, iV 5), (13, sV .i64 ([1, 2, 3, 4, 5, 6] : List Int) 6), (14, iV 6), (15, iV 4)]) (g' := []) (nx' := 0) (by kernel_rfl) ⟨rfl, (by omega), (by rfl)⟩ ?_
  refine AW.rgs [.no, .call [] (bV true) [] 0 [] none, .no, .no, .no, .no, .call [] (iV 4) [] 0 [] none, .no, .b false, .no] [0, 13, 14, 15, 29] [] (P := (_) ∧ (_) ∧ (¬ ((4 : Int) ≠ 4))) (l' := [(0, sV .i64 ([1, 2, 3, 4, 5, 6] : List Int) 6), (13, sV .i64 ([1, 2, 3, 4, 5, 6] : List Int) 6), (14, iV 6), (15, iV 4), (29, bV false)]) (g' := []) (nx' := 0) (by kernel_rfl) ⟨(Fun.y (C_isPos 5) (y' := bV true) (by kernel_rfl)), (Fun.cv (C_Index ([1, 2, 3, 4, 5, 6] : List Int) 6 5 rfl (by omega)) (y' := iV 4) (g1' := toG []) (by kernel_rfl) (by kernel_rfl)), (by omega)⟩ ?_
  refine AW.cond_f (.tmp (Look.of rfl)) ?_
  refine AW.skip ?_
  refine AW.rg [.w, .no] [0, 13, 14, 15] [] (P := ((-9223372036854775808) ≤ (5 : Int) ∧ (5 : Int) ≤ 9223372036854775807)) (l' := [(0, sV .i64 ([1, 2, 3, 4, 5, 6] : List Int) 6), (13, sV .i64 ([1, 2, 3, 4, 5, 6] : List Int) 6), (14, iV 6), (15, iV 5)]) (g' := []) (nx' := 0) (by kernel_rfl) ⟨by omega, by omega⟩ ?_
  refine AWr.s ?_
  refine AW.rgs [.b true] [0, 13, 14, 15, 16] [] (P := (((5 : Int) < 6))) (l' := [(0, sV .i64 ([1, 2, 3, 4, 5, 6] : List Int) 6), (13, sV .i64 ([1, 2, 3, 4, 5, 6] : List Int) 6), (14, iV 6), (15, iV 5), (16, bV true)]) (g' := []) (nx' := 0) (by kernel_rfl) (by omega) ?_
  refine AW.seq ?_
  refine AW.cond_t (.tmp (Look.of rfl)) ?_
  refine AW.skip ?_
  refine AW.seq ?_
  refine AW.block ?_
  refine AW.rgs [.no, .n 5, .d (D.lit (.int .i64 6)), .no, .no] [0, 3, 4, 13, 14, 15] [] (P := ((5 : Int) = 5) ∧ ((5 : Nat) < 6) ∧ ((List.drop 5 (dI .i64 ([1, 2, 3, 4, 5, 6] : List Int)))[0]? = some (D.lit (.int .i64 6)))) (l' := [(0, sV .i64 ([1, 2, 3, 4, 5, 6] : List Int) 6), (3, iV 5), (4, iV 6), (13, sV .i64 ([1, 2, 3, 4, 5, 6] : List Int) 6), (14, iV 6), (15, iV 5)]) (g' := []) (nx' := 0) (by kernel_rfl) ⟨rfl, (by omega), (by rfl)⟩ ?_
  refine AW.rgs [.no, .call [] (bV true) [] 0 [] none, .no, .no, .no, .no, .call [] (iV 5) [] 0 [] none, .no, .b false, .no] [0, 13, 14, 15, 29] [] (P := (_) ∧ (_) ∧ (¬ ((5 : Int) ≠ 5))) (l' := [(0, sV .i64 ([1, 2, 3, 4, 5, 6] : List Int) 6), (13, sV .i64 ([1, 2, 3, 4, 5, 6] : List Int) 6), (14, iV 6), (15, iV 5), (29, bV false)]) (g' := []) (nx' := 0) (by kernel_rfl) ⟨(Fun.y (C_isPos 6) (y' := bV true) (by kernel_rfl)), (Fun.cv (C_Index ([1, 2, 3, 4, 5, 6] : List Int) 6 6 rfl (by omega)) (y' := iV 5) (g1' := toG []) (by kernel_rfl) (by kernel_rfl)), (by omega)⟩ ?_
  refine AW.cond_f (.tmp (Look.of rfl)) ?_
  refine AW.skip ?_
  refine AW.rg [.w, .no] [0, 13, 14, 15] [] (P := ((-9223372036854775808) ≤ (6 : Int) ∧ (6 : Int) ≤ 9223372036854775807)) (l' := [(0, sV .i64 ([1, 2, 3, 4, 5, 6] : List Int) 6), (13, sV .i64 ([1, 2, 3, 4, 5, 6] : List Int) 6), (14, iV 6), (15, iV 6)]) (g' := []) (nx' := 0) (by kernel_rfl) ⟨by omega, by omega⟩ ?_
  refine AWr.s ?_
  refine AW.rgs [.b false] [0, 13, 14, 15, 16] [] (P := (¬ ((6 : Int) < 6))) (l' := [(0, sV .i64 ([1, 2, 3, 4, 5, 6] : List Int) 6), (13, sV .i64 ([1, 2, 3, 4, 5, 6] : List Int) 6), (14, iV 6), (15, iV 6), (16, bV false)]) (g' := []) (nx' := 0) (by kernel_rfl) (by omega) ?_
  refine AW.seq ?_
  refine AW.cond_f (.tmp (Look.of rfl)) ?_
  refine AW.exit ?_
  refine AW.rgs [.no] [2] [] (P := True) (l' := [(2, bV true)]) (g' := []) (nx' := 0) (by kernel_rfl) trivial ?_
  refine AW.ret ?_
  exact EndP.of (.inr rfl) [] (P := (true = true)) (by kernel_rfl) rfl

set_option maxHeartbeats 4000000 in
set_option maxRecDepth 100000 in
theorem C_Valid_m3   : Fun 120 [.c (.d (D.sl (dI .i64 ([2, 1] : List Int)) 2))] (toG []) 0 (bV true) (toG []) 0 := by
  refine Fun.mk (n := 31) Try.func120 rfl rfl (Nat.le_of_ble_eq_true rfl) ?_
  intro cx hcx
  refine AW.rgs [.no] [0] [] (P := True) (l' := [(0, sV .i64 ([2, 1] : List Int) 2)]) (g' := []) (nx' := 0) (by kernel_rfl) trivial ?_
  refine AW.seq ?_
  refine AW.rgs [.no, .no, .b false, .no, .no, .no, .b false, .no] [0, 12] [] (P := (¬ ((2 : Int) < 1)) ∧ (¬ ((8 : Int) < 2))) (l' := [(0, sV .i64 ([2, 1] : List Int) 2), (12, bV false)]) (g' := []) (nx' := 0) (by kernel_rfl) ⟨(by omega), (by omega)⟩ ?_
  refine AW.cond_f (.tmp (Look.of rfl)) ?_
  refine AW.skip ?_
  refine AW.seq ?_
  refine AW.rgs [.no, .no, .no] [0, 13, 14, 15] [] (P := True) (l' := [(0, sV .i64 ([2, 1] : List Int) 2), (13, sV .i64 ([2, 1] : List Int) 2), (14, iV 2), (15, iV 0)]) (g' := []) (nx' := 0) (by kernel_rfl) trivial ?_
  refine AW.block ?_
  refine AW.rounds 3 ?_
  refine AWr.s ?_
  refine AW.rgs [.b true] [0, 13, 14, 15, 16] [] (P := (((0 : Int) < 2))) (l' := [(0, sV .i64 ([2, 1] : List Int) 2), (13, sV .i64 ([2, 1] : List Int) 2), (14, iV 2), (15, iV 0), (16, bV true)]) (g' := []) (nx' := 0) (by kernel_rfl) (by omega) ?_
  refine AW.seq ?_
  refine AW.cond_t (.tmp (Look.of rfl)) ?_
  refine AW.skip ?_
  refine AW.seq ?_
  refine AW.block ?_
  refine AW.rgs [.no, .n 0, .d (D.lit (.int .i64 2)), .no, .no] [0, 3, 4, 13, 14, 15] [] (P := ((0 : Int) = 0) ∧ ((0 : Nat) < 2) ∧ ((List.drop 0 (dI .i64 ([2, 1] : List Int)))[0]? = some (D.lit (.int .i64 2)))) (l' := [(0, sV .i64 ([2, 1] : List Int) 2), (3, iV 0), (4, iV 2), (13, sV .i64 ([2, 1] : List Int) 2), (14, iV 2), (15, iV 0)]) (g' := []) (nx' := 0) (by kernel_rfl) ⟨rfl, (by omega), (by rfl)⟩ ?_
  refine AW.rgs [.no, .call [] (bV true) [] 0 [] none, .no, .no, .no, .no, .call [] (iV 0) [] 0 [] none, .no, .b false, .no] [0, 13, 14, 15, 29] [] (P := (_) ∧ (_) ∧ (¬ ((0 : Int) ≠ 0))) (l' := [(0, sV .i64 ([2, 1] : List Int) 2), (13, sV .i64 ([2, 1] : List Int) 2), (14, iV 2), (15, iV 0), (29, bV false)]) (g' := []) (nx' := 0) (by kernel_rfl) ⟨(Fun.y (C_isPos 2) (y' := bV true) (by kernel_rfl)), (Fun.cv (C_Index ([2, 1] : List Int) 2 2 rfl (by omega)) (y' := iV 0) (g1' := toG []) (by kernel_rfl) (by kernel_rfl)), (by omega)⟩ ?_
  refine AW.cond_f (.tmp (Look.of rfl)) ?_
  refine AW.skip ?_
  refine AW.rg [.w, .no] [0, 13, 14, 15] [] (P := ((-9223372036854775808) ≤ (1 : Int) ∧ (1 : Int) ≤ 9223372036854775807)) (l' := [(0, sV .i64 ([2, 1] : List Int) 2), (13, sV .i64 ([2, 1] : List Int) 2), (14, iV 2), (15, iV 1)]) (g' := []) (nx' := 0) (by kernel_rfl) ⟨by omega, by omega⟩ ?_
  refine AWr.s ?_
  refine AW.rgs [.b true] [0, 13, 14, 15, 16] [] (P := (((1 : Int) < 2))) (l' := [(0, sV .i64 ([2, 1] : List Int) 2), (13, sV .i64 ([2, 1] : List Int) 2), (14, iV 2), (15, iV 1), (16, bV true)]) (g' := []) (nx' := 0) (by kernel_rfl) (by omega) ?_
  refine AW.seq ?_
  refine AW.cond_t (.tmp (Look.of rfl)) ?_
  refine AW.skip ?_
  refine AW.seq ?_
  refine AW.block ?_
  refine AW.rgs [.no, .n 1, .d (D.lit (.int .i64 1)), .no, .no] [0, 3, 4, 13, 14, 15] [] (P := ((1 : Int) = 1) ∧ ((1 : Nat) < 2) ∧ ((List.drop 1 (dI .i64 ([2, 1] : List Int)))[0]? = some (D.lit (.int .i64 1)))) (l' := [(0, sV .i64 ([2, 1] : List Int) 2), (3, iV 1), (4, iV 1), (13, sV .i64 ([2, 1] : List Int) 2), (14, iV 2), (15, iV 1)]) (g' := []) (nx' := 0) (by kernel_rfl) ⟨rfl, (by omega), (by rfl)⟩ ?_
  refine AW.rgs [.no, .call [] (bV true) [] 0 [] none, .no, .no, .no, .no, .call [] (iV 1) [] 0 [] none, .no, .b false, .no] [0, 13, 14, 15, 29] [] (P := (_) ∧ (_) ∧ (¬ ((1 : Int) ≠ 1))) (l' := [(0, sV .i64 ([2, 1] : List Int) 2), (13, sV .i64 ([2, 1] : List Int) 2), (14, iV 2), (15, iV 1), (29, bV false)]) (g' := []) (nx' := 0) (by kernel_rfl) ⟨(Fun.y (C_isPos 1) (y' := bV true) (by kernel_rfl)), (Fun.cv (C_Index ([2, 1] : List Int) 2 1 rfl (by omega)) (y' := iV 1) (g1' := toG []) (by kernel_rfl) (by kernel_rfl)), (by omega)⟩ ?_
  refine AW.cond_f (.tmp (Look.of rfl)) ?_
  refine AW.skip ?_
  refine AW.rg [.w, .no] [0, 13, 14, 15] [] (P := ((-9223372036854775808) ≤ (2 : Int) ∧ (2 : Int) ≤ 9223372036854775807)) (l' := [(0, sV .i64 ([2, 1] : List Int) 2), (13, sV .i64 ([2, 1] : List Int) 2), (14, iV 2), (15, iV 2)]) (g' := []) (nx' := 0) (by kernel_rfl) ⟨by omega, by omega⟩ ?_
  refine AWr.s ?_
  refine AW.rgs [.b false] [0, 13, 14, 15, 16] [] (P := (¬ ((2 : Int) < 2))) (l' := [(0, sV .i64 ([2, 1] : List Int) 2), (13, sV .i64 ([2, 1] : List Int) 2), (14, iV 2), (15, iV 2), (16, bV false)]) (g' := []) (nx' := 0) (by kernel_rfl) (by omega) ?_
  refine AW.seq ?_
  refine AW.cond_f (.tmp (Look.of rfl)) ?_
  refine AW.exit ?_
  refine AW.rgs [.no] [2] [] (P := True) (l' := [(2, bV true)]) (g' := []) (nx' := 0) (by kernel_rfl) trivial ?_
  refine AW.ret ?_
  exact EndP.of (.inr rfl) [] (P := (true = true)) (by kernel_rfl) rfl

set_option maxHeartbeats 4000000 in
set_option maxRecDepth 100000 in
theorem C_Valid_m4   : Fun 120 [.c (.d (D.sl (dI .i64 ([1, 2, 7, 8] : List Int)) 4))] (toG []) 0 (bV true) (toG []) 0 := by
  refine Fun.mk (n := 31) Try.func120 rfl rfl (Nat.le_of_ble_eq_true rfl) ?_
  intro cx hcx
  refine AW.rgs [.no] [0] [] (P := True) (l' := [(0, sV .i64 ([1, 2, 7, 8] : List Int) 4)]) (g' := []) (nx' := 0) (by kernel_rfl) trivial ?_
  refine AW.seq ?_
  refine AW.rgs [.no, .no, .b false, .no, .no, .no, .b false, .no] [0, 12] [] (P := (¬ ((4 : Int) < 1)) ∧ (¬ ((8 : Int) < 4))) (l' := [(0, sV .i64 ([1, 2, 7, 8] : List Int) 4), (12, bV false)]) (g' := []) (nx' := 0) (by kernel_rfl) ⟨(by omega), (by omega)⟩ ?_
  refine AW.cond_f (.tmp (Look.of rfl)) ?_
  refine AW.skip ?_
  refine AW.seq ?_
  refine AW.rgs [.no, .no, .no] [0, 13, 14, 15] [] (P := True) (l' := [(0, sV .i64 ([1, 2, 7, 8] : List Int) 4), (13, sV .i64 ([1, 2, 7, 8] : List Int) 4), (14, iV 4), (15, iV 0)]) (g' := []) (nx' := 0) (by kernel_rfl) trivial ?_
  refine AW.block ?_
  refine AW.rounds 5 ?_
  refine AWr.s ?_
  refine AW.rgs [.b true] [0, 13, 14, 15, 16] [] (P := (((0 : Int) < 4))) (l' := [(0, sV .i64 ([1, 2, 7, 8] : List Int) 4), (13, sV .i64 ([1, 2, 7, 8] : List Int) 4), (14, iV 4), (15, iV 0), (16, bV true)]) (g' := []) (nx' := 0) (by kernel_rfl) (by omega) ?_
  refine AW.seq ?_
  refine AW.cond_t (.tmp (Look.of rfl)) ?_
  refine AW.skip ?_
  refine AW.seq ?_
  refine AW.block ?_
  refine AW.rgs [.no, .n 0, .d (D.lit (.int .i64 1)), .no, .no] [0, 3, 4, 13, 14, 15] [] (P := ((0 : Int) = 0) ∧ ((0 : Nat) < 4) ∧ ((List.drop 0 (dI .i64 ([1, 2, 7, 8] : List Int)))[0]? = some (D.lit (.int .i64 1)))) (l' := [(0, sV .i64 ([1, 2, 7, 8] : List Int) 4), (3, iV 0), (4, iV 1), (13, sV .i64 ([1, 2, 7, 8] : List Int) 4), (14, iV 4), (15, iV 0)]) (g' := []) (nx' := 0) (by kernel_rfl) ⟨rfl, (by omega), (by rfl)⟩ ?_
  refine AW.rgs [.no, .call [] (bV true) [] 0 [] none, .no, .no, .no, .no, .call [] (iV 0) [] 0 [] none, .no, .b false, .no] [0, 13, 14, 15, 29] [] (P := (_) ∧ (_) ∧ (¬ ((0 : Int) ≠ 0))) (l' := [(0, sV .i64 ([1, 2, 7, 8] : List Int) 4), (13, sV .i64 ([1, 2, 7, 8] : List Int) 4), (14, iV 4), (15, iV 0), (29, bV false)]) (g' := []) (nx' := 0) (by kernel_rfl) ⟨(Fun.y (C_isPos 1) (y' := bV true) (by kernel_rfl)), (Fun.cv (C_Index ([1, 2, 7, 8] : List Int) 4 1 rfl (by omega)) (y' := iV 0) (g1' := toG []) (by kernel_rfl) (by kernel_rfl)), (by omega)⟩ ?_
  refine AW.cond_f (.tmp (Look.of rfl)) ?_
  refine AW.skip ?_
  refine AW.rg [.w, .no] [0, 13, 14, 15] [] (P := ((-9223372036854775808) ≤ (1 : Int) ∧ (1 : Int) ≤ 9223372036854775807)) (l' := [(0, sV .i64 ([1, 2, 7, 8] : List Int) 4), (13, sV .i64 ([1, 2, 7, 8] : List Int) 4), (14, iV 4), (15, iV 1)]) (g' := []) (nx' := 0) (by kernel_rfl) ⟨by omega, by omega⟩ ?_
  refine AWr.s ?_
  refine AW.rgs [.b true] [0, 13, 14, 15, 16] [] (P := (((1 : Int) < 4))) (l' := [(0, sV .i64 ([1, 2, 7, 8] : List Int) 4), (13, sV .i64 ([1, 2, 7, 8] : List Int) 4), (14, iV 4), (15, iV 1), (16, bV true)]) (g' := []) (nx' := 0) (by kernel_rfl) (by omega) ?_
  refine AW.seq ?_
  refine AW.cond_t (.tmp (Look.of rfl)) ?_
  refine AW.skip ?_
  refine AW.seq ?_
  refine AW.block ?_
  refine AW.rgs [.no, .n 1, .d (D.lit (.int .i64 2)), .no, .no] [0, 3, 4, 13, 14, 15] [] (P := ((1 : Int) = 1) ∧ ((1 : Nat) < 4) ∧ ((List.drop 1 (dI .i64 ([1, 2, 7, 8] : List Int)))[0]? = some (D.lit (.int .i64 2)))) (l' := [(0, sV .i64 ([1, 2, 7, 8] : List Int) 4), (3, iV 1), (4, iV 2), (13, sV .i64 ([1, 2, 7, 8] : List Int) 4), (14, iV 4), (15, iV 1)]) (g' := []) (nx' := 0) (by kernel_rfl) ⟨rfl, (by omega), (by rfl)⟩ ?_
  refine AW.rgs [.no, .call [] (bV true) [] 0 [] none, .no, .no, .no, .no, .call [] (iV 1) [] 0 [] none, .no, .b false, .no] [0, 13, 14, 15, 29] [] (P := (_) ∧ (_) ∧ (¬ ((1 : Int) ≠ 1))) (l' := [(0, sV .i64 ([1, 2, 7, 8] : List Int) 4), (13, sV .i64 ([1, 2, 7, 8] : List Int) 4), (14, iV 4), (15, iV 1), (29, bV false)]) (g' := []) (nx' := 0) (by kernel_rfl) ⟨(Fun.y (C_isPos 2) (y' := bV true) (by kernel_rfl)), (Fun.cv (C_Index ([1, 2, 7, 8] : List Int) 4 2 rfl (by omega)) (y' := iV 1) (g1' := toG []) (by kernel_rfl) (by kernel_rfl)), (by omega)⟩ ?_
  refine AW.cond_f (.tmp (Look.of rfl)) ?_
  refine AW.skip ?_
  refine AW.rg [.w, .no] [0, 13, 14, 15] [] (P := ((-9223372036854775808) ≤ (2 : Int) ∧ (2 : Int) ≤ 9223372036854775807)) (l' := [(0, sV .i64 ([1, 2, 7, 8] : List Int) 4), (13, sV .i64 ([1, 2, 7, 8] : List Int) 4), (14, iV 4), (15, iV 2)]) (g' := []) (nx' := 0) (by kernel_rfl) ⟨by omega, by omega⟩ ?_
  refine AWr.s ?_
  refine AW.rgs [.b true] [0, 13, 14, 15, 16] [] (P := (((2 : Int) < 4))) (l' := [(0, sV .i64 ([1, 2, 7, 8] : List Int) 4), (13, sV .i64 ([1, 2, 7, 8] : List Int) 4), (14, iV 4), (15, iV 2), (16, bV true)]) (g' := []) (nx' := 0) (by kernel_rfl) (by omega) ?_
  refine AW.seq ?_
  refine AW.cond_t (.tmp (Look.of rfl)) ?_
  refine AW.skip ?_
  refine AW.seq ?_
  refine AW.block ?_
  refine AW.rgs [.no, .n 2, .d (D.lit (.int .i64 7)), .no, .no] [0, 3, 4, 13, 14, 15] [] (P := ((2 : Int) = 2) ∧ ((2 : Nat) < 4) ∧ ((List.drop 2 (dI .i64 ([1, 2, 7, 8] : List Int)))[0]? = some (D.lit (.int .i64 7)))) (l' := [(0, sV .i64 ([1, 2, 7, 8] : List Int) 4), (3, iV 2), (4, iV 7), (13, sV .i64 ([1, 2, 7, 8] : List Int) 4), (14, iV 4), (15, iV 2)]) (g' := []) (nx' := 0) (by kernel_rfl) ⟨rfl, (by omega), (by rfl)⟩ ?_
  refine AW.rgs [.no, .call [] (bV true) [] 0 [] none, .no, .no, .no, .no, .call [] (iV 2) [] 0 [] none, .no, .b false, .no] [0, 13, 14, 15, 29] [] (P := (_) ∧ (_) ∧ (¬ ((2 : Int) ≠ 2))) (l' := [(0, sV .i64 ([1, 2, 7, 8] : List Int) 4), (13, sV .i64 ([1, 2, 7, 8] : List Int) 4), (14, iV 4), (15, iV 2), (29, bV false)]) (g' := []) (nx' := 0) (by kernel_rfl) ⟨(Fun.y (C_isPos 7) (y' := bV true) (by kernel_rfl)), (Fun.cv (C_Index ([1, 2, 7, 8] : List Int) 4 7 rfl (by omega)) (y' := iV 2) (g1' := toG []) (by kernel_rfl) (by kernel_rfl)), (by omega)⟩ ?_
  refine AW.cond_f (.tmp (Look.of rfl)) ?_
  refine AW.skip ?_
  refine AW.rg [.w, .no] [0, 13, 14, 15] [] (P := ((-9223372036854775808) ≤ (3 : Int) ∧ (3 : Int) ≤ 9223372036854775807)) (l' := [(0, sV .i64 ([1, 2, 7, 8] : List Int) 4), (13, sV .i64 ([1, 2, 7, 8] : List Int) 4), (14, iV 4), (15, iV 3)]) (g' := []) (nx' := 0) (by kernel_rfl) ⟨by omega, by omega⟩ ?_
  refine AWr.s ?_
  refine AW.rgs [.b true] [0, 13, 14, 15, 16] [] (P := (((3 : Int) < 4))) (l' := [(0, sV .i64 ([1, 2, 7, 8] : List Int) 4), (13, sV .i64 ([1, 2, 7, 8] : List Int) 4), (14, iV 4), (15, iV 3), (16, bV true)]) (g' := []) (nx' := 0) (by kernel_rfl) (by omega) ?_
  refine AW.seq ?_
  refine AW.cond_t (.tmp (Look.of rfl)) ?_
  refine AW.skip ?_
  refine AW.seq ?_
  refine AW.block ?_
  refine AW.rgs [.no, .n 3, .d (D.lit (.int .i64 8)), .no, .no] [0, 3, 4, 13, 14, 15] [] (P := ((3 : Int) = 3) ∧ ((3 : Nat) < 4) ∧ ((List.drop 3 (dI .i64 ([1, 2, 7, 8] : List Int)))[0]? = some (D.lit (.int .i64 8)))) (l' := [(0, sV .i64 ([1, 2, 7, 8] : List Int) 4), (3, iV 3), (4, iV 8), (13, sV .i64 ([1, 2, 7, 8] : List Int) 4), (14, iV 4), (15, iV 3)]) (g' := []) (nx' := 0) (by kernel_rfl) ⟨rfl, (by omega), (by rfl)⟩ ?_
  refine AW.rgs [.no, .call [] (bV true) [] 0 [] none, .no, .no, .no, .no, .call [] (iV 3) [] 0 [] none, .no, .b false, .no] [0, 13, 14, 15, 29] [] (P := (_) ∧ (_) ∧ (¬ ((3 : Int) ≠ 3))) (l' := [(0, sV .i64 ([1, 2, 7, 8] : List Int) 4), (13, sV .i64 ([1, 2, 7, 8] : List Int) 4), (14, iV 4), (15, iV 3), (29, bV false)]) (g' := []) (nx' := 0) (by kernel_rfl) ⟨(Fun.y (C_isPos 8) (y' := bV true) (by kernel_rfl)), (Fun.cv (C_Index ([1, 2, 7, 8] : List Int) 4 8 rfl (by omega)) (y' := iV 3) (g1' := toG []) (by kernel_rfl) (by kernel_rfl)), (by omega)⟩ ?_
  refine AW.cond_f (.tmp (Look.of rfl)) ?_
  refine AW.skip ?_
  refine AW.rg [.w, .no] [0, 13, 14, 15] [] (P := ((-9223372036854775808) ≤ (4 : Int) ∧ (4 : Int) ≤ 9223372036854775807)) (l' := [(0, sV .i64 ([1, 2, 7, 8] : List Int) 4), (13, sV .i64 ([1, 2, 7, 8] : List Int) 4), (14, iV 4), (15, iV 4)]) (g' := []) (nx' := 0) (by kernel_rfl) ⟨by omega, by omega⟩ ?_
  refine AWr.s ?_
  refine AW.rgs [.b false] [0, 13, 14, 15, 16] [] (P := (¬ ((4 : Int) < 4))) (l' := [(0, sV .i64 ([1, 2, 7, 8] : List Int) 4), (13, sV .i64 ([1, 2, 7, 8] : List Int) 4), (14, iV 4), (15, iV 4), (16, bV false)]) (g' := []) (nx' := 0) (by kernel_rfl) (by omega) ?_
  refine AW.seq ?_
  refine AW.cond_f (.tmp (Look.of rfl)) ?_
  refine AW.exit ?_
  refine AW.rgs [.no] [2] [] (P := True) (l' := [(2, bV true)]) (g' := []) (nx' := 0) (by kernel_rfl) trivial ?_
  refine AW.ret ?_
  exact EndP.of (.inr rfl) [] (P := (true = true)) (by kernel_rfl) rfl

set_option maxHeartbeats 4000000 in
set_option maxRecDepth 100000 in
theorem C_Valid_m5   : Fun 120 [.c (.d (D.sl (dI .i64 ([4] : List Int)) 1))] (toG []) 0 (bV true) (toG []) 0 := by
  refine Fun.mk (n := 31) Try.func120 rfl rfl (Nat.le_of_ble_eq_true rfl) ?_
  intro cx hcx
  refine AW.rgs [.no] [0] [] (P := True) (l' := [(0, sV .i64 ([4] : List Int) 1)]) (g' := []) (nx' := 0) (by kernel_rfl) trivial ?_
  refine AW.seq ?_
  refine AW.rgs [.no, .no, .b false, .no, .no, .no, .b false, .no] [0, 12] [] (P := (¬ ((1 : Int) < 1)) ∧ (¬ ((8 : Int) < 1))) (l' := [(0, sV .i64 ([4] : List Int) 1), (12, bV false)]) (g' := []) (nx' := 0) (by kernel_rfl) ⟨(by omega), (by omega)⟩ ?_
  refine AW.cond_f (.tmp (Look.of rfl)) ?_
  refine AW.skip ?_
  refine AW.seq ?_
  refine AW.rgs [.no, .no, .no] [0, 13, 14, 15] [] (P := True) (l' := [(0, sV .i64 ([4] : List Int) 1), (13, sV .i64 ([4] : List Int) 1), (14, iV 1), (15, iV 0)]) (g' := []) (nx' := 0) (by kernel_rfl) trivial ?_
  refine AW.block ?_
  refine AW.rounds 2 ?_
  refine AWr.s ?_
  refine AW.rgs [.b true] [0, 13, 14, 15, 16] [] (P := (((0 : Int) < 1))) (l' := [(0, sV .i64 ([4] : List Int) 1), (13, sV .i64 ([4] : List Int) 1), (14, iV 1), (15, iV 0), (16, bV true)]) (g' := []) (nx' := 0) (by kernel_rfl) (by omega) ?_
  refine AW.seq ?_
  refine AW.cond_t (.tmp (Look.of rfl)) ?_
  refine AW.skip ?_
  refine AW.seq ?_
  refine AW.block ?_
  refine AW.rgs [.no, .n 0, .d (D.lit (.int .i64 4)), .no, .no] [0, 3, 4, 13, 14, 15] [] (P := ((0 : Int) = 0) ∧ ((0 : Nat) < 1) ∧ ((List.drop 0 (dI .i64 ([4] : List Int)))[0]? = some (D.lit (.int .i64 4)))) (l' := [(0, sV .i64 ([4] : List Int) 1), (3, iV 0), (4, iV 4), (13, sV .i64 ([4] : List Int) 1), (14, iV 1), (15, iV 0)]) (g' := []) (nx' := 0) (by kernel_rfl) ⟨rfl, (by omega), (by rfl)⟩ ?_
  refine AW.rgs [.no, .call [] (bV true) [] 0 [] none, .no, .no, .no, .no, .call [] (iV 0) [] 0 [] none, .no, .b false, .no] [0, 13, 14, 15, 29] [] (P := (_) ∧ (_) ∧ (¬ ((0 : Int) ≠ 0))) (l' := [(0, sV .i64 ([4] : List Int) 1), (13, sV .i64 ([4] : List Int) 1), (14, iV 1), (15, iV 0), (29, bV false)]) (g' := []) (nx' := 0) (by kernel_rfl) ⟨(Fun.y (C_isPos 4) (y' := bV true) (by kernel_rfl)), (Fun.cv (C_Index ([4] : List Int) 1 4 rfl (by omega)) (y' := iV 0) (g1' := toG []) (by kernel_rfl) (by kernel_rfl)), (by omega)⟩ ?_
  refine AW.cond_f (.tmp (Look.of rfl)) ?_
  refine AW.skip ?_
  refine AW.rg [.w, .no] [0, 13, 14, 15] [] (P := ((-9223372036854775808) ≤ (1 : Int) ∧ (1 : Int) ≤ 9223372036854775807)) (l' := [(0, sV .i64 ([4] : List Int) 1), (13, sV .i64 ([4] : List Int) 1), (14, iV 1), (15, iV 1)]) (g' := []) (nx' := 0) (by kernel_rfl) ⟨by omega, by omega⟩ ?_
  refine AWr.s ?_
  refine AW.rgs [.b false] [0, 13, 14, 15, 16] [] (P := (¬ ((1 : Int) < 1))) (l' := [(0, sV .i64 ([4] : List Int) 1), (13, sV .i64 ([4] : List Int) 1), (14, iV 1), (15, iV 1), (16, bV false)]) (g' := []) (nx' := 0) (by kernel_rfl) (by omega) ?_
  refine AW.seq ?_
  refine AW.cond_f (.tmp (Look.of rfl)) ?_
  refine AW.exit ?_
  refine AW.rgs [.no] [2] [] (P := True) (l' := [(2, bV true)]) (g' := []) (nx' := 0) (by kernel_rfl) trivial ?_
  refine AW.ret ?_
  exact EndP.of (.inr rfl) [] (P := (true = true)) (by kernel_rfl) rfl

set_option maxHeartbeats 4000000 in
set_option maxRecDepth 100000 in
theorem C_Valid_m6   : Fun 120 [.c (.d (D.sl (dI .i64 ([1, 3] : List Int)) 2))] (toG []) 0 (bV true) (toG []) 0 := by
  refine Fun.mk (n := 31) Try.func120 rfl rfl (Nat.le_of_ble_eq_true rfl) ?_
  intro cx hcx
  refine AW.rgs [.no] [0] [] (P := True) (l' := [(0, sV .i64 ([1, 3] : List Int) 2)]) (g' := []) (nx' := 0) (by kernel_rfl) trivial ?_
  refine AW.seq ?_
  refine AW.rgs [.no, .no, .b false, .no, .no, .no, .b false, .no] [0, 12] [] (P := (¬ ((2 : Int) < 1)) ∧ (¬ ((8 : Int) < 2))) (l' := [(0, sV .i64 ([1, 3] : List Int) 2), (12, bV false)]) (g' := []) (nx' := 0) (by kernel_rfl) ⟨(by omega), (by omega)⟩ ?_
  refine AW.cond_f (.tmp (Look.of rfl)) ?_
  refine AW.skip ?_
  refine AW.seq ?_
  refine AW.rgs [.no, .no, .no] [0, 13, 14, 15] [] (P := True) (l' := [(0, sV .i64 ([1, 3] : List Int) 2), (13, sV .i64 ([1, 3] : List Int) 2), (14, iV 2), (15, iV 0)]) (g' := []) (nx' := 0) (by kernel_rfl) trivial ?_
  refine AW.block ?_
  refine AW.rounds 3 ?_
  refine AWr.s ?_
  refine AW.rgs [.b true] [0, 13, 14, 15, 16] [] (P := (((0 : Int) < 2))) (l' := [(0, sV .i64 ([1, 3] : List Int) 2), (13, sV .i64 ([1, 3] : List Int) 2), (14, iV 2), (15, iV 0), (16, bV true)]) (g' := []) (nx' := 0) (by kernel_rfl) (by omega) ?_
  refine AW.seq ?_
  refine AW.cond_t (.tmp (Look.of rfl)) ?_
  refine AW.skip ?_
  refine AW.seq ?_
  refine AW.block ?_
  refine AW.rgs [.no, .n 0, .d (D.lit (.int .i64 1)), .no, .no] [0, 3, 4, 13, 14, 15] [] (P := ((0 : Int) = 0) ∧ ((0 : Nat) < 2) ∧ ((List.drop 0 (dI .i64 ([1, 3] : List Int)))[0]? = some (D.lit (.int .i64 1)))) (l' := [(0, sV .i64 ([1, 3] : List Int) 2), (3, iV 0), (4, iV 1), (13, sV .i64 ([1, 3] : List Int) 2), (14, iV 2), (15, iV 0)]) (g' := []) (nx' := 0) (by kernel_rfl) ⟨rfl, (by omega), (by rfl)⟩ ?_
  refine AW.rgs [.no, .call [] (bV true) [] 0 [] none, .no, .no, .no, .no, .call [] (iV 0) [] 0 [] none, .no, .b false, .no] [0, 13, 14, 15, 29] [] (P := (_) ∧ (_) ∧ (¬ ((0 : Int) ≠ 0))) (l' := [(0, sV .i64 ([1, 3] : List Int) 2), (13, sV .i64 ([1, 3] : List Int) 2), (14, iV 2), (15, iV 0), (29, bV false)]) (g' := []) (nx' := 0) (by kernel_rfl) ⟨(Fun.y (C_isPos 1) (y' := bV true) (by kernel_rfl)), (Fun.cv (C_Index ([1, 3] : List Int) 2 1 rfl (by omega)) (y' := iV 0) (g1' := toG []) (by kernel_rfl) (by kernel_rfl)), (by omega)⟩ ?_
  refine AW.cond_f (.tmp (Look.of rfl)) ?_
  refine AW.skip ?_
  refine AW.rg [.w, .no] [0, 13, 14, 15] [] (P := ((-9223372036854775808) ≤ (1 : Int) ∧ (1 : Int) ≤ 9223372036854775807)) (l' := [(0, sV .i64 ([1, 3] : List Int) 2), (13, sV .i64 ([1, 3] : List Int) 2), (14, iV 2), (15, iV 1)]) (g' := []) (nx' := 0) (by kernel_rfl) ⟨by omega, by omega⟩ ?_
  refine AWr.s ?_
  refine AW.rgs [.b true] [0, 13, 14, 15, 16] [] (P := (((1 : Int) < 2))) (l' := [(0, sV .i64 ([1, 3] : List Int) 2), (13, sV .i64 ([1, 3] : List Int) 2), (14, iV 2), (15, iV 1), (16, bV true)]) (g' := []) (nx' := 0) (by kernel_rfl) (by omega) ?_
  refine AW.seq ?_
  refine AW.cond_t (.tmp (Look.of rfl)) ?_
  refine AW.skip ?_
  refine AW.seq ?_
  refine AW.block ?_
  refine AW.rgs [.no, .n 1, .d (D.lit (.int .i64 3)), .no, .no] [0, 3, 4, 13, 14, 15] [] (P := ((1 : Int) = 1) ∧ ((1 : Nat) < 2) ∧ ((List.drop 1 (dI .i64 ([1, 3] : List Int)))[0]? = some (D.lit (.int .i64 3)))) (l' := [(0, sV .i64 ([1, 3] : List Int) 2), (3, iV 1), (4, iV 3), (13, sV .i64 ([1, 3] : List Int) 2), (14, iV 2), (15, iV 1)]) (g' := []) (nx' := 0) (by kernel_rfl) ⟨rfl, (by omega), (by rfl)⟩ ?_
  refine AW.rgs [.no, .call [] (bV true) [] 0 [] none, .no, .no, .no, .no, .call [] (iV 1) [] 0 [] none, .no, .b false, .no] [0, 13, 14, 15, 29] [] (P := (_) ∧ (_) ∧ (¬ ((1 : Int) ≠ 1))) (l' := [(0, sV .i64 ([1, 3] : List Int) 2), (13, sV .i64 ([1, 3] : List Int) 2), (14, iV 2), (15, iV 1), (29, bV false)]) (g' := []) (nx' := 0) (by kernel_rfl) ⟨(Fun.y (C_isPos 3) (y' := bV true) (by kernel_rfl)), (Fun.cv (C_Index ([1, 3] : List Int) 2 3 rfl (by omega)) (y' := iV 1) (g1' := toG []) (by kernel_rfl) (by kernel_rfl)), (by omega)⟩ ?_
  refine AW.cond_f (.tmp (Look.of rfl)) ?_
  refine AW.skip ?_
  refine AW.rg [.w, .no] [0, 13, 14, 15] [] (P := ((-9223372036854775808) ≤ (2 : Int) ∧ (2 : Int) ≤ 9223372036854775807)) (l' := [(0, sV .i64 ([1, 3] : List Int) 2), (13, sV .i64 ([1, 3] : List Int) 2), (14, iV 2), (15, iV 2)]) (g' := []) (nx' := 0) (by kernel_rfl) ⟨by omega, by omega⟩ ?_
  refine AWr.s ?_
  refine AW.rgs [.b false] [0, 13, 14, 15, 16] [] (P := (¬ ((2 : Int) < 2))) (l' := [(0, sV .i64 ([1, 3] : List Int) 2), (13, sV .i64 ([1, 3] : List Int) 2), (14, iV 2), (15, iV 2), (16, bV false)]) (g' := []) (nx' := 0) (by kernel_rfl) (by omega) ?_
  refine AW.seq ?_
  refine AW.cond_f (.tmp (Look.of rfl)) ?_
  refine AW.exit ?_
  refine AW.rgs [.no] [2] [] (P := True) (l' := [(2, bV true)]) (g' := []) (nx' := 0) (by kernel_rfl) trivial ?_
  refine AW.ret ?_
  exact EndP.of (.inr rfl) [] (P := (true = true)) (by kernel_rfl) rfl

set_option maxHeartbeats 4000000 in
set_option maxRecDepth 100000 in
theorem M_goals_0_3   : Fun 121 [iE 3, .c (.d (D.sl (dI .i64 ([3] : List Int)) 1))] (toG []) 0 (.tup [.c (.own 0 0 1 1 true), iE 32768]) (toG [(0, some (3, .ds [iD 3]))]) 1 := by
  refine Fun.mk (n := 30) Try.func121 rfl rfl (Nat.le_of_ble_eq_true rfl) ?_
  intro cx hcx
  refine AW.rgs [.no, .no] [0, 1] [] (P := True) (l' := [(0, iV 3), (1, sV .i64 ([3] : List Int) 1)]) (g' := []) (nx' := 0) (by kernel_rfl) trivial ?_
  refine AW.seq ?_
  refine AW.rgs [.no, .no, .call [] (iV 0) [] 0 [] none, .b true] [0, 1, 11] [] (P := (_) ∧ (((0 : Int) ≤ 0))) (l' := [(0, iV 3), (1, sV .i64 ([3] : List Int) 1), (11, bV true)]) (g' := []) (nx' := 0) (by kernel_rfl) ⟨(Fun.cv (C_Index ([3] : List Int) 1 3 rfl (by omega)) (y' := iV 0) (g1' := toG []) (by kernel_rfl) (by kernel_rfl)), (by omega)⟩ ?_
  refine AW.cond_t (.tmp (Look.of rfl)) ?_
  refine AW.rgs [.no, .no, .no, .no] [4, 5] [0] (P := True) (l' := [(4, oV 0 0 1 1), (5, iV 32768)]) (g' := [(0, some (3, .ds [iD 3]))]) (nx' := 1) (by kernel_rfl) trivial ?_
  refine AW.ret ?_
  exact EndP.of (.inr rfl) [] (P := ((0 : Nat) = 0) ∧ ((1 : Nat) = 1) ∧ ((32768 : Int) = 32768) ∧ (([iD 3] : List D) = [iD 3])) (by kernel_rfl) ⟨rfl, rfl, rfl, rfl⟩

set_option maxHeartbeats 4000000 in
set_option maxRecDepth 100000 in
theorem M_goals_1_1   : Fun 121 [iE 1, .c (.d (D.sl (dI .i64 ([1, 2] : List Int)) 2))] (toG []) 0 (.tup [.c (.own 0 0 1 1 true), iE 32768]) (toG [(0, some (3, .ds [iD 1]))]) 1 := by
  refine Fun.mk (n := 30) Try.func121 rfl rfl (Nat.le_of_ble_eq_true rfl) ?_
  intro cx hcx
  refine AW.rgs [.no, .no] [0, 1] [] (P := True) (l' := [(0, iV 1), (1, sV .i64 ([1, 2] : List Int) 2)]) (g' := []) (nx' := 0) (by kernel_rfl) trivial ?_
  refine AW.seq ?_
  refine AW.rgs [.no, .no, .call [] (iV 0) [] 0 [] none, .b true] [0, 1, 11] [] (P := (_) ∧ (((0 : Int) ≤ 0))) (l' := [(0, iV 1), (1, sV .i64 ([1, 2] : List Int) 2), (11, bV true)]) (g' := []) (nx' := 0) (by kernel_rfl) ⟨(Fun.cv (C_Index ([1, 2] : List Int) 2 1 rfl (by omega)) (y' := iV 0) (g1' := toG []) (by kernel_rfl) (by kernel_rfl)), (by omega)⟩ ?_
  refine AW.cond_t (.tmp (Look.of rfl)) ?_
  refine AW.rgs [.no, .no, .no, .no] [4, 5] [0] (P := True) (l' := [(4, oV 0 0 1 1), (5, iV 32768)]) (g' := [(0, some (3, .ds [iD 1]))]) (nx' := 1) (by kernel_rfl) trivial ?_
  refine AW.ret ?_
  exact EndP.of (.inr rfl) [] (P := ((0 : Nat) = 0) ∧ ((1 : Nat) = 1) ∧ ((32768 : Int) = 32768) ∧ (([iD 1] : List D) = [iD 1])) (by kernel_rfl) ⟨rfl, rfl, rfl, rfl⟩

set_option maxHeartbeats 4000000 in
set_option maxRecDepth 100000 in
theorem M_goals_1_2   : Fun 121 [iE 2, .c (.d (D.sl (dI .i64 ([1, 2] : List Int)) 2))] (toG []) 0 (.tup [.c (.own 0 0 1 1 true), iE 32768]) (toG [(0, some (3, .ds [iD 2]))]) 1 := by
  refine Fun.mk (n := 30) Try.func121 rfl rfl (Nat.le_of_ble_eq_true rfl) ?_
  intro cx hcx
  refine AW.rgs [.no, .no] [0, 1] [] (P := True) (l' := [(0, iV 2), (1, sV .i64 ([1, 2] : List Int) 2)]) (g' := []) (nx' := 0) (by kernel_rfl) trivial ?_
  refine AW.seq ?_
  refine AW.rgs [.no, .no, .call [] (iV 1) [] 0 [] none, .b true] [0, 1, 11] [] (P := (_) ∧ (((0 : Int) ≤ 1))) (l' := [(0, iV 2), (1, sV .i64 ([1, 2] : List Int) 2), (11, bV true)]) (g' := []) (nx' := 0) (by kernel_rfl) ⟨(Fun.cv (C_Index ([1, 2] : List Int) 2 2 rfl (by omega)) (y' := iV 1) (g1' := toG []) (by kernel_rfl) (by kernel_rfl)), (by omega)⟩ ?_
  refine AW.cond_t (.tmp (Look.of rfl)) ?_
  refine AW.rgs [.no, .no, .no, .no] [4, 5] [0] (P := True) (l' := [(4, oV 0 0 1 1), (5, iV 32768)]) (g' := [(0, some (3, .ds [iD 2]))]) (nx' := 1) (by kernel_rfl) trivial ?_
  refine AW.ret ?_
  exact EndP.of (.inr rfl) [] (P := ((0 : Nat) = 0) ∧ ((1 : Nat) = 1) ∧ ((32768 : Int) = 32768) ∧ (([iD 2] : List D) = [iD 2])) (by kernel_rfl) ⟨rfl, rfl, rfl, rfl⟩

set_option maxHeartbeats 4000000 in
set_option maxRecDepth 100000 in
theorem M_goals_2_1   : Fun 121 [iE 1, .c (.d (D.sl (dI .i64 ([1, 2, 3, 4, 5, 6] : List Int)) 6))] (toG []) 0 (.tup [.c (.own 0 0 1 1 true), iE 32768]) (toG [(0, some (3, .ds [iD 1]))]) 1 := by
  refine Fun.mk (n := 30) Try.func121 rfl rfl (Nat.le_of_ble_eq_true rfl) ?_
  intro cx hcx
  refine AW.rgs [.no, .no] [0, 1] [] (P := True) (l' := [(0, iV 1), (1, sV .i64 ([1, 2, 3, 4, 5, 6] : List Int) 6)]) (g' := []) (nx' := 0) (by kernel_rfl) trivial ?_
  refine AW.seq ?_
  refine AW.rgs [.no, .no, .call [] (iV 0) [] 0 [] none, .b true] [0, 1, 11] [] (P := (_) ∧ (((0 : Int) ≤ 0))) (l' := [(0, iV 1), (1, sV .i64 ([1, 2, 3, 4, 5, 6] : List Int) 6), (11, bV true)]) (g' := []) (nx' := 0) (by kernel_rfl) ⟨(Fun.cv (C_Index ([1, 2, 3, 4, 5, 6] : List Int) 6 1 rfl (by omega)) (y' := iV 0) (g1' := toG []) (by kernel_rfl) (by kernel_rfl)), (by omega)⟩ ?_
  refine AW.cond_t (.tmp (Look.of rfl)) ?_
  refine AW.rgs [.no, .no, .no, .no] [4, 5] [0] (P := True) (l' := [(4, oV 0 0 1 1), (5, iV 32768)]) (g' := [(0, some (3, .ds [iD 1]))]) (nx' := 1) (by kernel_rfl) trivial ?_
  refine AW.ret ?_
  exact EndP.of (.inr rfl) [] (P := ((0 : Nat) = 0) ∧ ((1 : Nat) = 1) ∧ ((32768 : Int) = 32768) ∧ (([iD 1] : List D) = [iD 1])) (by kernel_rfl) ⟨rfl, rfl, rfl, rfl⟩

set_option maxHeartbeats 4000000 in
set_option maxRecDepth 100000 in
theorem M_goals_2_2   : Fun 121 [iE 2, .c (.d (D.sl (dI .i64 ([1, 2, 3, 4, 5, 6] : List Int)) 6))] (toG []) 0 (.tup [.c (.own 0 0 1 1 true), iE 32768]) (toG [(0, some (3, .ds [iD 2]))]) 1 := by
  refine Fun.mk (n := 30) Try.func121 rfl rfl (Nat.le_of_ble_eq_true rfl) ?_
  intro cx hcx
  refine AW.rgs [.no, .no] [0, 1] [] (P := True) (l' := [(0, iV 2), (1, sV .i64 ([1, 2, 3, 4, 5, 6] : List Int) 6)]) (g' := []) (nx' := 0) (by kernel_rfl) trivial ?_
  refine AW.seq ?_
  refine AW.rgs [.no, .no, .call [] (iV 1) [] 0 [] none, .b true] [0, 1, 11] [] (P := (_) ∧ (((0 : Int) ≤ 1))) (l' := [(0, iV 2), (1, sV .i64 ([1, 2, 3, 4, 5, 6] : List Int) 6), (11, bV true)]) (g' := []) (nx' := 0) (by kernel_rfl) ⟨(Fun.cv (C_Index ([1, 2, 3, 4, 5, 6] : List Int) 6 2 rfl (by omega)) (y' := iV 1) (g1' := toG []) (by kernel_rfl) (by kernel_rfl)), (by omega)⟩ ?_
  refine AW.cond_t (.tmp (Look.of rfl)) ?_
  refine AW.rgs [.no, .no, .no, .no] [4, 5] [0] (P := True) (l' := [(4, oV 0 0 1 1), (5, iV 32768)]) (g' := [(0, some (3, .ds [iD 2]))]) (nx' := 1) (by kernel_rfl) trivial ?_
  refine AW.ret ?_
  exact EndP.of (.inr rfl) [] (P := ((0 : Nat) = 0) ∧ ((1 : Nat) = 1) ∧ ((32768 : Int) = 32768) ∧ (([iD 2] : List D) = [iD 2])) (by kernel_rfl) ⟨rfl, rfl, rfl, rfl⟩

set_option maxHeartbeats 4000000 in
set_option maxRecDepth 100000 in
theorem M_goals_2_3   : Fun 121 [iE 3, .c (.d (D.sl (dI .i64 ([1, 2, 3, 4, 5, 6] : List Int)) 6))] (toG []) 0 (.tup [.c (.own 0 0 1 1 true), iE 32768]) (toG [(0, some (3, .ds [iD 3]))]) 1 := by
  refine Fun.mk (n := 30) Try.func121 rfl rfl (Nat.le_of_ble_eq_true rfl) ?_
  intro cx hcx
  refine AW.rgs [.no, .no] [0, 1] [] (P := True) (l' := [(0, iV 3), (1, sV .i64 ([1, 2, 3, 4, 5, 6] : List Int) 6)]) (g' := []) (nx' := 0) (by kernel_rfl) trivial ?_
  refine AW.seq ?_
  refine AW.rgs [.no, .no, .call [] (iV 2) [] 0 [] none, .b true] [0, 1, 11] [] (P := (_) ∧ (((0 : Int) ≤ 2))) (l' := [(0, iV 3), (1, sV .i64 ([1, 2, 3, 4, 5, 6] : List Int) 6), (11, bV true)]) (g' := []) (nx' := 0) (by kernel_rfl) ⟨(Fun.cv (C_Index ([1, 2, 3, 4, 5, 6] : List Int) 6 3 rfl (by omega)) (y' := iV 2) (g1' := toG []) (by kernel_rfl) (by kernel_rfl)), (by omega)⟩ ?_
  refine AW.cond_t (.tmp (Look.of rfl)) ?_
  refine AW.rgs [.no, .no, .no, .no] [4, 5] [0] (P := True) (l' := [(4, oV 0 0 1 1), (5, iV 32768)]) (g' := [(0, some (3, .ds [iD 3]))]) (nx' := 1) (by kernel_rfl) trivial ?_
  refine AW.ret ?_
  exact EndP.of (.inr rfl) [] (P := ((0 : Nat) = 0) ∧ ((1 : Nat) = 1) ∧ ((32768 : Int) = 32768) ∧ (([iD 3] : List D) = [iD 3])) (by kernel_rfl) ⟨rfl, rfl, rfl, rfl⟩

set_option maxHeartbeats 4000000 in
set_option maxRecDepth 100000 in
theorem M_goals_2_4   : Fun 121 [iE 4, .c (.d (D.sl (dI .i64 ([1, 2, 3, 4, 5, 6] : List Int)) 6))] (toG []) 0 (.tup [.c (.own 0 0 1 1 true), iE 32768]) (toG [(0, some (3, .ds [iD 4]))]) 1 := by
  refine Fun.mk (n := 30) Try.func121 rfl rfl (Nat.le_of_ble_eq_true rfl) ?_
  intro cx hcx
  refine AW.rgs [.no, .no] [0, 1] [] (P := True) (l' := [(0, iV 4), (1, sV .i64 ([1, 2, 3, 4, 5, 6] : List Int) 6)]) (g' := []) (nx' := 0) (by kernel_rfl) trivial ?_
  refine AW.seq ?_
  refine AW.rgs [.no, .no, .call [] (iV 3) [] 0 [] none, .b true] [0, 1, 11] [] (P := (_) ∧ (((0 : Int) ≤ 3))) (l' := [(0, iV 4), (1, sV .i64 ([1, 2, 3, 4, 5, 6] : List Int) 6), (11, bV true)]) (g' := []) (nx' := 0) (by kernel_rfl) ⟨(Fun.cv (C_Index ([1, 2, 3, 4, 5, 6] : List Int) 6 4 rfl (by omega)) (y' := iV 3) (g1' := toG []) (by kernel_rfl) (by kernel_rfl)), (by omega)⟩ ?_
  refine AW.cond_t (.tmp (Look.of rfl)) ?_
  refine AW.rgs [.no, .no, .no, .no] [4, 5] [0] (P := True) (l' := [(4, oV 0 0 1 1), (5, iV 32768)]) (g' := [(0, some (3, .ds [iD 4]))]) (nx' := 1) (by kernel_rfl) trivial ?_
  refine AW.ret ?_
  exact EndP.of (.inr rfl) [] (P := ((0 : Nat) = 0) ∧ ((1 : Nat) = 1) ∧ ((32768 : Int) = 32768) ∧ (([iD 4] : List D) = [iD 4])) (by kernel_rfl) ⟨rfl, rfl, rfl, rfl⟩

set_option maxHeartbeats 4000000 in
set_option maxRecDepth 100000 in
theorem M_goals_2_5   : Fun 121 [iE 5, .c (.d (D.sl (dI .i64 ([1, 2, 3, 4, 5, 6] : List Int)) 6))] (toG []) 0 (.tup [.c (.own 0 0 1 1 true), iE 32768]) (toG [(0, some (3, .ds [iD 5]))]) 1 := by
  refine Fun.mk (n := 30) Try.func121 rfl rfl (Nat.le_of_ble_eq_true rfl) ?_
  intro cx hcx
  refine AW.rgs [.no, .no] [0, 1] [] (P := True) (l' := [(0, iV 5), (1, sV .i64 ([1, 2, 3, 4, 5, 6] : List Int) 6)]) (g' := []) (nx' := 0) (by kernel_rfl) trivial ?_
  refine AW.seq ?_
  refine AW.rgs [.no, .no, .call [] (iV 4) [] 0 [] none, .b true] [0, 1, 11] [] (P := (_) ∧ (((0 : Int) ≤ 4))) (l' := [(0, iV 5), (1, sV .i64 ([1, 2, 3, 4, 5, 6] : List Int) 6), (11, bV true)]) (g' := []) (nx' := 0) (by kernel_rfl) ⟨(Fun.cv (C_Index ([1, 2, 3, 4, 5, 6] : List Int) 6 5 rfl (by omega)) (y' := iV 4) (g1' := toG []) (by kernel_rfl) (by kernel_rfl)), (by omega)⟩ ?_
  refine AW.cond_t (.tmp (Look.of rfl)) ?_
  refine AW.rgs [.no, .no, .no, .no] [4, 5] [0] (P := True) (l' := [(4, oV 0 0 1 1), (5, iV 32768)]) (g' := [(0, some (3, .ds [iD 5]))]) (nx' := 1) (by kernel_rfl) trivial ?_
  refine AW.ret ?_
  exact EndP.of (.inr rfl) [] (P := ((0 : Nat) = 0) ∧ ((1 : Nat) = 1) ∧ ((32768 : Int) = 32768) ∧ (([iD 5] : List D) = [iD 5])) (by kernel_rfl) ⟨rfl, rfl, rfl, rfl⟩

set_option maxHeartbeats 4000000 in
set_option maxRecDepth 100000 in
theorem M_goals_2_6   : Fun 121 [iE 6, .c (.d (D.sl (dI .i64 ([1, 2, 3, 4, 5, 6] : List Int)) 6))] (toG []) 0 (.tup [.c (.own 0 0 1 1 true), iE 32768]) (toG [(0, some (3, .ds [iD 6]))]) 1 := by
  refine Fun.mk (n := 30) Try.func121 rfl rfl (Nat.le_of_ble_eq_true rfl) ?_
  intro cx hcx
  refine AW.rgs [.no, .no] [0, 1] [] (P := True) (l' := [(0, iV 6), (1, sV .i64 ([1, 2, 3, 4, 5, 6] : List Int) 6)]) (g' := []) (nx' := 0) (by kernel_rfl) trivial ?_
  refine AW.seq ?_
  refine AW.rgs [.no, .no, .call [] (iV 5) [] 0 [] none, .b true] [0, 1, 11] [] (P := (_) ∧ (((0 : Int) ≤ 5))) (l' := [(0, iV 6), (1, sV .i64 ([1, 2, 3, 4, 5, 6] : List Int) 6), (11, bV true)]) (g' := []) (nx' := 0) (by kernel_rfl) ⟨(Fun.cv (C_Index ([1, 2, 3, 4, 5, 6] : List Int) 6 6 rfl (by omega)) (y' := iV 5) (g1' := toG []) (by kernel_rfl) (by kernel_rfl)), (by omega)⟩ ?_
  refine AW.cond_t (.tmp (Look.of rfl)) ?_
  refine AW.rgs [.no, .no, .no, .no] [4, 5] [0] (P := True) (l' := [(4, oV 0 0 1 1), (5, iV 32768)]) (g' := [(0, some (3, .ds [iD 6]))]) (nx' := 1) (by kernel_rfl) trivial ?_
  refine AW.ret ?_
  exact EndP.of (.inr rfl) [] (P := ((0 : Nat) = 0) ∧ ((1 : Nat) = 1) ∧ ((32768 : Int) = 32768) ∧ (([iD 6] : List D) = [iD 6])) (by kernel_rfl) ⟨rfl, rfl, rfl, rfl⟩

set_option maxHeartbeats 4000000 in
set_option maxRecDepth 100000 in
theorem M_goals_3_2   : Fun 121 [iE 2, .c (.d (D.sl (dI .i64 ([2, 1] : List Int)) 2))] (toG []) 0 (.tup [.c (.own 0 0 1 1 true), iE 32768]) (toG [(0, some (3, .ds [iD 2]))]) 1 := by
  refine Fun.mk (n := 30) Try.func121 rfl rfl (Nat.le_of_ble_eq_true rfl) ?_
  intro cx hcx
  refine AW.rgs [.no, .no] [0, 1] [] (P := True) (l' := [(0, iV 2), (1, sV .i64 ([2, 1] : List Int) 2)]) (g' := []) (nx' := 0) (by kernel_rfl) trivial ?_
  refine AW.seq ?_
  refine AW.rgs [.no, .no, .call [] (iV 0) [] 0 [] none, .b true] [0, 1, 11] [] (P := (_) ∧ (((0 : Int) ≤ 0))) (l' := [(0, iV 2), (1, sV .i64 ([2, 1] : List Int) 2), (11, bV true)]) (g' := []) (nx' := 0) (by kernel_rfl) ⟨(Fun.cv (C_Index ([2, 1] : List Int) 2 2 rfl (by omega)) (y' := iV 0) (g1' := toG []) (by kernel_rfl) (by kernel_rfl)), (by omega)⟩ ?_
  refine AW.cond_t (.tmp (Look.of rfl)) ?_
  refine AW.rgs [.no, .no, .no, .no] [4, 5] [0] (P := True) (l' := [(4, oV 0 0 1 1), (5, iV 32768)]) (g' := [(0, some (3, .ds [iD 2]))]) (nx' := 1) (by kernel_rfl) trivial ?_
  refine AW.ret ?_
  exact EndP.of (.inr rfl) [] (P := ((0 : Nat) = 0) ∧ ((1 : Nat) = 1) ∧ ((32768 : Int) = 32768) ∧ (([iD 2] : List D) = [iD 2])) (by kernel_rfl) ⟨rfl, rfl, rfl, rfl⟩

set_option maxHeartbeats 4000000 in
set_option maxRecDepth 100000 in
theorem M_goals_3_1   : Fun 121 [iE 1, .c (.d (D.sl (dI .i64 ([2, 1] : List Int)) 2))] (toG []) 0 (.tup [.c (.own 0 0 1 1 true), iE 32768]) (toG [(0, some (3, .ds [iD 1]))]) 1 := by
  refine Fun.mk (n := 30) Try.func121 rfl rfl (Nat.le_of_ble_eq_true rfl) ?_
  intro cx hcx
  refine AW.rgs [.no, .no] [0, 1] [] (P := True) (l' := [(0, iV 1), (1, sV .i64 ([2, 1] : List Int) 2)]) (g' := []) (nx' := 0) (by kernel_rfl) trivial ?_
  refine AW.seq ?_
  refine AW.rgs [.no, .no, .call [] (iV 1) [] 0 [] none, .b true] [0, 1, 11] [] (P := (_) ∧ (((0 : Int) ≤ 1))) (l' := [(0, iV 1), (1, sV .i64 ([2, 1] : List Int) 2), (11, bV true)]) (g' := []) (nx' := 0) (by kernel_rfl) ⟨(Fun.cv (C_Index ([2, 1] : List Int) 2 1 rfl (by omega)) (y' := iV 1) (g1' := toG []) (by kernel_rfl) (by kernel_rfl)), (by omega)⟩ ?_
  refine AW.cond_t (.tmp (Look.of rfl)) ?_
  refine AW.rgs [.no, .no, .no, .no] [4, 5] [0] (P := True) (l' := [(4, oV 0 0 1 1), (5, iV 32768)]) (g' := [(0, some (3, .ds [iD 1]))]) (nx' := 1) (by kernel_rfl) trivial ?_
  refine AW.ret ?_
  exact EndP.of (.inr rfl) [] (P := ((0 : Nat) = 0) ∧ ((1 : Nat) = 1) ∧ ((32768 : Int) = 32768) ∧ (([iD 1] : List D) = [iD 1])) (by kernel_rfl) ⟨rfl, rfl, rfl, rfl⟩

set_option maxHeartbeats 4000000 in
set_option maxRecDepth 100000 in
theorem M_goals_4_1   : Fun 121 [iE 1, .c (.d (D.sl (dI .i64 ([1, 2, 7, 8] : List Int)) 4))] (toG []) 0 (.tup [.c (.own 0 0 1 1 true), iE 32768]) (toG [(0, some (3, .ds [iD 1]))]) 1 := by
  refine Fun.mk (n := 30) Try.func121 rfl rfl (Nat.le_of_ble_eq_true rfl) ?_
  intro cx hcx
  refine AW.rgs [.no, .no] [0, 1] [] (P := True) (l' := [(0, iV 1), (1, sV .i64 ([1, 2, 7, 8] : List Int) 4)]) (g' := []) (nx' := 0) (by kernel_rfl) trivial ?_
  refine AW.seq ?_
  refine AW.rgs [.no, .no, .call [] (iV 0) [] 0 [] none, .b true] [0, 1, 11] [] (P := (_) ∧ (((0 : Int) ≤ 0))) (l' := [(0, iV 1), (1, sV .i64 ([1, 2, 7, 8] : List Int) 4), (11, bV true)]) (g' := []) (nx' := 0) (by kernel_rfl) ⟨(Fun.cv (C_Index ([1, 2, 7, 8] : List Int) 4 1 rfl (by omega)) (y' := iV 0) (g1' := toG []) (by kernel_rfl) (by kernel_rfl)), (by omega)⟩ ?_
  refine AW.cond_t (.tmp (Look.of rfl)) ?_
  refine AW.rgs [.no, .no, .no, .no] [4, 5] [0] (P := True) (l' := [(4, oV 0 0 1 1), (5, iV 32768)]) (g' := [(0, some (3, .ds [iD 1]))]) (nx' := 1) (by kernel_rfl) trivial ?_
  refine AW.ret ?_
  exact EndP.of (.inr rfl) [] (P := ((0 : Nat) = 0) ∧ ((1 : Nat) = 1) ∧ ((32768 : Int) = 32768) ∧ (([iD 1] : List D) = [iD 1])) (by kernel_rfl) ⟨rfl, rfl, rfl, rfl⟩

set_option maxHeartbeats 4000000 in
set_option maxRecDepth 100000 in
theorem M_goals_4_2   : Fun 121 [iE 2, .c (.d (D.sl (dI .i64 ([1, 2, 7, 8] : List Int)) 4))] (toG []) 0 (.tup [.c (.own 0 0 1 1 true), iE 32768]) (toG [(0, some (3, .ds [iD 2]))]) 1 := by
  refine Fun.mk (n := 30) Try.func121 rfl rfl (Nat.le_of_ble_eq_true rfl) ?_
  intro cx hcx
  refine AW.rgs [.no, .no] [0, 1] [] (P := True) (l' := [(0, iV 2), (1, sV .i64 ([1, 2, 7, 8] : List Int) 4)]) (g' := []) (nx' := 0) (by kernel_rfl) trivial ?_
  refine AW.seq ?_
  refine AW.rgs [.no, .no, .call [] (iV 1) [] 0 [] none, .b true] [0, 1, 11] [] (P := (_) ∧ (((0 : Int) ≤ 1))) (l' := [(0, iV 2), (1, sV .i64 ([1, 2, 7, 8] : List Int) 4), (11, bV true)]) (g' := []) (nx' := 0) (by kernel_rfl) ⟨(Fun.cv (C_Index ([1, 2, 7, 8] : List Int) 4 2 rfl (by omega)) (y' := iV 1) (g1' := toG []) (by kernel_rfl) (by kernel_rfl)), (by omega)⟩ ?_
  refine AW.cond_t (.tmp (Look.of rfl)) ?_
  refine AW.rgs [.no, .no, .no, .no] [4, 5] [0] (P := True) (l' := [(4, oV 0 0 1 1), (5, iV 32768)]) (g' := [(0, some (3, .ds [iD 2]))]) (nx' := 1) (by kernel_rfl) trivial ?_
  refine AW.ret ?_
  exact EndP.of (.inr rfl) [] (P := ((0 : Nat) = 0) ∧ ((1 : Nat) = 1) ∧ ((32768 : Int) = 32768) ∧ (([iD 2] : List D) = [iD 2])) (by kernel_rfl) ⟨rfl, rfl, rfl, rfl⟩

set_option maxHeartbeats 4000000 in
set_option maxRecDepth 100000 in
theorem M_goals_4_7   : Fun 121 [iE 7, .c (.d (D.sl (dI .i64 ([1, 2, 7, 8] : List Int)) 4))] (toG []) 0 (.tup [.c (.own 0 0 1 1 true), iE 32768]) (toG [(0, some (3, .ds [iD 7]))]) 1 := by
  refine Fun.mk (n := 30) Try.func121 rfl rfl (Nat.le_of_ble_eq_true rfl) ?_
  intro cx hcx
  refine AW.rgs [.no, .no] [0, 1] [] (P := True) (l' := [(0, iV 7), (1, sV .i64 ([1, 2, 7, 8] : List Int) 4)]) (g' := []) (nx' := 0) (by kernel_rfl) trivial ?_
  refine AW.seq ?_
  refine AW.rgs [.no, .no, .call [] (iV 2) [] 0 [] none, .b true] [0, 1, 11] [] (P := (_) ∧ (((0 : Int) ≤ 2))) (l' := [(0, iV 7), (1, sV .i64 ([1, 2, 7, 8] : List Int) 4), (11, bV true)]) (g' := []) (nx' := 0) (by kernel_rfl) ⟨(Fun.cv (C_Index ([1, 2, 7, 8] : List Int) 4 7 rfl (by omega)) (y' := iV 2) (g1' := toG []) (by kernel_rfl) (by kernel_rfl)), (by omega)⟩ ?_
  refine AW.cond_t (.tmp (Look.of rfl)) ?_
  refine AW.rgs [.no, .no, .no, .no] [4, 5] [0] (P := True) (l' := [(4, oV 0 0 1 1), (5, iV 32768)]) (g' := [(0, some (3, .ds [iD 7]))]) (nx' := 1) (by kernel_rfl) trivial ?_
  refine AW.ret ?_
  exact EndP.of (.inr rfl) [] (P := ((0 : Nat) = 0) ∧ ((1 : Nat) = 1) ∧ ((32768 : Int) = 32768) ∧ (([iD 7] : List D) = [iD 7])) (by kernel_rfl) ⟨rfl, rfl, rfl, rfl⟩

set_option maxHeartbeats 4000000 in
set_option maxRecDepth 100000 in
theorem M_goals_4_8   : Fun 121 [iE 8, .c (.d (D.sl (dI .i64 ([1, 2, 7, 8] : List Int)) 4))] (toG []) 0 (.tup [.c (.own 0 0 1 1 true), iE 32768]) (toG [(0, some (3, .ds [iD 8]))]) 1 := by
  refine Fun.mk (n := 30) Try.func121 rfl rfl (Nat.le_of_ble_eq_true rfl) ?_
  intro cx hcx
  refine AW.rgs [.no, .no] [0, 1] [] (P := True) (l' := [(0, iV 8), (1, sV .i64 ([1, 2, 7, 8] : List Int) 4)]) (g' := []) (nx' := 0) (by kernel_rfl) trivial ?_
  refine AW.seq ?_
  refine AW.rgs [.no, .no, .call [] (iV 3) [] 0 [] none, .b true] [0, 1, 11] [] (P := (_) ∧ (((0 : Int) ≤ 3))) (l' := [(0, iV 8), (1, sV .i64 ([1, 2, 7, 8] : List Int) 4), (11, bV true)]) (g' := []) (nx' := 0) (by kernel_rfl) ⟨(Fun.cv (C_Index ([1, 2, 7, 8] : List Int) 4 8 rfl (by omega)) (y' := iV 3) (g1' := toG []) (by kernel_rfl) (by kernel_rfl)), (by omega)⟩ ?_
  refine AW.cond_t (.tmp (Look.of rfl)) ?_
  refine AW.rgs [.no, .no, .no, .no] [4, 5] [0] (P := True) (l' := [(4, oV 0 0 1 1), (5, iV 32768)]) (g' := [(0, some (3, .ds [iD 8]))]) (nx' := 1) (by kernel_rfl) trivial ?_
  refine AW.ret ?_
  exact EndP.of (.inr rfl) [] (P := ((0 : Nat) = 0) ∧ ((1 : Nat) = 1) ∧ ((32768 : Int) = 32768) ∧ (([iD 8] : List D) = [iD 8])) (by kernel_rfl) ⟨rfl, rfl, rfl, rfl⟩

set_option maxHeartbeats 4000000 in
set_option maxRecDepth 100000 in
theorem M_goals_5_4   : Fun 121 [iE 4, .c (.d (D.sl (dI .i64 ([4] : List Int)) 1))] (toG []) 0 (.tup [.c (.own 0 0 1 1 true), iE 32768]) (toG [(0, some (3, .ds [iD 4]))]) 1 := by
  refine Fun.mk (n := 30) Try.func121 rfl rfl (Nat.le_of_ble_eq_true rfl) ?_
  intro cx hcx
  refine AW.rgs [.no, .no] [0, 1] [] (P := True) (l' := [(0, iV 4), (1, sV .i64 ([4] : List Int) 1)]) (g' := []) (nx' := 0) (by kernel_rfl) trivial ?_
  refine AW.seq ?_
  refine AW.rgs [.no, .no, .call [] (iV 0) [] 0 [] none, .b true] [0, 1, 11] [] (P := (_) ∧ (((0 : Int) ≤ 0))) (l' := [(0, iV 4), (1, sV .i64 ([4] : List Int) 1), (11, bV true)]) (g' := []) (nx' := 0) (by kernel_rfl) ⟨(Fun.cv (C_Index ([4] : List Int) 1 4 rfl (by omega)) (y' := iV 0) (g1' := toG []) (by kernel_rfl) (by kernel_rfl)), (by omega)⟩ ?_
  refine AW.cond_t (.tmp (Look.of rfl)) ?_
  refine AW.rgs [.no, .no, .no, .no] [4, 5] [0] (P := True) (l' := [(4, oV 0 0 1 1), (5, iV 32768)]) (g' := [(0, some (3, .ds [iD 4]))]) (nx' := 1) (by kernel_rfl) trivial ?_
  refine AW.ret ?_
  exact EndP.of (.inr rfl) [] (P := ((0 : Nat) = 0) ∧ ((1 : Nat) = 1) ∧ ((32768 : Int) = 32768) ∧ (([iD 4] : List D) = [iD 4])) (by kernel_rfl) ⟨rfl, rfl, rfl, rfl⟩

set_option maxHeartbeats 4000000 in
set_option maxRecDepth 100000 in
theorem M_goals_6_1   : Fun 121 [iE 1, .c (.d (D.sl (dI .i64 ([1, 3] : List Int)) 2))] (toG []) 0 (.tup [.c (.own 0 0 1 1 true), iE 32768]) (toG [(0, some (3, .ds [iD 1]))]) 1 := by
  refine Fun.mk (n := 30) Try.func121 rfl rfl (Nat.le_of_ble_eq_true rfl) ?_
  intro cx hcx
  refine AW.rgs [.no, .no] [0, 1] [] (P := True) (l' := [(0, iV 1), (1, sV .i64 ([1, 3] : List Int) 2)]) (g' := []) (nx' := 0) (by kernel_rfl) trivial ?_
  refine AW.seq ?_
  refine AW.rgs [.no, .no, .call [] (iV 0) [] 0 [] none, .b true] [0, 1, 11] [] (P := (_) ∧ (((0 : Int) ≤ 0))) (l' := [(0, iV 1), (1, sV .i64 ([1, 3] : List Int) 2), (11, bV true)]) (g' := []) (nx' := 0) (by kernel_rfl) ⟨(Fun.cv (C_Index ([1, 3] : List Int) 2 1 rfl (by omega)) (y' := iV 0) (g1' := toG []) (by kernel_rfl) (by kernel_rfl)), (by omega)⟩ ?_
  refine AW.cond_t (.tmp (Look.of rfl)) ?_
  refine AW.rgs [.no, .no, .no, .no] [4, 5] [0] (P := True) (l' := [(4, oV 0 0 1 1), (5, iV 32768)]) (g' := [(0, some (3, .ds [iD 1]))]) (nx' := 1) (by kernel_rfl) trivial ?_
  refine AW.ret ?_
  exact EndP.of (.inr rfl) [] (P := ((0 : Nat) = 0) ∧ ((1 : Nat) = 1) ∧ ((32768 : Int) = 32768) ∧ (([iD 1] : List D) = [iD 1])) (by kernel_rfl) ⟨rfl, rfl, rfl, rfl⟩

set_option maxHeartbeats 4000000 in
set_option maxRecDepth 100000 in
theorem M_goals_6_3   : Fun 121 [iE 3, .c (.d (D.sl (dI .i64 ([1, 3] : List Int)) 2))] (toG []) 0 (.tup [.c (.own 0 0 1 1 true), iE 32768]) (toG [(0, some (3, .ds [iD 3]))]) 1 := by
  refine Fun.mk (n := 30) Try.func121 rfl rfl (Nat.le_of_ble_eq_true rfl) ?_
  intro cx hcx
  refine AW.rgs [.no, .no] [0, 1] [] (P := True) (l' := [(0, iV 3), (1, sV .i64 ([1, 3] : List Int) 2)]) (g' := []) (nx' := 0) (by kernel_rfl) trivial ?_
  refine AW.seq ?_
  refine AW.rgs [.no, .no, .call [] (iV 1) [] 0 [] none, .b true] [0, 1, 11] [] (P := (_) ∧ (((0 : Int) ≤ 1))) (l' := [(0, iV 3), (1, sV .i64 ([1, 3] : List Int) 2), (11, bV true)]) (g' := []) (nx' := 0) (by kernel_rfl) ⟨(Fun.cv (C_Index ([1, 3] : List Int) 2 3 rfl (by omega)) (y' := iV 1) (g1' := toG []) (by kernel_rfl) (by kernel_rfl)), (by omega)⟩ ?_
  refine AW.cond_t (.tmp (Look.of rfl)) ?_
  refine AW.rgs [.no, .no, .no, .no] [4, 5] [0] (P := True) (l' := [(4, oV 0 0 1 1), (5, iV 32768)]) (g' := [(0, some (3, .ds [iD 3]))]) (nx' := 1) (by kernel_rfl) trivial ?_
  refine AW.ret ?_
  exact EndP.of (.inr rfl) [] (P := ((0 : Nat) = 0) ∧ ((1 : Nat) = 1) ∧ ((32768 : Int) = 32768) ∧ (([iD 3] : List D) = [iD 3])) (by kernel_rfl) ⟨rfl, rfl, rfl, rfl⟩

set_option maxHeartbeats 4000000 in
set_option maxRecDepth 100000 in
theorem M_Default_m0   : Fun 68 [.c (.d (D.sl (dI .i64 ([3] : List Int)) 1)), .c (.d (D.sl (dI .i64 ([3] : List Int)) 1))] (toG []) 0 (.tup [.agg [iC 1, iC 1, .own 0 0 1 1 true], iE 0]) (toG [(0, some (3, .ds (dI .i64 ([32768] : List Int))))]) 1 := by
  refine Fun.mk (n := 57) Try.func68 rfl rfl (Nat.le_of_ble_eq_true rfl) ?_
  intro cx hcx
  refine AW.rgs [.no, .no] [0, 1, 4] [0] (P := True) (l' := [(0, sV .i64 ([3] : List Int) 1), (1, sV .i64 ([3] : List Int) 1), (4, rV 0 0)]) (g' := [(0, some (77, .ds [iD 0, iD 0, D.lit (.slice none 0 0)]))]) (nx' := 1) (by kernel_rfl) trivial ?_
  refine AW.seq ?_
  refine AW.rgs [.no, .call [] (bV true) [] 0 [] none, .no, .no, .no, .call [] (bV true) [] 0 [] none, .no, .no] [0, 1, 4, 20] [0] (P := (_) ∧ (_)) (l' := [(0, sV .i64 ([3] : List Int) 1), (1, sV .i64 ([3] : List Int) 1), (4, rV 0 0), (20, bV false)]) (g' := [(0, some (77, .ds [iD 0, iD 0, D.lit (.slice none 0 0)]))]) (nx' := 1) (by kernel_rfl) ⟨(C_Valid_b), (C_Valid_b)⟩ ?_
  refine AW.cond_f (.tmp (Look.of rfl)) ?_
  refine AW.skip ?_
  refine AW.rgs [.no, .no, .no, .no, .call [] (.e (.agg [iC 1, iC 1, .own 0 0 1 1 true])) [(0, some (3, .ds (dI .i64 ([0] : List Int))))] 1 [] none, .no, .no] [0, 1, 4, 6] [0, 1, 2] (P := (_)) (l' := [(0, sV .i64 ([3] : List Int) 1), (1, sV .i64 ([3] : List Int) 1), (4, rV 0 0), (6, rV 2 0)]) (g' := [(0, some (77, .ds [iD 0, iD 0, D.lit (.slice none 0 0)])), (1, some (3, .ds (dI .i64 ([0] : List Int)))), (2, some (77, .cs [iC 1, iC 1, .own 1 0 1 1 true]))]) (nx' := 3) (by kernel_rfl) (Fun.cv (M_zero 1 1 (by omega) (by omega)) (y' := .e (.agg [iC 1, iC 1, .own 0 0 1 1 true])) (g1' := toG [(0, some (3, .ds (dI .i64 ([0] : List Int))))]) (by kernel_rfl) (by kernel_rfl)) ?_
  refine AW.seq ?_
  refine AW.rgs [.no, .no, .no] [1, 4, 6, 27, 28, 29] [0, 1, 2] (P := True) (l' := [(1, sV .i64 ([3] : List Int) 1), (4, rV 0 0), (6, rV 2 0), (27, sV .i64 ([3] : List Int) 1), (28, iV 1), (29, iV 0)]) (g' := [(0, some (77, .ds [iD 0, iD 0, D.lit (.slice none 0 0)])), (1, some (3, .ds (dI .i64 ([0] : List Int)))), (2, some (77, .cs [iC 1, iC 1, .own 1 0 1 1 true]))]) (nx' := 3) (by kernel_rfl) trivial ?_
  refine AW.block ?_
  refine AW.rounds 2 ?_
  refine AWr.s ?_
  refine AW.rgs [.b true] [1, 4, 6, 27, 28, 29, 30] [0, 1, 2] (P := (((0 : Int) < 1))) (l' := [(1, sV .i64 ([3] : List Int) 1), (4, rV 0 0), (6, rV 2 0), (27, sV .i64 ([3] : List Int) 1), (28, iV 1), (29, iV 0), (30, bV true)]) (g' := [(0, some (77, .ds [iD 0, iD 0, D.lit (.slice none 0 0)])), (1, some (3, .ds (dI .i64 ([0] : List Int)))), (2, some (77, .cs [iC 1, iC 1, .own 1 0 1 1 true]))]) (nx' := 3) (by kernel_rfl) (by omega) ?_
  refine AW.seq ?_
  refine AW.cond_t (.tmp (Look.of rfl)) ?_
  refine AW.skip ?_
  refine AW.seq ?_
  refine AW.block ?_
  refine AW.rgs [.no, .n 0, .d (D.lit (.int .i64 3)), .no, .no] [1, 4, 6, 7, 8, 27, 28, 29] [0, 1, 2] (P := ((0 : Int) = 0) ∧ ((0 : Nat) < 1) ∧ ((List.drop 0 (dI .i64 ([3] : List Int)))[0]? = some (D.lit (.int .i64 3)))) (l' := [(1, sV .i64 ([3] : List Int) 1), (4, rV 0 0), (6, rV 2 0), (7, iV 0), (8, iV 3), (27, sV .i64 ([3] : List Int) 1), (28, iV 1), (29, iV 0)]) (g' := [(0, some (77, .ds [iD 0, iD 0, D.lit (.slice none 0 0)])), (1, some (3, .ds (dI .i64 ([0] : List Int)))), (2, some (77, .cs [iC 1, iC 1, .own 1 0 1 1 true]))]) (nx' := 3) (by kernel_rfl) ⟨rfl, (by omega), (by rfl)⟩ ?_
  refine AW.rgs [.no, .no, .call [] (.tup [.c (.own 0 0 1 1 true), iE 32768]) [(0, some (3, .ds [iD 3]))] 1 [] none, .no, .no, .no, .no, .no] [1, 4, 6, 7, 9, 10, 27, 28, 29] [0, 1, 2, 3] (P := (_)) (l' := [(1, sV .i64 ([3] : List Int) 1), (4, rV 0 0), (6, rV 2 0), (7, iV 0), (9, oV 3 0 1 1), (10, iV 32768), (27, sV .i64 ([3] : List Int) 1), (28, iV 1), (29, iV 0)]) (g' := [(0, some (77, .ds [iD 0, iD 0, D.lit (.slice none 0 0)])), (1, some (3, .ds (dI .i64 ([0] : List Int)))), (2, some (77, .cs [iC 1, iC 1, .own 1 0 1 1 true])), (3, some (3, .ds [iD 3]))]) (nx' := 4) (by kernel_rfl) (M_goals_0_3) ?_
  refine AW.rgs [.no, .no, .no] [1, 4, 6, 7, 10, 27, 28, 29, 40, 41, 42] [0, 1, 2, 3] (P := True) (l' := [(1, sV .i64 ([3] : List Int) 1), (4, rV 0 0), (6, rV 2 0), (7, iV 0), (10, iV 32768), (27, sV .i64 ([3] : List Int) 1), (28, iV 1), (29, iV 0), (40, oV 3 0 1 1), (41, iV 1), (42, iV 0)]) (g' := [(0, some (77, .ds [iD 0, iD 0, D.lit (.slice none 0 0)])), (1, some (3, .ds (dI .i64 ([0] : List Int)))), (2, some (77, .cs [iC 1, iC 1, .own 1 0 1 1 true])), (3, some (3, .ds [iD 3]))]) (nx' := 4) (by kernel_rfl) trivial ?_
  refine AW.block ?_
  refine AW.rounds 2 ?_
  refine AWr.s ?_
  refine AW.rgs [.b true] [1, 4, 6, 7, 10, 27, 28, 29, 40, 41, 42, 43] [0, 1, 2, 3] (P := (((0 : Int) < 1))) (l' := [(1, sV .i64 ([3] : List Int) 1), (4, rV 0 0), (6, rV 2 0), (7, iV 0), (10, iV 32768), (27, sV .i64 ([3] : List Int) 1), (28, iV 1), (29, iV 0), (40, oV 3 0 1 1), (41, iV 1), (42, iV 0), (43, bV true)]) (g' := [(0, some (77, .ds [iD 0, iD 0, D.lit (.slice none 0 0)])), (1, some (3, .ds (dI .i64 ([0] : List Int)))), (2, some (77, .cs [iC 1, iC 1, .own 1 0 1 1 true])), (3, some (3, .ds [iD 3]))]) (nx' := 4) (by kernel_rfl) (by omega) ?_
  refine AW.seq ?_
  refine AW.cond_t (.tmp (Look.of rfl)) ?_
  refine AW.skip ?_
  refine AW.seq ?_
  refine AW.block ?_
  refine AW.rgs [.n2 0 0, .no, .no] [1, 4, 6, 7, 10, 12, 27, 28, 29, 40, 41, 42] [0, 1, 2, 3] (P := ((0 : Int) = 0) ∧ ((0 : Nat) < 1) ∧ ((0 : Nat) + 0 * 1 = 0)) (l' := [(1, sV .i64 ([3] : List Int) 1), (4, rV 0 0), (6, rV 2 0), (7, iV 0), (10, iV 32768), (12, iV 3), (27, sV .i64 ([3] : List Int) 1), (28, iV 1), (29, iV 0), (40, oV 3 0 1 1), (41, iV 1), (42, iV 0)]) (g' := [(0, some (77, .ds [iD 0, iD 0, D.lit (.slice none 0 0)])), (1, some (3, .ds (dI .i64 ([0] : List Int)))), (2, some (77, .cs [iC 1, iC 1, .own 1 0 1 1 true])), (3, some (3, .ds [iD 3]))]) (nx' := 4) (by kernel_rfl) ⟨rfl, (by omega), (by omega)⟩ ?_
  refine AW.rg [.no, .no, .no, .call [] (iV 0) [] 0 [] none, .call [1] (.e (.c (.own 0 0 1 1 false))) [(0, some (3, .ds (dI .i64 ([0] : List Int))))] 1 [] none, .no, .no, .n2 0 0, .ds (dI .i64 (List.set ([0] : List Int) 0 32768))] [1, 4, 6, 7, 10, 27, 28, 29, 40, 41, 42] [0, 1, 2, 3] (P := (_) ∧ (_) ∧ ((0 : Int) = 0) ∧ ((0 : Nat) < 1) ∧ ((0 : Nat) + 0 * 1 = 0) ∧ ((0 : Nat) + 1 ≤ (dI .i64 ([0] : List Int)).length) ∧ (updD (dI .i64 ([0] : List Int)) 0 [D.lit (.int .i64 32768)] = dI .i64 (List.set ([0] : List Int) 0 32768))) (l' := [(1, sV .i64 ([3] : List Int) 1), (4, rV 0 0), (6, rV 2 0), (7, iV 0), (10, iV 32768), (27, sV .i64 ([3] : List Int) 1), (28, iV 1), (29, iV 0), (40, oV 3 0 1 1), (41, iV 1), (42, iV 0)]) (g' := [(0, some (77, .ds [iD 0, iD 0, D.lit (.slice none 0 0)])), (1, some (3, .ds (dI .i64 (List.set ([0] : List Int) 0 32768)))), (2, some (77, .cs [iC 1, iC 1, .own 1 0 1 1 true])), (3, some (3, .ds [iD 3]))]) (nx' := 4) (by kernel_rfl) ⟨(Fun.cv (C_Index ([3] : List Int) 1 3 rfl (by omega)) (y' := iV 0) (g1' := toG []) (by kernel_rfl) (by kernel_rfl)), (M_rowo 1 1 0 ([0] : List Int) 1 rfl (by omega) (by omega) (by omega)), rfl, (by omega), (by omega), (by first | omega | (rw [dI_len]; omega) | (simp [dI_len] <;> omega) | rfl), (dI_set _ _ _ _)⟩ ?_
  refine AW.rg [.w, .no] [1, 4, 6, 7, 10, 27, 28, 29, 40, 41, 42] [0, 1, 2, 3] (P := ((-9223372036854775808) ≤ (1 : Int) ∧ (1 : Int) ≤ 9223372036854775807)) (l' := [(1, sV .i64 ([3] : List Int) 1), (4, rV 0 0), (6, rV 2 0), (7, iV 0), (10, iV 32768), (27, sV .i64 ([3] : List Int) 1), (28, iV 1), (29, iV 0), (40, oV 3 0 1 1), (41, iV 1), (42, iV 1)]) (g' := [(0, some (77, .ds [iD 0, iD 0, D.lit (.slice none 0 0)])), (1, some (3, .ds (dI .i64 (List.set ([0] : List Int) 0 32768)))), (2, some (77, .cs [iC 1, iC 1, .own 1 0 1 1 true])), (3, some (3, .ds [iD 3]))]) (nx' := 4) (by kernel_rfl) ⟨by omega, by omega⟩ ?_
  refine AWr.s ?_
  refine AW.rgs [.b false] [1, 4, 6, 7, 10, 27, 28, 29, 40, 41, 42, 43] [0, 1, 2, 3] (P := (¬ ((1 : Int) < 1))) (l' := [(1, sV .i64 ([3] : List Int) 1), (4, rV 0 0), (6, rV 2 0), (7, iV 0), (10, iV 32768), (27, sV .i64 ([3] : List Int) 1), (28, iV 1), (29, iV 0), (40, oV 3 0 1 1), (41, iV 1), (42, iV 1), (43, bV false)]) (g' := [(0, some (77, .ds [iD 0, iD 0, D.lit (.slice none 0 0)])), (1, some (3, .ds (dI .i64 (List.set ([0] : List Int) 0 32768)))), (2, some (77, .cs [iC 1, iC 1, .own 1 0 1 1 true])), (3, some (3, .ds [iD 3]))]) (nx' := 4) (by kernel_rfl) (by omega) ?_
  refine AW.seq ?_
  refine AW.cond_f (.tmp (Look.of rfl)) ?_
  refine AW.exit ?_
  refine AW.rg [.w, .no] [1, 4, 6, 27, 28, 29] [0, 1, 2] (P := ((-9223372036854775808) ≤ (1 : Int) ∧ (1 : Int) ≤ 9223372036854775807)) (l' := [(1, sV .i64 ([3] : List Int) 1), (4, rV 0 0), (6, rV 2 0), (27, sV .i64 ([3] : List Int) 1), (28, iV 1), (29, iV 1)]) (g' := [(0, some (77, .ds [iD 0, iD 0, D.lit (.slice none 0 0)])), (1, some (3, .ds (dI .i64 (List.set ([0] : List Int) 0 32768)))), (2, some (77, .cs [iC 1, iC 1, .own 1 0 1 1 true]))]) (nx' := 4) (by kernel_rfl) ⟨by omega, by omega⟩ ?_
  refine AWr.s ?_
  refine AW.rgs [.b false] [1, 4, 6, 27, 28, 29, 30] [0, 1, 2] (P := (¬ ((1 : Int) < 1))) (l' := [(1, sV .i64 ([3] : List Int) 1), (4, rV 0 0), (6, rV 2 0), (27, sV .i64 ([3] : List Int) 1), (28, iV 1), (29, iV 1), (30, bV false)]) (g' := [(0, some (77, .ds [iD 0, iD 0, D.lit (.slice none 0 0)])), (1, some (3, .ds (dI .i64 (List.set ([0] : List Int) 0 32768)))), (2, some (77, .cs [iC 1, iC 1, .own 1 0 1 1 true]))]) (nx' := 4) (by kernel_rfl) (by omega) ?_
  refine AW.seq ?_
  refine AW.cond_f (.tmp (Look.of rfl)) ?_
  refine AW.exit ?_
  refine AW.rgs [.no, .no, .no] [4, 5] [0, 1] (P := True) (l' := [(4, rV 0 0), (5, iV 0)]) (g' := [(0, some (77, .cs [iC 1, iC 1, .own 1 0 1 1 true])), (1, some (3, .ds (dI .i64 (List.set ([0] : List Int) 0 32768))))]) (nx' := 4) (by kernel_rfl) trivial ?_
  refine AW.ret ?_
  exact EndP.of (.inr rfl) [(0, 1)] (P := ((1 : Int) = 1) ∧ ((1 : Int) = 1) ∧ ((0 : Nat) = 0) ∧ ((1 : Nat) = 1) ∧ ((0 : Int) = 0) ∧ (((dI .i64 ([32768] : List Int)) : List D) = (dI .i64 (List.set ([0] : List Int) 0 32768)))) (by kernel_rfl) ⟨rfl, rfl, rfl, rfl, rfl, (by rfl)⟩

set_option maxHeartbeats 4000000 in
set_option maxRecDepth 100000 in
theorem M_Default_m1   : Fun 68 [.c (.d (D.sl (dI .i64 ([1, 2] : List Int)) 2)), .c (.d (D.sl (dI .i64 ([1, 2] : List Int)) 2))] (toG []) 0 (.tup [.agg [iC 2, iC 2, .own 0 0 4 1 true], iE 0]) (toG [(0, some (3, .ds (dI .i64 ([32768, 0, 0, 32768] : List Int))))]) 1 := by
  refine Fun.mk (n := 57) Try.func68 rfl rfl (Nat.le_of_ble_eq_true rfl) ?_
  intro cx hcx
  refine AW.rgs [.no, .no] [0, 1, 4] [0] (P := True) (l' := [(0, sV .i64 ([1, 2] : List Int) 2), (1, sV .i64 ([1, 2] : List Int) 2), (4, rV 0 0)]) (g' := [(0, some (77, .ds [iD 0, iD 0, D.lit (.slice none 0 0)]))]) (nx' := 1) (by kernel_rfl) trivial ?_
  refine AW.seq ?_
  refine AW.rgs [.no, .call [] (bV true) [] 0 [] none, .no, .no, .no, .call [] (bV true) [] 0 [] none, .no, .no] [0, 1, 4, 20] [0] (P := (_) ∧ (_)) (l' := [(0, sV .i64 ([1, 2] : List Int) 2), (1, sV .i64 ([1, 2] : List Int) 2), (4, rV 0 0), (20, bV false)]) (g' := [(0, some (77, .ds [iD 0, iD 0, D.lit (.slice none 0 0)]))]) (nx' := 1) (by kernel_rfl) ⟨(C_Valid_a), (C_Valid_a)⟩ ?_
  refine AW.cond_f (.tmp (Look.of rfl)) ?_
  refine AW.skip ?_
  refine AW.rgs [.no, .no, .no, .no, .call [] (.e (.agg [iC 2, iC 2, .own 0 0 4 1 true])) [(0, some (3, .ds (dI .i64 ([0, 0, 0, 0] : List Int))))] 1 [] none, .no, .no] [0, 1, 4, 6] [0, 1, 2] (P := (_)) (l' := [(0, sV .i64 ([1, 2] : List Int) 2), (1, sV .i64 ([1, 2] : List Int) 2), (4, rV 0 0), (6, rV 2 0)]) (g' := [(0, some (77, .ds [iD 0, iD 0, D.lit (.slice none 0 0)])), (1, some (3, .ds (dI .i64 ([0, 0, 0, 0] : List Int)))), (2, some (77, .cs [iC 2, iC 2, .own 1 0 4 1 true]))]) (nx' := 3) (by kernel_rfl) (Fun.cv (M_zero 2 2 (by omega) (by omega)) (y' := .e (.agg [iC 2, iC 2, .own 0 0 4 1 true])) (g1' := toG [(0, some (3, .ds (dI .i64 ([0, 0, 0, 0] : List Int))))]) (by kernel_rfl) (by kernel_rfl)) ?_
  refine AW.seq ?_
  refine AW.rgs [.no, .no, .no] [1, 4, 6, 27, 28, 29] [0, 1, 2] (P := True) (l' := [(1, sV .i64 ([1, 2] : List Int) 2), (4, rV 0 0), (6, rV 2 0), (27, sV .i64 ([1, 2] : List Int) 2), (28, iV 2), (29, iV 0)]) (g' := [(0, some (77, .ds [iD 0, iD 0, D.lit (.slice none 0 0)])), (1, some (3, .ds (dI .i64 ([0, 0, 0, 0] : List Int)))), (2, some (77, .cs [iC 2, iC 2, .own 1 0 4 1 true]))]) (nx' := 3) (by kernel_rfl) trivial ?_
  refine AW.block ?_
  refine AW.rounds 3 ?_
  refine AWr.s ?_
  refine AW.rgs [.b true] [1, 4, 6, 27, 28, 29, 30] [0, 1, 2] (P := (((0 : Int) < 2))) (l' := [(1, sV .i64 ([1, 2] : List Int) 2), (4, rV 0 0), (6, rV 2 0), (27, sV .i64 ([1, 2] : List Int) 2), (28, iV 2), (29, iV 0), (30, bV true)]) (g' := [(0, some (77, .ds [iD 0, iD 0, D.lit (.slice none 0 0)])), (1, some (3, .ds (dI .i64 ([0, 0, 0, 0] : List Int)))), (2, some (77, .cs [iC 2, iC 2, .own 1 0 4 1 true]))]) (nx' := 3) (by kernel_rfl) (by omega) ?_
  refine AW.seq ?_
  refine AW.cond_t (.tmp (Look.of rfl)) ?_
  refine AW.skip ?_
  refine AW.seq ?_
  refine AW.block ?_
  refine AW.rgs [.no, .n 0, .d (D.lit (.int .i64 1)), .no, .no] [1, 4, 6, 7, 8, 27, 28, 29] [0, 1, 2] (P := ((0 : Int) = 0) ∧ ((0 : Nat) < 2) ∧ ((List.drop 0 (dI .i64 ([1, 2] : List Int)))[0]? = some (D.lit (.int .i64 1)))) (l' := [(1, sV .i64 ([1, 2] : List Int) 2), (4, rV 0 0), (6, rV 2 0), (7, iV 0), (8, iV 1), (27, sV .i64 ([1, 2] : List Int) 2), (28, iV 2), (29, iV 0)]) (g' := [(0, some (77, .ds [iD 0, iD 0, D.lit (.slice none 0 0)])), (1, some (3, .ds (dI .i64 ([0, 0, 0, 0] : List Int)))), (2, some (77, .cs [iC 2, iC 2, .own 1 0 4 1 true]))]) (nx' := 3) (by kernel_rfl) ⟨rfl, (by omega), (by rfl)⟩ ?_
  refine AW.rgs [.no, .no, .call [] (.tup [.c (.own 0 0 1 1 true), iE 32768]) [(0, some (3, .ds [iD 1]))] 1 [] none, .no, .no, .no, .no, .no] [1, 4, 6, 7, 9, 10, 27, 28, 29] [0, 1, 2, 3] (P := (_)) (l' := [(1, sV .i64 ([1, 2] : List Int) 2), (4, rV 0 0), (6, rV 2 0), (7, iV 0), (9, oV 3 0 1 1), (10, iV 32768), (27, sV .i64 ([1, 2] : List Int) 2), (28, iV 2), (29, iV 0)]) (g' := [(0, some (77, .ds [iD 0, iD 0, D.lit (.slice none 0 0)])), (1, some (3, .ds (dI .i64 ([0, 0, 0, 0] : List Int)))), (2, some (77, .cs [iC 2, iC 2, .own 1 0 4 1 true])), (3, some (3, .ds [iD 1]))]) (nx' := 4) (by kernel_rfl) (M_goals_1_1) ?_
  refine AW.rgs [.no, .no, .no] [1, 4, 6, 7, 10, 27, 28, 29, 40, 41, 42] [0, 1, 2, 3] (P := True) (l' := [(1, sV .i64 ([1, 2] : List Int) 2), (4, rV 0 0), (6, rV 2 0), (7, iV 0), (10, iV 32768), (27, sV .i64 ([1, 2] : List Int) 2), (28, iV 2), (29, iV 0), (40, oV 3 0 1 1), (41, iV 1), (42, iV 0)]) (g' := [(0, some (77, .ds [iD 0, iD 0, D.lit (.slice none 0 0)])), (1, some (3, .ds (dI .i64 ([0, 0, 0, 0] : List Int)))), (2, some (77, .cs [iC 2, iC 2, .own 1 0 4 1 true])), (3, some (3, .ds [iD 1]))]) (nx' := 4) (by kernel_rfl) trivial ?_
  refine AW.block ?_
  refine AW.rounds 2 ?_
  refine AWr.s ?_
  refine AW.rgs [.b true] [1, 4, 6, 7, 10, 27, 28, 29, 40, 41, 42, 43] [0, 1, 2, 3] (P := (((0 : Int) < 1))) (l' := [(1, sV .i64 ([1, 2] : List Int) 2), (4, rV 0 0), (6, rV 2 0), (7, iV 0), (10, iV 32768), (27, sV .i64 ([1, 2] : List Int) 2), (28, iV 2), (29, iV 0), (40, oV 3 0 1 1), (41, iV 1), (42, iV 0), (43, bV true)]) (g' := [(0, some (77, .ds [iD 0, iD 0, D.lit (.slice none 0 0)])), (1, some (3, .ds (dI .i64 ([0, 0, 0, 0] : List Int)))), (2, some (77, .cs [iC 2, iC 2, .own 1 0 4 1 true])), (3, some (3, .ds [iD 1]))]) (nx' := 4) (by kernel_rfl) (by omega) ?_
  refine AW.seq ?_
  refine AW.cond_t (.tmp (Look.of rfl)) ?_
  refine AW.skip ?_
  refine AW.seq ?_
  refine AW.block ?_
  refine AW.rgs [.n2 0 0, .no, .no] [1, 4, 6, 7, 10, 12, 27, 28, 29, 40, 41, 42] [0, 1, 2, 3] (P := ((0 : Int) = 0) ∧ ((0 : Nat) < 1) ∧ ((0 : Nat) + 0 * 1 = 0)) (l' := [(1, sV .i64 ([1, 2] : List Int) 2), (4, rV 0 0), (6, rV 2 0), (7, iV 0), (10, iV 32768), (12, iV 1), (27, sV .i64 ([1, 2] : List Int) 2), (28, iV 2), (29, iV 0), (40, oV 3 0 1 1), (41, iV 1), (42, iV 0)]) (g' := [(0, some (77, .ds [iD 0, iD 0, D.lit (.slice none 0 0)])), (1, some (3, .ds (dI .i64 ([0, 0, 0, 0] : List Int)))), (2, some (77, .cs [iC 2, iC 2, .own 1 0 4 1 true])), (3, some (3, .ds [iD 1]))]) (nx' := 4) (by kernel_rfl) ⟨rfl, (by omega), (by omega)⟩ ?_
  refine AW.rg [.no, .no, .no, .call [] (iV 0) [] 0 [] none, .call [1] (.e (.c (.own 0 0 2 1 false))) [(0, some (3, .ds (dI .i64 ([0, 0, 0, 0] : List Int))))] 1 [] none, .no, .no, .n2 0 0, .ds (dI .i64 (List.set ([0, 0, 0, 0] : List Int) 0 32768))] [1, 4, 6, 7, 10, 27, 28, 29, 40, 41, 42] [0, 1, 2, 3] (P := (_) ∧ (_) ∧ ((0 : Int) = 0) ∧ ((0 : Nat) < 2) ∧ ((0 : Nat) + 0 * 1 = 0) ∧ ((0 : Nat) + 1 ≤ (dI .i64 ([0, 0, 0, 0] : List Int)).length) ∧ (updD (dI .i64 ([0, 0, 0, 0] : List Int)) 0 [D.lit (.int .i64 32768)] = dI .i64 (List.set ([0, 0, 0, 0] : List Int) 0 32768))) (l' := [(1, sV .i64 ([1, 2] : List Int) 2), (4, rV 0 0), (6, rV 2 0), (7, iV 0), (10, iV 32768), (27, sV .i64 ([1, 2] : List Int) 2), (28, iV 2), (29, iV 0), (40, oV 3 0 1 1), (41, iV 1), (42, iV 0)]) (g' := [(0, some (77, .ds [iD 0, iD 0, D.lit (.slice none 0 0)])), (1, some (3, .ds (dI .i64 (List.set ([0, 0, 0, 0] : List Int) 0 32768)))), (2, some (77, .cs [iC 2, iC 2, .own 1 0 4 1 true])), (3, some (3, .ds [iD 1]))]) (nx' := 4) (by kernel_rfl) ⟨(Fun.cv (C_Index ([1, 2] : List Int) 2 1 rfl (by omega)) (y' := iV 0) (g1' := toG []) (by kernel_rfl) (by kernel_rfl)), (M_rowo 2 2 0 ([0, 0, 0, 0] : List Int) 4 rfl (by omega) (by omega) (by omega)), rfl, (by omega), (by omega), (by first | omega | (rw [dI_len]; omega) | (simp [dI_len] <;> omega) | rfl), (dI_set _ _ _ _)⟩ ?_
  refine AW.rg [.w, .no] [1, 4, 6, 7, 10, 27, 28, 29, 40, 41, 42] [0, 1, 2, 3] (P := ((-9223372036854775808) ≤ (1 : Int) ∧ (1 : Int) ≤ 9223372036854775807)) (l' := [(1, sV .i64 ([1, 2] : List Int) 2), (4, rV 0 0), (6, rV 2 0), (7, iV 0), (10, iV 32768), (27, sV .i64 ([1, 2] : List Int) 2), (28, iV 2), (29, iV 0), (40, oV 3 0 1 1), (41, iV 1), (42, iV 1)]) (g' := [(0, some (77, .ds [iD 0, iD 0, D.lit (.slice none 0 0)])), (1, some (3, .ds (dI .i64 (List.set ([0, 0, 0, 0] : List Int) 0 32768)))), (2, some (77, .cs [iC 2, iC 2, .own 1 0 4 1 true])), (3, some (3, .ds [iD 1]))]) (nx' := 4) (by kernel_rfl) ⟨by omega, by omega⟩ ?_
  refine AWr.s ?_
  refine AW.rgs [.b false] [1, 4, 6, 7, 10, 27, 28, 29, 40, 41, 42, 43] [0, 1, 2, 3] (P := (¬ ((1 : Int) < 1))) (l' := [(1, sV .i64 ([1, 2] : List Int) 2), (4, rV 0 0), (6, rV 2 0), (7, iV 0), (10, iV 32768), (27, sV .i64 ([1, 2] : List Int) 2), (28, iV 2), (29, iV 0), (40, oV 3 0 1 1), (41, iV 1), (42, iV 1), (43, bV false)]) (g' := [(0, some (77, .ds [iD 0, iD 0, D.lit (.slice none 0 0)])), (1, some (3, .ds (dI .i64 (List.set ([0, 0, 0, 0] : List Int) 0 32768)))), (2, some (77, .cs [iC 2, iC 2, .own 1 0 4 1 true])), (3, some (3, .ds [iD 1]))]) (nx' := 4) (by kernel_rfl) (by omega) ?_
  refine AW.seq ?_
  refine AW.cond_f (.tmp (Look.of rfl)) ?_
  refine AW.exit ?_
  refine AW.rg [.w, .no] [1, 4, 6, 27, 28, 29] [0, 1, 2] (P := ((-9223372036854775808) ≤ (1 : Int) ∧ (1 : Int) ≤ 9223372036854775807)) (l' := [(1, sV .i64 ([1, 2] : List Int) 2), (4, rV 0 0), (6, rV 2 0), (27, sV .i64 ([1, 2] : List Int) 2), (28, iV 2), (29, iV 1)]) (g' := [(0, some (77, .ds [iD 0, iD 0, D.lit (.slice none 0 0)])), (1, some (3, .ds (dI .i64 (List.set ([0, 0, 0, 0] : List Int) 0 32768)))), (2, some (77, .cs [iC 2, iC 2, .own 1 0 4 1 true]))]) (nx' := 4) (by kernel_rfl) ⟨by omega, by omega⟩ ?_
  refine AWr.s ?_
  refine AW.rgs [.b true] [1, 4, 6, 27, 28, 29, 30] [0, 1, 2] (P := (((1 : Int) < 2))) (l' := [(1, sV .i64 ([1, 2] : List Int) 2), (4, rV 0 0), (6, rV 2 0), (27, sV .i64 ([1, 2] : List Int) 2), (28, iV 2), (29, iV 1), (30, bV true)]) (g' := [(0, some (77, .ds [iD 0, iD 0, D.lit (.slice none 0 0)])), (1, some (3, .ds (dI .i64 (List.set ([0, 0, 0, 0] : List Int) 0 32768)))), (2, some (77, .cs [iC 2, iC 2, .own 1 0 4 1 true]))]) (nx' := 4) (by kernel_rfl) (by omega) ?_
  refine AW.seq ?_
  refine AW.cond_t (.tmp (Look.of rfl)) ?_
  refine AW.skip ?_
  refine AW.seq ?_
  refine AW.block ?_
  refine AW.rgs [.no, .n 1, .d (D.lit (.int .i64 2)), .no, .no] [1, 4, 6, 7, 8, 27, 28, 29] [0, 1, 2] (P := ((1 : Int) = 1) ∧ ((1 : Nat) < 2) ∧ ((List.drop 1 (dI .i64 ([1, 2] : List Int)))[0]? = some (D.lit (.int .i64 2)))) (l' := [(1, sV .i64 ([1, 2] : List Int) 2), (4, rV 0 0), (6, rV 2 0), (7, iV 1), (8, iV 2), (27, sV .i64 ([1, 2] : List Int) 2), (28, iV 2), (29, iV 1)]) (g' := [(0, some (77, .ds [iD 0, iD 0, D.lit (.slice none 0 0)])), (1, some (3, .ds (dI .i64 (List.set ([0, 0, 0, 0] : List Int) 0 32768)))), (2, some (77, .cs [iC 2, iC 2, .own 1 0 4 1 true]))]) (nx' := 4) (by kernel_rfl) ⟨rfl, (by omega), (by rfl)⟩ ?_
  refine AW.rgs [.no, .no, .call [] (.tup [.c (.own 0 0 1 1 true), iE 32768]) [(0, some (3, .ds [iD 2]))] 1 [] none, .no, .no, .no, .no, .no] [1, 4, 6, 7, 9, 10, 27, 28, 29] [0, 1, 2, 4] (P := (_)) (l' := [(1, sV .i64 ([1, 2] : List Int) 2), (4, rV 0 0), (6, rV 2 0), (7, iV 1), (9, oV 4 0 1 1), (10, iV 32768), (27, sV .i64 ([1, 2] : List Int) 2), (28, iV 2), (29, iV 1)]) (g' := [(0, some (77, .ds [iD 0, iD 0, D.lit (.slice none 0 0)])), (1, some (3, .ds (dI .i64 (List.set ([0, 0, 0, 0] : List Int) 0 32768)))), (2, some (77, .cs [iC 2, iC 2, .own 1 0 4 1 true])), (4, some (3, .ds [iD 2]))]) (nx' := 5) (by kernel_rfl) (M_goals_1_2) ?_
  refine AW.rgs [.no, .no, .no] [1, 4, 6, 7, 10, 27, 28, 29, 40, 41, 42] [0, 1, 2, 4] (P := True) (l' := [(1, sV .i64 ([1, 2] : List Int) 2), (4, rV 0 0), (6, rV 2 0), (7, iV 1), (10, iV 32768), (27, sV .i64 ([1, 2] : List Int) 2), (28, iV 2), (29, iV 1), (40, oV 4 0 1 1), (41, iV 1), (42, iV 0)]) (g' := [(0, some (77, .ds [iD 0, iD 0, D.lit (.slice none 0 0)])), (1, some (3, .ds (dI .i64 (List.set ([0, 0, 0, 0] : List Int) 0 32768)))), (2, some (77, .cs [iC 2, iC 2, .own 1 0 4 1 true])), (4, some (3, .ds [iD 2]))]) (nx' := 5) (by kernel_rfl) trivial ?_
  refine AW.block ?_
  refine AW.rounds 2 ?_
  refine AWr.s ?_
  refine AW.rgs [.b true] [1, 4, 6, 7, 10, 27, 28, 29, 40, 41, 42, 43] [0, 1, 2, 4] (P := (((0 : Int) < 1))) (l' := [(1, sV .i64 ([1, 2] : List Int) 2), (4, rV 0 0), (6, rV 2 0), (7, iV 1), (10, iV 32768), (27, sV .i64 ([1, 2] : List Int) 2), (28, iV 2), (29, iV 1), (40, oV 4 0 1 1), (41, iV 1), (42, iV 0), (43, bV true)]) (g' := [(0, some (77, .ds [iD 0, iD 0, D.lit (.slice none 0 0)])), (1, some (3, .ds (dI .i64 (List.set ([0, 0, 0, 0] : List Int) 0 32768)))), (2, some (77, .cs [iC 2, iC 2, .own 1 0 4 1 true])), (4, some (3, .ds [iD 2]))]) (nx' := 5) (by kernel_rfl) (by omega) ?_
  refine AW.seq ?_
  refine AW.cond_t (.tmp (Look.of rfl)) ?_
  refine AW.skip ?_
  refine AW.seq ?_
  refine AW.block ?_
  refine AW.rgs [.n2 0 0, .no, .no] [1, 4, 6, 7, 10, 12, 27, 28, 29, 40, 41, 42] [0, 1, 2, 4] (P := ((0 : Int) = 0) ∧ ((0 : Nat) < 1) ∧ ((0 : Nat) + 0 * 1 = 0)) (l' := [(1, sV .i64 ([1, 2] : List Int) 2), (4, rV 0 0), (6, rV 2 0), (7, iV 1), (10, iV 32768), (12, iV 2), (27, sV .i64 ([1, 2] : List Int) 2), (28, iV 2), (29, iV 1), (40, oV 4 0 1 1), (41, iV 1), (42, iV 0)]) (g' := [(0, some (77, .ds [iD 0, iD 0, D.lit (.slice none 0 0)])), (1, some (3, .ds (dI .i64 (List.set ([0, 0, 0, 0] : List Int) 0 32768)))), (2, some (77, .cs [iC 2, iC 2, .own 1 0 4 1 true])), (4, some (3, .ds [iD 2]))]) (nx' := 5) (by kernel_rfl) ⟨rfl, (by omega), (by omega)⟩ ?_
  refine AW.rg [.no, .no, .no, .call [] (iV 1) [] 0 [] none, .call [1] (.e (.c (.own 0 2 2 1 false))) [(0, some (3, .ds (dI .i64 ([32768, 0, 0, 0] : List Int))))] 1 [] none, .no, .no, .n2 1 3, .ds (dI .i64 (List.set ([32768, 0, 0, 0] : List Int) 3 32768))] [1, 4, 6, 7, 10, 27, 28, 29, 40, 41, 42] [0, 1, 2, 4] (P := (_) ∧ (_) ∧ ((1 : Int) = 1) ∧ ((1 : Nat) < 2) ∧ ((2 : Nat) + 1 * 1 = 3) ∧ ((3 : Nat) + 1 ≤ (dI .i64 ([32768, 0, 0, 0] : List Int)).length) ∧ (updD (dI .i64 ([32768, 0, 0, 0] : List Int)) 3 [D.lit (.int .i64 32768)] = dI .i64 (List.set ([32768, 0, 0, 0] : List Int) 3 32768))) (l' := [(1, sV .i64 ([1, 2] : List Int) 2), (4, rV 0 0), (6, rV 2 0), (7, iV 1), (10, iV 32768), (27, sV .i64 ([1, 2] : List Int) 2), (28, iV 2), (29, iV 1), (40, oV 4 0 1 1), (41, iV 1), (42, iV 0)]) (g' := [(0, some (77, .ds [iD 0, iD 0, D.lit (.slice none 0 0)])), (1, some (3, .ds (dI .i64 (List.set ([32768, 0, 0, 0] : List Int) 3 32768)))), (2, some (77, .cs [iC 2, iC 2, .own 1 0 4 1 true])), (4, some (3, .ds [iD 2]))]) (nx' := 5) (by kernel_rfl) ⟨(Fun.cv (C_Index ([1, 2] : List Int) 2 2 rfl (by omega)) (y' := iV 1) (g1' := toG []) (by kernel_rfl) (by kernel_rfl)), (Fun.cv (M_rowo 2 2 1 (List.set ([0, 0, 0, 0] : List Int) 0 32768) 4 (by first | omega | with_reducible assumption | (simp <;> omega) | rfl | assumption) (by omega) (by omega) (by omega)) (y' := .e (.c (.own 0 2 2 1 false))) (g1' := toG [(0, some (3, .ds (dI .i64 ([32768, 0, 0, 0] : List Int))))]) (by kernel_rfl) (by kernel_rfl)), rfl, (by omega), (by omega), (by first | omega | (rw [dI_len]; omega) | (simp [dI_len] <;> omega) | rfl), (dI_set _ _ _ _)⟩ ?_
  refine AW.rg [.w, .no] [1, 4, 6, 7, 10, 27, 28, 29, 40, 41, 42] [0, 1, 2, 4] (P := ((-9223372036854775808) ≤ (1 : Int) ∧ (1 : Int) ≤ 9223372036854775807)) (l' := [(1, sV .i64 ([1, 2] : List Int) 2), (4, rV 0 0), (6, rV 2 0), (7, iV 1), (10, iV 32768), (27, sV .i64 ([1, 2] : List Int) 2), (28, iV 2), (29, iV 1), (40, oV 4 0 1 1), (41, iV 1), (42, iV 1)]) (g' := [(0, some (77, .ds [iD 0, iD 0, D.lit (.slice none 0 0)])), (1, some (3, .ds (dI .i64 (List.set ([32768, 0, 0, 0] : List Int) 3 32768)))), (2, some (77, .cs [iC 2, iC 2, .own 1 0 4 1 true])), (4, some (3, .ds [iD 2]))]) (nx' := 5) (by kernel_rfl) ⟨by omega, by omega⟩ ?_
  refine AWr.s ?_
  refine AW.rgs [.b false] [1, 4, 6, 7, 10, 27, 28, 29, 40, 41, 42, 43] [0, 1, 2, 4] (P := (¬ ((1 : Int) < 1))) (l' := [(1, sV .i64 ([1, 2] : List Int) 2), (4, rV 0 0), (6, rV 2 0), (7, iV 1), (10, iV 32768), (27, sV .i64 ([1, 2] : List Int) 2), (28, iV 2), (29, iV 1), (40, oV 4 0 1 1), (41, iV 1), (42, iV 1), (43, bV false)]) (g' := [(0, some (77, .ds [iD 0, iD 0, D.lit (.slice none 0 0)])), (1, some (3, .ds (dI .i64 (List.set ([32768, 0, 0, 0] : List Int) 3 32768)))), (2, some (77, .cs [iC 2, iC 2, .own 1 0 4 1 true])), (4, some (3, .ds [iD 2]))]) (nx' := 5) (by kernel_rfl) (by omega) ?_
  refine AW.seq ?_
  refine AW.cond_f (.tmp (Look.of rfl)) ?_
  refine AW.exit ?_
  refine AW.rg [.w, .no] [1, 4, 6, 27, 28, 29] [0, 1, 2] (P := ((-9223372036854775808) ≤ (2 : Int) ∧ (2 : Int) ≤ 9223372036854775807)) (l' := [(1, sV .i64 ([1, 2] : List Int) 2), (4, rV 0 0), (6, rV 2 0), (27, sV .i64 ([1, 2] : List Int) 2), (28, iV 2), (29, iV 2)]) (g' := [(0, some (77, .ds [iD 0, iD 0, D.lit (.slice none 0 0)])), (1, some (3, .ds (dI .i64 (List.set ([32768, 0, 0, 0] : List Int) 3 32768)))), (2, some (77, .cs [iC 2, iC 2, .own 1 0 4 1 true]))]) (nx' := 5) (by kernel_rfl) ⟨by omega, by omega⟩ ?_
  refine AWr.s ?_
  refine AW.rgs [.b false] [1, 4, 6, 27, 28, 29, 30] [0, 1, 2] (P := (¬ ((2 : Int) < 2))) (l' := [(1, sV .i64 ([1, 2] : List Int) 2), (4, rV 0 0), (6, rV 2 0), (27, sV .i64 ([1, 2] : List Int) 2), (28, iV 2), (29, iV 2), (30, bV false)]) (g' := [(0, some (77, .ds [iD 0, iD 0, D.lit (.slice none 0 0)])), (1, some (3, .ds (dI .i64 (List.set ([32768, 0, 0, 0] : List Int) 3 32768)))), (2, some (77, .cs [iC 2, iC 2, .own 1 0 4 1 true]))]) (nx' := 5) (by kernel_rfl) (by omega) ?_
  refine AW.seq ?_
  refine AW.cond_f (.tmp (Look.of rfl)) ?_
  refine AW.exit ?_
  refine AW.rgs [.no, .no, .no] [4, 5] [0, 1] (P := True) (l' := [(4, rV 0 0), (5, iV 0)]) (g' := [(0, some (77, .cs [iC 2, iC 2, .own 1 0 4 1 true])), (1, some (3, .ds (dI .i64 (List.set ([32768, 0, 0, 0] : List Int) 3 32768))))]) (nx' := 5) (by kernel_rfl) trivial ?_
  refine AW.ret ?_
  exact EndP.of (.inr rfl) [(0, 1)] (P := ((2 : Int) = 2) ∧ ((2 : Int) = 2) ∧ ((0 : Nat) = 0) ∧ ((4 : Nat) = 4) ∧ ((0 : Int) = 0) ∧ (((dI .i64 ([32768, 0, 0, 32768] : List Int)) : List D) = (dI .i64 (List.set ([32768, 0, 0, 0] : List Int) 3 32768)))) (by kernel_rfl) ⟨rfl, rfl, rfl, rfl, rfl, (by rfl)⟩

set_option maxHeartbeats 4000000 in
set_option maxRecDepth 100000 in
theorem M_Default_m2   : Fun 68 [.c (.d (D.sl (dI .i64 ([1, 2, 3, 4, 5, 6] : List Int)) 6)), .c (.d (D.sl (dI .i64 ([1, 2, 3, 4, 5, 6] : List Int)) 6))] (toG []) 0 (.tup [.agg [iC 6, iC 6, .own 0 0 36 1 true], iE 0]) (toG [(0, some (3, .ds (dI .i64 ([32768, 0, 0, 0, 0, 0, 0, 32768, 0, 0, 0, 0, 0, 0, 32768, 0, 0, 0, 0, 0, 0, 32768, 0, 0, 0, 0, 0, 0, 32768, 0, 0, 0, 0, 0, 0, 32768] : List Int))))]) 1 := by
  refine Fun.mk (n := 57) Try.func68 rfl rfl (Nat.le_of_ble_eq_true rfl) ?_
  intro cx hcx
  refine AW.rgs [.no, .no] [0, 1, 4] [0] (P := True) (l' := [(0, sV .i64 ([1, 2, 3, 4, 5, 6] : List Int) 6), (1, sV .i64 ([1, 2, 3, 4, 5, 6] : List Int) 6), (4, rV 0 0)]) (g' := [(0, some (77, .ds [iD 0, iD 0, D.lit (.slice none 0 0)]))]) (nx' := 1) (by kernel_rfl) trivial ?_
  refine AW.seq ?_
  refine AW.rgs [.no, .call [] (bV true) [] 0 [] none, .no, .no, .no, .call [] (bV true) [] 0 [] none, .no, .no] [0, 1, 4, 20] [0] (P := (_) ∧ (_)) (l' := [(0, sV .i64 ([1, 2, 3, 4, 5, 6] : List Int) 6), (1, sV .i64 ([1, 2, 3, 4, 5, 6] : List Int) 6), (4, rV 0 0), (20, bV false)]) (g' := [(0, some (77, .ds [iD 0, iD 0, D.lit (.slice none 0 0)]))]) (nx' := 1) (by kernel_rfl) ⟨(C_Valid_m2), (C_Valid_m2)⟩ ?_
  refine AW.cond_f (.tmp (Look.of rfl)) ?_
  refine AW.skip ?_
  refine AW.rgs [.no, .no, .no, .no, .call [] (.e (.agg [iC 6, iC 6, .own 0 0 36 1 true])) [(0, some (3, .ds (dI .i64 ([0, 0, 0, 0, 0, 0, 0, 0, 0, 0, 0, 0, 0, 0, 0, 0, 0, 0, 0, 0, 0, 0, 0, 0, 0, 0, 0, 0, 0, 0, 0, 0, 0, 0, 0, 0] : List Int))))] 1 [] none, .no, .no] [0, 1, 4, 6] [0, 1, 2] (P := (_)) (l' := [(0, sV .i64 ([1, 2, 3, 4, 5, 6] : List Int) 6), (1, sV .i64 ([1, 2, 3, 4, 5, 6] : List Int) 6), (4, rV 0 0), (6, rV 2 0)]) (g' := [(0, some (77, .ds [iD 0, iD 0, D.lit (.slice none 0 0)])), (1, some (3, .ds (dI .i64 ([0, 0, 0, 0, 0, 0, 0, 0, 0, 0, 0, 0, 0, 0, 0, 0, 0, 0, 0, 0, 0, 0, 0, 0, 0, 0, 0, 0, 0, 0, 0, 0, 0, 0, 0, 0] : List Int)))), (2, some (77, .cs [iC 6, iC 6, .own 1 0 36 1 true]))]) (nx' := 3) (by kernel_rfl) (Fun.cv (M_zero 6 6 (by omega) (by omega)) (y' := .e (.agg [iC 6, iC 6, .own 0 0 36 1 true])) (g1' := toG [(0, some (3, .ds (dI .i64 ([0, 0, 0, 0, 0, 0, 0, 0, 0, 0, 0, 0, 0, 0, 0, 0, 0, 0, 0, 0, 0, 0, 0, 0, 0, 0, 0, 0, 0, 0, 0, 0, 0, 0, 0, 0] : List Int))))]) (by kernel_rfl) (by kernel_rfl)) ?_
  refine AW.seq ?_
  refine AW.rgs [.no, .no, .no] [1, 4, 6, 27, 28, 29] [0, 1, 2] (P := True) (l' := [(1, sV .i64 ([1, 2, 3, 4, 5, 6] : List Int) 6), (4, rV 0 0), (6, rV 2 0), (27, sV .i64 ([1, 2, 3, 4, 5, 6] : List Int) 6), (28, iV 6), (29, iV 0)]) (g' := [(0, some (77, .ds [iD 0, iD 0, D.lit (.slice none 0 0)])), (1, some (3, .ds (dI .i64 ([0, 0, 0, 0, 0, 0, 0, 0, 0, 0, 0, 0, 0, 0, 0, 0, 0, 0, 0, 0, 0, 0, 0, 0, 0, 0, 0, 0, 0, 0, 0, 0, 0, 0, 0, 0] : List Int)))), (2, some (77, .cs [iC 6, iC 6, .own 1 0 36 1 true]))]) (nx' := 3) (by kernel_rfl) trivial ?_
  refine AW.block ?_
  refine AW.rounds 7 ?_
  refine AWr.s ?_
  refine AW.rgs [.b true] [1, 4, 6, 27, 28, 29, 30] [0, 1, 2] (P := (((0 : Int) < 6))) (l' := [(1, sV .i64 ([1, 2, 3, 4, 5, 6] : List Int) 6), (4, rV 0 0), (6, rV 2 0), (27, sV .i64 ([1, 2, 3, 4, 5, 6] : List Int) 6), (28, iV 6), (29, iV 0), (30, bV true)]) (g' := [(0, some (77, .ds [iD 0, iD 0, D.lit (.slice none 0 0)])), (1, some (3, .ds (dI .i64 ([0, 0, 0, 0, 0, 0, 0, 0, 0, 0, 0, 0, 0, 0, 0, 0, 0, 0, 0, 0, 0, 0, 0, 0, 0, 0, 0, 0, 0, 0, 0, 0, 0, 0, 0, 0] : List Int)))), (2, some (77, .cs [iC 6, iC 6, .own 1 0 36 1 true]))]) (nx' := 3) (by kernel_rfl) (by omega) ?_
  refine AW.seq ?_
  refine AW.cond_t (.tmp (Look.of rfl)) ?_
  refine AW.skip ?_
  refine AW.seq ?_
  refine AW.block ?_
  refine AW.rgs [.no, .n 0, .d (D.lit (.int .i64 1)), .no, .no] [1, 4, 6, 7, 8, 27, 28, 29] [0, 1, 2] (P := ((0 : Int) = 0) ∧ ((0 : Nat) < 6) ∧ ((List.drop 0 (dI .i64 ([1, 2, 3, 4, 5, 6] : List Int)))[0]? = some (D.lit (.int .i64 1)))) (l' := [(1, sV .i64 ([1, 2, 3, 4, 5, 6] : List Int) 6), (4, rV 0 0), (6, rV 2 0), (7, iV 0), (8, iV 1), (27, sV .i64 ([1, 2, 3, 4, 5, 6] : List Int) 6), (28, iV 6), (29, iV 0)]) (g' := [(0, some (77, .ds [iD 0, iD 0, D.lit (.slice none 0 0)])), (1, some (3, .ds (dI .i64 ([0, 0, 0, 0, 0, 0, 0, 0, 0, 0, 0, 0, 0, 0, 0, 0, 0, 0, 0, 0, 0, 0, 0, 0, 0, 0, 0, 0, 0, 0, 0, 0, 0, 0, 0, 0] : List Int)))), (2, some (77, .cs [iC 6, iC 6, .own 1 0 36 1 true]))]) (nx' := 3) (by kernel_rfl) ⟨rfl, (by omega), (by rfl)⟩ ?_
  refine AW.rgs [.no, .no, .call [] (.tup [.c (.own 0 0 1 1 true), iE 32768]) [(0, some (3, .ds [iD 1]))] 1 [] none, .no, .no, .no, .no, .no] [1, 4, 6, 7, 9, 10, 27, 28, 29] [0, 1, 2, 3] (P := (_)) (l' := [(1, sV .i64 ([1, 2, 3, 4, 5, 6] : List Int) 6), (4, rV 0 0), (6, rV 2 0), (7, iV 0), (9, oV 3 0 1 1), (10, iV 32768), (27, sV .i64 ([1, 2, 3, 4, 5, 6] : List Int) 6), (28, iV 6), (29, iV 0)]) (g' := [(0, some (77, .ds [iD 0, iD 0, D.lit (.slice none 0 0)])), (1, some (3, .ds (dI .i64 ([0, 0, 0, 0, 0, 0, 0, 0, 0, 0, 0, 0, 0, 0, 0, 0, 0, 0, 0, 0, 0, 0, 0, 0, 0, 0, 0, 0, 0, 0, 0, 0, 0, 0, 0, 0] : List Int)))), (2, some (77, .cs [iC 6, iC 6, .own 1 0 36 1 true])), (3, some (3, .ds [iD 1]))]) (nx' := 4) (by kernel_rfl) (M_goals_2_1) ?_
  refine AW.rgs [.no, .no, .no] [1, 4, 6, 7, 10, 27, 28, 29, 40, 41, 42] [0, 1, 2, 3] (P := True) (l' := [(1, sV .i64 ([1, 2, 3, 4, 5, 6] : List Int) 6), (4, rV 0 0), (6, rV 2 0), (7, iV 0), (10, iV 32768), (27, sV .i64 ([1, 2, 3, 4, 5, 6] : List Int) 6), (28, iV 6), (29, iV 0), (40, oV 3 0 1 1), (41, iV 1), (42, iV 0)]) (g' := [(0, some (77, .ds [iD 0, iD 0, D.lit (.slice none 0 0)])), (1, some (3, .ds (dI .i64 ([0, 0, 0, 0, 0, 0, 0, 0, 0, 0, 0, 0, 0, 0, 0, 0, 0, 0, 0, 0, 0, 0, 0, 0, 0, 0, 0, 0, 0, 0, 0, 0, 0, 0, 0, 0] : List Int)))), (2, some (77, .cs [iC 6, iC 6, .own 1 0 36 1 true])), (3, some (3, .ds [iD 1]))]) (nx' := 4) (by kernel_rfl) trivial ?_
  refine AW.block ?_
  refine AW.rounds 2 ?_
  refine AWr.s ?_
  refine AW.rgs [.b true] [1, 4, 6, 7, 10, 27, 28, 29, 40, 41, 42, 43] [0, 1, 2, 3] (P := (((0 : Int) < 1))) (l' := [(1, sV .i64 ([1, 2, 3, 4, 5, 6] : List Int) 6), (4, rV 0 0), (6, rV 2 0), (7, iV 0), (10, iV 32768), (27, sV .i64 ([1, 2, 3, 4, 5, 6] : List Int) 6), (28, iV 6), (29, iV 0), (40, oV 3 0 1 1), (41, iV 1), (42, iV 0), (43, bV true)]) (g' := [(0, some (77, .ds [iD 0, iD 0, D.lit (.slice none 0 0)])), (1, some (3, .ds (dI .i64 ([0, 0, 0, 0, 0, 0, 0, 0, 0, 0, 0, 0, 0, 0, 0, 0, 0, 0, 0, 0, 0, 0, 0, 0, 0, 0, 0, 0, 0, 0, 0, 0, 0, 0, 0, 0] : List Int)))), (2, some (77, .cs [iC 6, iC 6, .own 1 0 36 1 true])), (3, some (3, .ds [iD 1]))]) (nx' := 4) (by kernel_rfl) (by omega) ?_
  refine AW.seq ?_
  refine AW.cond_t (.tmp (Look.of rfl)) ?_
  refine AW.skip ?_
  refine AW.seq ?_
  refine AW.block ?_
  refine AW.rgs [.n2 0 0, .no, .no] [1, 4, 6, 7, 10, 12, 27, 28, 29, 40, 41, 42] [0, 1, 2, 3] (P := ((0 : Int) = 0) ∧ ((0 : Nat) < 1) ∧ ((0 : Nat) + 0 * 1 = 0)) (l' := [(1, sV .i64 ([1, 2, 3, 4, 5, 6] : List Int) 6), (4, rV 0 0), (6, rV 2 0), (7, iV 0), (10, iV 32768), (12, iV 1), (27, sV .i64 ([1, 2, 3, 4, 5, 6] : List Int) 6), (28, iV 6), (29, iV 0), (40, oV 3 0 1 1), (41, iV 1), (42, iV 0)]) (g' := [(0, some (77, .ds [iD 0, iD 0, D.lit (.slice none 0 0)])), (1, some (3, .ds (dI .i64 ([0, 0, 0, 0, 0, 0, 0, 0, 0, 0, 0, 0, 0, 0, 0, 0, 0, 0, 0, 0, 0, 0, 0, 0, 0, 0, 0, 0, 0, 0, 0, 0, 0, 0, 0, 0] : List Int)))), (2, some (77, .cs [iC 6, iC 6, .own 1 0 36 1 true])), (3, some (3, .ds [iD 1]))]) (nx' := 4) (by kernel_rfl) ⟨rfl, (by omega), (by omega)⟩ ?_
  refine AW.rg [.no, .no, .no, .call [] (iV 0) [] 0 [] none, .call [1] (.e (.c (.own 0 0 6 1 false))) [(0, some (3, .ds (dI .i64 ([0, 0, 0, 0, 0, 0, 0, 0, 0, 0, 0, 0, 0, 0, 0, 0, 0, 0, 0, 0, 0, 0, 0, 0, 0, 0, 0, 0, 0, 0, 0, 0, 0, 0, 0, 0] : List Int))))] 1 [] none, .no, .no, .n2 0 0, .ds (dI .i64 (List.set ([0, 0, 0, 0, 0, 0, 0, 0, 0, 0, 0, 0, 0, 0, 0, 0, 0, 0, 0, 0, 0, 0, 0, 0, 0, 0, 0, 0, 0, 0, 0, 0, 0, 0, 0, 0] : List Int) 0 32768))] [1, 4, 6, 7, 10, 27, 28, 29, 40, 41, 42] [0, 1, 2, 3] (P := (_) ∧ (_) ∧ ((0 : Int) = 0) ∧ ((0 : Nat) < 6) ∧ ((0 : Nat) + 0 * 1 = 0) ∧ ((0 : Nat) + 1 ≤ (dI .i64 ([0, 0, 0, 0, 0, 0, 0, 0, 0, 0, 0, 0, 0, 0, 0, 0, 0, 0, 0, 0, 0, 0, 0, 0, 0, 0, 0, 0, 0, 0, 0, 0, 0, 0, 0, 0] : List Int)).length) ∧ (updD (dI .i64 ([0, 0, 0, 0, 0, 0, 0, 0, 0, 0, 0, 0, 0, 0, 0, 0, 0, 0, 0, 0, 0, 0, 0, 0, 0, 0, 0, 0, 0, 0, 0, 0, 0, 0, 0, 0] : List Int)) 0 [D.lit (.int .i64 32768)] = dI .i64 (List.set ([0, 0, 0, 0, 0, 0, 0, 0, 0, 0, 0, 0, 0, 0, 0, 0, 0, 0, 0, 0, 0, 0, 0, 0, 0, 0, 0, 0, 0, 0, 0, 0, 0, 0, 0, 0] : List Int) 0 32768))) (l' := [(1, sV .i64 ([1, 2, 3, 4, 5, 6] : List Int) 6), (4, rV 0 0), (6, rV 2 0), (7, iV 0), (10, iV 32768), (27, sV .i64 ([1, 2, 3, 4, 5, 6] : List Int) 6), (28, iV 6), (29, iV 0), (40, oV 3 0 1 1), (41, iV 1), (42, iV 0)]) (g' := [(0, some (77, .ds [iD 0, iD 0, D.lit (.slice none 0 0)])), (1, some (3, .ds (dI .i64 (List.set ([0, 0, 0, 0, 0, 0, 0, 0, 0, 0, 0, 0, 0, 0, 0, 0, 0, 0, 0, 0, 0, 0, 0, 0, 0, 0, 0, 0, 0, 0, 0, 0, 0, 0, 0, 0] : List Int) 0 32768)))), (2, some (77, .cs [iC 6, iC 6, .own 1 0 36 1 true])), (3, some (3, .ds [iD 1]))]) (nx' := 4) (by kernel_rfl) ⟨(Fun.cv (C_Index ([1, 2, 3, 4, 5, 6] : List Int) 6 1 rfl (by omega)) (y' := iV 0) (g1' := toG []) (by kernel_rfl) (by kernel_rfl)), (M_rowo 6 6 0 ([0, 0, 0, 0, 0, 0, 0, 0, 0, 0, 0, 0, 0, 0, 0, 0, 0, 0, 0, 0, 0, 0, 0, 0, 0, 0, 0, 0, 0, 0, 0, 0, 0, 0, 0, 0] : List Int) 36 rfl (by omega) (by omega) (by omega)), rfl, (by omega), (by omega), (by first | omega | (rw [dI_len]; omega) | (simp [dI_len] <;> omega) | rfl), (dI_set _ _ _ _)⟩ ?_
  refine AW.rg [.w, .no] [1, 4, 6, 7, 10, 27, 28, 29, 40, 41, 42] [0, 1, 2, 3] (P := ((-9223372036854775808) ≤ (1 : Int) ∧ (1 : Int) ≤ 9223372036854775807)) (l' := [(1, sV .i64 ([1, 2, 3, 4, 5, 6] : List Int) 6), (4, rV 0 0), (6, rV 2 0), (7, iV 0), (10, iV 32768), (27, sV .i64 ([1, 2, 3, 4, 5, 6] : List Int) 6), (28, iV 6), (29, iV 0), (40, oV 3 0 1 1), (41, iV 1), (42, iV 1)]) (g' := [(0, some (77, .ds [iD 0, iD 0, D.lit (.slice none 0 0)])), (1, some (3, .ds (dI .i64 (List.set ([0, 0, 0, 0, 0, 0, 0, 0, 0, 0, 0, 0, 0, 0, 0, 0, 0, 0, 0, 0, 0, 0, 0, 0, 0, 0, 0, 0, 0, 0, 0, 0, 0, 0, 0, 0] : List Int) 0 32768)))), (2, some (77, .cs [iC 6, iC 6, .own 1 0 36 1 true])), (3, some (3, .ds [iD 1]))]) (nx' := 4) (by kernel_rfl) ⟨by omega, by omega⟩ ?_
  refine AWr.s ?_
  refine AW.rgs [.b false] [1, 4, 6, 7, 10, 27, 28, 29, 40, 41, 42, 43] [0, 1, 2, 3] (P := (¬ ((1 : Int) < 1))) (l' := [(1, sV .i64 ([1, 2, 3, 4, 5, 6] : List Int) 6), (4, rV 0 0), (6, rV 2 0), (7, iV 0), (10, iV 32768), (27, sV .i64 ([1, 2, 3, 4, 5, 6] : List Int) 6), (28, iV 6), (29, iV 0), (40, oV 3 0 1 1), (41, iV 1), (42, iV 1), (43, bV false)]) (g' := [(0, some (77, .ds [iD 0, iD 0, D.lit (.slice none 0 0)])), (1, some (3, .ds (dI .i64 (List.set ([0, 0, 0, 0, 0, 0, 0, 0, 0, 0, 0, 0, 0, 0, 0, 0, 0, 0, 0, 0, 0, 0, 0, 0, 0, 0, 0, 0, 0, 0, 0, 0, 0, 0, 0, 0] : List Int) 0 32768)))), (2, some (77, .cs [iC 6, iC 6, .own 1 0 36 1 true])), (3, some (3, .ds [iD 1]))]) (nx' := 4) (by kernel_rfl) (by omega) ?_
  refine AW.seq ?_
  refine AW.cond_f (.tmp (Look.of rfl)) ?_
  refine AW.exit ?_
  refine AW.rg [.w, .no] [1, 4, 6, 27, 28, 29] [0, 1, 2] (P := ((-9223372036854775808) ≤ (1 : Int) ∧ (1 : Int) ≤ 9223372036854775807)) (l' := [(1, sV .i64 ([1, 2, 3, 4, 5, 6] : List Int) 6), (4, rV 0 0), (6, rV 2 0), (27, sV .i64 ([1, 2, 3, 4, 5, 6] : List Int) 6), (28, iV 6), (29, iV 1)]) (g' := [(0, some (77, .ds [iD 0, iD 0, D.lit (.slice none 0 0)])), (1, some (3, .ds (dI .i64 (List.set ([0, 0, 0, 0, 0, 0, 0, 0, 0, 0, 0, 0, 0, 0, 0, 0, 0, 0, 0, 0, 0, 0, 0, 0, 0, 0, 0, 0, 0, 0, 0, 0, 0, 0, 0, 0] : List Int) 0 32768)))), (2, some (77, .cs [iC 6, iC 6, .own 1 0 36 1 true]))]) (nx' := 4) (by kernel_rfl) ⟨by omega, by omega⟩ ?_
  refine AWr.s ?_
  refine AW.rgs [.b true] [1, 4, 6, 27, 28, 29, 30] [0, 1, 2] (P := (((1 : Int) < 6))) (l' := [(1, sV .i64 ([1, 2, 3, 4, 5, 6] : List Int) 6), (4, rV 0 0), (6, rV 2 0), (27, sV .i64 ([1, 2, 3, 4, 5, 6] : List Int) 6), (28, iV 6), (29, iV 1), (30, bV true)]) (g' := [(0, some (77, .ds [iD 0, iD 0, D.lit (.slice none 0 0)])), (1, some (3, .ds (dI .i64 (List.set ([0, 0, 0, 0, 0, 0, 0, 0, 0, 0, 0, 0, 0, 0, 0, 0, 0, 0, 0, 0, 0, 0, 0, 0, 0, 0, 0, 0, 0, 0, 0, 0, 0, 0, 0, 0] : List Int) 0 32768)))), (2, some (77, .cs [iC 6, iC 6, .own 1 0 36 1 true]))]) (nx' := 4) (by kernel_rfl) (by omega) ?_
  refine AW.seq ?_
  refine AW.cond_t (.tmp (Look.of rfl)) ?_
  refine AW.skip ?_
  refine AW.seq ?_
  refine AW.block ?_
  refine AW.rgs [.no, .n 1, .d (D.lit (.int .i64 2)), .no, .no] [1, 4, 6, 7, 8, 27, 28, 29] [0, 1, 2] (P := ((1 : Int) = 1) ∧ ((1 : Nat) < 6) ∧ ((List.drop 1 (dI .i64 ([1, 2, 3, 4, 5, 6] : List Int)))[0]? = some (D.lit (.int .i64 2)))) (l' := [(1, sV .i64 ([1, 2, 3, 4, 5, 6] : List Int) 6), (4, rV 0 0), (6, rV 2 0), (7, iV 1), (8, iV 2), (27, sV .i64 ([1, 2, 3, 4, 5, 6] : List Int) 6), (28, iV 6), (29, iV 1)]) (g' := [(0, some (77, .ds [iD 0, iD 0, D.lit (.slice none 0 0)])), (1, some (3, .ds (dI .i64 (List.set ([0, 0, 0, 0, 0, 0, 0, 0, 0, 0, 0, 0, 0, 0, 0, 0, 0, 0, 0, 0, 0, 0, 0, 0, 0, 0, 0, 0, 0, 0, 0, 0, 0, 0, 0, 0] : List Int) 0 32768)))), (2, some (77, .cs [iC 6, iC 6, .own 1 0 36 1 true]))]) (nx' := 4) (by kernel_rfl) ⟨rfl, (by omega), (by rfl)⟩ ?_
  refine AW.rgs [.no, .no, .call [] (.tup [.c (.own 0 0 1 1 true), iE 32768]) [(0, some (3, .ds [iD 2]))] 1 [] none, .no, .no, .no, .no, .no] [1, 4, 6, 7, 9, 10, 27, 28, 29] [0, 1, 2, 4] (P := (_)) (l' := [(1, sV .i64 ([1, 2, 3, 4, 5, 6] : List Int) 6), (4, rV 0 0), (6, rV 2 0), (7, iV 1), (9, oV 4 0 1 1), (10, iV 32768), (27, sV .i64 ([1, 2, 3, 4, 5, 6] : List Int) 6), (28, iV 6), (29, iV 1)]) (g' := [(0, some (77, .ds [iD 0, iD 0, D.lit (.slice none 0 0)])), (1, some (3, .ds (dI .i64 (List.set ([0, 0, 0, 0, 0, 0, 0, 0, 0, 0, 0, 0, 0, 0, 0, 0, 0, 0, 0, 0, 0, 0, 0, 0, 0, 0, 0, 0, 0, 0, 0, 0, 0, 0, 0, 0] : List Int) 0 32768)))), (2, some (77, .cs [iC 6, iC 6, .own 1 0 36 1 true])), (4, some (3, .ds [iD 2]))]) (nx' := 5) (by kernel_rfl) (M_goals_2_2) ?_
  refine AW.rgs [.no, .no, .no] [1, 4, 6, 7, 10, 27, 28, 29, 40, 41, 42] [0, 1, 2, 4] (P := True) (l' := [(1, sV .i64 ([1, 2, 3, 4, 5, 6] : List Int) 6), (4, rV 0 0), (6, rV 2 0), (7, iV 1), (10, iV 32768), (27, sV .i64 ([1, 2, 3, 4, 5, 6] : List Int) 6), (28, iV 6), (29, iV 1), (40, oV 4 0 1 1), (41, iV 1), (42, iV 0)]) (g' := [(0, some (77, .ds [iD 0, iD 0, D.lit (.slice none 0 0)])), (1, some (3, .ds (dI .i64 (List.set ([0, 0, 0, 0, 0, 0, 0, 0, 0, 0, 0, 0, 0, 0, 0, 0, 0, 0, 0, 0, 0, 0, 0, 0, 0, 0, 0, 0, 0, 0, 0, 0, 0, 0, 0, 0] : List Int) 0 32768)))), (2, some (77, .cs [iC 6, iC 6, .own 1 0 36 1 true])), (4, some (3, .ds [iD 2]))]) (nx' := 5) (by kernel_rfl) trivial ?_
  refine AW.block ?_
  refine AW.rounds 2 ?_
  refine AWr.s ?_
  refine AW.rgs [.b true] [1, 4, 6, 7, 10, 27, 28, 29, 40, 41, 42, 43] [0, 1, 2, 4] (P := (((0 : Int) < 1))) (l' := [(1, sV .i64 ([1, 2, 3, 4, 5, 6] : List Int) 6), (4, rV 0 0), (6, rV 2 0), (7, iV 1), (10, iV 32768), (27, sV .i64 ([1, 2, 3, 4, 5, 6] : List Int) 6), (28, iV 6), (29, iV 1), (40, oV 4 0 1 1), (41, iV 1), (42, iV 0), (43, bV true)]) (g' := [(0, some (77, .ds [iD 0, iD 0, D.lit (.slice none 0 0)])), (1, some (3, .ds (dI .i64 (List.set ([0, 0, 0, 0, 0, 0, 0, 0, 0, 0, 0, 0, 0, 0, 0, 0, 0, 0, 0, 0, 0, 0, 0, 0, 0, 0, 0, 0, 0, 0, 0, 0, 0, 0, 0, 0] : List Int) 0 32768)))), (2, some (77, .cs [iC 6, iC 6, .own 1 0 36 1 true])), (4, some (3, .ds [iD 2]))]) (nx' := 5) (by kernel_rfl) (by omega) ?_
  refine AW.seq ?_
  refine AW.cond_t (.tmp (Look.of rfl)) ?_
  refine AW.skip ?_
  refine AW.seq ?_
  refine AW.block ?_
  refine AW.rgs [.n2 0 0, .no, .no] [1, 4, 6, 7, 10, 12, 27, 28, 29, 40, 41, 42] [0, 1, 2, 4] (P := ((0 : Int) = 0) ∧ ((0 : Nat) < 1) ∧ ((0 : Nat) + 0 * 1 = 0)) (l' := [(1, sV .i64 ([1, 2, 3, 4, 5, 6] : List Int) 6), (4, rV 0 0), (6, rV 2 0), (7, iV 1), (10, iV 32768), (12, iV 2), (27, sV .i64 ([1, 2, 3, 4, 5, 6] : List Int) 6), (28, iV 6), (29, iV 1), (40, oV 4 0 1 1), (41, iV 1), (42, iV 0)]) (g' := [(0, some (77, .ds [iD 0, iD 0, D.lit (.slice none 0 0)])), (1, some (3, .ds (dI .i64 (List.set ([0, 0, 0, 0, 0, 0, 0, 0, 0, 0, 0, 0, 0, 0, 0, 0, 0, 0, 0, 0, 0, 0, 0, 0, 0, 0, 0, 0, 0, 0, 0, 0, 0, 0, 0, 0] : List Int) 0 32768)))), (2, some (77, .cs [iC 6, iC 6, .own 1 0 36 1 true])), (4, some (3, .ds [iD 2]))]) (nx' := 5) (by kernel_rfl) ⟨rfl, (by omega), (by omega)⟩ ?_
  refine AW.rg [.no, .no, .no, .call [] (iV 1) [] 0 [] none, .call [1] (.e (.c (.own 0 6 6 1 false))) [(0, some (3, .ds (dI .i64 ([32768, 0, 0, 0, 0, 0, 0, 0, 0, 0, 0, 0, 0, 0, 0, 0, 0, 0, 0, 0, 0, 0, 0, 0, 0, 0, 0, 0, 0, 0, 0, 0, 0, 0, 0, 0] : List Int))))] 1 [] none, .no, .no, .n2 1 7, .ds (dI .i64 (List.set ([32768, 0, 0, 0, 0, 0, 0, 0, 0, 0, 0, 0, 0, 0, 0, 0, 0, 0, 0, 0, 0, 0, 0, 0, 0, 0, 0, 0, 0, 0, 0, 0, 0, 0, 0, 0] : List Int) 7 32768))] [1, 4, 6, 7, 10, 27, 28, 29, 40, 41, 42] [0, 1, 2, 4] (P := (_) ∧ (_) ∧ ((1 : Int) = 1) ∧ ((1 : Nat) < 6) ∧ ((6 : Nat) + 1 * 1 = 7) ∧ ((7 : Nat) + 1 ≤ (dI .i64 ([32768, 0, 0, 0, 0, 0, 0, 0, 0, 0, 0, 0, 0, 0, 0, 0, 0, 0, 0, 0, 0, 0, 0, 0, 0, 0, 0, 0, 0, 0, 0, 0, 0, 0, 0, 0] : List Int)).length) ∧ (updD (dI .i64 ([32768, 0, 0, 0, 0, 0, 0, 0, 0, 0, 0, 0, 0, 0, 0, 0, 0, 0, 0, 0, 0, 0, 0, 0, 0, 0, 0, 0, 0, 0, 0, 0, 0, 0, 0, 0] : List Int)) 7 [D.lit (.int .i64 32768)] = dI .i64 (List.set ([32768, 0, 0, 0, 0, 0, 0, 0, 0, 0, 0, 0, 0, 0, 0, 0, 0, 0, 0, 0, 0, 0, 0, 0, 0, 0, 0, 0, 0, 0, 0, 0, 0, 0, 0, 0] : List Int) 7 32768))) (l' := [(1, sV .i64 ([1, 2, 3, 4, 5, 6] : List Int) 6), (4, rV 0 0), (6, rV 2 0), (7, iV 1), (10, iV 32768), (27, sV .i64 ([1, 2, 3, 4, 5, 6] : List Int) 6), (28, iV 6), (29, iV 1), (40, oV 4 0 1 1), (41, iV 1), (42, iV 0)]) (g' := [(0, some (77, .ds [iD 0, iD 0, D.lit (.slice none 0 0)])), (1, some (3, .ds (dI .i64 (List.set ([32768, 0, 0, 0, 0, 0, 0, 0, 0, 0, 0, 0, 0, 0, 0, 0, 0, 0, 0, 0, 0, 0, 0, 0, 0, 0, 0, 0, 0, 0, 0, 0, 0, 0, 0, 0] : List Int) 7 32768)))), (2, some (77, .cs [iC 6, iC 6, .own 1 0 36 1 true])), (4, some (3, .ds [iD 2]))]) (nx' := 5) (by kernel_rfl) ⟨(Fun.cv (C_Index ([1, 2, 3, 4, 5, 6] : List Int) 6 2 rfl (by omega)) (y' := iV 1) (g1' := toG []) (by kernel_rfl) (by kernel_rfl)), (Fun.cv (M_rowo 6 6 1 (List.set ([0, 0, 0, 0, 0, 0, 0, 0, 0, 0, 0, 0, 0, 0, 0, 0, 0, 0, 0, 0, 0, 0, 0, 0, 0, 0, 0, 0, 0, 0, 0, 0, 0, 0, 0, 0] : List Int) 0 32768) 36 (by first | omega | with_reducible assumption | (simp <;> omega) | rfl | assumption) (by omega) (by omega) (by omega)) (y' := .e (.c (.own 0 6 6 1 false))) (g1' := toG [(0, some (3, .ds (dI .i64 ([32768, 0, 0, 0, 0, 0, 0, 0, 0, 0, 0, 0, 0, 0, 0, 0, 0, 0, 0, 0, 0, 0, 0, 0, 0, 0, 0, 0, 0, 0, 0, 0, 0, 0, 0, 0] : List Int))))]) (by kernel_rfl) (by kernel_rfl)), rfl, (by omega), (by omega), (by first | omega | (rw [dI_len]; omega) | (simp [dI_len] <;> omega) | rfl), (dI_set _ _ _ _)⟩ ?_
  refine AW.rg [.w, .no] [1, 4, 6, 7, 10, 27, 28, 29, 40, 41, 42] [0, 1, 2, 4] (P := ((-9223372036854775808) ≤ (1 : Int) ∧ (1 : Int) ≤ 9223372036854775807)) (l' := [(1, sV .i64 ([1, 2, 3, 4, 5, 6] : List Int) 6), (4, rV 0 0), (6, rV 2 0), (7, iV 1), (10, iV 32768), (27, sV .i64 ([1, 2, 3, 4, 5, 6] : List Int) 6), (28, iV 6), (29, iV 1), (40, oV 4 0 1 1), (41, iV 1), (42, iV 1)]) (g' := [(0, some (77, .ds [iD 0, iD 0, D.lit (.slice none 0 0)])), (1, some (3, .ds (dI .i64 (List.set ([32768, 0, 0, 0, 0, 0, 0, 0, 0, 0, 0, 0, 0, 0, 0, 0, 0, 0, 0, 0, 0, 0, 0, 0, 0, 0, 0, 0, 0, 0, 0, 0, 0, 0, 0, 0] : List Int) 7 32768)))), (2, some (77, .cs [iC 6, iC 6, .own 1 0 36 1 true])), (4, some (3, .ds [iD 2]))]) (nx' := 5) (by kernel_rfl) ⟨by omega, by omega⟩ ?_
  refine AWr.s ?_
  refine AW.rgs [.b false] [1, 4, 6, 7, 10, 27, 28, 29, 40, 41, 42, 43] [0, 1, 2, 4] (P := (¬ ((1 : Int) < 1))) (l' := [(1, sV .i64 ([1, 2, 3, 4, 5, 6] : List Int) 6), (4, rV 0 0), (6, rV 2 0), (7, iV 1), (10, iV 32768), (27, sV .i64 ([1, 2, 3, 4, 5, 6] : List Int) 6), (28, iV 6), (29, iV 1), (40, oV 4 0 1 1), (41, iV 1), (42, iV 1), (43, bV false)]) (g' := [(0, some (77, .ds [iD 0, iD 0, D.lit (.slice none 0 0)])), (1, some (3, .ds (dI .i64 (List.set ([32768, 0, 0, 0, 0, 0, 0, 0, 0, 0, 0, 0, 0, 0, 0, 0, 0, 0, 0, 0, 0, 0, 0, 0, 0, 0, 0, 0, 0, 0, 0, 0, 0, 0, 0, 0] : List Int) 7 32768)))), (2, some (77, .cs [iC 6, iC 6, .own 1 0 36 1 true])), (4, some (3, .ds [iD 2]))]) (nx' := 5) (by kernel_rfl) (by omega) ?_
  refine AW.seq ?_
  refine AW.cond_f (.tmp (Look.of rfl)) ?_
  refine AW.exit ?_
  refine AW.rg [.w, .no] [1, 4, 6, 27, 28, 29] [0, 1, 2] (P := ((-9223372036854775808) ≤ (2 : Int) ∧ (2 : Int) ≤ 9223372036854775807)) (l' := [(1, sV .i64 ([1, 2, 3, 4, 5, 6] : List Int) 6), (4, rV 0 0), (6, rV 2 0), (27, sV .i64 ([1, 2, 3, 4, 5, 6] : List Int) 6), (28, iV 6), (29, iV 2)]) (g' := [(0, some (77, .ds [iD 0, iD 0, D.lit (.slice none 0 0)])), (1, some (3, .ds (dI .i64 (List.set ([32768, 0, 0, 0, 0, 0, 0, 0, 0, 0, 0, 0, 0, 0, 0, 0, 0, 0, 0, 0, 0, 0, 0, 0, 0, 0, 0, 0, 0, 0, 0, 0, 0, 0, 0, 0] : List Int) 7 32768)))), (2, some (77, .cs [iC 6, iC 6, .own 1 0 36 1 true]))]) (nx' := 5) (by kernel_rfl) ⟨by omega, by omega⟩ ?_
  refine AWr.s ?_
  refine AW.rgs [.b true] [1, 4, 6, 27, 28, 29, 30] [0, 1, 2] (P := (((2 : Int) < 6))) (l' := [(1, sV .i64 ([1, 2, 3, 4, 5, 6] : List Int) 6), (4, rV 0 0), (6, rV 2 0), (27, sV .i64 ([1, 2, 3, 4, 5, 6] : List Int) 6), (28, iV 6), (29, iV 2), (30, bV true)]) (g' := [(0, some (77, .ds [iD 0, iD 0, D.lit (.slice none 0 0)])), (1, some (3, .ds (dI .i64 (List.set ([32768, 0, 0, 0, 0, 0, 0, 0, 0, 0, 0, 0, 0, 0, 0, 0, 0, 0, 0, 0, 0, 0, 0, 0, 0, 0, 0, 0, 0, 0, 0, 0, 0, 0, 0, 0] : List Int) 7 32768)))), (2, some (77, .cs [iC 6, iC 6, .own 1 0 36 1 true]))]) (nx' := 5) (by kernel_rfl) (by omega) ?_
  refine AW.seq ?_
  refine AW.cond_t (.tmp (Look.of rfl)) ?_
  refine AW.skip ?_
  refine AW.seq ?_
  refine AW.block ?_
  refine AW.rgs [.no, .n 2, .d (D.lit (.int .i64 3)), .no, .no] [1, 4, 6, 7, 8, 27, 28, 29] [0, 1, 2] (P := ((2 : Int) = 2) ∧ ((2 : Nat) < 6) ∧ ((List.drop 2 (dI .i64 ([1, 2, 3, 4, 5, 6] : List Int)))[0]? = some (D.lit (.int .i64 3)))) (l' := [(1, sV .i64 ([1, 2, 3, 4, 5, 6] : List Int) 6), (4, rV 0 0), (6, rV 2 0), (7, iV 2), (8, iV 3), (27, sV .i64 ([1, 2, 3, 4, 5, 6] : List Int) 6), (28, iV 6), (29, iV 2)]) (g' := [(0, some (77, .ds [iD 0, iD 0, D.lit (.slice none 0 0)])), (1, some (3, .ds (dI .i64 (List.set ([32768, 0, 0, 0, 0, 0, 0, 0, 0, 0, 0, 0, 0, 0, 0, 0, 0, 0, 0, 0, 0, 0, 0, 0, 0, 0, 0, 0, 0, 0, 0, 0, 0, 0, 0, 0] : List Int) 7 32768)))), (2, some (77, .cs [iC 6, iC 6, .own 1 0 36 1 true]))]) (nx' := 5) (by kernel_rfl) ⟨rfl, (by omega), (by rfl)⟩ ?_
  refine AW.rgs [.no, .no, .call [] (.tup [.c (.own 0 0 1 1 true), iE 32768]) [(0, some (3, .ds [iD 3]))] 1 [] none, .no, .no, .no, .no, .no] [1, 4, 6, 7, 9, 10, 27, 28, 29] [0, 1, 2, 5] (P := (_)) (l' := [(1, sV .i64 ([1, 2, 3, 4, 5, 6] : List Int) 6), (4, rV 0 0), (6, rV 2 0), (7, iV 2), (9, oV 5 0 1 1), (10, iV 32768), (27, sV .i64 ([1, 2, 3, 4, 5, 6] : List Int) 6), (28, iV 6), (29, iV 2)]) (g' := [(0, some (77, .ds [iD 0, iD 0, D.lit (.slice none 0 0)])), (1, some (3, .ds (dI .i64 (List.set ([32768, 0, 0, 0, 0, 0, 0, 0, 0, 0, 0, 0, 0, 0, 0, 0, 0, 0, 0, 0, 0, 0, 0, 0, 0, 0, 0, 0, 0, 0, 0, 0, 0, 0, 0, 0] : List Int) 7 32768)))), (2, some (77, .cs [iC 6, iC 6, .own 1 0 36 1 true])), (5, some (3, .ds [iD 3]))]) (nx' := 6) (by kernel_rfl) (M_goals_2_3) ?_
  refine AW.rgs [.no, .no, .no] [1, 4, 6, 7, 10, 27, 28, 29, 40, 41, 42] [0, 1, 2, 5] (P := True) (l' := [(1, sV .i64 ([1, 2, 3, 4, 5, 6] : List Int) 6), (4, rV 0 0), (6, rV 2 0), (7, iV 2), (10, iV 32768), (27, sV .i64 ([1, 2, 3, 4, 5, 6] : List Int) 6), (28, iV 6), (29, iV 2), (40, oV 5 0 1 1), (41, iV 1), (42, iV 0)]) (g' := [(0, some (77, .ds [iD 0, iD 0, D.lit (.slice none 0 0)])), (1, some (3, .ds (dI .i64 (List.set ([32768, 0, 0, 0, 0, 0, 0, 0, 0, 0, 0, 0, 0, 0, 0, 0, 0, 0, 0, 0, 0, 0, 0, 0, 0, 0, 0, 0, 0, 0, 0, 0, 0, 0, 0, 0] : List Int) 7 32768)))), (2, some (77, .cs [iC 6, iC 6, .own 1 0 36 1 true])), (5, some (3, .ds [iD 3]))]) (nx' := 6) (by kernel_rfl) trivial ?_
  refine AW.block ?_
  refine AW.rounds 2 ?_
  refine AWr.s ?_
  refine AW.rgs [.b true] [1, 4, 6, 7, 10, 27, 28, 29, 40, 41, 42, 43] [0, 1, 2, 5] (P := (((0 : Int) < 1))) (l' := [(1, sV .i64 ([1, 2, 3, 4, 5, 6] : List Int) 6), (4, rV 0 0), (6, rV 2 0), (7, iV 2), (10, iV 32768), (27, sV .i64 ([1, 2, 3, 4, 5, 6] : List Int) 6), (28, iV 6), (29, iV 2), (40, oV 5 0 1 1), (41, iV 1), (42, iV 0), (43, bV true)]) (g' := [(0, some (77, .ds [iD 0, iD 0, D.lit (.slice none 0 0)])), (1, some (3, .ds (dI .i64 (List.set ([32768, 0, 0, 0, 0, 0, 0, 0, 0, 0, 0, 0, 0, 0, 0, 0, 0, 0, 0, 0, 0, 0, 0, 0, 0, 0, 0, 0, 0, 0, 0, 0, 0, 0, 0, 0] : List Int) 7 32768)))), (2, some (77, .cs [iC 6, iC 6, .own 1 0 36 1 true])), (5, some (3, .ds [iD 3]))]) (nx' := 6) (by kernel_rfl) (by omega) ?_
  refine AW.seq ?_
  refine AW.cond_t (.tmp (Look.of rfl)) ?_
  refine AW.skip ?_
  refine AW.seq ?_
  refine AW.block ?_
  refine AW.rgs [.n2 0 0, .no, .no] [1, 4, 6, 7, 10, 12, 27, 28, 29, 40, 41, 42] [0, 1, 2, 5] (P := ((0 : Int) = 0) ∧ ((0 : Nat) < 1) ∧ ((0 : Nat) + 0 * 1 = 0)) (l' := [(1, sV .i64 ([1, 2, 3, 4, 5, 6] : List Int) 6), (4, rV 0 0), (6, rV 2 0), (7, iV 2), (10, iV 32768), (12, iV 3), (27, sV .i64 ([1, 2, 3, 4, 5, 6] : List Int) 6), (28, iV 6), (29, iV 2), (40, oV 5 0 1 1), (41, iV 1), (42, iV 0)]) (g' := [(0, some (77, .ds [iD 0, iD 0, D.lit (.slice none 0 0)])), (1, some (3, .ds (dI .i64 (List.set ([32768, 0, 0, 0, 0, 0, 0, 0, 0, 0, 0, 0, 0, 0, 0, 0, 0, 0, 0, 0, 0, 0, 0, 0, 0, 0, 0, 0, 0, 0, 0, 0, 0, 0, 0, 0] : List Int) 7 32768)))), (2, some (77, .cs [iC 6, iC 6, .own 1 0 36 1 true])), (5, some (3, .ds [iD 3]))]) (nx' := 6) (by kernel_rfl) ⟨rfl, (by omega), (by omega)⟩ ?_
  refine AW.rg [.no, .no, .no, .call [] (iV 2) [] 0 [] none, .call [1] (.e (.c (.own 0 12 6 1 false))) [(0, some (3, .ds (dI .i64 ([32768, 0, 0, 0, 0, 0, 0, 32768, 0, 0, 0, 0, 0, 0, 0, 0, 0, 0, 0, 0, 0, 0, 0, 0, 0, 0, 0, 0, 0, 0, 0, 0, 0, 0, 0, 0] : List Int))))] 1 [] none, .no, .no, .n2 2 14, .ds (dI .i64 (List.set ([32768, 0, 0, 0, 0, 0, 0, 32768, 0, 0, 0, 0, 0, 0, 0, 0, 0, 0, 0, 0, 0, 0, 0, 0, 0, 0, 0, 0, 0, 0, 0, 0, 0, 0, 0, 0] : List Int) 14 32768))] [1, 4, 6, 7, 10, 27, 28, 29, 40, 41, 42] [0, 1, 2, 5] (P := (_) ∧ (_) ∧ ((2 : Int) = 2) ∧ ((2 : Nat) < 6) ∧ ((12 : Nat) + 2 * 1 = 14) ∧ ((14 : Nat) + 1 ≤ (dI .i64 ([32768, 0, 0, 0, 0, 0, 0, 32768, 0, 0, 0, 0, 0, 0, 0, 0, 0, 0, 0, 0, 0, 0, 0, 0, 0, 0, 0, 0, 0, 0, 0, 0, 0, 0, 0, 0] : List Int)).length) ∧ (updD (dI .i64 ([32768, 0, 0, 0, 0, 0, 0, 32768, 0, 0, 0, 0, 0, 0, 0, 0, 0, 0, 0, 0, 0, 0, 0, 0, 0, 0, 0, 0, 0, 0, 0, 0, 0, 0, 0, 0] : List Int)) 14 [D.lit (.int .i64 32768)] = dI .i64 (List.set ([32768, 0, 0, 0, 0, 0, 0, 32768, 0, 0, 0, 0, 0, 0, 0, 0, 0, 0, 0, 0, 0, 0, 0, 0, 0, 0, 0, 0, 0, 0, 0, 0, 0, 0, 0, 0] : List Int) 14 32768))) (l' := [(1, sV .i64 ([1, 2, 3, 4, 5, 6] : List Int) 6), (4, rV 0 0), (6, rV 2 0), (7, iV 2), (10, iV 32768), (27, sV .i64 ([1, 2, 3, 4, 5, 6] : List Int) 6), (28, iV 6), (29, iV 2), (40, oV 5 0 1 1), (41, iV 1), (42, iV 0)]) (g' := [(0, some (77, .ds [iD 0, iD 0, D.lit (.slice none 0 0)])), (1, some (3, .ds (dI .i64 (List.set ([32768, 0, 0, 0, 0, 0, 0, 32768, 0, 0, 0, 0, 0, 0, 0, 0, 0, 0, 0, 0, 0, 0, 0, 0, 0, 0, 0, 0, 0, 0, 0, 0, 0, 0, 0, 0] : List Int) 14 32768)))), (2, some (77, .cs [iC 6, iC 6, .own 1 0 36 1 true])), (5, some (3, .ds [iD 3]))]) (nx' := 6) (by kernel_rfl) ⟨(Fun.cv (C_Index ([1, 2, 3, 4, 5, 6] : List Int) 6 3 rfl (by omega)) (y' := iV 2) (g1' := toG []) (by kernel_rfl) (by kernel_rfl)), (Fun.cv (M_rowo 6 6 2 (List.set ([32768, 0, 0, 0, 0, 0, 0, 0, 0, 0, 0, 0, 0, 0, 0, 0, 0, 0, 0, 0, 0, 0, 0, 0, 0, 0, 0, 0, 0, 0, 0, 0, 0, 0, 0, 0] : List Int) 7 32768) 36 (by first | omega | with_reducible assumption | (simp <;> omega) | rfl | assumption) (by omega) (by omega) (by omega)) (y' := .e (.c (.own 0 12 6 1 false))) (g1' := toG [(0, some (3, .ds (dI .i64 ([32768, 0, 0, 0, 0, 0, 0, 32768, 0, 0, 0, 0, 0, 0, 0, 0, 0, 0, 0, 0, 0, 0, 0, 0, 0, 0, 0, 0, 0, 0, 0, 0, 0, 0, 0, 0] : List Int))))]) (by kernel_rfl) (by kernel_rfl)), rfl, (by omega), (by omega), (by first | omega | (rw [dI_len]; omega) | (simp [dI_len] <;> omega) | rfl), (dI_set _ _ _ _)⟩ ?_
  refine AW.rg [.w, .no] [1, 4, 6, 7, 10, 27, 28, 29, 40, 41, 42] [0, 1, 2, 5] (P := ((-9223372036854775808) ≤ (1 : Int) ∧ (1 : Int) ≤ 9223372036854775807)) (l' := [(1, sV .i64 ([1, 2, 3, 4, 5, 6] : List Int) 6), (4, rV 0 0), (6, rV 2 0), (7, iV 2), (10, iV 32768), (27, sV .i64 ([1, 2, 3, 4, 5, 6] : List Int) 6), (28, iV 6), (29, iV 2), (40, oV 5 0 1 1), (41, iV 1), (42, iV 1)]) (g' := [(0, some (77, .ds [iD 0, iD 0, D.lit (.slice none 0 0)])), (1, some (3, .ds (dI .i64 (List.set ([32768, 0, 0, 0, 0, 0, 0, 32768, 0, 0, 0, 0, 0, 0, 0, 0, 0, 0, 0, 0, 0, 0, 0, 0, 0, 0, 0, 0, 0, 0, 0, 0, 0, 0, 0, 0] : List Int) 14 32768)))), (2, some (77, .cs [iC 6, iC 6, .own 1 0 36 1 true])), (5, some (3, .ds [iD 3]))]) (nx' := 6) (by kernel_rfl) ⟨by omega, by omega⟩ ?_
  refine AWr.s ?_
  refine AW.rgs [.b false] [1, 4, 6, 7, 10, 27, 28, 29, 40, 41, 42, 43] [0, 1, 2, 5] (P := (¬ ((1 : Int) < 1))) (l' := [(1, sV .i64 ([1, 2, 3, 4, 5, 6] : List Int) 6), (4, rV 0 0), (6, rV 2 0), (7, iV 2), (10, iV 32768), (27, sV .i64 ([1, 2, 3, 4, 5, 6] : List Int) 6), (28, iV 6), (29, iV 2), (40, oV 5 0 1 1), (41, iV 1), (42, iV 1), (43, bV false)]) (g' := [(0, some (77, .ds [iD 0, iD 0, D.lit (.slice none 0 0)])), (1, some (3, .ds (dI .i64 (List.set ([32768, 0, 0, 0, 0, 0, 0, 32768, 0, 0, 0, 0, 0, 0, 0, 0, 0, 0, 0, 0, 0, 0, 0, 0, 0, 0, 0, 0, 0, 0, 0, 0, 0, 0, 0, 0] : List Int) 14 32768)))), (2, some (77, .cs [iC 6, iC 6, .own 1 0 36 1 true])), (5, some (3, .ds [iD 3]))]) (nx' := 6) (by kernel_rfl) (by omega) ?_
  refine AW.seq ?_
  refine AW.cond_f (.tmp (Look.of rfl)) ?_
  refine AW.exit ?_
  refine AW.rg [.w, .no] [1, 4, 6, 27, 28, 29] [0, 1, 2] (P := ((-9223372036854775808) ≤ (3 : Int) ∧ (3 : Int) ≤ 9223372036854775807)) (l' := [(1, sV .i64 ([1, 2, 3, 4, 5, 6] : List Int) 6), (4, rV 0 0), (6, rV 2 0), (27, sV .i64 ([1, 2, 3, 4, 5, 6] : List Int) 6), (28, iV 6), (29, iV 3)]) (g' := [(0, some (77, .ds [iD 0, iD 0, D.lit (.slice none 0 0)])), (1, some (3, .ds (dI .i64 (List.set ([32768, 0, 0, 0, 0, 0, 0, 32768, 0, 0, 0, 0, 0, 0, 0, 0, 0, 0, 0, 0, 0, 0, 0, 0, 0, 0, 0, 0, 0, 0, 0, 0, 0, 0, 0, 0] : List Int) 14 32768)))), (2, some (77, .cs [iC 6, iC 6, .own 1 0 36 1 true]))]) (nx' := 6) (by kernel_rfl) ⟨by omega, by omega⟩ ?_
  refine AWr.s ?_
  refine AW.rgs [.b true] [1, 4, 6, 27, 28, 29, 30] [0, 1, 2] (P := (((3 : Int) < 6))) (l' := [(1, sV .i64 ([1, 2, 3, 4, 5, 6] : List Int) 6), (4, rV 0 0), (6, rV 2 0), (27, sV .i64 ([1, 2, 3, 4, 5, 6] : List Int) 6), (28, iV 6), (29, iV 3), (30, bV true)]) (g' := [(0, some (77, .ds [iD 0, iD 0, D.lit (.slice none 0 0)])), (1, some (3, .ds (dI .i64 (List.set ([32768, 0, 0, 0, 0, 0, 0, 32768, 0, 0, 0, 0, 0, 0, 0, 0, 0, 0, 0, 0, 0, 0, 0, 0, 0, 0, 0, 0, 0, 0, 0, 0, 0, 0, 0, 0] : List Int) 14 32768)))), (2, some (77, .cs [iC 6, iC 6, .own 1 0 36 1 true]))]) (nx' := 6) (by kernel_rfl) (by omega) ?_
  refine AW.seq ?_
  refine AW.cond_t (.tmp (Look.of rfl)) ?_
  refine AW.skip ?_
  refine AW.seq ?_
  refine AW.block ?_
  refine AW.rgs [.no, .n 3, .d (D.lit (.int .i64 4)), .no, .no] [1, 4, 6, 7, 8, 27, 28, 29] [0, 1, 2] (P := ((3 : Int) = 3) ∧ ((3 : Nat) < 6) ∧ ((List.drop 3 (dI .i64 ([1, 2, 3, 4, 5, 6] : List Int)))[0]? = some (D.lit (.int .i64 4)))) (l' := [(1, sV .i64 ([1, 2, 3, 4, 5, 6] : List Int) 6), (4, rV 0 0), (6, rV 2 0), (7, iV 3), (8, iV 4), (27, sV .i64 ([1, 2, 3, 4, 5, 6] : List Int) 6), (28, iV 6), (29, iV 3)]) (g' := [(0, some (77, .ds [iD 0, iD 0, D.lit (.slice none 0 0)])), (1, some (3, .ds (dI .i64 (List.set ([32768, 0, 0, 0, 0, 0, 0, 32768, 0, 0, 0, 0, 0, 0, 0, 0, 0, 0, 0, 0, 0, 0, 0, 0, 0, 0, 0, 0, 0, 0, 0, 0, 0, 0, 0, 0] : List Int) 14 32768)))), (2, some (77, .cs [iC 6, iC 6, .own 1 0 36 1 true]))]) (nx' := 6) (by kernel_rfl) ⟨rfl, (by omega), (by rfl)⟩ ?_
  refine AW.rgs [.no, .no, .call [] (.tup [.c (.own 0 0 1 1 true), iE 32768]) [(0, some (3, .ds [iD 4]))] 1 [] none, .no, .no, .no, .no, .no] [1, 4, 6, 7, 9, 10, 27, 28, 29] [0, 1, 2, 6] (P := (_)) (l' := [(1, sV .i64 ([1, 2, 3, 4, 5, 6] : List Int) 6), (4, rV 0 0), (6, rV 2 0), (7, iV 3), (9, oV 6 0 1 1), (10, iV 32768), (27, sV .i64 ([1, 2, 3, 4, 5, 6] : List Int) 6), (28, iV 6), (29, iV 3)]) (g' := [(0, some (77, .ds [iD 0, iD 0, D.lit (.slice none 0 0)])), (1, some (3, .ds (dI .i64 (List.set ([32768, 0, 0, 0, 0, 0, 0, 32768, 0, 0, 0, 0, 0, 0, 0, 0, 0, 0, 0, 0, 0, 0, 0, 0, 0, 0, 0, 0, 0, 0, 0, 0, 0, 0, 0, 0] : List Int) 14 32768)))), (2, some (77, .cs [iC 6, iC 6, .own 1 0 36 1 true])), (6, some (3, .ds [iD 4]))]) (nx' := 7) (by kernel_rfl) (M_goals_2_4) ?_
  refine AW.rgs [.no, .no, .no] [1, 4, 6, 7, 10, 27, 28, 29, 40, 41, 42] [0, 1, 2, 6] (P := True) (l' := [(1, sV .i64 ([1, 2, 3, 4, 5, 6] : List Int) 6), (4, rV 0 0), (6, rV 2 0), (7, iV 3), (10, iV 32768), (27, sV .i64 ([1, 2, 3, 4, 5, 6] : List Int) 6), (28, iV 6), (29, iV 3), (40, oV 6 0 1 1), (41, iV 1), (42, iV 0)]) (g' := [(0, some (77, .ds [iD 0, iD 0, D.lit (.slice none 0 0)])), (1, some (3, .ds (dI .i64 (List.set ([32768, 0, 0, 0, 0, 0, 0, 32768, 0, 0, 0, 0, 0, 0, 0, 0, 0, 0, 0, 0, 0, 0, 0, 0, 0, 0, 0, 0, 0, 0, 0, 0, 0, 0, 0, 0] : List Int) 14 32768)))), (2, some (77, .cs [iC 6, iC 6, .own 1 0 36 1 true])), (6, some (3, .ds [iD 4]))]) (nx' := 7) (by kernel_rfl) trivial ?_
  refine AW.block ?_
  refine AW.rounds 2 ?_
  refine AWr.s ?_
  refine AW.rgs [.b true] [1, 4, 6, 7, 10, 27, 28, 29, 40, 41, 42, 43] [0, 1, 2, 6] (P := (((0 : Int) < 1))) (l' := [(1, sV .i64 ([1, 2, 3, 4, 5, 6] : List Int) 6), (4, rV 0 0), (6, rV 2 0), (7, iV 3), (10, iV 32768), (27, sV .i64 ([1, 2, 3, 4, 5, 6] : List Int) 6), (28, iV 6), (29, iV 3), (40, oV 6 0 1 1), (41, iV 1), (42, iV 0), (43, bV true)]) (g' := [(0, some (77, .ds [iD 0, iD 0, D.lit (.slice none 0 0)])), (1, some (3, .ds (dI .i64 (List.set ([32768, 0, 0, 0, 0, 0, 0, 32768, 0, 0, 0, 0, 0, 0, 0, 0, 0, 0, 0, 0, 0, 0, 0, 0, 0, 0, 0, 0, 0, 0, 0, 0, 0, 0, 0, 0] : List Int) 14 32768)))), (2, some (77, .cs [iC 6, iC 6, .own 1 0 36 1 true])), (6, some (3, .ds [iD 4]))]) (nx' := 7) (by kernel_rfl) (by omega) ?_
  refine AW.seq ?_
  refine AW.cond_t (.tmp (Look.of rfl)) ?_
  refine AW.skip ?_
  refine AW.seq ?_
  refine AW.block ?_
  refine AW.rgs [.n2 0 0, .no, .no] [1, 4, 6, 7, 10, 12, 27, 28, 29, 40, 41, 42] [0, 1, 2, 6] (P := ((0 : Int) = 0) ∧ ((0 : Nat) < 1) ∧ ((0 : Nat) + 0 * 1 = 0)) (l' := [(1, sV .i64 ([1, 2, 3, 4, 5, 6] : List Int) 6), (4, rV 0 0), (6, rV 2 0), (7, iV 3), (10, iV 32768), (12, iV 4), (27, sV .i64 ([1, 2, 3, 4, 5, 6] : List Int) 6), (28, iV 6), (29, iV 3), (40, oV 6 0 1 1), (41, iV 1), (42, iV 0)]) (g' := [(0, some (77, .ds [iD 0, iD 0, D.lit (.slice none 0 0)])), (1, some (3, .ds (dI .i64 (List.set ([32768, 0, 0, 0, 0, 0, 0, 32768, 0, 0, 0, 0, 0, 0, 0, 0, 0, 0, 0, 0, 0, 0, 0, 0, 0, 0, 0, 0, 0, 0, 0, 0, 0, 0, 0, 0] : List Int) 14 32768)))), (2, some (77, .cs [iC 6, iC 6, .own 1 0 36 1 true])), (6, some (3, .ds [iD 4]))]) (nx' := 7) (by kernel_rfl) ⟨rfl, (by omega), (by omega)⟩ ?_
  refine AW.rg [.no, .no, .no, .call [] (iV 3) [] 0 [] none, .call [1] (.e (.c (.own 0 18 6 1 false))) [(0, some (3, .ds (dI .i64 ([32768, 0, 0, 0, 0, 0, 0, 32768, 0, 0, 0, 0, 0, 0, 32768, 0, 0, 0, 0, 0, 0, 0, 0, 0, 0, 0, 0, 0, 0, 0, 0, 0, 0, 0, 0, 0] : List Int))))] 1 [] none, .no, .no, .n2 3 21, .ds (dI .i64 (List.set ([32768, 0, 0, 0, 0, 0, 0, 32768, 0, 0, 0, 0, 0, 0, 32768, 0, 0, 0, 0, 0, 0, 0, 0, 0, 0, 0, 0, 0, 0, 0, 0, 0, 0, 0, 0, 0] : List Int) 21 32768))] [1, 4, 6, 7, 10, 27, 28, 29, 40, 41, 42] [0, 1, 2, 6] (P := (_) ∧ (_) ∧ ((3 : Int) = 3) ∧ ((3 : Nat) < 6) ∧ ((18 : Nat) + 3 * 1 = 21) ∧ ((21 : Nat) + 1 ≤ (dI .i64 ([32768, 0, 0, 0, 0, 0, 0, 32768, 0, 0, 0, 0, 0, 0, 32768, 0, 0, 0, 0, 0, 0, 0, 0, 0, 0, 0, 0, 0, 0, 0, 0, 0, 0, 0, 0, 0] : List Int)).length) ∧ (updD (dI .i64 ([32768, 0, 0, 0, 0, 0, 0, 32768, 0, 0, 0, 0, 0, 0, 32768, 0, 0, 0, 0, 0, 0, 0, 0, 0, 0, 0, 0, 0, 0, 0, 0, 0, 0, 0, 0, 0] : List Int)) 21 [D.lit (.int .i64 32768)] = dI .i64 (List.set ([32768, 0, 0, 0, 0, 0, 0, 32768, 0, 0, 0, 0, 0, 0, 32768, 0, 0, 0, 0, 0, 0, 0, 0, 0, 0, 0, 0, 0, 0, 0, 0, 0, 0, 0, 0, 0] : List Int) 21 32768))) (l' := [(1, sV .i64 ([1, 2, 3, 4, 5, 6] : List Int) 6), (4, rV 0 0), (6, rV 2 0), (7, iV 3), (10, iV 32768), (27, sV .i64 ([1, 2, 3, 4, 5, 6] : List Int) 6), (28, iV 6), (29, iV 3), (40, oV 6 0 1 1), (41, iV 1), (42, iV 0)]) (g' := [(0, some (77, .ds [iD 0, iD 0, D.lit (.slice none 0 0)])), (1, some (3, .ds (dI .i64 (List.set ([32768, 0, 0, 0, 0, 0, 0, 32768, 0, 0, 0, 0, 0, 0, 32768, 0, 0, 0, 0, 0, 0, 0, 0, 0, 0, 0, 0, 0, 0, 0, 0, 0, 0, 0, 0, 0] : List Int) 21 32768)))), (2, some (77, .cs [iC 6, iC 6, .own 1 0 36 1 true])), (6, some (3, .ds [iD 4]))]) (nx' := 7) (by kernel_rfl) ⟨(Fun.cv (C_Index ([1, 2, 3, 4, 5, 6] : List Int) 6 4 rfl (by omega)) (y' := iV 3) (g1' := toG []) (by kernel_rfl) (by kernel_rfl)), (Fun.cv (M_rowo 6 6 3 (List.set ([32768, 0, 0, 0, 0, 0, 0, 32768, 0, 0, 0, 0, 0, 0, 0, 0, 0, 0, 0, 0, 0, 0, 0, 0, 0, 0, 0, 0, 0, 0, 0, 0, 0, 0, 0, 0] : List Int) 14 32768) 36 (by first | omega | with_reducible assumption | (simp <;> omega) | rfl | assumption) (by omega) (by omega) (by omega)) (y' := .e (.c (.own 0 18 6 1 false))) (g1' := toG [(0, some (3, .ds (dI .i64 ([32768, 0, 0, 0, 0, 0, 0, 32768, 0, 0, 0, 0, 0, 0, 32768, 0, 0, 0, 0, 0, 0, 0, 0, 0, 0, 0, 0, 0, 0, 0, 0, 0, 0, 0, 0, 0] : List Int))))]) (by kernel_rfl) (by kernel_rfl)), rfl, (by omega), (by omega), (by first | omega | (rw [dI_len]; omega) | (simp [dI_len] <;> omega) | rfl), (dI_set _ _ _ _)⟩ ?_
  refine AW.rg [.w, .no] [1, 4, 6, 7, 10, 27, 28, 29, 40, 41, 42] [0, 1, 2, 6] (P := ((-9223372036854775808) ≤ (1 : Int) ∧ (1 : Int) ≤ 9223372036854775807)) (l' := [(1, sV .i64 ([1, 2, 3, 4, 5, 6] : List Int) 6), (4, rV 0 0), (6, rV 2 0), (7, iV 3), (10, iV 32768), (27, sV .i64 ([1, 2, 3, 4, 5, 6] : List Int) 6), (28, iV 6), (29, iV 3), (40, oV 6 0 1 1), (41, iV 1), (42, iV 1)]) (g' := [(0, some (77, .ds [iD 0, iD 0, D.lit (.slice none 0 0)])), (1, some (3, .ds (dI .i64 (List.set ([32768, 0, 0, 0, 0, 0, 0, 32768, 0, 0, 0, 0, 0, 0, 32768, 0, 0, 0, 0, 0, 0, 0, 0, 0, 0, 0, 0, 0, 0, 0, 0, 0, 0, 0, 0, 0] : List Int) 21 32768)))), (2, some (77, .cs [iC 6, iC 6, .own 1 0 36 1 true])), (6, some (3, .ds [iD 4]))]) (nx' := 7) (by kernel_rfl) ⟨by omega, by omega⟩ ?_
  refine AWr.s ?_
  refine AW.rgs [.b false] [1, 4, 6, 7, 10, 27, 28, 29, 40, 41, 42, 43] [0, 1, 2, 6] (P := (¬ ((1 : Int) < 1))) (l' := [(1, sV .i64 ([1, 2, 3, 4, 5, 6] : List Int) 6), (4, rV 0 0), (6, rV 2 0), (7, iV 3), (10, iV 32768), (27, sV .i64 ([1, 2, 3, 4, 5, 6] : List Int) 6), (28, iV 6), (29, iV 3), (40, oV 6 0 1 1), (41, iV 1), (42, iV 1), (43, bV false)]) (g' := [(0, some (77, .ds [iD 0, iD 0, D.lit (.slice none 0 0)])), (1, some (3, .ds (dI .i64 (List.set ([32768, 0, 0, 0, 0, 0, 0, 32768, 0, 0, 0, 0, 0, 0, 32768, 0, 0, 0, 0, 0, 0, 0, 0, 0, 0, 0, 0, 0, 0, 0, 0, 0, 0, 0, 0, 0] : List Int) 21 32768)))), (2, some (77, .cs [iC 6, iC 6, .own 1 0 36 1 true])), (6, some (3, .ds [iD 4]))]) (nx' := 7) (by kernel_rfl) (by omega) ?_
  refine AW.seq ?_
  refine AW.cond_f (.tmp (Look.of rfl)) ?_
  refine AW.exit ?_
  refine AW.rg [.w, .no] [1, 4, 6, 27, 28, 29] [0, 1, 2] (P := ((-9223372036854775808) ≤ (4 : Int) ∧ (4 : Int) ≤ 9223372036854775807)) (l' := [(1, sV .i64 ([1, 2, 3, 4, 5, 6] : List Int) 6), (4, rV 0 0), (6, rV 2 0), (27, sV .i64 ([1, 2, 3, 4, 5, 6] : List Int) 6), (28, iV 6), (29, iV 4)]) (g' := [(0, some (77, .ds [iD 0, iD 0, D.lit (.slice none 0 0)])), (1, some (3, .ds (dI .i64 (List.set ([32768, 0, 0, 0, 0, 0, 0, 32768, 0, 0, 0, 0, 0, 0, 32768, 0, 0, 0, 0, 0, 0, 0, 0, 0, 0, 0, 0, 0, 0, 0, 0, 0, 0, 0, 0, 0] : List Int) 21 32768)))), (2, some (77, .cs [iC 6, iC 6, .own 1 0 36 1 true]))]) (nx' := 7) (by kernel_rfl) ⟨by omega, by omega⟩ ?_
  refine AWr.s ?_
  refine AW.rgs [.b true] [1, 4, 6, 27, 28, 29, 30] [0, 1, 2] (P := (((4 : Int) < 6))) (l' := [(1, sV .i64 ([1, 2, 3, 4, 5, 6] : List Int) 6), (4, rV 0 0), (6, rV 2 0), (27, sV .i64 ([1, 2, 3, 4, 5, 6] : List Int) 6), (28, iV 6), (29, iV 4), (30, bV true)]) (g' := [(0, some (77, .ds [iD 0, iD 0, D.lit (.slice none 0 0)])), (1, some (3, .ds (dI .i64 (List.set ([32768, 0, 0, 0, 0, 0, 0, 32768, 0, 0, 0, 0, 0, 0, 32768, 0, 0, 0, 0, 0, 0, 0, 0, 0, 0, 0, 0, 0, 0, 0, 0, 0, 0, 0, 0, 0] : List Int) 21 32768)))), (2, some (77, .cs [iC 6, iC 6, .own 1 0 36 1 true]))]) (nx' := 7) (by kernel_rfl) (by omega) ?_
  refine AW.seq ?_
  refine AW.cond_t (.tmp (Look.of rfl)) ?_
  refine AW.skip ?_
  refine AW.seq ?_
  refine AW.block ?_
  refine AW.rgs [.no, .n 4, .d (D.lit (.int .i64 5)), .no, .no] [1, 4, 6, 7, 8, 27, 28, 29] [0, 1, 2] (P := ((4 : Int) = 4) ∧ ((4 : Nat) < 6) ∧ ((List.drop 4 (dI .i64 ([1, 2, 3, 4, 5, 6] : List Int)))[0]? = some (D.lit (.int .i64 5)))) (l' := [(1, sV .i64 ([1, 2, 3, 4, 5, 6] : List Int) 6), (4, rV 0 0), (6, rV 2 0), (7, iV 4), (8, iV 5), (27, sV .i64 ([1, 2, 3, 4, 5, 6] : List Int) 6), (28, iV 6), (29, iV 4)]) (g' := [(0, some (77, .ds [iD 0, iD 0, D.lit (.slice none 0 0)])), (1, some (3, .ds (dI .i64 (List.set ([32768, 0, 0, 0, 0, 0, 0, 32768, 0, 0, 0, 0, 0, 0, 32768, 0, 0, 0, 0, 0, 0, 0, 0, 0, 0, 0, 0, 0, 0, 0, 0, 0, 0, 0, 0, 0] : List Int) 21 32768)))), (2, some (77, .cs [iC 6, iC 6, .own 1 0 36 1 true]))]) (nx' := 7) (by kernel_rfl) ⟨rfl, (by omega), (by rfl)⟩ ?_
  refine AW.rgs [.no, .no, .call [] (.tup [.c (.own 0 0 1 1 true), iE 32768]) [(0, some (3, .ds [iD 5]))] 1 [] none, .no, .no, .no, .no, .no] [1, 4, 6, 7, 9, 10, 27, 28, 29] [0, 1, 2, 7] (P := (_)) (l' := [(1, sV .i64 ([1, 2, 3, 4, 5, 6] : List Int) 6), (4, rV 0 0), (6, rV 2 0), (7, iV 4), (9, oV 7 0 1 1), (10, iV 32768), (27, sV .i64 ([1, 2, 3, 4, 5, 6] : List Int) 6), (28, iV 6), (29, iV 4)]) (g' := [(0, some (77, .ds [iD 0, iD 0, D.lit (.slice none 0 0)])), (1, some (3, .ds (dI .i64 (List.set ([32768, 0, 0, 0, 0, 0, 0, 32768, 0, 0, 0, 0, 0, 0, 32768, 0, 0, 0, 0, 0, 0, 0, 0, 0, 0, 0, 0, 0, 0, 0, 0, 0, 0, 0, 0, 0] : List Int) 21 32768)))), (2, some (77, .cs [iC 6, iC 6, .own 1 0 36 1 true])), (7, some (3, .ds [iD 5]))]) (nx' := 8) (by kernel_rfl) (M_goals_2_5) ?_
  refine AW.rgs [.no, .no, .no] [1, 4, 6, 7, 10, 27, 28, 29, 40, 41, 42] [0, 1, 2, 7] (P := True) (l' := [(1, sV .i64 ([1, 2, 3, 4, 5, 6] : List Int) 6), (4, rV 0 0), (6, rV 2 0), (7, iV 4), (10, iV 32768), (27, sV .i64 ([1, 2, 3, 4, 5, 6] : List Int) 6), (28, iV 6), (29, iV 4), (40, oV 7 0 1 1), (41, iV 1), (42, iV 0)]) (g' := [(0, some (77, .ds [iD 0, iD 0, D.lit (.slice none 0 0)])), (1, some (3, .ds (dI .i64 (List.set ([32768, 0, 0, 0, 0, 0, 0, 32768, 0, 0, 0, 0, 0, 0, 32768, 0, 0, 0, 0, 0, 0, 0, 0, 0, 0, 0, 0, 0, 0, 0, 0, 0, 0, 0, 0, 0] : List Int) 21 32768)))), (2, some (77, .cs [iC 6, iC 6, .own 1 0 36 1 true])), (7, some (3, .ds [iD 5]))]) (nx' := 8) (by kernel_rfl) trivial ?_
  refine AW.block ?_
  refine AW.rounds 2 ?_
  refine AWr.s ?_
  refine AW.rgs [.b true] [1, 4, 6, 7, 10, 27, 28, 29, 40, 41, 42, 43] [0, 1, 2, 7] (P := (((0 : Int) < 1))) (l' := [(1, sV .i64 ([1, 2, 3, 4, 5, 6] : List Int) 6), (4, rV 0 0), (6, rV 2 0), (7, iV 4), (10, iV 32768), (27, sV .i64 ([1, 2, 3, 4, 5, 6] : List Int) 6), (28, iV 6), (29, iV 4), (40, oV 7 0 1 1), (41, iV 1), (42, iV 0), (43, bV true)]) (g' := [(0, some (77, .ds [iD 0, iD 0, D.lit (.slice none 0 0)])), (1, some (3, .ds (dI .i64 (List.set ([32768, 0, 0, 0, 0, 0, 0, 32768, 0, 0, 0, 0, 0, 0, 32768, 0, 0, 0, 0, 0, 0, 0, 0, 0, 0, 0, 0, 0, 0, 0, 0, 0, 0, 0, 0, 0] : List Int) 21 32768)))), (2, some (77, .cs [iC 6, iC 6, .own 1 0 36 1 true])), (7, some (3, .ds [iD 5]))]) (nx' := 8) (by kernel_rfl) (by omega) ?_
  refine AW.seq ?_
  refine AW.cond_t (.tmp (Look.of rfl)) ?_
  refine AW.skip ?_
  refine AW.seq ?_
  refine AW.block ?_
  refine AW.rgs [.n2 0 0, .no, .no] [1, 4, 6, 7, 10, 12, 27, 28, 29, 40, 41, 42] [0, 1, 2, 7] (P := ((0 : Int) = 0) ∧ ((0 : Nat) < 1) ∧ ((0 : Nat) + 0 * 1 = 0)) (l' := [(1, sV .i64 ([1, 2, 3, 4, 5, 6] : List Int) 6), (4, rV 0 0), (6, rV 2 0), (7, iV 4), (10, iV 32768), (12, iV 5), (27, sV .i64 ([1, 2, 3, 4, 5, 6] : List Int) 6), (28, iV 6), (29, iV 4), (40, oV 7 0 1 1), (41, iV 1), (42, iV 0)]) (g' := [(0, some (77, .ds [iD 0, iD 0, D.lit (.slice none 0 0)])), (1, some (3, .ds (dI .i64 (List.set ([32768, 0, 0, 0, 0, 0, 0, 32768, 0, 0, 0, 0, 0, 0, 32768, 0, 0, 0, 0, 0, 0, 0, 0, 0, 0, 0, 0, 0, 0, 0, 0, 0, 0, 0, 0, 0] : List Int) 21 32768)))), (2, some (77, .cs [iC 6, iC 6, .own 1 0 36 1 true])), (7, some (3, .ds [iD 5]))]) (nx' := 8) (by kernel_rfl) ⟨rfl, (by omega), (by omega)⟩ ?_
  refine AW.rg [.no, .no, .no, .call [] (iV 4) [] 0 [] none, .call [1] (.e (.c (.own 0 24 6 1 false))) [(0, some (3, .ds (dI .i64 ([32768, 0, 0, 0, 0, 0, 0, 32768, 0, 0, 0, 0, 0, 0, 32768, 0, 0, 0, 0, 0, 0, 32768, 0, 0, 0, 0, 0, 0, 0, 0, 0, 0, 0, 0, 0, 0] : List Int))))] 1 [] none, .no, .no, .n2 4 28, .ds (dI .i64 (List.set ([32768, 0, 0, 0, 0, 0, 0, 32768, 0, 0, 0, 0, 0, 0, 32768, 0, 0, 0, 0, 0, 0, 32768, 0, 0, 0, 0, 0, 0, 0, 0, 0, 0, 0, 0, 0, 0] : List Int) 28 32768))] [1, 4, 6, 7, 10, 27, 28, 29, 40, 41, 42] [0, 1, 2, 7] (P := (_) ∧ (_) ∧ ((4 : Int) = 4) ∧ ((4 : Nat) < 6) ∧ ((24 : Nat) + 4 * 1 = 28) ∧ ((28 : Nat) + 1 ≤ (dI .i64 ([32768, 0, 0, 0, 0, 0, 0, 32768, 0, 0, 0, 0, 0, 0, 32768, 0, 0, 0, 0, 0, 0, 32768, 0, 0, 0, 0, 0, 0, 0, 0, 0, 0, 0, 0, 0, 0] : List Int)).length) ∧ (updD (dI .i64 ([32768, 0, 0, 0, 0, 0, 0, 32768, 0, 0, 0, 0, 0, 0, 32768, 0, 0, 0, 0, 0, 0, 32768, 0, 0, 0, 0, 0, 0, 0, 0, 0, 0, 0, 0, 0, 0] : List Int)) 28 [D.lit (.int .i64 32768)] = dI .i64 (List.set ([32768, 0, 0, 0, 0, 0, 0, 32768, 0, 0, 0, 0, 0, 0, 32768, 0, 0, 0, 0, 0, 0, 32768, 0, 0, 0, 0, 0, 0, 0, 0, 0, 0, 0, 0, 0, 0] : List Int) 28 32768))) (l' := [(1, sV .i64 ([1, 2, 3, 4, 5, 6] : List Int) 6), (4, rV 0 0), (6, rV 2 0), (7, iV 4), (10, iV 32768), (27, sV .i64 ([1, 2, 3, 4, 5, 6] : List Int) 6), (28, iV 6), (29, iV 4), (40, oV 7 0 1 1), (41, iV 1), (42, iV 0)]) (g' := [(0, some (77, .ds [iD 0, iD 0, D.lit (.slice none 0 0)])), (1, some (3, .ds (dI .i64 (List.set ([32768, 0, 0, 0, 0, 0, 0, 32768, 0, 0, 0, 0, 0, 0, 32768, 0, 0, 0, 0, 0, 0, 32768, 0, 0, 0, 0, 0, 0, 0, 0, 0, 0, 0, 0, 0, 0] : List Int) 28 32768)))), (2, some (77, .cs [iC 6, iC 6, .own 1 0 36 1 true])), (7, some (3, .ds [iD 5]))]) (nx' := 8) (by kernel_rfl) ⟨(Fun.cv (C_Index ([1, 2, 3, 4, 5, 6] : List Int) 6 5 rfl (by omega)) (y' := iV 4) (g1' := toG []) (by kernel_rfl) (by kernel_rfl)), (Fun.cv (M_rowo 6 6 4 (List.set ([32768, 0, 0, 0, 0, 0, 0, 32768, 0, 0, 0, 0, 0, 0, 32768, 0, 0, 0, 0, 0, 0, 0, 0, 0, 0, 0, 0, 0, 0, 0, 0, 0, 0, 0, 0, 0] : List Int) 21 32768) 36 (by first | omega | with_reducible assumption | (simp <;> omega) | rfl | assumption) (by omega) (by omega) (by omega)) (y' := .e (.c (.own 0 24 6 1 false))) (g1' := toG [(0, some (3, .ds (dI .i64 ([32768, 0, 0, 0, 0, 0, 0, 32768, 0, 0, 0, 0, 0, 0, 32768, 0, 0, 0, 0, 0, 0, 32768, 0, 0, 0, 0, 0, 0, 0, 0, 0, 0, 0, 0, 0, 0] : List Int))))]) (by kernel_rfl) (by kernel_rfl)), rfl, (by omega), (by omega), (by first | omega | (rw [dI_len]; omega) | (simp [dI_len] <;> omega) | rfl), (dI_set _ _ _ _)⟩ ?_
  refine AW.rg [.w, .no] [1, 4, 6, 7, 10, 27, 28, 29, 40, 41, 42] [0, 1, 2, 7] (P := ((-9223372036854775808) ≤ (1 : Int) ∧ (1 : Int) ≤ 9223372036854775807)) (l' := [(1, sV .i64 ([1, 2, 3, 4, 5, 6] : List Int) 6), (4, rV 0 0), (6, rV 2 0), (7, iV 4), (10, iV 32768), (27, sV .i64 ([1, 2, 3, 4, 5, 6] : List Int) 6), (28, iV 6), (29, iV 4), (40, oV 7 0 1 1), (41, iV 1), (42, iV 1)]) (g' := [(0, some (77, .ds [iD 0, iD 0, D.lit (.slice none 0 0)])), (1, some (3, .ds (dI .i64 (List.set ([32768, 0, 0, 0, 0, 0, 0, 32768, 0, 0, 0, 0, 0, 0, 32768, 0, 0, 0, 0, 0, 0, 32768, 0, 0, 0, 0, 0, 0, 0, 0, 0, 0, 0, 0, 0, 0] : List Int) 28 32768)))), (2, some (77, .cs [iC 6, iC 6, .own 1 0 36 1 true])), (7, some (3, .ds [iD 5]))]) (nx' := 8) (by kernel_rfl) ⟨by omega, by omega⟩ ?_
  refine AWr.s ?_
  refine AW.rgs [.b false] [1, 4, 6, 7, 10, 27, 28, 29, 40, 41, 42, 43] [0, 1, 2, 7] (P := (¬ ((1 : Int) < 1))) (l' := [(1, sV .i64 ([1, 2, 3, 4, 5, 6] : List Int) 6), (4, rV 0 0), (6, rV 2 0), (7, iV 4), (10, iV 32768), (27, sV .i64 ([1, 2, 3, 4, 5, 6] : List Int) 6), (28, iV 6), (29, iV 4), (40, oV 7 0 1 1), (41, iV 1), (42, iV 1), (43, bV false)]) (g' := [(0, some (77, .ds [iD 0, iD 0, D.lit (.slice none 0 0)])), (1, some (3, .ds (dI .i64 (List.set ([32768, 0, 0, 0, 0, 0, 0, 32768, 0, 0, 0, 0, 0, 0, 32768, 0, 0, 0, 0, 0, 0, 32768, 0, 0, 0, 0, 0, 0, 0, 0, 0, 0, 0, 0, 0, 0] : List Int) 28 32768)))), (2, some (77, .cs [iC 6, iC 6, .own 1 0 36 1 true])), (7, some (3, .ds [iD 5]))]) (nx' := 8) (by kernel_rfl) (by omega) ?_
  refine AW.seq ?_
  refine AW.cond_f (.tmp (Look.of rfl)) ?_
  refine AW.exit ?_
  refine AW.rg [.w, .no] [1, 4, 6, 27, 28, 29] [0, 1, 2] (P := ((-9223372036854775808) ≤ (5 : Int) ∧ (5 : Int) ≤ 9223372036854775807)) (l' := [(1, sV .i64 ([1, 2, 3, 4, 5, 6] : List Int) 6), (4, rV 0 0), (6, rV 2 0), (27, sV .i64 ([1, 2, 3, 4, 5, 6] : List Int) 6), (28, iV 6), (29, iV 5)]) (g' := [(0, some (77, .ds [iD 0, iD 0, D.lit (.slice none 0 0)])), (1, some (3, .ds (dI .i64 (List.set ([32768, 0, 0, 0, 0, 0, 0, 32768, 0, 0, 0, 0, 0, 0, 32768, 0, 0, 0, 0, 0, 0, 32768, 0, 0, 0, 0, 0, 0, 0, 0, 0, 0, 0, 0, 0, 0] : List Int) 28 32768)))), (2, some (77, .cs [iC 6, iC 6, .own 1 0 36 1 true]))]) (nx' := 8) (by kernel_rfl) ⟨by omega, by omega⟩ ?_
  refine AWr.s ?_
  refine AW.rgs [.b true] [1, 4, 6, 27, 28, 29, 30] [0, 1, 2] (P := (((5 : Int) < 6))) (l' := [(1, sV .i64 ([1, 2, 3, 4, 5, 6] : List Int) 6), (4, rV 0 0), (6, rV 2 0), (27, sV .i64 ([1, 2, 3, 4, 5, 6] : List Int) 6), (28, iV 6), (29, iV 5), (30, bV true)]) (g' := [(0, some (77, .ds [iD 0, iD 0, D.lit (.slice none 0 0)])), (1, some (3, .ds (dI .i64 (List.set ([32768, 0, 0, 0, 0, 0, 0, 32768, 0, 0, 0, 0, 0, 0, 32768, 0, 0, 0, 0, 0, 0, 32768, 0, 0, 0, 0, 0, 0, 0, 0, 0, 0, 0, 0, 0, 0] : List Int) 28 32768)))), (2, some (77, .cs [iC 6, iC 6, .own 1 0 36 1 true]))]) (nx' := 8) (by kernel_rfl) (by omega) ?_
  refine AW.seq ?_
  refine AW.cond_t (.tmp (Look.of rfl)) ?_
  refine AW.skip ?_
  refine AW.seq ?_
  refine AW.block ?_
  refine AW.rgs [.no, .n 5, .d (D.lit (.int .i64 6)), .no, .no] [1, 4, 6, 7, 8, 27, 28, 29] [0, 1, 2] (P := ((5 : Int) = 5) ∧ ((5 : Nat) < 6) ∧ ((List.drop 5 (dI .i64 ([1, 2, 3, 4, 5, 6] : List Int)))[0]? = some (D.lit (.int .i64 6)))) (l' := [(1, sV .i64 ([1, 2, 3, 4, 5, 6] : List Int) 6), (4, rV 0 0), (6, rV 2 0), (7, iV 5), (8, iV 6), (27, sV .i64 ([1, 2, 3, 4, 5, 6] : List Int) 6), (28, iV 6), (29, iV 5)]) (g' := [(0, some (77, .ds [iD 0, iD 0, D.lit (.slice none 0 0)])), (1, some (3, .ds (dI .i64 (List.set ([32768, 0, 0, 0, 0, 0, 0, 32768, 0, 0, 0, 0, 0, 0, 32768, 0, 0, 0, 0, 0, 0, 32768, 0, 0, 0, 0, 0, 0, 0, 0, 0, 0, 0, 0, 0, 0] : List Int) 28 32768)))), (2, some (77, .cs [iC 6, iC 6, .own 1 0 36 1 true]))]) (nx' := 8) (by kernel_rfl) ⟨rfl, (by omega), (by rfl)⟩ ?_
  refine AW.rgs [.no, .no, .call [] (.tup [.c (.own 0 0 1 1 true), iE 32768]) [(0, some (3, .ds [iD 6]))] 1 [] none, .no, .no, .no, .no, .no] [1, 4, 6, 7, 9, 10, 27, 28, 29] [0, 1, 2, 8] (P := (_)) (l' := [(1, sV .i64 ([1, 2, 3, 4, 5, 6] : List Int) 6), (4, rV 0 0), (6, rV 2 0), (7, iV 5), (9, oV 8 0 1 1), (10, iV 32768), (27, sV .i64 ([1, 2, 3, 4, 5, 6] : List Int) 6), (28, iV 6), (29, iV 5)]) (g' := [(0, some (77, .ds [iD 0, iD 0, D.lit (.slice none 0 0)])), (1, some (3, .ds (dI .i64 (List.set ([32768, 0, 0, 0, 0, 0, 0, 32768, 0, 0, 0, 0, 0, 0, 32768, 0, 0, 0, 0, 0, 0, 32768, 0, 0, 0, 0, 0, 0, 0, 0, 0, 0, 0, 0, 0, 0] : List Int) 28 32768)))), (2, some (77, .cs [iC 6, iC 6, .own 1 0 36 1 true])), (8, some (3, .ds [iD 6]))]) (nx' := 9) (by kernel_rfl) (M_goals_2_6) ?_
  refine AW.rgs [.no, .no, .no] [1, 4, 6, 7, 10, 27, 28, 29, 40, 41, 42] [0, 1, 2, 8] (P := True) (l' := [(1, sV .i64 ([1, 2, 3, 4, 5, 6] : List Int) 6), (4, rV 0 0), (6, rV 2 0), (7, iV 5), (10, iV 32768), (27, sV .i64 ([1, 2, 3, 4, 5, 6] : List Int) 6), (28, iV 6), (29, iV 5), (40, oV 8 0 1 1), (41, iV 1), (42, iV 0)]) (g' := [(0, some (77, .ds [iD 0, iD 0, D.lit (.slice none 0 0)])), (1, some (3, .ds (dI .i64 (List.set ([32768, 0, 0, 0, 0, 0, 0, 32768, 0, 0, 0, 0, 0, 0, 32768, 0, 0, 0, 0, 0, 0, 32768, 0, 0, 0, 0, 0, 0, 0, 0, 0, 0, 0, 0, 0, 0] : List Int) 28 32768)))), (2, some (77, .cs [iC 6, iC 6, .own 1 0 36 1 true])), (8, some (3, .ds [iD 6]))]) (nx' := 9) (by kernel_rfl) trivial ?_
  refine AW.block ?_
  refine AW.rounds 2 ?_
  refine AWr.s ?_
  refine AW.rgs [.b true] [1, 4, 6, 7, 10, 27, 28, 29, 40, 41, 42, 43] [0, 1, 2, 8] (P := (((0 : Int) < 1))) (l' := [(1, sV .i64 ([1, 2, 3, 4, 5, 6] : List Int) 6), (4, rV 0 0), (6, rV 2 0), (7, iV 5), (10, iV 32768), (27, sV .i64 ([1, 2, 3, 4, 5, 6] : List Int) 6), (28, iV 6), (29, iV 5), (40, oV 8 0 1 1), (41, iV 1), (42, iV 0), (43, bV true)]) (g' := [(0, some (77, .ds [iD 0, iD 0, D.lit (.slice none 0 0)])), (1, some (3, .ds (dI .i64 (List.set ([32768, 0, 0, 0, 0, 0, 0, 32768, 0, 0, 0, 0, 0, 0, 32768, 0, 0, 0, 0, 0, 0, 32768, 0, 0, 0, 0, 0, 0, 0, 0, 0, 0, 0, 0, 0, 0] : List Int) 28 32768)))), (2, some (77, .cs [iC 6, iC 6, .own 1 0 36 1 true])), (8, some (3, .ds [iD 6]))]) (nx' := 9) (by kernel_rfl) (by omega) ?_
  refine AW.seq ?_
  refine AW.cond_t (.tmp (Look.of rfl)) ?_
  refine AW.skip ?_
  refine AW.seq ?_
  refine AW.block ?_
  refine AW.rgs [.n2 0 0, .no, .no] [1, 4, 6, 7, 10, 12, 27, 28, 29, 40, 41, 42] [0, 1, 2, 8] (P := ((0 : Int) = 0) ∧ ((0 : Nat) < 1) ∧ ((0 : Nat) + 0 * 1 = 0)) (l' := [(1, sV .i64 ([1, 2, 3, 4, 5, 6] : List Int) 6), (4, rV 0 0), (6, rV 2 0), (7, iV 5), (10, iV 32768), (12, iV 6), (27, sV .i64 ([1, 2, 3, 4, 5, 6] : List Int) 6), (28, iV 6), (29, iV 5), (40, oV 8 0 1 1), (41, iV 1), (42, iV 0)]) (g' := [(0, some (77, .ds [iD 0, iD 0, D.lit (.slice none 0 0)])), (1, some (3, .ds (dI .i64 (List.set ([32768, 0, 0, 0, 0, 0, 0, 32768, 0, 0, 0, 0, 0, 0, 32768, 0, 0, 0, 0, 0, 0, 32768, 0, 0, 0, 0, 0, 0, 0, 0, 0, 0, 0, 0, 0, 0] : List Int) 28 32768)))), (2, some (77, .cs [iC 6, iC 6, .own 1 0 36 1 true])), (8, some (3, .ds [iD 6]))]) (nx' := 9) (by kernel_rfl) ⟨rfl, (by omega), (by omega)⟩ ?_
  refine AW.rg [.no, .no, .no, .call [] (iV 5) [] 0 [] none, .call [1] (.e (.c (.own 0 30 6 1 false))) [(0, some (3, .ds (dI .i64 ([32768, 0, 0, 0, 0, 0, 0, 32768, 0, 0, 0, 0, 0, 0, 32768, 0, 0, 0, 0, 0, 0, 32768, 0, 0, 0, 0, 0, 0, 32768, 0, 0, 0, 0, 0, 0, 0] : List Int))))] 1 [] none, .no, .no, .n2 5 35, .ds (dI .i64 (List.set ([32768, 0, 0, 0, 0, 0, 0, 32768, 0, 0, 0, 0, 0, 0, 32768, 0, 0, 0, 0, 0, 0, 32768, 0, 0, 0, 0, 0, 0, 32768, 0, 0, 0, 0, 0, 0, 0] : List Int) 35 32768))] [1, 4, 6, 7, 10, 27, 28, 29, 40, 41, 42] [0, 1, 2, 8] (P := (_) ∧ (_) ∧ ((5 : Int) = 5) ∧ ((5 : Nat) < 6) ∧ ((30 : Nat) + 5 * 1 = 35) ∧ ((35 : Nat) + 1 ≤ (dI .i64 ([32768, 0, 0, 0, 0, 0, 0, 32768, 0, 0, 0, 0, 0, 0, 32768, 0, 0, 0, 0, 0, 0, 32768, 0, 0, 0, 0, 0, 0, 32768, 0, 0, 0, 0, 0, 0, 0] : List Int)).length) ∧ (updD (dI .i64 ([32768, 0, 0, 0, 0, 0, 0, 32768, 0, 0, 0, 0, 0, 0, 32768, 0, 0, 0, 0, 0, 0, 32768, 0, 0, 0, 0, 0, 0, 32768, 0, 0, 0, 0, 0, 0, 0] : List Int)) 35 [D.lit (.int .i64 32768)] = dI .i64 (List.set ([32768, 0, 0, 0, 0, 0, 0, 32768, 0, 0, 0, 0, 0, 0, 32768, 0, 0, 0, 0, 0, 0, 32768, 0, 0, 0, 0, 0, 0, 32768, 0, 0, 0, 0, 0, 0, 0] : List Int) 35 32768))) (l' := [(1, sV .i64 ([1, 2, 3, 4, 5, 6] : List Int) 6), (4, rV 0 0), (6, rV 2 0), (7, iV 5), (10, iV 32768), (27, sV .i64 ([1, 2, 3, 4, 5, 6] : List Int) 6), (28, iV 6), (29, iV 5), (40, oV 8 0 1 1), (41, iV 1), (42, iV 0)]) (g' := [(0, some (77, .ds [iD 0, iD 0, D.lit (.slice none 0 0)])), (1, some (3, .ds (dI .i64 (List.set ([32768, 0, 0, 0, 0, 0, 0, 32768, 0, 0, 0, 0, 0, 0, 32768, 0, 0, 0, 0, 0, 0, 32768, 0, 0, 0, 0, 0, 0, 32768, 0, 0, 0, 0, 0, 0, 0] : List Int) 35 32768)))), (2, some (77, .cs [iC 6, iC 6, .own 1 0 36 1 true])), (8, some (3, .ds [iD 6]))]) (nx' := 9) (by kernel_rfl) ⟨(Fun.cv (C_Index ([1, 2, 3, 4, 5, 6] : List Int) 6 6 rfl (by omega)) (y' := iV 5) (g1' := toG []) (by kernel_rfl) (by kernel_rfl)), (Fun.cv (M_rowo 6 6 5 (List.set ([32768, 0, 0, 0, 0, 0, 0, 32768, 0, 0, 0, 0, 0, 0, 32768, 0, 0, 0, 0, 0, 0, 32768, 0, 0, 0, 0, 0, 0, 0, 0, 0, 0, 0, 0, 0, 0] : List Int) 28 32768) 36 (by first | omega | with_reducible assumption | (simp <;> omega) | rfl | assumption) (by omega) (by omega) (by omega)) (y' := .e (.c (.own 0 30 6 1 false))) (g1' := toG [(0, some (3, .ds (dI .i64 ([32768, 0, 0, 0, 0, 0, 0, 32768, 0, 0, 0, 0, 0, 0, 32768, 0, 0, 0, 0, 0, 0, 32768, 0, 0, 0, 0, 0, 0, 32768, 0, 0, 0, 0, 0, 0, 0] : List Int))))]) (by kernel_rfl) (by kernel_rfl)), rfl, (by omega), (by omega), (by first | omega | (rw [dI_len]; omega) | (simp [dI_len] <;> omega) | rfl), (dI_set _ _ _ _)⟩ ?_
  refine AW.rg [.w, .no] [1, 4, 6, 7, 10, 27, 28, 29, 40, 41, 42] [0, 1, 2, 8] (P := ((-9223372036854775808) ≤ (1 : Int) ∧ (1 : Int) ≤ 9223372036854775807)) (l' := [(1, sV .i64 ([1, 2, 3, 4, 5, 6] : List Int) 6), (4, rV 0 0), (6, rV 2 0), (7, iV 5), (10, iV 32768), (27, sV .i64 ([1, 2, 3, 4, 5, 6] : List Int) 6), (28, iV 6), (29, iV 5), (40, oV 8 0 1 1), (41, iV 1), (42, iV 1)]) (g' := [(0, some (77, .ds [iD 0, iD 0, D.lit (.slice none 0 0)])), (1, some (3, .ds (dI .i64 (List.set ([32768, 0, 0, 0, 0, 0, 0, 32768, 0, 0, 0, 0, 0, 0, 32768, 0, 0, 0, 0, 0, 0, 32768, 0, 0, 0, 0, 0, 0, 32768, 0, 0, 0, 0, 0, 0, 0] : List Int) 35 32768)))), (2, some (77, .cs [iC 6, iC 6, .own 1 0 36 1 true])), (8, some (3, .ds [iD 6]))]) (nx' := 9) (by kernel_rfl) ⟨by omega, by omega⟩ ?_
  refine AWr.s ?_
  refine AW.rgs [.b false] [1, 4, 6, 7, 10, 27, 28, 29, 40, 41, 42, 43] [0, 1, 2, 8] (P := (¬ ((1 : Int) < 1))) (l' := [(1, sV .i64 ([1, 2, 3, 4, 5, 6] : List Int) 6), (4, rV 0 0), (6, rV 2 0), (7, iV 5), (10, iV 32768), (27, sV .i64 ([1, 2, 3, 4, 5, 6] : List Int) 6), (28, iV 6), (29, iV 5), (40, oV 8 0 1 1), (41, iV 1), (42, iV 1), (43, bV false)]) (g' := [(0, some (77, .ds [iD 0, iD 0, D.lit (.slice none 0 0)])), (1, some (3, .ds (dI .i64 (List.set ([32768, 0, 0, 0, 0, 0, 0, 32768, 0, 0, 0, 0, 0, 0, 32768, 0, 0, 0, 0, 0, 0, 32768, 0, 0, 0, 0, 0, 0, 32768, 0, 0, 0, 0, 0, 0, 0] : List Int) 35 32768)))), (2, some (77, .cs [iC 6, iC 6, .own 1 0 36 1 true])), (8, some (3, .ds [iD 6]))]) (nx' := 9) (by kernel_rfl) (by omega) ?_
  refine AW.seq ?_
  refine AW.cond_f (.tmp (Look.of rfl)) ?_
  refine AW.exit ?_
  refine AW.rg [.w, .no] [1, 4, 6, 27, 28, 29] [0, 1, 2] (P := ((-9223372036854775808) ≤ (6 : Int) ∧ (6 : Int) ≤ 9223372036854775807)) (l' := [(1, sV .i64 ([1, 2, 3, 4, 5, 6] : List Int) 6), (4, rV 0 0), (6, rV 2 0), (27, sV .i64 ([1, 2, 3, 4, 5, 6] : List Int) 6), (28, iV 6), (29, iV 6)]) (g' := [(0, some (77, .ds [iD 0, iD 0, D.lit (.slice none 0 0)])), (1, some (3, .ds (dI .i64 (List.set ([32768, 0, 0, 0, 0, 0, 0, 32768, 0, 0, 0, 0, 0, 0, 32768, 0, 0, 0, 0, 0, 0, 32768, 0, 0, 0, 0, 0, 0, 32768, 0, 0, 0, 0, 0, 0, 0] : List Int) 35 32768)))), (2, some (77, .cs [iC 6, iC 6, .own 1 0 36 1 true]))]) (nx' := 9) (by kernel_rfl) ⟨by omega, by omega⟩ ?_
  refine AWr.s ?_
  refine AW.rgs [.b false] [1, 4, 6, 27, 28, 29, 30] [0, 1, 2] (P := (¬ ((6 : Int) < 6))) (l' := [(1, sV .i64 ([1, 2, 3, 4, 5, 6] : List Int) 6), (4, rV 0 0), (6, rV 2 0), (27, sV .i64 ([1, 2, 3, 4, 5, 6] : List Int) 6), (28, iV 6), (29, iV 6), (30, bV false)]) (g' := [(0, some (77, .ds [iD 0, iD 0, D.lit (.slice none 0 0)])), (1, some (3, .ds (dI .i64 (List.set ([32768, 0, 0, 0, 0, 0, 0, 32768, 0, 0, 0, 0, 0, 0, 32768, 0, 0, 0, 0, 0, 0, 32768, 0, 0, 0, 0, 0, 0, 32768, 0, 0, 0, 0, 0, 0, 0] : List Int) 35 32768)))), (2, some (77, .cs [iC 6, iC 6, .own 1 0 36 1 true]))]) (nx' := 9) (by kernel_rfl) (by omega) ?_
  refine AW.seq ?_
  refine AW.cond_f (.tmp (Look.of rfl)) ?_
  refine AW.exit ?_
  refine AW.rgs [.no, .no, .no] [4, 5] [0, 1] (P := True) (l' := [(4, rV 0 0), (5, iV 0)]) (g' := [(0, some (77, .cs [iC 6, iC 6, .own 1 0 36 1 true])), (1, some (3, .ds (dI .i64 (List.set ([32768, 0, 0, 0, 0, 0, 0, 32768, 0, 0, 0, 0, 0, 0, 32768, 0, 0, 0, 0, 0, 0, 32768, 0, 0, 0, 0, 0, 0, 32768, 0, 0, 0, 0, 0, 0, 0] : List Int) 35 32768))))]) (nx' := 9) (by kernel_rfl) trivial ?_
  refine AW.ret ?_
  exact EndP.of (.inr rfl) [(0, 1)] (P := ((6 : Int) = 6) ∧ ((6 : Int) = 6) ∧ ((0 : Nat) = 0) ∧ ((36 : Nat) = 36) ∧ ((0 : Int) = 0) ∧ (((dI .i64 ([32768, 0, 0, 0, 0, 0, 0, 32768, 0, 0, 0, 0, 0, 0, 32768, 0, 0, 0, 0, 0, 0, 32768, 0, 0, 0, 0, 0, 0, 32768, 0, 0, 0, 0, 0, 0, 32768] : List Int)) : List D) = (dI .i64 (List.set ([32768, 0, 0, 0, 0, 0, 0, 32768, 0, 0, 0, 0, 0, 0, 32768, 0, 0, 0, 0, 0, 0, 32768, 0, 0, 0, 0, 0, 0, 32768, 0, 0, 0, 0, 0, 0, 0] : List Int) 35 32768)))) (by kernel_rfl) ⟨rfl, rfl, rfl, rfl, rfl, (by rfl)⟩

set_option maxHeartbeats 4000000 in
set_option maxRecDepth 100000 in
theorem M_Default_m3   : Fun 68 [.c (.d (D.sl (dI .i64 ([2, 1] : List Int)) 2)), .c (.d (D.sl (dI .i64 ([2, 1] : List Int)) 2))] (toG []) 0 (.tup [.agg [iC 2, iC 2, .own 0 0 4 1 true], iE 0]) (toG [(0, some (3, .ds (dI .i64 ([32768, 0, 0, 32768] : List Int))))]) 1 := by
  refine Fun.mk (n := 57) Try.func68 rfl rfl (Nat.le_of_ble_eq_true rfl) ?_
  intro cx hcx
  refine AW.rgs [.no, .no] [0, 1, 4] [0] (P := True) (l' := [(0, sV .i64 ([2, 1] : List Int) 2), (1, sV .i64 ([2, 1] : List Int) 2), (4, rV 0 0)]) (g' := [(0, some (77, .ds [iD 0, iD 0, D.lit (.slice none 0 0)]))]) (nx' := 1) (by kernel_rfl) trivial ?_
  refine AW.seq ?_
  refine AW.rgs [.no, .call [] (bV true) [] 0 [] none, .no, .no, .no, .call [] (bV true) [] 0 [] none, .no, .no] [0, 1, 4, 20] [0] (P := (_) ∧ (_)) (l' := [(0, sV .i64 ([2, 1] : List Int) 2), (1, sV .i64 ([2, 1] : List Int) 2), (4, rV 0 0), (20, bV false)]) (g' := [(0, some (77, .ds [iD 0, iD 0, D.lit (.slice none 0 0)]))]) (nx' := 1) (by kernel_rfl) ⟨(C_Valid_m3), (C_Valid_m3)⟩ ?_
  refine AW.cond_f (.tmp (Look.of rfl)) ?_
  refine AW.skip ?_
  refine AW.rgs [.no, .no, .no, .no, .call [] (.e (.agg [iC 2, iC 2, .own 0 0 4 1 true])) [(0, some (3, .ds (dI .i64 ([0, 0, 0, 0] : List Int))))] 1 [] none, .no, .no] [0, 1, 4, 6] [0, 1, 2] (P := (_)) (l' := [(0, sV .i64 ([2, 1] : List Int) 2), (1, sV .i64 ([2, 1] : List Int) 2), (4, rV 0 0), (6, rV 2 0)]) (g' := [(0, some (77, .ds [iD 0, iD 0, D.lit (.slice none 0 0)])), (1, some (3, .ds (dI .i64 ([0, 0, 0, 0] : List Int)))), (2, some (77, .cs [iC 2, iC 2, .own 1 0 4 1 true]))]) (nx' := 3) (by kernel_rfl) (Fun.cv (M_zero 2 2 (by omega) (by omega)) (y' := .e (.agg [iC 2, iC 2, .own 0 0 4 1 true])) (g1' := toG [(0, some (3, .ds (dI .i64 ([0, 0, 0, 0] : List Int))))]) (by kernel_rfl) (by kernel_rfl)) ?_
  refine AW.seq ?_
  refine AW.rgs [.no, .no, .no] [1, 4, 6, 27, 28, 29] [0, 1, 2] (P := True) (l' := [(1, sV .i64 ([2, 1] : List Int) 2), (4, rV 0 0), (6, rV 2 0), (27, sV .i64 ([2, 1] : List Int) 2), (28, iV 2), (29, iV 0)]) (g' := [(0, some (77, .ds [iD 0, iD 0, D.lit (.slice none 0 0)])), (1, some (3, .ds (dI .i64 ([0, 0, 0, 0] : List Int)))), (2, some (77, .cs [iC 2, iC 2, .own 1 0 4 1 true]))]) (nx' := 3) (by kernel_rfl) trivial ?_
  refine AW.block ?_
  refine AW.rounds 3 ?_
  refine AWr.s ?_
  refine AW.rgs [.b true] [1, 4, 6, 27, 28, 29, 30] [0, 1, 2] (P := (((0 : Int) < 2))) (l' := [(1, sV .i64 ([2, 1] : List Int) 2), (4, rV 0 0), (6, rV 2 0), (27, sV .i64 ([2, 1] : List Int) 2), (28, iV 2), (29, iV 0), (30, bV true)]) (g' := [(0, some (77, .ds [iD 0, iD 0, D.lit (.slice none 0 0)])), (1, some (3, .ds (dI .i64 ([0, 0, 0, 0] : List Int)))), (2, some (77, .cs [iC 2, iC 2, .own 1 0 4 1 true]))]) (nx' := 3) (by kernel_rfl) (by omega) ?_
  refine AW.seq ?_
  refine AW.cond_t (.tmp (Look.of rfl)) ?_
  refine AW.skip ?_
  refine AW.seq ?_
  refine AW.block ?_
  refine AW.rgs [.no, .n 0, .d (D.lit (.int .i64 2)), .no, .no] [1, 4, 6, 7, 8, 27, 28, 29] [0, 1, 2] (P := ((0 : Int) = 0) ∧ ((0 : Nat) < 2) ∧ ((List.drop 0 (dI .i64 ([2, 1] : List Int)))[0]? = some (D.lit (.int .i64 2)))) (l' := [(1, sV .i64 ([2, 1] : List Int) 2), (4, rV 0 0), (6, rV 2 0), (7, iV 0), (8, iV 2), (27, sV .i64 ([2, 1] : List Int) 2), (28, iV 2), (29, iV 0)]) (g' := [(0, some (77, .ds [iD 0, iD 0, D.lit (.slice none 0 0)])), (1, some (3, .ds (dI .i64 ([0, 0, 0, 0] : List Int)))), (2, some (77, .cs [iC 2, iC 2, .own 1 0 4 1 true]))]) (nx' := 3) (by kernel_rfl) ⟨rfl, (by omega), (by rfl)⟩ ?_
  refine AW.rgs [.no, .no, .call [] (.tup [.c (.own 0 0 1 1 true), iE 32768]) [(0, some (3, .ds [iD 2]))] 1 [] none, .no, .no, .no, .no, .no] [1, 4, 6, 7, 9, 10, 27, 28, 29] [0, 1, 2, 3] (P := (_)) (l' := [(1, sV .i64 ([2, 1] : List Int) 2), (4, rV 0 0), (6, rV 2 0), (7, iV 0), (9, oV 3 0 1 1), (10, iV 32768), (27, sV .i64 ([2, 1] : List Int) 2), (28, iV 2), (29, iV 0)]) (g' := [(0, some (77, .ds [iD 0, iD 0, D.lit (.slice none 0 0)])), (1, some (3, .ds (dI .i64 ([0, 0, 0, 0] : List Int)))), (2, some (77, .cs [iC 2, iC 2, .own 1 0 4 1 true])), (3, some (3, .ds [iD 2]))]) (nx' := 4) (by kernel_rfl) (M_goals_3_2) ?_
  refine AW.rgs [.no, .no, .no] [1, 4, 6, 7, 10, 27, 28, 29, 40, 41, 42] [0, 1, 2, 3] (P := True) (l' := [(1, sV .i64 ([2, 1] : List Int) 2), (4, rV 0 0), (6, rV 2 0), (7, iV 0), (10, iV 32768), (27, sV .i64 ([2, 1] : List Int) 2), (28, iV 2), (29, iV 0), (40, oV 3 0 1 1), (41, iV 1), (42, iV 0)]) (g' := [(0, some (77, .ds [iD 0, iD 0, D.lit (.slice none 0 0)])), (1, some (3, .ds (dI .i64 ([0, 0, 0, 0] : List Int)))), (2, some (77, .cs [iC 2, iC 2, .own 1 0 4 1 true])), (3, some (3, .ds [iD 2]))]) (nx' := 4) (by kernel_rfl) trivial ?_
  refine AW.block ?_
  refine AW.rounds 2 ?_
  refine AWr.s ?_
  refine AW.rgs [.b true] [1, 4, 6, 7, 10, 27, 28, 29, 40, 41, 42, 43] [0, 1, 2, 3] (P := (((0 : Int) < 1))) (l' := [(1, sV .i64 ([2, 1] : List Int) 2), (4, rV 0 0), (6, rV 2 0), (7, iV 0), (10, iV 32768), (27, sV .i64 ([2, 1] : List Int) 2), (28, iV 2), (29, iV 0), (40, oV 3 0 1 1), (41, iV 1), (42, iV 0), (43, bV true)]) (g' := [(0, some (77, .ds [iD 0, iD 0, D.lit (.slice none 0 0)])), (1, some (3, .ds (dI .i64 ([0, 0, 0, 0] : List Int)))), (2, some (77, .cs [iC 2, iC 2, .own 1 0 4 1 true])), (3, some (3, .ds [iD 2]))]) (nx' := 4) (by kernel_rfl) (by omega) ?_
  refine AW.seq ?_
  refine AW.cond_t (.tmp (Look.of rfl)) ?_
  refine AW.skip ?_
  refine AW.seq ?_
  refine AW.block ?_
  refine AW.rgs [.n2 0 0, .no, .no] [1, 4, 6, 7, 10, 12, 27, 28, 29, 40, 41, 42] [0, 1, 2, 3] (P := ((0 : Int) = 0) ∧ ((0 : Nat) < 1) ∧ ((0 : Nat) + 0 * 1 = 0)) (l' := [(1, sV .i64 ([2, 1] : List Int) 2), (4, rV 0 0), (6, rV 2 0), (7, iV 0), (10, iV 32768), (12, iV 2), (27, sV .i64 ([2, 1] : List Int) 2), (28, iV 2), (29, iV 0), (40, oV 3 0 1 1), (41, iV 1), (42, iV 0)]) (g' := [(0, some (77, .ds [iD 0, iD 0, D.lit (.slice none 0 0)])), (1, some (3, .ds (dI .i64 ([0, 0, 0, 0] : List Int)))), (2, some (77, .cs [iC 2, iC 2, .own 1 0 4 1 true])), (3, some (3, .ds [iD 2]))]) (nx' := 4) (by kernel_rfl) ⟨rfl, (by omega), (by omega)⟩ ?_
  refine AW.rg [.no, .no, .no, .call [] (iV 0) [] 0 [] none, .call [1] (.e (.c (.own 0 0 2 1 false))) [(0, some (3, .ds (dI .i64 ([0, 0, 0, 0] : List Int))))] 1 [] none, .no, .no, .n2 0 0, .ds (dI .i64 (List.set ([0, 0, 0, 0] : List Int) 0 32768))] [1, 4, 6, 7, 10, 27, 28, 29, 40, 41, 42] [0, 1, 2, 3] (P := (_) ∧ (_) ∧ ((0 : Int) = 0) ∧ ((0 : Nat) < 2) ∧ ((0 : Nat) + 0 * 1 = 0) ∧ ((0 : Nat) + 1 ≤ (dI .i64 ([0, 0, 0, 0] : List Int)).length) ∧ (updD (dI .i64 ([0, 0, 0, 0] : List Int)) 0 [D.lit (.int .i64 32768)] = dI .i64 (List.set ([0, 0, 0, 0] : List Int) 0 32768))) (l' := [(1, sV .i64 ([2, 1] : List Int) 2), (4, rV 0 0), (6, rV 2 0), (7, iV 0), (10, iV 32768), (27, sV .i64 ([2, 1] : List Int) 2), (28, iV 2), (29, iV 0), (40, oV 3 0 1 1), (41, iV 1), (42, iV 0)]) (g' := [(0, some (77, .ds [iD 0, iD 0, D.lit (.slice none 0 0)])), (1, some (3, .ds (dI .i64 (List.set ([0, 0, 0, 0] : List Int) 0 32768)))), (2, some (77, .cs [iC 2, iC 2, .own 1 0 4 1 true])), (3, some (3, .ds [iD 2]))]) (nx' := 4) (by kernel_rfl) ⟨(Fun.cv (C_Index ([2, 1] : List Int) 2 2 rfl (by omega)) (y' := iV 0) (g1' := toG []) (by kernel_rfl) (by kernel_rfl)), (M_rowo 2 2 0 ([0, 0, 0, 0] : List Int) 4 rfl (by omega) (by omega) (by omega)), rfl, (by omega), (by omega), (by first | omega | (rw [dI_len]; omega) | (simp [dI_len] <;> omega) | rfl), (dI_set _ _ _ _)⟩ ?_
  refine AW.rg [.w, .no] [1, 4, 6, 7, 10, 27, 28, 29, 40, 41, 42] [0, 1, 2, 3] (P := ((-9223372036854775808) ≤ (1 : Int) ∧ (1 : Int) ≤ 9223372036854775807)) (l' := [(1, sV .i64 ([2, 1] : List Int) 2), (4, rV 0 0), (6, rV 2 0), (7, iV 0), (10, iV 32768), (27, sV .i64 ([2, 1] : List Int) 2), (28, iV 2), (29, iV 0), (40, oV 3 0 1 1), (41, iV 1), (42, iV 1)]) (g' := [(0, some (77, .ds [iD 0, iD 0, D.lit (.slice none 0 0)])), (1, some (3, .ds (dI .i64 (List.set ([0, 0, 0, 0] : List Int) 0 32768)))), (2, some (77, .cs [iC 2, iC 2, .own 1 0 4 1 true])), (3, some (3, .ds [iD 2]))]) (nx' := 4) (by kernel_rfl) ⟨by omega, by omega⟩ ?_
  refine AWr.s ?_
  refine AW.rgs [.b false] [1, 4, 6, 7, 10, 27, 28, 29, 40, 41, 42, 43] [0, 1, 2, 3] (P := (¬ ((1 : Int) < 1))) (l' := [(1, sV .i64 ([2, 1] : List Int) 2), (4, rV 0 0), (6, rV 2 0), (7, iV 0), (10, iV 32768), (27, sV .i64 ([2, 1] : List Int) 2), (28, iV 2), (29, iV 0), (40, oV 3 0 1 1), (41, iV 1), (42, iV 1), (43, bV false)]) (g' := [(0, some (77, .ds [iD 0, iD 0, D.lit (.slice none 0 0)])), (1, some (3, .ds (dI .i64 (List.set ([0, 0, 0, 0] : List Int) 0 32768)))), (2, some (77, .cs [iC 2, iC 2, .own 1 0 4 1 true])), (3, some (3, .ds [iD 2]))]) (nx' := 4) (by kernel_rfl) (by omega) ?_
  refine AW.seq ?_
  refine AW.cond_f (.tmp (Look.of rfl)) ?_
  refine AW.exit ?_
  refine AW.rg [.w, .no] [1, 4, 6, 27, 28, 29] [0, 1, 2] (P := ((-9223372036854775808) ≤ (1 : Int) ∧ (1 : Int) ≤ 9223372036854775807)) (l' := [(1, sV .i64 ([2, 1] : List Int) 2), (4, rV 0 0), (6, rV 2 0), (27, sV .i64 ([2, 1] : List Int) 2), (28, iV 2), (29, iV 1)]) (g' := [(0, some (77, .ds [iD 0, iD 0, D.lit (.slice none 0 0)])), (1, some (3, .ds (dI .i64 (List.set ([0, 0, 0, 0] : List Int) 0 32768)))), (2, some (77, .cs [iC 2, iC 2, .own 1 0 4 1 true]))]) (nx' := 4) (by kernel_rfl) ⟨by omega, by omega⟩ ?_
  refine AWr.s ?_
  refine AW.rgs [.b true] [1, 4, 6, 27, 28, 29, 30] [0, 1, 2] (P := (((1 : Int) < 2))) (l' := [(1, sV .i64 ([2, 1] : List Int) 2), (4, rV 0 0), (6, rV 2 0), (27, sV .i64 ([2, 1] : List Int) 2), (28, iV 2), (29, iV 1), (30, bV true)]) (g' := [(0, some (77, .ds [iD 0, iD 0, D.lit (.slice none 0 0)])), (1, some (3, .ds (dI .i64 (List.set ([0, 0, 0, 0] : List Int) 0 32768)))), (2, some (77, .cs [iC 2, iC 2, .own 1 0 4 1 true]))]) (nx' := 4) (by kernel_rfl) (by omega) ?_
  refine AW.seq ?_
  refine AW.cond_t (.tmp (Look.of rfl)) ?_
  refine AW.skip ?_
  refine AW.seq ?_
  refine AW.block ?_
  refine AW.rgs [.no, .n 1, .d (D.lit (.int .i64 1)), .no, .no] [1, 4, 6, 7, 8, 27, 28, 29] [0, 1, 2] (P := ((1 : Int) = 1) ∧ ((1 : Nat) < 2) ∧ ((List.drop 1 (dI .i64 ([2, 1] : List Int)))[0]? = some (D.lit (.int .i64 1)))) (l' := [(1, sV .i64 ([2, 1] : List Int) 2), (4, rV 0 0), (6, rV 2 0), (7, iV 1), (8, iV 1), (27, sV .i64 ([2, 1] : List Int) 2), (28, iV 2), (29, iV 1)]) (g' := [(0, some (77, .ds [iD 0, iD 0, D.lit (.slice none 0 0)])), (1, some (3, .ds (dI .i64 (List.set ([0, 0, 0, 0] : List Int) 0 32768)))), (2, some (77, .cs [iC 2, iC 2, .own 1 0 4 1 true]))]) (nx' := 4) (by kernel_rfl) ⟨rfl, (by omega), (by rfl)⟩ ?_
  refine AW.rgs [.no, .no, .call [] (.tup [.c (.own 0 0 1 1 true), iE 32768]) [(0, some (3, .ds [iD 1]))] 1 [] none, .no, .no, .no, .no, .no] [1, 4, 6, 7, 9, 10, 27, 28, 29] [0, 1, 2, 4] (P := (_)) (l' := [(1, sV .i64 ([2, 1] : List Int) 2), (4, rV 0 0), (6, rV 2 0), (7, iV 1), (9, oV 4 0 1 1), (10, iV 32768), (27, sV .i64 ([2, 1] : List Int) 2), (28, iV 2), (29, iV 1)]) (g' := [(0, some (77, .ds [iD 0, iD 0, D.lit (.slice none 0 0)])), (1, some (3, .ds (dI .i64 (List.set ([0, 0, 0, 0] : List Int) 0 32768)))), (2, some (77, .cs [iC 2, iC 2, .own 1 0 4 1 true])), (4, some (3, .ds [iD 1]))]) (nx' := 5) (by kernel_rfl) (M_goals_3_1) ?_
  refine AW.rgs [.no, .no, .no] [1, 4, 6, 7, 10, 27, 28, 29, 40, 41, 42] [0, 1, 2, 4] (P := True) (l' := [(1, sV .i64 ([2, 1] : List Int) 2), (4, rV 0 0), (6, rV 2 0), (7, iV 1), (10, iV 32768), (27, sV .i64 ([2, 1] : List Int) 2), (28, iV 2), (29, iV 1), (40, oV 4 0 1 1), (41, iV 1), (42, iV 0)]) (g' := [(0, some (77, .ds [iD 0, iD 0, D.lit (.slice none 0 0)])), (1, some (3, .ds (dI .i64 (List.set ([0, 0, 0, 0] : List Int) 0 32768)))), (2, some (77, .cs [iC 2, iC 2, .own 1 0 4 1 true])), (4, some (3, .ds [iD 1]))]) (nx' := 5) (by kernel_rfl) trivial ?_
  refine AW.block ?_
  refine AW.rounds 2 ?_
  refine AWr.s ?_
  refine AW.rgs [.b true] [1, 4, 6, 7, 10, 27, 28, 29, 40, 41, 42, 43] [0, 1, 2, 4] (P := (((0 : Int) < 1))) (l' := [(1, sV .i64 ([2, 1] : List Int) 2), (4, rV 0 0), (6, rV 2 0), (7, iV 1), (10, iV 32768), (27, sV .i64 ([2, 1] : List Int) 2), (28, iV 2), (29, iV 1), (40, oV 4 0 1 1), (41, iV 1), (42, iV 0), (43, bV true)]) (g' := [(0, some (77, .ds [iD 0, iD 0, D.lit (.slice none 0 0)])), (1, some (3, .ds (dI .i64 (List.set ([0, 0, 0, 0] : List Int) 0 32768)))), (2, some (77, .cs [iC 2, iC 2, .own 1 0 4 1 true])), (4, some (3, .ds [iD 1]))]) (nx' := 5) (by kernel_rfl) (by omega) ?_
  refine AW.seq ?_
  refine AW.cond_t (.tmp (Look.of rfl)) ?_
  refine AW.skip ?_
  refine AW.seq ?_
  refine AW.block ?_
  refine AW.rgs [.n2 0 0, .no, .no] [1, 4, 6, 7, 10, 12, 27, 28, 29, 40, 41, 42] [0, 1, 2, 4] (P := ((0 : Int) = 0) ∧ ((0 : Nat) < 1) ∧ ((0 : Nat) + 0 * 1 = 0)) (l' := [(1, sV .i64 ([2, 1] : List Int) 2), (4, rV 0 0), (6, rV 2 0), (7, iV 1), (10, iV 32768), (12, iV 1), (27, sV .i64 ([2, 1] : List Int) 2), (28, iV 2), (29, iV 1), (40, oV 4 0 1 1), (41, iV 1), (42, iV 0)]) (g' := [(0, some (77, .ds [iD 0, iD 0, D.lit (.slice none 0 0)])), (1, some (3, .ds (dI .i64 (List.set ([0, 0, 0, 0] : List Int) 0 32768)))), (2, some (77, .cs [iC 2, iC 2, .own 1 0 4 1 true])), (4, some (3, .ds [iD 1]))]) (nx' := 5) (by kernel_rfl) ⟨rfl, (by omega), (by omega)⟩ ?_
  refine AW.rg [.no, .no, .no, .call [] (iV 1) [] 0 [] none, .call [1] (.e (.c (.own 0 2 2 1 false))) [(0, some (3, .ds (dI .i64 ([32768, 0, 0, 0] : List Int))))] 1 [] none, .no, .no, .n2 1 3, .ds (dI .i64 (List.set ([32768, 0, 0, 0] : List Int) 3 32768))] [1, 4, 6, 7, 10, 27, 28, 29, 40, 41, 42] [0, 1, 2, 4] (P := (_) ∧ (_) ∧ ((1 : Int) = 1) ∧ ((1 : Nat) < 2) ∧ ((2 : Nat) + 1 * 1 = 3) ∧ ((3 : Nat) + 1 ≤ (dI .i64 ([32768, 0, 0, 0] : List Int)).length) ∧ (updD (dI .i64 ([32768, 0, 0, 0] : List Int)) 3 [D.lit (.int .i64 32768)] = dI .i64 (List.set ([32768, 0, 0, 0] : List Int) 3 32768))) (l' := [(1, sV .i64 ([2, 1] : List Int) 2), (4, rV 0 0), (6, rV 2 0), (7, iV 1), (10, iV 32768), (27, sV .i64 ([2, 1] : List Int) 2), (28, iV 2), (29, iV 1), (40, oV 4 0 1 1), (41, iV 1), (42, iV 0)]) (g' := [(0, some (77, .ds [iD 0, iD 0, D.lit (.slice none 0 0)])), (1, some (3, .ds (dI .i64 (List.set ([32768, 0, 0, 0] : List Int) 3 32768)))), (2, some (77, .cs [iC 2, iC 2, .own 1 0 4 1 true])), (4, some (3, .ds [iD 1]))]) (nx' := 5) (by kernel_rfl) ⟨(Fun.cv (C_Index ([2, 1] : List Int) 2 1 rfl (by omega)) (y' := iV 1) (g1' := toG []) (by kernel_rfl) (by kernel_rfl)), (Fun.cv (M_rowo 2 2 1 (List.set ([0, 0, 0, 0] : List Int) 0 32768) 4 (by first | omega | with_reducible assumption | (simp <;> omega) | rfl | assumption) (by omega) (by omega) (by omega)) (y' := .e (.c (.own 0 2 2 1 false))) (g1' := toG [(0, some (3, .ds (dI .i64 ([32768, 0, 0, 0] : List Int))))]) (by kernel_rfl) (by kernel_rfl)), rfl, (by omega), (by omega), (by first | omega | (rw [dI_len]; omega) | (simp [dI_len] <;> omega) | rfl), (dI_set _ _ _ _)⟩ ?_
  refine AW.rg [.w, .no] [1, 4, 6, 7, 10, 27, 28, 29, 40, 41, 42] [0, 1, 2, 4] (P := ((-9223372036854775808) ≤ (1 : Int) ∧ (1 : Int) ≤ 9223372036854775807)) (l' := [(1, sV .i64 ([2, 1] : List Int) 2), (4, rV 0 0), (6, rV 2 0), (7, iV 1), (10, iV 32768), (27, sV .i64 ([2, 1] : List Int) 2), (28, iV 2), (29, iV 1), (40, oV 4 0 1 1), (41, iV 1), (42, iV 1)]) (g' := [(0, some (77, .ds [iD 0, iD 0, D.lit (.slice none 0 0)])), (1, some (3, .ds (dI .i64 (List.set ([32768, 0, 0, 0] : List Int) 3 32768)))), (2, some (77, .cs [iC 2, iC 2, .own 1 0 4 1 true])), (4, some (3, .ds [iD 1]))]) (nx' := 5) (by kernel_rfl) ⟨by omega, by omega⟩ ?_
  refine AWr.s ?_
  refine AW.rgs [.b false] [1, 4, 6, 7, 10, 27, 28, 29, 40, 41, 42, 43] [0, 1, 2, 4] (P := (¬ ((1 : Int) < 1))) (l' := [(1, sV .i64 ([2, 1] : List Int) 2), (4, rV 0 0), (6, rV 2 0), (7, iV 1), (10, iV 32768), (27, sV .i64 ([2, 1] : List Int) 2), (28, iV 2), (29, iV 1), (40, oV 4 0 1 1), (41, iV 1), (42, iV 1), (43, bV false)]) (g' := [(0, some (77, .ds [iD 0, iD 0, D.lit (.slice none 0 0)])), (1, some (3, .ds (dI .i64 (List.set ([32768, 0, 0, 0] : List Int) 3 32768)))), (2, some (77, .cs [iC 2, iC 2, .own 1 0 4 1 true])), (4, some (3, .ds [iD 1]))]) (nx' := 5) (by kernel_rfl) (by omega) ?_
  refine AW.seq ?_
  refine AW.cond_f (.tmp (Look.of rfl)) ?_
  refine AW.exit ?_
  refine AW.rg [.w, .no] [1, 4, 6, 27, 28, 29] [0, 1, 2] (P := ((-9223372036854775808) ≤ (2 : Int) ∧ (2 : Int) ≤ 9223372036854775807)) (l' := [(1, sV .i64 ([2, 1] : List Int) 2), (4, rV 0 0), (6, rV 2 0), (27, sV .i64 ([2, 1] : List Int) 2), (28, iV 2), (29, iV 2)]) (g' := [(0, some (77, .ds [iD 0, iD 0, D.lit (.slice none 0 0)])), (1, some (3, .ds (dI .i64 (List.set ([32768, 0, 0, 0] : List Int) 3 32768)))), (2, some (77, .cs [iC 2, iC 2, .own 1 0 4 1 true]))]) (nx' := 5) (by kernel_rfl) ⟨by omega, by omega⟩ ?_
  refine AWr.s ?_
  refine AW.rgs [.b false] [1, 4, 6, 27, 28, 29, 30] [0, 1, 2] (P := (¬ ((2 : Int) < 2))) (l' := [(1, sV .i64 ([2, 1] : List Int) 2), (4, rV 0 0), (6, rV 2 0), (27, sV .i64 ([2, 1] : List Int) 2), (28, iV 2), (29, iV 2), (30, bV false)]) (g' := [(0, some (77, .ds [iD 0, iD 0, D.lit (.slice none 0 0)])), (1, some (3, .ds (dI .i64 (List.set ([32768, 0, 0, 0] : List Int) 3 32768)))), (2, some (77, .cs [iC 2, iC 2, .own 1 0 4 1 true]))]) (nx' := 5) (by kernel_rfl) (by omega) ?_
  refine AW.seq ?_
  refine AW.cond_f (.tmp (Look.of rfl)) ?_
  refine AW.exit ?_
  refine AW.rgs [.no, .no, .no] [4, 5] [0, 1] (P := True) (l' := [(4, rV 0 0), (5, iV 0)]) (g' := [(0, some (77, .cs [iC 2, iC 2, .own 1 0 4 1 true])), (1, some (3, .ds (dI .i64 (List.set ([32768, 0, 0, 0] : List Int) 3 32768))))]) (nx' := 5) (by kernel_rfl) trivial ?_
  refine AW.ret ?_
  exact EndP.of (.inr rfl) [(0, 1)] (P := ((2 : Int) = 2) ∧ ((2 : Int) = 2) ∧ ((0 : Nat) = 0) ∧ ((4 : Nat) = 4) ∧ ((0 : Int) = 0) ∧ (((dI .i64 ([32768, 0, 0, 32768] : List Int)) : List D) = (dI .i64 (List.set ([32768, 0, 0, 0] : List Int) 3 32768)))) (by kernel_rfl) ⟨rfl, rfl, rfl, rfl, rfl, (by rfl)⟩

set_option maxHeartbeats 4000000 in
set_option maxRecDepth 100000 in
theorem M_Default_m4   : Fun 68 [.c (.d (D.sl (dI .i64 ([1, 2, 7, 8] : List Int)) 4)), .c (.d (D.sl (dI .i64 ([1, 2, 7, 8] : List Int)) 4))] (toG []) 0 (.tup [.agg [iC 4, iC 4, .own 0 0 16 1 true], iE 0]) (toG [(0, some (3, .ds (dI .i64 ([32768, 0, 0, 0, 0, 32768, 0, 0, 0, 0, 32768, 0, 0, 0, 0, 32768] : List Int))))]) 1 := by
  refine Fun.mk (n := 57) Try.func68 rfl rfl (Nat.le_of_ble_eq_true rfl) ?_
  intro cx hcx
  refine AW.rgs [.no, .no] [0, 1, 4] [0] (P := True) (l' := [(0, sV .i64 ([1, 2, 7, 8] : List Int) 4), (1, sV .i64 ([1, 2, 7, 8] : List Int) 4), (4, rV 0 0)]) (g' := [(0, some (77, .ds [iD 0, iD 0, D.lit (.slice none 0 0)]))]) (nx' := 1) (by kernel_rfl) trivial ?_
  refine AW.seq ?_
  refine AW.rgs [.no, .call [] (bV true) [] 0 [] none, .no, .no, .no, .call [] (bV true) [] 0 [] none, .no, .no] [0, 1, 4, 20] [0] (P := (_) ∧ (_)) (l' := [(0, sV .i64 ([1, 2, 7, 8] : List Int) 4), (1, sV .i64 ([1, 2, 7, 8] : List Int) 4), (4, rV 0 0), (20, bV false)]) (g' := [(0, some (77, .ds [iD 0, iD 0, D.lit (.slice none 0 0)]))]) (nx' := 1) (by kernel_rfl) ⟨(C_Valid_m4), (C_Valid_m4)⟩ ?_
  refine AW.cond_f (.tmp (Look.of rfl)) ?_
  refine AW.skip ?_
  refine AW.rgs [.no, .no, .no, .no, .call [] (.e (.agg [iC 4, iC 4, .own 0 0 16 1 true])) [(0, some (3, .ds (dI .i64 ([0, 0, 0, 0, 0, 0, 0, 0, 0, 0, 0, 0, 0, 0, 0, 0] : List Int))))] 1 [] none, .no, .no] [0, 1, 4, 6] [0, 1, 2] (P := (_)) (l' := [(0, sV .i64 ([1, 2, 7, 8] : List Int) 4), (1, sV .i64 ([1, 2, 7, 8] : List Int) 4), (4, rV 0 0), (6, rV 2 0)]) (g' := [(0, some (77, .ds [iD 0, iD 0, D.lit (.slice none 0 0)])), (1, some (3, .ds (dI .i64 ([0, 0, 0, 0, 0, 0, 0, 0, 0, 0, 0, 0, 0, 0, 0, 0] : List Int)))), (2, some (77, .cs [iC 4, iC 4, .own 1 0 16 1 true]))]) (nx' := 3) (by kernel_rfl) (Fun.cv (M_zero 4 4 (by omega) (by omega)) (y' := .e (.agg [iC 4, iC 4, .own 0 0 16 1 true])) (g1' := toG [(0, some (3, .ds (dI .i64 ([0, 0, 0, 0, 0, 0, 0, 0, 0, 0, 0, 0, 0, 0, 0, 0] : List Int))))]) (by kernel_rfl) (by kernel_rfl)) ?_
  refine AW.seq ?_
  refine AW.rgs [.no, .no, .no] [1, 4, 6, 27, 28, 29] [0, 1, 2] (P := True) (l' := [(1, sV .i64 ([1, 2, 7, 8] : List Int) 4), (4, rV 0 0), (6, rV 2 0), (27, sV .i64 ([1, 2, 7, 8] : List Int) 4), (28, iV 4), (29, iV 0)]) (g' := [(0, some (77, .ds [iD 0, iD 0, D.lit (.slice none 0 0)])), (1, some (3, .ds (dI .i64 ([0, 0, 0, 0, 0, 0, 0, 0, 0, 0, 0, 0, 0, 0, 0, 0] : List Int)))), (2, some (77, .cs [iC 4, iC 4, .own 1 0 16 1 true]))]) (nx' := 3) (by kernel_rfl) trivial ?_
  refine AW.block ?_
  refine AW.rounds 5 ?_
  refine AWr.s ?_
  refine AW.rgs [.b true] [1, 4, 6, 27, 28, 29, 30] [0, 1, 2] (P := (((0 : Int) < 4))) (l' := [(1, sV .i64 ([1, 2, 7, 8] : List Int) 4), (4, rV 0 0), (6, rV 2 0), (27, sV .i64 ([1, 2, 7, 8] : List Int) 4), (28, iV 4), (29, iV 0), (30, bV true)]) (g' := [(0, some (77, .ds [iD 0, iD 0, D.lit (.slice none 0 0)])), (1, some (3, .ds (dI .i64 ([0, 0, 0, 0, 0, 0, 0, 0, 0, 0, 0, 0, 0, 0, 0, 0] : List Int)))), (2, some (77, .cs [iC 4, iC 4, .own 1 0 16 1 true]))]) (nx' := 3) (by kernel_rfl) (by omega) ?_
  refine AW.seq ?_
  refine AW.cond_t (.tmp (Look.of rfl)) ?_
  refine AW.skip ?_
  refine AW.seq ?_
  refine AW.block ?_
  refine AW.rgs [.no, .n 0, .d (D.lit (.int .i64 1)), .no, .no] [1, 4, 6, 7, 8, 27, 28, 29] [0, 1, 2] (P := ((0 : Int) = 0) ∧ ((0 : Nat) < 4) ∧ ((List.drop 0 (dI .i64 ([1, 2, 7, 8] : List Int)))[0]? = some (D.lit (.int .i64 1)))) (l' := [(1, sV .i64 ([1, 2, 7, 8] : List Int) 4), (4, rV 0 0), (6, rV 2 0), (7, iV 0), (8, iV 1), (27, sV .i64 ([1, 2, 7, 8] : List Int) 4), (28, iV 4), (29, iV 0)]) (g' := [(0, some (77, .ds [iD 0, iD 0, D.lit (.slice none 0 0)])), (1, some (3, .ds (dI .i64 ([0, 0, 0, 0, 0, 0, 0, 0, 0, 0, 0, 0, 0, 0, 0, 0] : List Int)))), (2, some (77, .cs [iC 4, iC 4, .own 1 0 16 1 true]))]) (nx' := 3) (by kernel_rfl) ⟨rfl, (by omega), (by rfl)⟩ ?_
  refine AW.rgs [.no, .no, .call [] (.tup [.c (.own 0 0 1 1 true), iE 32768]) [(0, some (3, .ds [iD 1]))] 1 [] none, .no, .no, .no, .no, .no] [1, 4, 6, 7, 9, 10, 27, 28, 29] [0, 1, 2, 3] (P := (_)) (l' := [(1, sV .i64 ([1, 2, 7, 8] : List Int) 4), (4, rV 0 0), (6, rV 2 0), (7, iV 0), (9, oV 3 0 1 1), (10, iV 32768), (27, sV .i64 ([1, 2, 7, 8] : List Int) 4), (28, iV 4), (29, iV 0)]) (g' := [(0, some (77, .ds [iD 0, iD 0, D.lit (.slice none 0 0)])), (1, some (3, .ds (dI .i64 ([0, 0, 0, 0, 0, 0, 0, 0, 0, 0, 0, 0, 0, 0, 0, 0] : List Int)))), (2, some (77, .cs [iC 4, iC 4, .own 1 0 16 1 true])), (3, some (3, .ds [iD 1]))]) (nx' := 4) (by kernel_rfl) (M_goals_4_1) ?_
  refine AW.rgs [.no, .no, .no] [1, 4, 6, 7, 10, 27, 28, 29, 40, 41, 42] [0, 1, 2, 3] (P := True) (l' := [(1, sV .i64 ([1, 2, 7, 8] : List Int) 4), (4, rV 0 0), (6, rV 2 0), (7, iV 0), (10, iV 32768), (27, sV .i64 ([1, 2, 7, 8] : List Int) 4), (28, iV 4), (29, iV 0), (40, oV 3 0 1 1), (41, iV 1), (42, iV 0)]) (g' := [(0, some (77, .ds [iD 0, iD 0, D.lit (.slice none 0 0)])), (1, some (3, .ds (dI .i64 ([0, 0, 0, 0, 0, 0, 0, 0, 0, 0, 0, 0, 0, 0, 0, 0] : List Int)))), (2, some (77, .cs [iC 4, iC 4, .own 1 0 16 1 true])), (3, some (3, .ds [iD 1]))]) (nx' := 4) (by kernel_rfl) trivial ?_
  refine AW.block ?_
  refine AW.rounds 2 ?_
  refine AWr.s ?_
  refine AW.rgs [.b true] [1, 4, 6, 7, 10, 27, 28, 29, 40, 41, 42, 43] [0, 1, 2, 3] (P := (((0 : Int) < 1))) (l' := [(1, sV .i64 ([1, 2, 7, 8] : List Int) 4), (4, rV 0 0), (6, rV 2 0), (7, iV 0), (10, iV 32768), (27, sV .i64 ([1, 2, 7, 8] : List Int) 4), (28, iV 4), (29, iV 0), (40, oV 3 0 1 1), (41, iV 1), (42, iV 0), (43, bV true)]) (g' := [(0, some (77, .ds [iD 0, iD 0, D.lit (.slice none 0 0)])), (1, some (3, .ds (dI .i64 ([0, 0, 0, 0, 0, 0, 0, 0, 0, 0, 0, 0, 0, 0, 0, 0] : List Int)))), (2, some (77, .cs [iC 4, iC 4, .own 1 0 16 1 true])), (3, some (3, .ds [iD 1]))]) (nx' := 4) (by kernel_rfl) (by omega) ?_
  refine AW.seq ?_
  refine AW.cond_t (.tmp (Look.of rfl)) ?_
  refine AW.skip ?_
  refine AW.seq ?_
  refine AW.block ?_
  refine AW.rgs [.n2 0 0, .no, .no] [1, 4, 6, 7, 10, 12, 27, 28, 29, 40, 41, 42] [0, 1, 2, 3] (P := ((0 : Int) = 0) ∧ ((0 : Nat) < 1) ∧ ((0 : Nat) + 0 * 1 = 0)) (l' := [(1, sV .i64 ([1, 2, 7, 8] : List Int) 4), (4, rV 0 0), (6, rV 2 0), (7, iV 0), (10, iV 32768), (12, iV 1), (27, sV .i64 ([1, 2, 7, 8] : List Int) 4), (28, iV 4), (29, iV 0), (40, oV 3 0 1 1), (41, iV 1), (42, iV 0)]) (g' := [(0, some (77, .ds [iD 0, iD 0, D.lit (.slice none 0 0)])), (1, some (3, .ds (dI .i64 ([0, 0, 0, 0, 0, 0, 0, 0, 0, 0, 0, 0, 0, 0, 0, 0] : List Int)))), (2, some (77, .cs [iC 4, iC 4, .own 1 0 16 1 true])), (3, some (3, .ds [iD 1]))]) (nx' := 4) (by kernel_rfl) ⟨rfl, (by omega), (by omega)⟩ ?_
  refine AW.rg [.no, .no, .no, .call [] (iV 0) [] 0 [] none, .call [1] (.e (.c (.own 0 0 4 1 false))) [(0, some (3, .ds (dI .i64 ([0, 0, 0, 0, 0, 0, 0, 0, 0, 0, 0, 0, 0, 0, 0, 0] : List Int))))] 1 [] none, .no, .no, .n2 0 0, .ds (dI .i64 (List.set ([0, 0, 0, 0, 0, 0, 0, 0, 0, 0, 0, 0, 0, 0, 0, 0] : List Int) 0 32768))] [1, 4, 6, 7, 10, 27, 28, 29, 40, 41, 42] [0, 1, 2, 3] (P := (_) ∧ (_) ∧ ((0 : Int) = 0) ∧ ((0 : Nat) < 4) ∧ ((0 : Nat) + 0 * 1 = 0) ∧ ((0 : Nat) + 1 ≤ (dI .i64 ([0, 0, 0, 0, 0, 0, 0, 0, 0, 0, 0, 0, 0, 0, 0, 0] : List Int)).length) ∧ (updD (dI .i64 ([0, 0, 0, 0, 0, 0, 0, 0, 0, 0, 0, 0, 0, 0, 0, 0] : List Int)) 0 [D.lit (.int .i64 32768)] = dI .i64 (List.set ([0, 0, 0, 0, 0, 0, 0, 0, 0, 0, 0, 0, 0, 0, 0, 0] : List Int) 0 32768))) (l' := [(1, sV .i64 ([1, 2, 7, 8] : List Int) 4), (4, rV 0 0), (6, rV 2 0), (7, iV 0), (10, iV 32768), (27, sV .i64 ([1, 2, 7, 8] : List Int) 4), (28, iV 4), (29, iV 0), (40, oV 3 0 1 1), (41, iV 1), (42, iV 0)]) (g' := [(0, some (77, .ds [iD 0, iD 0, D.lit (.slice none 0 0)])), (1, some (3, .ds (dI .i64 (List.set ([0, 0, 0, 0, 0, 0, 0, 0, 0, 0, 0, 0, 0, 0, 0, 0] : List Int) 0 32768)))), (2, some (77, .cs [iC 4, iC 4, .own 1 0 16 1 true])), (3, some (3, .ds [iD 1]))]) (nx' := 4) (by kernel_rfl) ⟨(Fun.cv (C_Index ([1, 2, 7, 8] : List Int) 4 1 rfl (by omega)) (y' := iV 0) (g1' := toG []) (by kernel_rfl) (by kernel_rfl)), (M_rowo 4 4 0 ([0, 0, 0, 0, 0, 0, 0, 0, 0, 0, 0, 0, 0, 0, 0, 0] : List Int) 16 rfl (by omega) (by omega) (by omega)), rfl, (by omega), (by omega), (by first | omega | (rw [dI_len]; omega) | (simp [dI_len] <;> omega) | rfl), (dI_set _ _ _ _)⟩ ?_
  refine AW.rg [.w, .no] [1, 4, 6, 7, 10, 27, 28, 29, 40, 41, 42] [0, 1, 2, 3] (P := ((-9223372036854775808) ≤ (1 : Int) ∧ (1 : Int) ≤ 9223372036854775807)) (l' := [(1, sV .i64 ([1, 2, 7, 8] : List Int) 4), (4, rV 0 0), (6, rV 2 0), (7, iV 0), (10, iV 32768), (27, sV .i64 ([1, 2, 7, 8] : List Int) 4), (28, iV 4), (29, iV 0), (40, oV 3 0 1 1), (41, iV 1), (42, iV 1)]) (g' := [(0, some (77, .ds [iD 0, iD 0, D.lit (.slice none 0 0)])), (1, some (3, .ds (dI .i64 (List.set ([0, 0, 0, 0, 0, 0, 0, 0, 0, 0, 0, 0, 0, 0, 0, 0] : List Int) 0 32768)))), (2, some (77, .cs [iC 4, iC 4, .own 1 0 16 1 true])), (3, some (3, .ds [iD 1]))]) (nx' := 4) (by kernel_rfl) ⟨by omega, by omega⟩ ?_
  refine AWr.s ?_
  refine AW.rgs [.b false] [1, 4, 6, 7, 10, 27, 28, 29, 40, 41, 42, 43] [0, 1, 2, 3] (P := (¬ ((1 : Int) < 1))) (l' := [(1, sV .i64 ([1, 2, 7, 8] : List Int) 4), (4, rV 0 0), (6, rV 2 0), (7, iV 0), (10, iV 32768), (27, sV .i64 ([1, 2, 7, 8] : List Int) 4), (28, iV 4), (29, iV 0), (40, oV 3 0 1 1), (41, iV 1), (42, iV 1), (43, bV false)]) (g' := [(0, some (77, .ds [iD 0, iD 0, D.lit (.slice none 0 0)])), (1, some (3, .ds (dI .i64 (List.set ([0, 0, 0, 0, 0, 0, 0, 0, 0, 0, 0, 0, 0, 0, 0, 0] : List Int) 0 32768)))), (2, some (77, .cs [iC 4, iC 4, .own 1 0 16 1 true])), (3, some (3, .ds [iD 1]))]) (nx' := 4) (by kernel_rfl) (by omega) ?_
  refine AW.seq ?_
  refine AW.cond_f (.tmp (Look.of rfl)) ?_
  refine AW.exit ?_
  refine AW.rg [.w, .no] [1, 4, 6, 27, 28, 29] [0, 1, 2] (P := ((-9223372036854775808) ≤ (1 : Int) ∧ (1 : Int) ≤ 9223372036854775807)) (l' := [(1, sV .i64 ([1, 2, 7, 8] : List Int) 4), (4, rV 0 0), (6, rV 2 0), (27, sV .i64 ([1, 2, 7, 8] : List Int) 4), (28, iV 4), (29, iV 1)]) (g' := [(0, some (77, .ds [iD 0, iD 0, D.lit (.slice none 0 0)])), (1, some (3, .ds (dI .i64 (List.set ([0, 0, 0, 0, 0, 0, 0, 0, 0, 0, 0, 0, 0, 0, 0, 0] : List Int) 0 32768)))), (2, some (77, .cs [iC 4, iC 4, .own 1 0 16 1 true]))]) (nx' := 4) (by kernel_rfl) ⟨by omega, by omega⟩ ?_
  refine AWr.s ?_
  refine AW.rgs [.b true] [1, 4, 6, 27, 28, 29, 30] [0, 1, 2] (P := (((1 : Int) < 4))) (l' := [(1, sV .i64 ([1, 2, 7, 8] : List Int) 4), (4, rV 0 0), (6, rV 2 0), (27, sV .i64 ([1, 2, 7, 8] : List Int) 4), (28, iV 4), (29, iV 1), (30, bV true)]) (g' := [(0, some (77, .ds [iD 0, iD 0, D.lit (.slice none 0 0)])), (1, some (3, .ds (dI .i64 (List.set ([0, 0, 0, 0, 0, 0, 0, 0, 0, 0, 0, 0, 0, 0, 0, 0] : List Int) 0 32768)))), (2, some (77, .cs [iC 4, iC 4, .own 1 0 16 1 true]))]) (nx' := 4) (by kernel_rfl) (by omega) ?_
  refine AW.seq ?_
  refine AW.cond_t (.tmp (Look.of rfl)) ?_
  refine AW.skip ?_
  refine AW.seq ?_
  refine AW.block ?_
  refine AW.rgs [.no, .n 1, .d (D.lit (.int .i64 2)), .no, .no] [1, 4, 6, 7, 8, 27, 28, 29] [0, 1, 2] (P := ((1 : Int) = 1) ∧ ((1 : Nat) < 4) ∧ ((List.drop 1 (dI .i64 ([1, 2, 7, 8] : List Int)))[0]? = some (D.lit (.int .i64 2)))) (l' := [(1, sV .i64 ([1, 2, 7, 8] : List Int) 4), (4, rV 0 0), (6, rV 2 0), (7, iV 1), (8, iV 2), (27, sV .i64 ([1, 2, 7, 8] : List Int) 4), (28, iV 4), (29, iV 1)]) (g' := [(0, some (77, .ds [iD 0, iD 0, D.lit (.slice none 0 0)])), (1, some (3, .ds (dI .i64 (List.set ([0, 0, 0, 0, 0, 0, 0, 0, 0, 0, 0, 0, 0, 0, 0, 0] : List Int) 0 32768)))), (2, some (77, .cs [iC 4, iC 4, .own 1 0 16 1 true]))]) (nx' := 4) (by kernel_rfl) ⟨rfl, (by omega), (by rfl)⟩ ?_
  refine AW.rgs [.no, .no, .call [] (.tup [.c (.own 0 0 1 1 true), iE 32768]) [(0, some (3, .ds [iD 2]))] 1 [] none, .no, .no, .no, .no, .no] [1, 4, 6, 7, 9, 10, 27, 28, 29] [0, 1, 2, 4] (P := (_)) (l' := [(1, sV .i64 ([1, 2, 7, 8] : List Int) 4), (4, rV 0 0), (6, rV 2 0), (7, iV 1), (9, oV 4 0 1 1), (10, iV 32768), (27, sV .i64 ([1, 2, 7, 8] : List Int) 4), (28, iV 4), (29, iV 1)]) (g' := [(0, some (77, .ds [iD 0, iD 0, D.lit (.slice none 0 0)])), (1, some (3, .ds (dI .i64 (List.set ([0, 0, 0, 0, 0, 0, 0, 0, 0, 0, 0, 0, 0, 0, 0, 0] : List Int) 0 32768)))), (2, some (77, .cs [iC 4, iC 4, .own 1 0 16 1 true])), (4, some (3, .ds [iD 2]))]) (nx' := 5) (by kernel_rfl) (M_goals_4_2) ?_
  refine AW.rgs [.no, .no, .no] [1, 4, 6, 7, 10, 27, 28, 29, 40, 41, 42] [0, 1, 2, 4] (P := True) (l' := [(1, sV .i64 ([1, 2, 7, 8] : List Int) 4), (4, rV 0 0), (6, rV 2 0), (7, iV 1), (10, iV 32768), (27, sV .i64 ([1, 2, 7, 8] : List Int) 4), (28, iV 4), (29, iV 1), (40, oV 4 0 1 1), (41, iV 1), (42, iV 0)]) (g' := [(0, some (77, .ds [iD 0, iD 0, D.lit (.slice none 0 0)])), (1, some (3, .ds (dI .i64 (List.set ([0, 0, 0, 0, 0, 0, 0, 0, 0, 0, 0, 0, 0, 0, 0, 0] : List Int) 0 32768)))), (2, some (77, .cs [iC 4, iC 4, .own 1 0 16 1 true])), (4, some (3, .ds [iD 2]))]) (nx' := 5) (by kernel_rfl) trivial ?_
  refine AW.block ?_
  refine AW.rounds 2 ?_
  refine AWr.s ?_
  refine AW.rgs [.b true] [1, 4, 6, 7, 10, 27, 28, 29, 40, 41, 42, 43] [0, 1, 2, 4] (P := (((0 : Int) < 1))) (l' := [(1, sV .i64 ([1, 2, 7, 8] : List Int) 4), (4, rV 0 0), (6, rV 2 0), (7, iV 1), (10, iV 32768), (27, sV .i64 ([1, 2, 7, 8] : List Int) 4), (28, iV 4), (29, iV 1), (40, oV 4 0 1 1), (41, iV 1), (42, iV 0), (43, bV true)]) (g' := [(0, some (77, .ds [iD 0, iD 0, D.lit (.slice none 0 0)])), (1, some (3, .ds (dI .i64 (List.set ([0, 0, 0, 0, 0, 0, 0, 0, 0, 0, 0, 0, 0, 0, 0, 0] : List Int) 0 32768)))), (2, some (77, .cs [iC 4, iC 4, .own 1 0 16 1 true])), (4, some (3, .ds [iD 2]))]) (nx' := 5) (by kernel_rfl) (by omega) ?_
  refine AW.seq ?_
  refine AW.cond_t (.tmp (Look.of rfl)) ?_
  refine AW.skip ?_
  refine AW.seq ?_
  refine AW.block ?_
  refine AW.rgs [.n2 0 0, .no, .no] [1, 4, 6, 7, 10, 12, 27, 28, 29, 40, 41, 42] [0, 1, 2, 4] (P := ((0 : Int) = 0) ∧ ((0 : Nat) < 1) ∧ ((0 : Nat) + 0 * 1 = 0)) (l' := [(1, sV .i64 ([1, 2, 7, 8] : List Int) 4), (4, rV 0 0), (6, rV 2 0), (7, iV 1), (10, iV 32768), (12, iV 2), (27, sV .i64 ([1, 2, 7, 8] : List Int) 4), (28, iV 4), (29, iV 1), (40, oV 4 0 1 1), (41, iV 1), (42, iV 0)]) (g' := [(0, some (77, .ds [iD 0, iD 0, D.lit (.slice none 0 0)])), (1, some (3, .ds (dI .i64 (List.set ([0, 0, 0, 0, 0, 0, 0, 0, 0, 0, 0, 0, 0, 0, 0, 0] : List Int) 0 32768)))), (2, some (77, .cs [iC 4, iC 4, .own 1 0 16 1 true])), (4, some (3, .ds [iD 2]))]) (nx' := 5) (by kernel_rfl) ⟨rfl, (by omega), (by omega)⟩ ?_
  refine AW.rg [.no, .no, .no, .call [] (iV 1) [] 0 [] none, .call [1] (.e (.c (.own 0 4 4 1 false))) [(0, some (3, .ds (dI .i64 ([32768, 0, 0, 0, 0, 0, 0, 0, 0, 0, 0, 0, 0, 0, 0, 0] : List Int))))] 1 [] none, .no, .no, .n2 1 5, .ds (dI .i64 (List.set ([32768, 0, 0, 0, 0, 0, 0, 0, 0, 0, 0, 0, 0, 0, 0, 0] : List Int) 5 32768))] [1, 4, 6, 7, 10, 27, 28, 29, 40, 41, 42] [0, 1, 2, 4] (P := (_) ∧ (_) ∧ ((1 : Int) = 1) ∧ ((1 : Nat) < 4) ∧ ((4 : Nat) + 1 * 1 = 5) ∧ ((5 : Nat) + 1 ≤ (dI .i64 ([32768, 0, 0, 0, 0, 0, 0, 0, 0, 0, 0, 0, 0, 0, 0, 0] : List Int)).length) ∧ (updD (dI .i64 ([32768, 0, 0, 0, 0, 0, 0, 0, 0, 0, 0, 0, 0, 0, 0, 0] : List Int)) 5 [D.lit (.int .i64 32768)] = dI .i64 (List.set ([32768, 0, 0, 0, 0, 0, 0, 0, 0, 0, 0, 0, 0, 0, 0, 0] : List Int) 5 32768))) (l' := [(1, sV .i64 ([1, 2, 7, 8] : List Int) 4), (4, rV 0 0), (6, rV 2 0), (7, iV 1), (10, iV 32768), (27, sV .i64 ([1, 2, 7, 8] : List Int) 4), (28, iV 4), (29, iV 1), (40, oV 4 0 1 1), (41, iV 1), (42, iV 0)]) (g' := [(0, some (77, .ds [iD 0, iD 0, D.lit (.slice none 0 0)])), (1, some (3, .ds (dI .i64 (List.set ([32768, 0, 0, 0, 0, 0, 0, 0, 0, 0, 0, 0, 0, 0, 0, 0] : List Int) 5 32768)))), (2, some (77, .cs [iC 4, iC 4, .own 1 0 16 1 true])), (4, some (3, .ds [iD 2]))]) (nx' := 5) (by kernel_rfl) ⟨(Fun.cv (C_Index ([1, 2, 7, 8] : List Int) 4 2 rfl (by omega)) (y' := iV 1) (g1' := toG []) (by kernel_rfl) (by kernel_rfl)), (Fun.cv (M_rowo 4 4 1 (List.set ([0, 0, 0, 0, 0, 0, 0, 0, 0, 0, 0, 0, 0, 0, 0, 0] : List Int) 0 32768) 16 (by first | omega | with_reducible assumption | (simp <;> omega) | rfl | assumption) (by omega) (by omega) (by omega)) (y' := .e (.c (.own 0 4 4 1 false))) (g1' := toG [(0, some (3, .ds (dI .i64 ([32768, 0, 0, 0, 0, 0, 0, 0, 0, 0, 0, 0, 0, 0, 0, 0] : List Int))))]) (by kernel_rfl) (by kernel_rfl)), rfl, (by omega), (by omega), (by first | omega | (rw [dI_len]; omega) | (simp [dI_len] <;> omega) | rfl), (dI_set _ _ _ _)⟩ ?_
  refine AW.rg [.w, .no] [1, 4, 6, 7, 10, 27, 28, 29, 40, 41, 42] [0, 1, 2, 4] (P := ((-9223372036854775808) ≤ (1 : Int) ∧ (1 : Int) ≤ 9223372036854775807)) (l' := [(1, sV .i64 ([1, 2, 7, 8] : List Int) 4), (4, rV 0 0), (6, rV 2 0), (7, iV 1), (10, iV 32768), (27, sV .i64 ([1, 2, 7, 8] : List Int) 4), (28, iV 4), (29, iV 1), (40, oV 4 0 1 1), (41, iV 1), (42, iV 1)]) (g' := [(0, some (77, .ds [iD 0, iD 0, D.lit (.slice none 0 0)])), (1, some (3, .ds (dI .i64 (List.set ([32768, 0, 0, 0, 0, 0, 0, 0, 0, 0, 0, 0, 0, 0, 0, 0] : List Int) 5 32768)))), (2, some (77, .cs [iC 4, iC 4, .own 1 0 16 1 true])), (4, some (3, .ds [iD 2]))]) (nx' := 5) (by kernel_rfl) ⟨by omega, by omega⟩ ?_
  refine AWr.s ?_
  refine AW.rgs [.b false] [1, 4, 6, 7, 10, 27, 28, 29, 40, 41, 42, 43] [0, 1, 2, 4] (P := (¬ ((1 : Int) < 1))) (l' := [(1, sV .i64 ([1, 2, 7, 8] : List Int) 4), (4, rV 0 0), (6, rV 2 0), (7, iV 1), (10, iV 32768), (27, sV .i64 ([1, 2, 7, 8] : List Int) 4), (28, iV 4), (29, iV 1), (40, oV 4 0 1 1), (41, iV 1), (42, iV 1), (43, bV false)]) (g' := [(0, some (77, .ds [iD 0, iD 0, D.lit (.slice none 0 0)])), (1, some (3, .ds (dI .i64 (List.set ([32768, 0, 0, 0, 0, 0, 0, 0, 0, 0, 0, 0, 0, 0, 0, 0] : List Int) 5 32768)))), (2, some (77, .cs [iC 4, iC 4, .own 1 0 16 1 true])), (4, some (3, .ds [iD 2]))]) (nx' := 5) (by kernel_rfl) (by omega) ?_
  refine AW.seq ?_
  refine AW.cond_f (.tmp (Look.of rfl)) ?_
  refine AW.exit ?_
  refine AW.rg [.w, .no] [1, 4, 6, 27, 28, 29] [0, 1, 2] (P := ((-9223372036854775808) ≤ (2 : Int) ∧ (2 : Int) ≤ 9223372036854775807)) (l' := [(1, sV .i64 ([1, 2, 7, 8] : List Int) 4), (4, rV 0 0), (6, rV 2 0), (27, sV .i64 ([1, 2, 7, 8] : List Int) 4), (28, iV 4), (29, iV 2)]) (g' := [(0, some (77, .ds [iD 0, iD 0, D.lit (.slice none 0 0)])), (1, some (3, .ds (dI .i64 (List.set ([32768, 0, 0, 0, 0, 0, 0, 0, 0, 0, 0, 0, 0, 0, 0, 0] : List Int) 5 32768)))), (2, some (77, .cs [iC 4, iC 4, .own 1 0 16 1 true]))]) (nx' := 5) (by kernel_rfl) ⟨by omega, by omega⟩ ?_
  refine AWr.s ?_
  refine AW.rgs [.b true] [1, 4, 6, 27, 28, 29, 30] [0, 1, 2] (P := (((2 : Int) < 4))) (l' := [(1, sV .i64 ([1, 2, 7, 8] : List Int) 4), (4, rV 0 0), (6, rV 2 0), (27, sV .i64 ([1, 2, 7, 8] : List Int) 4), (28, iV 4), (29, iV 2), (30, bV true)]) (g' := [(0, some (77, .ds [iD 0, iD 0, D.lit (.slice none 0 0)])), (1, some (3, .ds (dI .i64 (List.set ([32768, 0, 0, 0, 0, 0, 0, 0, 0, 0, 0, 0, 0, 0, 0, 0] : List Int) 5 32768)))), (2, some (77, .cs [iC 4, iC 4, .own 1 0 16 1 true]))]) (nx' := 5) (by kernel_rfl) (by omega) ?_
  refine AW.seq ?_
  refine AW.cond_t (.tmp (Look.of rfl)) ?_
  refine AW.skip ?_
  refine AW.seq ?_
  refine AW.block ?_
  refine AW.rgs [.no, .n 2, .d (D.lit (.int .i64 7)), .no, .no] [1, 4, 6, 7, 8, 27, 28, 29] [0, 1, 2] (P := ((2 : Int) = 2) ∧ ((2 : Nat) < 4) ∧ ((List.drop 2 (dI .i64 ([1, 2, 7, 8] : List Int)))[0]? = some (D.lit (.int .i64 7)))) (l' := [(1, sV .i64 ([1, 2, 7, 8] : List Int) 4), (4, rV 0 0), (6, rV 2 0), (7, iV 2), (8, iV 7), (27, sV .i64 ([1, 2, 7, 8] : List Int) 4), (28, iV 4), (29, iV 2)]) (g' := [(0, some (77, .ds [iD 0, iD 0, D.lit (.slice none 0 0)])), (1, some (3, .ds (dI .i64 (List.set ([32768, 0, 0, 0, 0, 0, 0, 0, 0, 0, 0, 0, 0, 0, 0, 0] : List Int) 5 32768)))), (2, some (77, .cs [iC 4, iC 4, .own 1 0 16 1 true]))]) (nx' := 5) (by kernel_rfl) ⟨rfl, (by omega), (by rfl)⟩ ?_
  refine AW.rgs [.no, .no, .call [] (.tup [.c (.own 0 0 1 1 true), iE 32768]) [(0, some (3, .ds [iD 7]))] 1 [] none, .no, .no, .no, .no, .no] [1, 4, 6, 7, 9, 10, 27, 28, 29] [0, 1, 2, 5] (P := (_)) (l' := [(1, sV .i64 ([1, 2, 7, 8] : List Int) 4), (4, rV 0 0), (6, rV 2 0), (7, iV 2), (9, oV 5 0 1 1), (10, iV 32768), (27, sV .i64 ([1, 2, 7, 8] : List Int) 4), (28, iV 4), (29, iV 2)]) (g' := [(0, some (77, .ds [iD 0, iD 0, D.lit (.slice none 0 0)])), (1, some (3, .ds (dI .i64 (List.set ([32768, 0, 0, 0, 0, 0, 0, 0, 0, 0, 0, 0, 0, 0, 0, 0] : List Int) 5 32768)))), (2, some (77, .cs [iC 4, iC 4, .own 1 0 16 1 true])), (5, some (3, .ds [iD 7]))]) (nx' := 6) (by kernel_rfl) (M_goals_4_7) ?_
  refine AW.rgs [.no, .no, .no] [1, 4, 6, 7, 10, 27, 28, 29, 40, 41, 42] [0, 1, 2, 5] (P := True) (l' := [(1, sV .i64 ([1, 2, 7, 8] : List Int) 4), (4, rV 0 0), (6, rV 2 0), (7, iV 2), (10, iV 32768), (27, sV .i64 ([1, 2, 7, 8] : List Int) 4), (28, iV 4), (29, iV 2), (40, oV 5 0 1 1), (41, iV 1), (42, iV 0)]) (g' := [(0, some (77, .ds [iD 0, iD 0, D.lit (.slice none 0 0)])), (1, some (3, .ds (dI .i64 (List.set ([32768, 0, 0, 0, 0, 0, 0, 0, 0, 0, 0, 0, 0, 0, 0, 0] : List Int) 5 32768)))), (2, some (77, .cs [iC 4, iC 4, .own 1 0 16 1 true])), (5, some (3, .ds [iD 7]))]) (nx' := 6) (by kernel_rfl) trivial ?_
  refine AW.block ?_
  refine AW.rounds 2 ?_
  refine AWr.s ?_
  refine AW.rgs [.b true] [1, 4, 6, 7, 10, 27, 28, 29, 40, 41, 42, 43] [0, 1, 2, 5] (P := (((0 : Int) < 1))) (l' := [(1, sV .i64 ([1, 2, 7, 8] : List Int) 4), (4, rV 0 0), (6, rV 2 0), (7, iV 2), (10, iV 32768), (27, sV .i64 ([1, 2, 7, 8] : List Int) 4), (28, iV 4), (29, iV 2), (40, oV 5 0 1 1), (41, iV 1), (42, iV 0), (43, bV true)]) (g' := [(0, some (77, .ds [iD 0, iD 0, D.lit (.slice none 0 0)])), (1, some (3, .ds (dI .i64 (List.set ([32768, 0, 0, 0, 0, 0, 0, 0, 0, 0, 0, 0, 0, 0, 0, 0] : List Int) 5 32768)))), (2, some (77, .cs [iC 4, iC 4, .own 1 0 16 1 true])), (5, some (3, .ds [iD 7]))]) (nx' := 6) (by kernel_rfl) (by omega) ?_
  refine AW.seq ?_
  refine AW.cond_t (.tmp (Look.of rfl)) ?_
  refine AW.skip ?_
  refine AW.seq ?_
  refine AW.block ?_
  refine AW.rgs [.n2 0 0, .no, .no] [1, 4, 6, 7, 10, 12, 27, 28, 29, 40, 41, 42] [0, 1, 2, 5] (P := ((0 : Int) = 0) ∧ ((0 : Nat) < 1) ∧ ((0 : Nat) + 0 * 1 = 0)) (l' := [(1, sV .i64 ([1, 2, 7, 8] : List Int) 4), (4, rV 0 0), (6, rV 2 0), (7, iV 2), (10, iV 32768), (12, iV 7), (27, sV .i64 ([1, 2, 7, 8] : List Int) 4), (28, iV 4), (29, iV 2), (40, oV 5 0 1 1), (41, iV 1), (42, iV 0)]) (g' := [(0, some (77, .ds [iD 0, iD 0, D.lit (.slice none 0 0)])), (1, some (3, .ds (dI .i64 (List.set ([32768, 0, 0, 0, 0, 0, 0, 0, 0, 0, 0, 0, 0, 0, 0, 0] : List Int) 5 32768)))), (2, some (77, .cs [iC 4, iC 4, .own 1 0 16 1 true])), (5, some (3, .ds [iD 7]))]) (nx' := 6) (by kernel_rfl) ⟨rfl, (by omega), (by omega)⟩ ?_
  refine AW.rg [.no, .no, .no, .call [] (iV 2) [] 0 [] none, .call [1] (.e (.c (.own 0 8 4 1 false))) [(0, some (3, .ds (dI .i64 ([32768, 0, 0, 0, 0, 32768, 0, 0, 0, 0, 0, 0, 0, 0, 0, 0] : List Int))))] 1 [] none, .no, .no, .n2 2 10, .ds (dI .i64 (List.set ([32768, 0, 0, 0, 0, 32768, 0, 0, 0, 0, 0, 0, 0, 0, 0, 0] : List Int) 10 32768))] [1, 4, 6, 7, 10, 27, 28, 29, 40, 41, 42] [0, 1, 2, 5] (P := (_) ∧ (_) ∧ ((2 : Int) = 2) ∧ ((2 : Nat) < 4) ∧ ((8 : Nat) + 2 * 1 = 10) ∧ ((10 : Nat) + 1 ≤ (dI .i64 ([32768, 0, 0, 0, 0, 32768, 0, 0, 0, 0, 0, 0, 0, 0, 0, 0] : List Int)).length) ∧ (updD (dI .i64 ([32768, 0, 0, 0, 0, 32768, 0, 0, 0, 0, 0, 0, 0, 0, 0, 0] : List Int)) 10 [D.lit (.int .i64 32768)] = dI .i64 (List.set ([32768, 0, 0, 0, 0, 32768, 0, 0, 0, 0, 0, 0, 0, 0, 0, 0] : List Int) 10 32768))) (l' := [(1, sV .i64 ([1, 2, 7, 8] : List Int) 4), (4, rV 0 0), (6, rV 2 0), (7, iV 2), (10, iV 32768), (27, sV .i64 ([1, 2, 7, 8] : List Int) 4), (28, iV 4), (29, iV 2), (40, oV 5 0 1 1), (41, iV 1), (42, iV 0)]) (g' := [(0, some (77, .ds [iD 0, iD 0, D.lit (.slice none 0 0)])), (1, some (3, .ds (dI .i64 (List.set ([32768, 0, 0, 0, 0, 32768, 0, 0, 0, 0, 0, 0, 0, 0, 0, 0] : List Int) 10 32768)))), (2, some (77, .cs [iC 4, iC 4, .own 1 0 16 1 true])), (5, some (3, .ds [iD 7]))]) (nx' := 6) (by kernel_rfl) ⟨(Fun.cv (C_Index ([1, 2, 7, 8] : List Int) 4 7 rfl (by omega)) (y' := iV 2) (g1' := toG []) (by kernel_rfl) (by kernel_rfl)), (Fun.cv (M_rowo 4 4 2 (List.set ([32768, 0, 0, 0, 0, 0, 0, 0, 0, 0, 0, 0, 0, 0, 0, 0] : List Int) 5 32768) 16 (by first | omega | with_reducible assumption | (simp <;> omega) | rfl | assumption) (by omega) (by omega) (by omega)) (y' := .e (.c (.own 0 8 4 1 false))) (g1' := toG [(0, some (3, .ds (dI .i64 ([32768, 0, 0, 0, 0, 32768, 0, 0, 0, 0, 0, 0, 0, 0, 0, 0] : List Int))))]) (by kernel_rfl) (by kernel_rfl)), rfl, (by omega), (by omega), (by first | omega | (rw [dI_len]; omega) | (simp [dI_len] <;> omega) | rfl), (dI_set _ _ _ _)⟩ ?_
  refine AW.rg [.w, .no] [1, 4, 6, 7, 10, 27, 28, 29, 40, 41, 42] [0, 1, 2, 5] (P := ((-9223372036854775808) ≤ (1 : Int) ∧ (1 : Int) ≤ 9223372036854775807)) (l' := [(1, sV .i64 ([1, 2, 7, 8] : List Int) 4), (4, rV 0 0), (6, rV 2 0), (7, iV 2), (10, iV 32768), (27, sV .i64 ([1, 2, 7, 8] : List Int) 4), (28, iV 4), (29, iV 2), (40, oV 5 0 1 1), (41, iV 1), (42, iV 1)]) (g' := [(0, some (77, .ds [iD 0, iD 0, D.lit (.slice none 0 0)])), (1, some (3, .ds (dI .i64 (List.set ([32768, 0, 0, 0, 0, 32768, 0, 0, 0, 0, 0, 0, 0, 0, 0, 0] : List Int) 10 32768)))), (2, some (77, .cs [iC 4, iC 4, .own 1 0 16 1 true])), (5, some (3, .ds [iD 7]))]) (nx' := 6) (by kernel_rfl) ⟨by omega, by omega⟩ ?_
  refine AWr.s ?_
  refine AW.rgs [.b false] [1, 4, 6, 7, 10, 27, 28, 29, 40, 41, 42, 43] [0, 1, 2, 5] (P := (¬ ((1 : Int) < 1))) (l' := [(1, sV .i64 ([1, 2, 7, 8] : List Int) 4), (4, rV 0 0), (6, rV 2 0), (7, iV 2), (10, iV 32768), (27, sV .i64 ([1, 2, 7, 8] : List Int) 4), (28, iV 4), (29, iV 2), (40, oV 5 0 1 1), (41, iV 1), (42, iV 1), (43, bV false)]) (g' := [(0, some (77, .ds [iD 0, iD 0, D.lit (.slice none 0 0)])), (1, some (3, .ds (dI .i64 (List.set ([32768, 0, 0, 0, 0, 32768, 0, 0, 0, 0, 0, 0, 0, 0, 0, 0] : List Int) 10 32768)))), (2, some (77, .cs [iC 4, iC 4, .own 1 0 16 1 true])), (5, some (3, .ds [iD 7]))]) (nx' := 6) (by kernel_rfl) (by omega) ?_
  refine AW.seq ?_
  refine AW.cond_f (.tmp (Look.of rfl)) ?_
  refine AW.exit ?_
  refine AW.rg [.w, .no] [1, 4, 6, 27, 28, 29] [0, 1, 2] (P := ((-9223372036854775808) ≤ (3 : Int) ∧ (3 : Int) ≤ 9223372036854775807)) (l' := [(1, sV .i64 ([1, 2, 7, 8] : List Int) 4), (4, rV 0 0), (6, rV 2 0), (27, sV .i64 ([1, 2, 7, 8] : List Int) 4), (28, iV 4), (29, iV 3)]) (g' := [(0, some (77, .ds [iD 0, iD 0, D.lit (.slice none 0 0)])), (1, some (3, .ds (dI .i64 (List.set ([32768, 0, 0, 0, 0, 32768, 0, 0, 0, 0, 0, 0, 0, 0, 0, 0] : List Int) 10 32768)))), (2, some (77, .cs [iC 4, iC 4, .own 1 0 16 1 true]))]) (nx' := 6) (by kernel_rfl) ⟨by omega, by omega⟩ ?_
  refine AWr.s ?_
  refine AW.rgs [.b true] [1, 4, 6, 27, 28, 29, 30] [0, 1, 2] (P := (((3 : Int) < 4))) (l' := [(1, sV .i64 ([1, 2, 7, 8] : List Int) 4), (4, rV 0 0), (6, rV 2 0), (27, sV .i64 ([1, 2, 7, 8] : List Int) 4), (28, iV 4), (29, iV 3), (30, bV true)]) (g' := [(0, some (77, .ds [iD 0, iD 0, D.lit (.slice none 0 0)])), (1, some (3, .ds (dI .i64 (List.set ([32768, 0, 0, 0, 0, 32768, 0, 0, 0, 0, 0, 0, 0, 0, 0, 0] : List Int) 10 32768)))), (2, some (77, .cs [iC 4, iC 4, .own 1 0 16 1 true]))]) (nx' := 6) (by kernel_rfl) (by omega) ?_
  refine AW.seq ?_
  refine AW.cond_t (.tmp (Look.of rfl)) ?_
  refine AW.skip ?_
  refine AW.seq ?_
  refine AW.block ?_
  refine AW.rgs [.no, .n 3, .d (D.lit (.int .i64 8)), .no, .no] [1, 4, 6, 7, 8, 27, 28, 29] [0, 1, 2] (P := ((3 : Int) = 3) ∧ ((3 : Nat) < 4) ∧ ((List.drop 3 (dI .i64 ([1, 2, 7, 8] : List Int)))[0]? = some (D.lit (.int .i64 8)))) (l' := [(1, sV .i64 ([1, 2, 7, 8] : List Int) 4), (4, rV 0 0), (6, rV 2 0), (7, iV 3), (8, iV 8), (27, sV .i64 ([1, 2, 7, 8] : List Int) 4), (28, iV 4), (29, iV 3)]) (g' := [(0, some (77, .ds [iD 0, iD 0, D.lit (.slice none 0 0)])), (1, some (3, .ds (dI .i64 (List.set ([32768, 0, 0, 0, 0, 32768, 0, 0, 0, 0, 0, 0, 0, 0, 0, 0] : List Int) 10 32768)))), (2, some (77, .cs [iC 4, iC 4, .own 1 0 16 1 true]))]) (nx' := 6) (by kernel_rfl) ⟨rfl, (by omega), (by rfl)⟩ ?_
  refine AW.rgs [.no, .no, .call [] (.tup [.c (.own 0 0 1 1 true), iE 32768]) [(0, some (3, .ds [iD 8]))] 1 [] none, .no, .no, .no, .no, .no] [1, 4, 6, 7, 9, 10, 27, 28, 29] [0, 1, 2, 6] (P := (_)) (l' := [(1, sV .i64 ([1, 2, 7, 8] : List Int) 4), (4, rV 0 0), (6, rV 2 0), (7, iV 3), (9, oV 6 0 1 1), (10, iV 32768), (27, sV .i64 ([1, 2, 7, 8] : List Int) 4), (28, iV 4), (29, iV 3)]) (g' := [(0, some (77, .ds [iD 0, iD 0, D.lit (.slice none 0 0)])), (1, some (3, .ds (dI .i64 (List.set ([32768, 0, 0, 0, 0, 32768, 0, 0, 0, 0, 0, 0, 0, 0, 0, 0] : List Int) 10 32768)))), (2, some (77, .cs [iC 4, iC 4, .own 1 0 16 1 true])), (6, some (3, .ds [iD 8]))]) (nx' := 7) (by kernel_rfl) (M_goals_4_8) ?_
  refine AW.rgs [.no, .no, .no] [1, 4, 6, 7, 10, 27, 28, 29, 40, 41, 42] [0, 1, 2, 6] (P := True) (l' := [(1, sV .i64 ([1, 2, 7, 8] : List Int) 4), (4, rV 0 0), (6, rV 2 0), (7, iV 3), (10, iV 32768), (27, sV .i64 ([1, 2, 7, 8] : List Int) 4), (28, iV 4), (29, iV 3), (40, oV 6 0 1 1), (41, iV 1), (42, iV 0)]) (g' := [(0, some (77, .ds [iD 0, iD 0, D.lit (.slice none 0 0)])), (1, some (3, .ds (dI .i64 (List.set ([32768, 0, 0, 0, 0, 32768, 0, 0, 0, 0, 0, 0, 0, 0, 0, 0] : List Int) 10 32768)))), (2, some (77, .cs [iC 4, iC 4, .own 1 0 16 1 true])), (6, some (3, .ds [iD 8]))]) (nx' := 7) (by kernel_rfl) trivial ?_
  refine AW.block ?_
  refine AW.rounds 2 ?_
  refine AWr.s ?_
  refine AW.rgs [.b true] [1, 4, 6, 7, 10, 27, 28, 29, 40, 41, 42, 43] [0, 1, 2, 6] (P := (((0 : Int) < 1))) (l' := [(1, sV .i64 ([1, 2, 7, 8] : List Int) 4), (4, rV 0 0), (6, rV 2 0), (7, iV 3), (10, iV 32768), (27, sV .i64 ([1, 2, 7, 8] : List Int) 4), (28, iV 4), (29, iV 3), (40, oV 6 0 1 1), (41, iV 1), (42, iV 0), (43, bV true)]) (g' := [(0, some (77, .ds [iD 0, iD 0, D.lit (.slice none 0 0)])), (1, some (3, .ds (dI .i64 (List.set ([32768, 0, 0, 0, 0, 32768, 0, 0, 0, 0, 0, 0, 0, 0, 0, 0] : List Int) 10 32768)))), (2, some (77, .cs [iC 4, iC 4, .own 1 0 16 1 true])), (6, some (3, .ds [iD 8]))]) (nx' := 7) (by kernel_rfl) (by omega) ?_
  refine AW.seq ?_
  refine AW.cond_t (.tmp (Look.of rfl)) ?_
  refine AW.skip ?_
  refine AW.seq ?_
  refine AW.block ?_
  refine AW.rgs [.n2 0 0, .no, .no] [1, 4, 6, 7, 10, 12, 27, 28, 29, 40, 41, 42] [0, 1, 2, 6] (P := ((0 : Int) = 0) ∧ ((0 : Nat) < 1) ∧ ((0 : Nat) + 0 * 1 = 0)) (l' := [(1, sV .i64 ([1, 2, 7, 8] : List Int) 4), (4, rV 0 0), (6, rV 2 0), (7, iV 3), (10, iV 32768), (12, iV 8), (27, sV .i64 ([1, 2, 7, 8] : List Int) 4), (28, iV 4), (29, iV 3), (40, oV 6 0 1 1), (41, iV 1), (42, iV 0)]) (g' := [(0, some (77, .ds [iD 0, iD 0, D.lit (.slice none 0 0)])), (1, some (3, .ds (dI .i64 (List.set ([32768, 0, 0, 0, 0, 32768, 0, 0, 0, 0, 0, 0, 0, 0, 0, 0] : List Int) 10 32768)))), (2, some (77, .cs [iC 4, iC 4, .own 1 0 16 1 true])), (6, some (3, .ds [iD 8]))]) (nx' := 7) (by kernel_rfl) ⟨rfl, (by omega), (by omega)⟩ ?_
  refine AW.rg [.no, .no, .no, .call [] (iV 3) [] 0 [] none, .call [1] (.e (.c (.own 0 12 4 1 false))) [(0, some (3, .ds (dI .i64 ([32768, 0, 0, 0, 0, 32768, 0, 0, 0, 0, 32768, 0, 0, 0, 0, 0] : List Int))))] 1 [] none, .no, .no, .n2 3 15, .ds (dI .i64 (List.set ([32768, 0, 0, 0, 0, 32768, 0, 0, 0, 0, 32768, 0, 0, 0, 0, 0] : List Int) 15 32768))] [1, 4, 6, 7, 10, 27, 28, 29, 40, 41, 42] [0, 1, 2, 6] (P := (_) ∧ (_) ∧ ((3 : Int) = 3) ∧ ((3 : Nat) < 4) ∧ ((12 : Nat) + 3 * 1 = 15) ∧ ((15 : Nat) + 1 ≤ (dI .i64 ([32768, 0, 0, 0, 0, 32768, 0, 0, 0, 0, 32768, 0, 0, 0, 0, 0] : List Int)).length) ∧ (updD (dI .i64 ([32768, 0, 0, 0, 0, 32768, 0, 0, 0, 0, 32768, 0, 0, 0, 0, 0] : List Int)) 15 [D.lit (.int .i64 32768)] = dI .i64 (List.set ([32768, 0, 0, 0, 0, 32768, 0, 0, 0, 0, 32768, 0, 0, 0, 0, 0] : List Int) 15 32768))) (l' := [(1, sV .i64 ([1, 2, 7, 8] : List Int) 4), (4, rV 0 0), (6, rV 2 0), (7, iV 3), (10, iV 32768), (27, sV .i64 ([1, 2, 7, 8] : List Int) 4), (28, iV 4), (29, iV 3), (40, oV 6 0 1 1), (41, iV 1), (42, iV 0)]) (g' := [(0, some (77, .ds [iD 0, iD 0, D.lit (.slice none 0 0)])), (1, some (3, .ds (dI .i64 (List.set ([32768, 0, 0, 0, 0, 32768, 0, 0, 0, 0, 32768, 0, 0, 0, 0, 0] : List Int) 15 32768)))), (2, some (77, .cs [iC 4, iC 4, .own 1 0 16 1 true])), (6, some (3, .ds [iD 8]))]) (nx' := 7) (by kernel_rfl) ⟨(Fun.cv (C_Index ([1, 2, 7, 8] : List Int) 4 8 rfl (by omega)) (y' := iV 3) (g1' := toG []) (by kernel_rfl) (by kernel_rfl)), (Fun.cv (M_rowo 4 4 3 (List.set ([32768, 0, 0, 0, 0, 32768, 0, 0, 0, 0, 0, 0, 0, 0, 0, 0] : List Int) 10 32768) 16 (by first | omega | with_reducible assumption | (simp <;> omega) | rfl | assumption) (by omega) (by omega) (by omega)) (y' := .e (.c (.own 0 12 4 1 false))) (g1' := toG [(0, some (3, .ds (dI .i64 ([32768, 0, 0, 0, 0, 32768, 0, 0, 0, 0, 32768, 0, 0, 0, 0, 0] : List Int))))]) (by kernel_rfl) (by kernel_rfl)), rfl, (by omega), (by omega), (by first | omega | (rw [dI_len]; omega) | (simp [dI_len] <;> omega) | rfl), (dI_set _ _ _ _)⟩ ?_
  refine AW.rg [.w, .no] [1, 4, 6, 7, 10, 27, 28, 29, 40, 41, 42] [0, 1, 2, 6] (P := ((-9223372036854775808) ≤ (1 : Int) ∧ (1 : Int) ≤ 9223372036854775807)) (l' := [(1, sV .i64 ([1, 2, 7, 8] : List Int) 4), (4, rV 0 0), (6, rV 2 0), (7, iV 3), (10, iV 32768), (27, sV .i64 ([1, 2, 7, 8] : List Int) 4), (28, iV 4), (29, iV 3), (40, oV 6 0 1 1), (41, iV 1), (42, iV 1)]) (g' := [(0, some (77, .ds [iD 0, iD 0, D.lit (.slice none 0 0)])), (1, some (3, .ds (dI .i64 (List.set ([32768, 0, 0, 0, 0, 32768, 0, 0, 0, 0, 32768, 0, 0, 0, 0, 0] : List Int) 15 32768)))), (2, some (77, .cs [iC 4, iC 4, .own 1 0 16 1 true])), (6, some (3, .ds [iD 8]))]) (nx' := 7) (by kernel_rfl) ⟨by omega, by omega⟩ ?_
  refine AWr.s ?_
  refine AW.rgs [.b false] [1, 4, 6, 7, 10, 27, 28, 29, 40, 41, 42, 43] [0, 1, 2, 6] (P := (¬ ((1 : Int) < 1))) (l' := [(1, sV .i64 ([1, 2, 7, 8] : List Int) 4), (4, rV 0 0), (6, rV 2 0), (7, iV 3), (10, iV 32768), (27, sV .i64 ([1, 2, 7, 8] : List Int) 4), (28, iV 4), (29, iV 3), (40, oV 6 0 1 1), (41, iV 1), (42, iV 1), (43, bV false)]) (g' := [(0, some (77, .ds [iD 0, iD 0, D.lit (.slice none 0 0)])), (1, some (3, .ds (dI .i64 (List.set ([32768, 0, 0, 0, 0, 32768, 0, 0, 0, 0, 32768, 0, 0, 0, 0, 0] : List Int) 15 32768)))), (2, some (77, .cs [iC 4, iC 4, .own 1 0 16 1 true])), (6, some (3, .ds [iD 8]))]) (nx' := 7) (by kernel_rfl) (by omega) ?_
  refine AW.seq ?_
  refine AW.cond_f (.tmp (Look.of rfl)) ?_
  refine AW.exit ?_
  refine AW.rg [.w, .no] [1, 4, 6, 27, 28, 29] [0, 1, 2] (P := ((-9223372036854775808) ≤ (4 : Int) ∧ (4 : Int) ≤ 9223372036854775807)) (l' := [(1, sV .i64 ([1, 2, 7, 8] : List Int) 4), (4, rV 0 0), (6, rV 2 0), (27, sV .i64 ([1, 2, 7, 8] : List Int) 4), (28, iV 4), (29, iV 4)]) (g' := [(0, some (77, .ds [iD 0, iD 0, D.lit (.slice none 0 0)])), (1, some (3, .ds (dI .i64 (List.set ([32768, 0, 0, 0, 0, 32768, 0, 0, 0, 0, 32768, 0, 0, 0, 0, 0] : List Int) 15 32768)))), (2, some (77, .cs [iC 4, iC 4, .own 1 0 16 1 true]))]) (nx' := 7) (by kernel_rfl) ⟨by omega, by omega⟩ ?_
  refine AWr.s ?_
  refine AW.rgs [.b false] [1, 4, 6, 27, 28, 29, 30] [0, 1, 2] (P := (¬ ((4 : Int) < 4))) (l' := [(1, sV .i64 ([1, 2, 7, 8] : List Int) 4), (4, rV 0 0), (6, rV 2 0), (27, sV .i64 ([1, 2, 7, 8] : List Int) 4), (28, iV 4), (29, iV 4), (30, bV false)]) (g' := [(0, some (77, .ds [iD 0, iD 0, D.lit (.slice none 0 0)])), (1, some (3, .ds (dI .i64 (List.set ([32768, 0, 0, 0, 0, 32768, 0, 0, 0, 0, 32768, 0, 0, 0, 0, 0] : List Int) 15 32768)))), (2, some (77, .cs [iC 4, iC 4, .own 1 0 16 1 true]))]) (nx' := 7) (by kernel_rfl) (by omega) ?_
  refine AW.seq ?_
  refine AW.cond_f (.tmp (Look.of rfl)) ?_
  refine AW.exit ?_
  refine AW.rgs [.no, .no, .no] [4, 5] [0, 1] (P := True) (l' := [(4, rV 0 0), (5, iV 0)]) (g' := [(0, some (77, .cs [iC 4, iC 4, .own 1 0 16 1 true])), (1, some (3, .ds (dI .i64 (List.set ([32768, 0, 0, 0, 0, 32768, 0, 0, 0, 0, 32768, 0, 0, 0, 0, 0] : List Int) 15 32768))))]) (nx' := 7) (by kernel_rfl) trivial ?_
  refine AW.ret ?_
  exact EndP.of (.inr rfl) [(0, 1)] (P := ((4 : Int) = 4) ∧ ((4 : Int) = 4) ∧ ((0 : Nat) = 0) ∧ ((16 : Nat) = 16) ∧ ((0 : Int) = 0) ∧ (((dI .i64 ([32768, 0, 0, 0, 0, 32768, 0, 0, 0, 0, 32768, 0, 0, 0, 0, 32768] : List Int)) : List D) = (dI .i64 (List.set ([32768, 0, 0, 0, 0, 32768, 0, 0, 0, 0, 32768, 0, 0, 0, 0, 0] : List Int) 15 32768)))) (by kernel_rfl) ⟨rfl, rfl, rfl, rfl, rfl, (by rfl)⟩

set_option maxHeartbeats 4000000 in
set_option maxRecDepth 100000 in
theorem M_Default_m5   : Fun 68 [.c (.d (D.sl (dI .i64 ([4] : List Int)) 1)), .c (.d (D.sl (dI .i64 ([4] : List Int)) 1))] (toG []) 0 (.tup [.agg [iC 1, iC 1, .own 0 0 1 1 true], iE 0]) (toG [(0, some (3, .ds (dI .i64 ([32768] : List Int))))]) 1 := by
  refine Fun.mk (n := 57) Try.func68 rfl rfl (Nat.le_of_ble_eq_true rfl) ?_
  intro cx hcx
  refine AW.rgs [.no, .no] [0, 1, 4] [0] (P := True) (l' := [(0, sV .i64 ([4] : List Int) 1), (1, sV .i64 ([4] : List Int) 1), (4, rV 0 0)]) (g' := [(0, some (77, .ds [iD 0, iD 0, D.lit (.slice none 0 0)]))]) (nx' := 1) (by kernel_rfl) trivial ?_
  refine AW.seq ?_
  refine AW.rgs [.no, .call [] (bV true) [] 0 [] none, .no, .no, .no, .call [] (bV true) [] 0 [] none, .no, .no] [0, 1, 4, 20] [0] (P := (_) ∧ (_)) (l' := [(0, sV .i64 ([4] : List Int) 1), (1, sV .i64 ([4] : List Int) 1), (4, rV 0 0), (20, bV false)]) (g' := [(0, some (77, .ds [iD 0, iD 0, D.lit (.slice none 0 0)]))]) (nx' := 1) (by kernel_rfl) ⟨(C_Valid_m5), (C_Valid_m5)⟩ ?_
  refine AW.cond_f (.tmp (Look.of rfl)) ?_
  refine AW.skip ?_
  refine AW.rgs [.no, .no, .no, .no, .call [] (.e (.agg [iC 1, iC 1, .own 0 0 1 1 true])) [(0, some (3, .ds (dI .i64 ([0] : List Int))))] 1 [] none, .no, .no] [0, 1, 4, 6] [0, 1, 2] (P := (_)) (l' := [(0, sV .i64 ([4] : List Int) 1), (1, sV .i64 ([4] : List Int) 1), (4, rV 0 0), (6, rV 2 0)]) (g' := [(0, some (77, .ds [iD 0, iD 0, D.lit (.slice none 0 0)])), (1, some (3, .ds (dI .i64 ([0] : List Int)))), (2, some (77, .cs [iC 1, iC 1, .own 1 0 1 1 true]))]) (nx' := 3) (by kernel_rfl) (Fun.cv (M_zero 1 1 (by omega) (by omega)) (y' := .e (.agg [iC 1, iC 1, .own 0 0 1 1 true])) (g1' := toG [(0, some (3, .ds (dI .i64 ([0] : List Int))))]) (by kernel_rfl) (by kernel_rfl)) ?_
  refine AW.seq ?_
  refine AW.rgs [.no, .no, .no] [1, 4, 6, 27, 28, 29] [0, 1, 2] (P := True) (l' := [(1, sV .i64 ([4] : List Int) 1), (4, rV 0 0), (6, rV 2 0), (27, sV .i64 ([4] : List Int) 1), (28, iV 1), (29, iV 0)]) (g' := [(0, some (77, .ds [iD 0, iD 0, D.lit (.slice none 0 0)])), (1, some (3, .ds (dI .i64 ([0] : List Int)))), (2, some (77, .cs [iC 1, iC 1, .own 1 0 1 1 true]))]) (nx' := 3) (by kernel_rfl) trivial ?_
  refine AW.block ?_
  refine AW.rounds 2 ?_
  refine AWr.s ?_
  refine AW.rgs [.b true] [1, 4, 6, 27, 28, 29, 30] [0, 1, 2] (P := (((0 : Int) < 1))) (l' := [(1, sV .i64 ([4] : List Int) 1), (4, rV 0 0), (6, rV 2 0), (27, sV .i64 ([4] : List Int) 1), (28, iV 1), (29, iV 0), (30, bV true)]) (g' := [(0, some (77, .ds [iD 0, iD 0, D.lit (.slice none 0 0)])), (1, some (3, .ds (dI .i64 ([0] : List Int)))), (2, some (77, .cs [iC 1, iC 1, .own 1 0 1 1 true]))]) (nx' := 3) (by kernel_rfl) (by omega) ?_
  refine AW.seq ?_
  refine AW.cond_t (.tmp (Look.of rfl)) ?_
  refine AW.skip ?_
  refine AW.seq ?_
  refine AW.block ?_
  refine AW.rgs [.no, .n 0, .d (D.lit (.int .i64 4)), .no, .no] [1, 4, 6, 7, 8, 27, 28, 29] [0, 1, 2] (P := ((0 : Int) = 0) ∧ ((0 : Nat) < 1) ∧ ((List.drop 0 (dI .i64 ([4] : List Int)))[0]? = some (D.lit (.int .i64 4)))) (l' := [(1, sV .i64 ([4] : List Int) 1), (4, rV 0 0), (6, rV 2 0), (7, iV 0), (8, iV 4), (27, sV .i64 ([4] : List Int) 1), (28, iV 1), (29, iV 0)]) (g' := [(0, some (77, .ds [iD 0, iD 0, D.lit (.slice none 0 0)])), (1, some (3, .ds (dI .i64 ([0] : List Int)))), (2, some (77, .cs [iC 1, iC 1, .own 1 0 1 1 true]))]) (nx' := 3) (by kernel_rfl) ⟨rfl, (by omega), (by rfl)⟩ ?_
  refine AW.rgs [.no, .no, .call [] (.tup [.c (.own 0 0 1 1 true), iE 32768]) [(0, some (3, .ds [iD 4]))] 1 [] none, .no, .no, .no, .no, .no] [1, 4, 6, 7, 9, 10, 27, 28, 29] [0, 1, 2, 3] (P := (_)) (l' := [(1, sV .i64 ([4] : List Int) 1), (4, rV 0 0), (6, rV 2 0), (7, iV 0), (9, oV 3 0 1 1), (10, iV 32768), (27, sV .i64 ([4] : List Int) 1), (28, iV 1), (29, iV 0)]) (g' := [(0, some (77, .ds [iD 0, iD 0, D.lit (.slice none 0 0)])), (1, some (3, .ds (dI .i64 ([0] : List Int)))), (2, some (77, .cs [iC 1, iC 1, .own 1 0 1 1 true])), (3, some (3, .ds [iD 4]))]) (nx' := 4) (by kernel_rfl) (M_goals_5_4) ?_
  refine AW.rgs [.no, .no, .no] [1, 4, 6, 7, 10, 27, 28, 29, 40, 41, 42] [0, 1, 2, 3] (P := True) (l' := [(1, sV .i64 ([4] : List Int) 1), (4, rV 0 0), (6, rV 2 0), (7, iV 0), (10, iV 32768), (27, sV .i64 ([4] : List Int) 1), (28, iV 1), (29, iV 0), (40, oV 3 0 1 1), (41, iV 1), (42, iV 0)]) (g' := [(0, some (77, .ds [iD 0, iD 0, D.lit (.slice none 0 0)])), (1, some (3, .ds (dI .i64 ([0] : List Int)))), (2, some (77, .cs [iC 1, iC 1, .own 1 0 1 1 true])), (3, some (3, .ds [iD 4]))]) (nx' := 4) (by kernel_rfl) trivial ?_
  refine AW.block ?_
  refine AW.rounds 2 ?_
  refine AWr.s ?_
  refine AW.rgs [.b true] [1, 4, 6, 7, 10, 27, 28, 29, 40, 41, 42, 43] [0, 1, 2, 3] (P := (((0 : Int) < 1))) (l' := [(1, sV .i64 ([4] : List Int) 1), (4, rV 0 0), (6, rV 2 0), (7, iV 0), (10, iV 32768), (27, sV .i64 ([4] : List Int) 1), (28, iV 1), (29, iV 0), (40, oV 3 0 1 1), (41, iV 1), (42, iV 0), (43, bV true)]) (g' := [(0, some (77, .ds [iD 0, iD 0, D.lit (.slice none 0 0)])), (1, some (3, .ds (dI .i64 ([0] : List Int)))), (2, some (77, .cs [iC 1, iC 1, .own 1 0 1 1 true])), (3, some (3, .ds [iD 4]))]) (nx' := 4) (by kernel_rfl) (by omega) ?_
  refine AW.seq ?_
  refine AW.cond_t (.tmp (Look.of rfl)) ?_
  refine AW.skip ?_
  refine AW.seq ?_
  refine AW.block ?_
  refine AW.rgs [.n2 0 0, .no, .no] [1, 4, 6, 7, 10, 12, 27, 28, 29, 40, 41, 42] [0, 1, 2, 3] (P := ((0 : Int) = 0) ∧ ((0 : Nat) < 1) ∧ ((0 : Nat) + 0 * 1 = 0)) (l' := [(1, sV .i64 ([4] : List Int) 1), (4, rV 0 0), (6, rV 2 0), (7, iV 0), (10, iV 32768), (12, iV 4), (27, sV .i64 ([4] : List Int) 1), (28, iV 1), (29, iV 0), (40, oV 3 0 1 1), (41, iV 1), (42, iV 0)]) (g' := [(0, some (77, .ds [iD 0, iD 0, D.lit (.slice none 0 0)])), (1, some (3, .ds (dI .i64 ([0] : List Int)))), (2, some (77, .cs [iC 1, iC 1, .own 1 0 1 1 true])), (3, some (3, .ds [iD 4]))]) (nx' := 4) (by kernel_rfl) ⟨rfl, (by omega), (by omega)⟩ ?_
  refine AW.rg [.no, .no, .no, .call [] (iV 0) [] 0 [] none, .call [1] (.e (.c (.own 0 0 1 1 false))) [(0, some (3, .ds (dI .i64 ([0] : List Int))))] 1 [] none, .no, .no, .n2 0 0, .ds (dI .i64 (List.set ([0] : List Int) 0 32768))] [1, 4, 6, 7, 10, 27, 28, 29, 40, 41, 42] [0, 1, 2, 3] (P := (_) ∧ (_) ∧ ((0 : Int) = 0) ∧ ((0 : Nat) < 1) ∧ ((0 : Nat) + 0 * 1 = 0) ∧ ((0 : Nat) + 1 ≤ (dI .i64 ([0] : List Int)).length) ∧ (updD (dI .i64 ([0] : List Int)) 0 [D.lit (.int .i64 32768)] = dI .i64 (List.set ([0] : List Int) 0 32768))) (l' := [(1, sV .i64 ([4] : List Int) 1), (4, rV 0 0), (6, rV 2 0), (7, iV 0), (10, iV 32768), (27, sV .i64 ([4] : List Int) 1), (28, iV 1), (29, iV 0), (40, oV 3 0 1 1), (41, iV 1), (42, iV 0)]) (g' := [(0, some (77, .ds [iD 0, iD 0, D.lit (.slice none 0 0)])), (1, some (3, .ds (dI .i64 (List.set ([0] : List Int) 0 32768)))), (2, some (77, .cs [iC 1, iC 1, .own 1 0 1 1 true])), (3, some (3, .ds [iD 4]))]) (nx' := 4) (by kernel_rfl) ⟨(Fun.cv (C_Index ([4] : List Int) 1 4 rfl (by omega)) (y' := iV 0) (g1' := toG []) (by kernel_rfl) (by kernel_rfl)), (M_rowo 1 1 0 ([0] : List Int) 1 rfl (by omega) (by omega) (by omega)), rfl, (by omega), (by omega), (by first | omega | (rw [dI_len]; omega) | (simp [dI_len] <;> omega) | rfl), (dI_set _ _ _ _)⟩ ?_
  refine AW.rg [.w, .no] [1, 4, 6, 7, 10, 27, 28, 29, 40, 41, 42] [0, 1, 2, 3] (P := ((-9223372036854775808) ≤ (1 : Int) ∧ (1 : Int) ≤ 9223372036854775807)) (l' := [(1, sV .i64 ([4] : List Int) 1), (4, rV 0 0), (6, rV 2 0), (7, iV 0), (10, iV 32768), (27, sV .i64 ([4] : List Int) 1), (28, iV 1), (29, iV 0), (40, oV 3 0 1 1), (41, iV 1), (42, iV 1)]) (g' := [(0, some (77, .ds [iD 0, iD 0, D.lit (.slice none 0 0)])), (1, some (3, .ds (dI .i64 (List.set ([0] : List Int) 0 32768)))), (2, some (77, .cs [iC 1, iC 1, .own 1 0 1 1 true])), (3, some (3, .ds [iD 4]))]) (nx' := 4) (by kernel_rfl) ⟨by omega, by omega⟩ ?_
  refine AWr.s ?_
  refine AW.rgs [.b false] [1, 4, 6, 7, 10, 27, 28, 29, 40, 41, 42, 43] [0, 1, 2, 3] (P := (¬ ((1 : Int) < 1))) (l' := [(1, sV .i64 ([4] : List Int) 1), (4, rV 0 0), (6, rV 2 0), (7, iV 0), (10, iV 32768), (27, sV .i64 ([4] : List Int) 1), (28, iV 1), (29, iV 0), (40, oV 3 0 1 1), (41, iV 1), (42, iV 1), (43, bV false)]) (g' := [(0, some (77, .ds [iD 0, iD 0, D.lit (.slice none 0 0)])), (1, some (3, .ds (dI .i64 (List.set ([0] : List Int) 0 32768)))), (2, some (77, .cs [iC 1, iC 1, .own 1 0 1 1 true])), (3, some (3, .ds [iD 4]))]) (nx' := 4) (by kernel_rfl) (by omega) ?_
  refine AW.seq ?_
  refine AW.cond_f (.tmp (Look.of rfl)) ?_
  refine AW.exit ?_
  refine AW.rg [.w, .no] [1, 4, 6, 27, 28, 29] [0, 1, 2] (P := ((-9223372036854775808) ≤ (1 : Int) ∧ (1 : Int) ≤ 9223372036854775807)) (l' := [(1, sV .i64 ([4] : List Int) 1), (4, rV 0 0), (6, rV 2 0), (27, sV .i64 ([4] : List Int) 1), (28, iV 1), (29, iV 1)]) (g' := [(0, some (77, .ds [iD 0, iD 0, D.lit (.slice none 0 0)])), (1, some (3, .ds (dI .i64 (List.set ([0] : List Int) 0 32768)))), (2, some (77, .cs [iC 1, iC 1, .own 1 0 1 1 true]))]) (nx' := 4) (by kernel_rfl) ⟨by omega, by omega⟩ ?_
  refine AWr.s ?_
  refine AW.rgs [.b false] [1, 4, 6, 27, 28, 29, 30] [0, 1, 2] (P := (¬ ((1 : Int) < 1))) (l' := [(1, sV .i64 ([4] : List Int) 1), (4, rV 0 0), (6, rV 2 0), (27, sV .i64 ([4] : List Int) 1), (28, iV 1), (29, iV 1), (30, bV false)]) (g' := [(0, some (77, .ds [iD 0, iD 0, D.lit (.slice none 0 0)])), (1, some (3, .ds (dI .i64 (List.set ([0] : List Int) 0 32768)))), (2, some (77, .cs [iC 1, iC 1, .own 1 0 1 1 true]))]) (nx' := 4) (by kernel_rfl) (by omega) ?_
  refine AW.seq ?_
  refine AW.cond_f (.tmp (Look.of rfl)) ?_
  refine AW.exit ?_
  refine AW.rgs [.no, .no, .no] [4, 5] [0, 1] (P := True) (l' := [(4, rV 0 0), (5, iV 0)]) (g' := [(0, some (77, .cs [iC 1, iC 1, .own 1 0 1 1 true])), (1, some (3, .ds (dI .i64 (List.set ([0] : List Int) 0 32768))))]) (nx' := 4) (by kernel_rfl) trivial ?_
  refine AW.ret ?_
  exact EndP.of (.inr rfl) [(0, 1)] (P := ((1 : Int) = 1) ∧ ((1 : Int) = 1) ∧ ((0 : Nat) = 0) ∧ ((1 : Nat) = 1) ∧ ((0 : Int) = 0) ∧ (((dI .i64 ([32768] : List Int)) : List D) = (dI .i64 (List.set ([0] : List Int) 0 32768)))) (by kernel_rfl) ⟨rfl, rfl, rfl, rfl, rfl, (by rfl)⟩

set_option maxHeartbeats 4000000 in
set_option maxRecDepth 100000 in
theorem M_Default_m6   : Fun 68 [.c (.d (D.sl (dI .i64 ([1, 3] : List Int)) 2)), .c (.d (D.sl (dI .i64 ([1, 3] : List Int)) 2))] (toG []) 0 (.tup [.agg [iC 2, iC 2, .own 0 0 4 1 true], iE 0]) (toG [(0, some (3, .ds (dI .i64 ([32768, 0, 0, 32768] : List Int))))]) 1 := by
  refine Fun.mk (n := 57) Try.func68 rfl rfl (Nat.le_of_ble_eq_true rfl) ?_
  intro cx hcx
  refine AW.rgs [.no, .no] [0, 1, 4] [0] (P := True) (l' := [(0, sV .i64 ([1, 3] : List Int) 2), (1, sV .i64 ([1, 3] : List Int) 2), (4, rV 0 0)]) (g' := [(0, some (77, .ds [iD 0, iD 0, D.lit (.slice none 0 0)]))]) (nx' := 1) (by kernel_rfl) trivial ?_
  refine AW.seq ?_
  refine AW.rgs [.no, .call [] (bV true) [] 0 [] none, .no, .no, .no, .call [] (bV true) [] 0 [] none, .no, .no] [0, 1, 4, 20] [0] (P := (_) ∧ (_)) (l' := [(0, sV .i64 ([1, 3] : List Int) 2), (1, sV .i64 ([1, 3] : List Int) 2), (4, rV 0 0), (20, bV false)]) (g' := [(0, some (77, .ds [iD 0, iD 0, D.lit (.slice none 0 0)]))]) (nx' := 1) (by kernel_rfl) ⟨(C_Valid_m6), (C_Valid_m6)⟩ ?_
  refine AW.cond_f (.tmp (Look.of rfl)) ?_
  refine AW.skip ?_
  refine AW.rgs [.no, .no, .no, .no, .call [] (.e (.agg [iC 2, iC 2, .own 0 0 4 1 true])) [(0, some (3, .ds (dI .i64 ([0, 0, 0, 0] : List Int))))] 1 [] none, .no, .no] [0, 1, 4, 6] [0, 1, 2] (P := (_)) (l' := [(0, sV .i64 ([1, 3] : List Int) 2), (1, sV .i64 ([1, 3] : List Int) 2), (4, rV 0 0), (6, rV 2 0)]) (g' := [(0, some (77, .ds [iD 0, iD 0, D.lit (.slice none 0 0)])), (1, some (3, .ds (dI .i64 ([0, 0, 0, 0] : List Int)))), (2, some (77, .cs [iC 2, iC 2, .own 1 0 4 1 true]))]) (nx' := 3) (by kernel_rfl) (Fun.cv (M_zero 2 2 (by omega) (by omega)) (y' := .e (.agg [iC 2, iC 2, .own 0 0 4 1 true])) (g1' := toG [(0, some (3, .ds (dI .i64 ([0, 0, 0, 0] : List Int))))]) (by kernel_rfl) (by kernel_rfl)) ?_
  refine AW.seq ?_
  refine AW.rgs [.no, .no, .no] [1, 4, 6, 27, 28, 29] [0, 1, 2] (P := True) (l' := [(1, sV .i64 ([1, 3] : List Int) 2), (4, rV 0 0), (6, rV 2 0), (27, sV .i64 ([1, 3] : List Int) 2), (28, iV 2), (29, iV 0)]) (g' := [(0, some (77, .ds [iD 0, iD 0, D.lit (.slice none 0 0)])), (1, some (3, .ds (dI .i64 ([0, 0, 0, 0] : List Int)))), (2, some (77, .cs [iC 2, iC 2, .own 1 0 4 1 true]))]) (nx' := 3) (by kernel_rfl) trivial ?_
  refine AW.block ?_
  refine AW.rounds 3 ?_
  refine AWr.s ?_
  refine AW.rgs [.b true] [1, 4, 6, 27, 28, 29, 30] [0, 1, 2] (P := (((0 : Int) < 2))) (l' := [(1, sV .i64 ([1, 3] : List Int) 2), (4, rV 0 0), (6, rV 2 0), (27, sV .i64 ([1, 3] : List Int) 2), (28, iV 2), (29, iV 0), (30, bV true)]) (g' := [(0, some (77, .ds [iD 0, iD 0, D.lit (.slice none 0 0)])), (1, some (3, .ds (dI .i64 ([0, 0, 0, 0] : List Int)))), (2, some (77, .cs [iC 2, iC 2, .own 1 0 4 1 true]))]) (nx' := 3) (by kernel_rfl) (by omega) ?_
  refine AW.seq ?_
  refine AW.cond_t (.tmp (Look.of rfl)) ?_
  refine AW.skip ?_
  refine AW.seq ?_
  refine AW.block ?_
  refine AW.rgs [.no, .n 0, .d (D.lit (.int .i64 1)), .no, .no] [1, 4, 6, 7, 8, 27, 28, 29] [0, 1, 2] (P := ((0 : Int) = 0) ∧ ((0 : Nat) < 2) ∧ ((List.drop 0 (dI .i64 ([1, 3] : List Int)))[0]? = some (D.lit (.int .i64 1)))) (l' := [(1, sV .i64 ([1, 3] : List Int) 2), (4, rV 0 0), (6, rV 2 0), (7, iV 0), (8, iV 1), (27, sV .i64 ([1, 3] : List Int) 2), (28, iV 2), (29, iV 0)]) (g' := [(0, some (77, .ds [iD 0, iD 0, D.lit (.slice none 0 0)])), (1, some (3, .ds (dI .i64 ([0, 0, 0, 0] : List Int)))), (2, some (77, .cs [iC 2, iC 2, .own 1 0 4 1 true]))]) (nx' := 3) (by kernel_rfl) ⟨rfl, (by omega), (by rfl)⟩ ?_
  refine AW.rgs [.no, .no, .call [] (.tup [.c (.own 0 0 1 1 true), iE 32768]) [(0, some (3, .ds [iD 1]))] 1 [] none, .no, .no, .no, .no, .no] [1, 4, 6, 7, 9, 10, 27, 28, 29] [0, 1, 2, 3] (P := (_)) (l' := [(1, sV .i64 ([1, 3] : List Int) 2), (4, rV 0 0), (6, rV 2 0), (7, iV 0), (9, oV 3 0 1 1), (10, iV 32768), (27, sV .i64 ([1, 3] : List Int) 2), (28, iV 2), (29, iV 0)]) (g' := [(0, some (77, .ds [iD 0, iD 0, D.lit (.slice none 0 0)])), (1, some (3, .ds (dI .i64 ([0, 0, 0, 0] : List Int)))), (2, some (77, .cs [iC 2, iC 2, .own 1 0 4 1 true])), (3, some (3, .ds [iD 1]))]) (nx' := 4) (by kernel_rfl) (M_goals_6_1) ?_
  refine AW.rgs [.no, .no, .no] [1, 4, 6, 7, 10, 27, 28, 29, 40, 41, 42] [0, 1, 2, 3] (P := True) (l' := [(1, sV .i64 ([1, 3] : List Int) 2), (4, rV 0 0), (6, rV 2 0), (7, iV 0), (10, iV 32768), (27, sV .i64 ([1, 3] : List Int) 2), (28, iV 2), (29, iV 0), (40, oV 3 0 1 1), (41, iV 1), (42, iV 0)]) (g' := [(0, some (77, .ds [iD 0, iD 0, D.lit (.slice none 0 0)])), (1, some (3, .ds (dI .i64 ([0, 0, 0, 0] : List Int)))), (2, some (77, .cs [iC 2, iC 2, .own 1 0 4 1 true])), (3, some (3, .ds [iD 1]))]) (nx' := 4) (by kernel_rfl) trivial ?_
  refine AW.block ?_
  refine AW.rounds 2 ?_
  refine AWr.s ?_
  refine AW.rgs [.b true] [1, 4, 6, 7, 10, 27, 28, 29, 40, 41, 42, 43] [0, 1, 2, 3] (P := (((0 : Int) < 1))) (l' := [(1, sV .i64 ([1, 3] : List Int) 2), (4, rV 0 0), (6, rV 2 0), (7, iV 0), (10, iV 32768), (27, sV .i64 ([1, 3] : List Int) 2), (28, iV 2), (29, iV 0), (40, oV 3 0 1 1), (41, iV 1), (42, iV 0), (43, bV true)]) (g' := [(0, some (77, .ds [iD 0, iD 0, D.lit (.slice none 0 0)])), (1, some (3, .ds (dI .i64 ([0, 0, 0, 0] : List Int)))), (2, some (77, .cs [iC 2, iC 2, .own 1 0 4 1 true])), (3, some (3, .ds [iD 1]))]) (nx' := 4) (by kernel_rfl) (by omega) ?_
  refine AW.seq ?_
  refine AW.cond_t (.tmp (Look.of rfl)) ?_
  refine AW.skip ?_
  refine AW.seq ?_
  refine AW.block ?_
  refine AW.rgs [.n2 0 0, .no, .no] [1, 4, 6, 7, 10, 12, 27, 28, 29, 40, 41, 42] [0, 1, 2, 3] (P := ((0 : Int) = 0) ∧ ((0 : Nat) < 1) ∧ ((0 : Nat) + 0 * 1 = 0)) (l' := [(1, sV .i64 ([1, 3] : List Int) 2), (4, rV 0 0), (6, rV 2 0), (7, iV 0), (10, iV 32768), (12, iV 1), (27, sV .i64 ([1, 3] : List Int) 2), (28, iV 2), (29, iV 0), (40, oV 3 0 1 1), (41, iV 1), (42, iV 0)]) (g' := [(0, some (77, .ds [iD 0, iD 0, D.lit (.slice none 0 0)])), (1, some (3, .ds (dI .i64 ([0, 0, 0, 0] : List Int)))), (2, some (77, .cs [iC 2, iC 2, .own 1 0 4 1 true])), (3, some (3, .ds [iD 1]))]) (nx' := 4) (by kernel_rfl) ⟨rfl, (by omega), (by omega)⟩ ?_
  refine AW.rg [.no, .no, .no, .call [] (iV 0) [] 0 [] none, .call [1] (.e (.c (.own 0 0 2 1 false))) [(0, some (3, .ds (dI .i64 ([0, 0, 0, 0] : List Int))))] 1 [] none, .no, .no, .n2 0 0, .ds (dI .i64 (List.set ([0, 0, 0, 0] : List Int) 0 32768))] [1, 4, 6, 7, 10, 27, 28, 29, 40, 41, 42] [0, 1, 2, 3] (P := (_) ∧ (_) ∧ ((0 : Int) = 0) ∧ ((0 : Nat) < 2) ∧ ((0 : Nat) + 0 * 1 = 0) ∧ ((0 : Nat) + 1 ≤ (dI .i64 ([0, 0, 0, 0] : List Int)).length) ∧ (updD (dI .i64 ([0, 0, 0, 0] : List Int)) 0 [D.lit (.int .i64 32768)] = dI .i64 (List.set ([0, 0, 0, 0] : List Int) 0 32768))) (l' := [(1, sV .i64 ([1, 3] : List Int) 2), (4, rV 0 0), (6, rV 2 0), (7, iV 0), (10, iV 32768), (27, sV .i64 ([1, 3] : List Int) 2), (28, iV 2), (29, iV 0), (40, oV 3 0 1 1), (41, iV 1), (42, iV 0)]) (g' := [(0, some (77, .ds [iD 0, iD 0, D.lit (.slice none 0 0)])), (1, some (3, .ds (dI .i64 (List.set ([0, 0, 0, 0] : List Int) 0 32768)))), (2, some (77, .cs [iC 2, iC 2, .own 1 0 4 1 true])), (3, some (3, .ds [iD 1]))]) (nx' := 4) (by kernel_rfl) ⟨(Fun.cv (C_Index ([1, 3] : List Int) 2 1 rfl (by omega)) (y' := iV 0) (g1' := toG []) (by kernel_rfl) (by kernel_rfl)), (M_rowo 2 2 0 ([0, 0, 0, 0] : List Int) 4 rfl (by omega) (by omega) (by omega)), rfl, (by omega), (by omega), (by first | omega | (rw [dI_len]; omega) | (simp [dI_len] <;> omega) | rfl), (dI_set _ _ _ _)⟩ ?_
  refine AW.rg [.w, .no] [1, 4, 6, 7, 10, 27, 28, 29, 40, 41, 42] [0, 1, 2, 3] (P := ((-9223372036854775808) ≤ (1 : Int) ∧ (1 : Int) ≤ 9223372036854775807)) (l' := [(1, sV .i64 ([1, 3] : List Int) 2), (4, rV 0 0), (6, rV 2 0), (7, iV 0), (10, iV 32768), (27, sV .i64 ([1, 3] : List Int) 2), (28, iV 2), (29, iV 0), (40, oV 3 0 1 1), (41, iV 1), (42, iV 1)]) (g' := [(0, some (77, .ds [iD 0, iD 0, D.lit (.slice none 0 0)])), (1, some (3, .ds (dI .i64 (List.set ([0, 0, 0, 0] : List Int) 0 32768)))), (2, some (77, .cs [iC 2, iC 2, .own 1 0 4 1 true])), (3, some (3, .ds [iD 1]))]) (nx' := 4) (by kernel_rfl) ⟨by omega, by omega⟩ ?_
  refine AWr.s ?_
  refine AW.rgs [.b false] [1, 4, 6, 7, 10, 27, 28, 29, 40, 41, 42, 43] [0, 1, 2, 3] (P := (¬ ((1 : Int) < 1))) (l' := [(1, sV .i64 ([1, 3] : List Int) 2), (4, rV 0 0), (6, rV 2 0), (7, iV 0), (10, iV 32768), (27, sV .i64 ([1, 3] : List Int) 2), (28, iV 2), (29, iV 0), (40, oV 3 0 1 1), (41, iV 1), (42, iV 1), (43, bV false)]) (g' := [(0, some (77, .ds [iD 0, iD 0, D.lit (.slice none 0 0)])), (1, some (3, .ds (dI .i64 (List.set ([0, 0, 0, 0] : List Int) 0 32768)))), (2, some (77, .cs [iC 2, iC 2, .own 1 0 4 1 true])), (3, some (3, .ds [iD 1]))]) (nx' := 4) (by kernel_rfl) (by omega) ?_
  refine AW.seq ?_
  refine AW.cond_f (.tmp (Look.of rfl)) ?_
  refine AW.exit ?_
  refine AW.rg [.w, .no] [1, 4, 6, 27, 28, 29] [0, 1, 2] (P := ((-9223372036854775808) ≤ (1 : Int) ∧ (1 : Int) ≤ 9223372036854775807)) (l' := [(1, sV .i64 ([1, 3] : List Int) 2), (4, rV 0 0), (6, rV 2 0), (27, sV .i64 ([1, 3] : List Int) 2), (28, iV 2), (29, iV 1)]) (g' := [(0, some (77, .ds [iD 0, iD 0, D.lit (.slice none 0 0)])), (1, some (3, .ds (dI .i64 (List.set ([0, 0, 0, 0] : List Int) 0 32768)))), (2, some (77, .cs [iC 2, iC 2, .own 1 0 4 1 true]))]) (nx' := 4) (by kernel_rfl) ⟨by omega, by omega⟩ ?_
  refine AWr.s ?_
  refine AW.rgs [.b true] [1, 4, 6, 27, 28, 29, 30] [0, 1, 2] (P := (((1 : Int) < 2))) (l' := [(1, sV .i64 ([1, 3] : List Int) 2), (4, rV 0 0), (6, rV 2 0), (27, sV .i64 ([1, 3] : List Int) 2), (28, iV 2), (29, iV 1), (30, bV true)]) (g' := [(0, some (77, .ds [iD 0, iD 0, D.lit (.slice none 0 0)])), (1, some (3, .ds (dI .i64 (List.set ([0, 0, 0, 0] : List Int) 0 32768)))), (2, some (77, .cs [iC 2, iC 2, .own 1 0 4 1 true]))]) (nx' := 4) (by kernel_rfl) (by omega) ?_
  refine AW.seq ?_
  refine AW.cond_t (.tmp (Look.of rfl)) ?_
  refine AW.skip ?_
  refine AW.seq ?_
  refine AW.block ?_
  refine AW.rgs [.no, .n 1, .d (D.lit (.int .i64 3)), .no, .no] [1, 4, 6, 7, 8, 27, 28, 29] [0, 1, 2] (P := ((1 : Int) = 1) ∧ ((1 : Nat) < 2) ∧ ((List.drop 1 (dI .i64 ([1, 3] : List Int)))[0]? = some (D.lit (.int .i64 3)))) (l' := [(1, sV .i64 ([1, 3] : List Int) 2), (4, rV 0 0), (6, rV 2 0), (7, iV 1), (8, iV 3), (27, sV .i64 ([1, 3] : List Int) 2), (28, iV 2), (29, iV 1)]) (g' := [(0, some (77, .ds [iD 0, iD 0, D.lit (.slice none 0 0)])), (1, some (3, .ds (dI .i64 (List.set ([0, 0, 0, 0] : List Int) 0 32768)))), (2, some (77, .cs [iC 2, iC 2, .own 1 0 4 1 true]))]) (nx' := 4) (by kernel_rfl) ⟨rfl, (by omega), (by rfl)⟩ ?_
  refine AW.rgs [.no, .no, .call [] (.tup [.c (.own 0 0 1 1 true), iE 32768]) [(0, some (3, .ds [iD 3]))] 1 [] none, .no, .no, .no, .no, .no] [1, 4, 6, 7, 9, 10, 27, 28, 29] [0, 1, 2, 4] (P := (_)) (l' := [(1, sV .i64 ([1, 3] : List Int) 2), (4, rV 0 0), (6, rV 2 0), (7, iV 1), (9, oV 4 0 1 1), (10, iV 32768), (27, sV .i64 ([1, 3] : List Int) 2), (28, iV 2), (29, iV 1)]) (g' := [(0, some (77, .ds [iD 0, iD 0, D.lit (.slice none 0 0)])), (1, some (3, .ds (dI .i64 (List.set ([0, 0, 0, 0] : List Int) 0 32768)))), (2, some (77, .cs [iC 2, iC 2, .own 1 0 4 1 true])), (4, some (3, .ds [iD 3]))]) (nx' := 5) (by kernel_rfl) (M_goals_6_3) ?_
  refine AW.rgs [.no, .no, .no] [1, 4, 6, 7, 10, 27, 28, 29, 40, 41, 42] [0, 1, 2, 4] (P := True) (l' := [(1, sV .i64 ([1, 3] : List Int) 2), (4, rV 0 0), (6, rV 2 0), (7, iV 1), (10, iV 32768), (27, sV .i64 ([1, 3] : List Int) 2), (28, iV 2), (29, iV 1), (40, oV 4 0 1 1), (41, iV 1), (42, iV 0)]) (g' := [(0, some (77, .ds [iD 0, iD 0, D.lit (.slice none 0 0)])), (1, some (3, .ds (dI .i64 (List.set ([0, 0, 0, 0] : List Int) 0 32768)))), (2, some (77, .cs [iC 2, iC 2, .own 1 0 4 1 true])), (4, some (3, .ds [iD 3]))]) (nx' := 5) (by kernel_rfl) trivial ?_
  refine AW.block ?_
  refine AW.rounds 2 ?_
  refine AWr.s ?_
  refine AW.rgs [.b true] [1, 4, 6, 7, 10, 27, 28, 29, 40, 41, 42, 43] [0, 1, 2, 4] (P := (((0 : Int) < 1))) (l' := [(1, sV .i64 ([1, 3] : List Int) 2), (4, rV 0 0), (6, rV 2 0), (7, iV 1), (10, iV 32768), (27, sV .i64 ([1, 3] : List Int) 2), (28, iV 2), (29, iV 1), (40, oV 4 0 1 1), (41, iV 1), (42, iV 0), (43, bV true)]) (g' := [(0, some (77, .ds [iD 0, iD 0, D.lit (.slice none 0 0)])), (1, some (3, .ds (dI .i64 (List.set ([0, 0, 0, 0] : List Int) 0 32768)))), (2, some (77, .cs [iC 2, iC 2, .own 1 0 4 1 true])), (4, some (3, .ds [iD 3]))]) (nx' := 5) (by kernel_rfl) (by omega) ?_
  refine AW.seq ?_
  refine AW.cond_t (.tmp (Look.of rfl)) ?_
  refine AW.skip ?_
  refine AW.seq ?_
  refine AW.block ?_
  refine AW.rgs [.n2 0 0, .no, .no] [1, 4, 6, 7, 10, 12, 27, 28, 29, 40, 41, 42] [0, 1, 2, 4] (P := ((0 : Int) = 0) ∧ ((0 : Nat) < 1) ∧ ((0 : Nat) + 0 * 1 = 0)) (l' := [(1, sV .i64 ([1, 3] : List Int) 2), (4, rV 0 0), (6, rV 2 0), (7, iV 1), (10, iV 32768), (12, iV 3), (27, sV .i64 ([1, 3] : List Int) 2), (28, iV 2), (29, iV 1), (40, oV 4 0 1 1), (41, iV 1), (42, iV 0)]) (g' := [(0, some (77, .ds [iD 0, iD 0, D.lit (.slice none 0 0)])), (1, some (3, .ds (dI .i64 (List.set ([0, 0, 0, 0] : List Int) 0 32768)))), (2, some (77, .cs [iC 2, iC 2, .own 1 0 4 1 true])), (4, some (3, .ds [iD 3]))]) (nx' := 5) (by kernel_rfl) ⟨rfl, (by omega), (by omega)⟩ ?_
  refine AW.rg [.no, .no, .no, .call [] (iV 1) [] 0 [] none, .call [1] (.e (.c (.own 0 2 2 1 false))) [(0, some (3, .ds (dI .i64 ([32768, 0, 0, 0] : List Int))))] 1 [] none, .no, .no, .n2 1 3, .ds (dI .i64 (List.set ([32768, 0, 0, 0] : List Int) 3 32768))] [1, 4, 6, 7, 10, 27, 28, 29, 40, 41, 42] [0, 1, 2, 4] (P := (_) ∧ (_) ∧ ((1 : Int) = 1) ∧ ((1 : Nat) < 2) ∧ ((2 : Nat) + 1 * 1 = 3) ∧ ((3 : Nat) + 1 ≤ (dI .i64 ([32768, 0, 0, 0] : List Int)).length) ∧ (updD (dI .i64 ([32768, 0, 0, 0] : List Int)) 3 [D.lit (.int .i64 32768)] = dI .i64 (List.set ([32768, 0, 0, 0] : List Int) 3 32768))) (l' := [(1, sV .i64 ([1, 3] : List Int) 2), (4, rV 0 0), (6, rV 2 0), (7, iV 1), (10, iV 32768), (27, sV .i64 ([1, 3] : List Int) 2), (28, iV 2), (29, iV 1), (40, oV 4 0 1 1), (41, iV 1), (42, iV 0)]) (g' := [(0, some (77, .ds [iD 0, iD 0, D.lit (.slice none 0 0)])), (1, some (3, .ds (dI .i64 (List.set ([32768, 0, 0, 0] : List Int) 3 32768)))), (2, some (77, .cs [iC 2, iC 2, .own 1 0 4 1 true])), (4, some (3, .ds [iD 3]))]) (nx' := 5) (by kernel_rfl) ⟨(Fun.cv (C_Index ([1, 3] : List Int) 2 3 rfl (by omega)) (y' := iV 1) (g1' := toG []) (by kernel_rfl) (by kernel_rfl)), (Fun.cv (M_rowo 2 2 1 (List.set ([0, 0, 0, 0] : List Int) 0 32768) 4 (by first | omega | with_reducible assumption | (simp <;> omega) | rfl | assumption) (by omega) (by omega) (by omega)) (y' := .e (.c (.own 0 2 2 1 false))) (g1' := toG [(0, some (3, .ds (dI .i64 ([32768, 0, 0, 0] : List Int))))]) (by kernel_rfl) (by kernel_rfl)), rfl, (by omega), (by omega), (by first | omega | (rw [dI_len]; omega) | (simp [dI_len] <;> omega) | rfl), (dI_set _ _ _ _)⟩ ?_
  refine AW.rg [.w, .no] [1, 4, 6, 7, 10, 27, 28, 29, 40, 41, 42] [0, 1, 2, 4] (P := ((-9223372036854775808) ≤ (1 : Int) ∧ (1 : Int) ≤ 9223372036854775807)) (l' := [(1, sV .i64 ([1, 3] : List Int) 2), (4, rV 0 0), (6, rV 2 0), (7, iV 1), (10, iV 32768), (27, sV .i64 ([1, 3] : List Int) 2), (28, iV 2), (29, iV 1), (40, oV 4 0 1 1), (41, iV 1), (42, iV 1)]) (g' := [(0, some (77, .ds [iD 0, iD 0, D.lit (.slice none 0 0)])), (1, some (3, .ds (dI .i64 (List.set ([32768, 0, 0, 0] : List Int) 3 32768)))), (2, some (77, .cs [iC 2, iC 2, .own 1 0 4 1 true])), (4, some (3, .ds [iD 3]))]) (nx' := 5) (by kernel_rfl) ⟨by omega, by omega⟩ ?_
  refine AWr.s ?_
  refine AW.rgs [.b false] [1, 4, 6, 7, 10, 27, 28, 29, 40, 41, 42, 43] [0, 1, 2, 4] (P := (¬ ((1 : Int) < 1))) (l' := [(1, sV .i64 ([1, 3] : List Int) 2), (4, rV 0 0), (6, rV 2 0), (7, iV 1), (10, iV 32768), (27, sV .i64 ([1, 3] : List Int) 2), (28, iV 2), (29, iV 1), (40, oV 4 0 1 1), (41, iV 1), (42, iV 1), (43, bV false)]) (g' := [(0, some (77, .ds [iD 0, iD 0, D.lit (.slice none 0 0)])), (1, some (3, .ds (dI .i64 (List.set ([32768, 0, 0, 0] : List Int) 3 32768)))), (2, some (77, .cs [iC 2, iC 2, .own 1 0 4 1 true])), (4, some (3, .ds [iD 3]))]) (nx' := 5) (by kernel_rfl) (by omega) ?_
  refine AW.seq ?_
  refine AW.cond_f (.tmp (Look.of rfl)) ?_
  refine AW.exit ?_
  refine AW.rg [.w, .no] [1, 4, 6, 27, 28, 29] [0, 1, 2] (P := ((-9223372036854775808) ≤ (2 : Int) ∧ (2 : Int) ≤ 9223372036854775807)) (l' := [(1, sV .i64 ([1, 3] : List Int) 2), (4, rV 0 0), (6, rV 2 0), (27, sV .i64 ([1, 3] : List Int) 2), (28, iV 2), (29, iV 2)]) (g' := [(0, some (77, .ds [iD 0, iD 0, D.lit (.slice none 0 0)])), (1, some (3, .ds (dI .i64 (List.set ([32768, 0, 0, 0] : List Int) 3 32768)))), (2, some (77, .cs [iC 2, iC 2, .own 1 0 4 1 true]))]) (nx' := 5) (by kernel_rfl) ⟨by omega, by omega⟩ ?_
  refine AWr.s ?_
  refine AW.rgs [.b false] [1, 4, 6, 27, 28, 29, 30] [0, 1, 2] (P := (¬ ((2 : Int) < 2))) (l' := [(1, sV .i64 ([1, 3] : List Int) 2), (4, rV 0 0), (6, rV 2 0), (27, sV .i64 ([1, 3] : List Int) 2), (28, iV 2), (29, iV 2), (30, bV false)]) (g' := [(0, some (77, .ds [iD 0, iD 0, D.lit (.slice none 0 0)])), (1, some (3, .ds (dI .i64 (List.set ([32768, 0, 0, 0] : List Int) 3 32768)))), (2, some (77, .cs [iC 2, iC 2, .own 1 0 4 1 true]))]) (nx' := 5) (by kernel_rfl) (by omega) ?_
  refine AW.seq ?_
  refine AW.cond_f (.tmp (Look.of rfl)) ?_
  refine AW.exit ?_
  refine AW.rgs [.no, .no, .no] [4, 5] [0, 1] (P := True) (l' := [(4, rV 0 0), (5, iV 0)]) (g' := [(0, some (77, .cs [iC 2, iC 2, .own 1 0 4 1 true])), (1, some (3, .ds (dI .i64 (List.set ([32768, 0, 0, 0] : List Int) 3 32768))))]) (nx' := 5) (by kernel_rfl) trivial ?_
  refine AW.ret ?_
  exact EndP.of (.inr rfl) [(0, 1)] (P := ((2 : Int) = 2) ∧ ((2 : Int) = 2) ∧ ((0 : Nat) = 0) ∧ ((4 : Nat) = 4) ∧ ((0 : Int) = 0) ∧ (((dI .i64 ([32768, 0, 0, 32768] : List Int)) : List D) = (dI .i64 (List.set ([32768, 0, 0, 0] : List Int) 3 32768)))) (by kernel_rfl) ⟨rfl, rfl, rfl, rfl, rfl, (by rfl)⟩

end Go.Proofs.Ytnmenoocpbdekaa
