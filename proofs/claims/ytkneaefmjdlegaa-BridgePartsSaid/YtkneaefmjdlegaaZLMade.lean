/- Dice. No statement is proved here. -/
import Derived.Test.YtkneaefmjdlegaaZL04
namespace Go.Proofs.Ytkneaefmjdlegaa
open Go.ChangeShapes Go.WideShapes Go.ChangeAt Go.RowKit
set_option linter.unusedVariables false
set_option linter.unusedSimpArgs false
def Byt (l : List Int) : Prop := ∀ j, j < List.length l → 0 ≤ List.getD l j 0 ∧ List.getD l j 0 ≤ 255
theorem Byt.at {l : List Int} (h : Byt l) (j : Nat) (hj : j < List.length l) : 0 ≤ List.getD l j 0 ∧ List.getD l j 0 ≤ 255 := h j hj
theorem Byt.drop {l : List Int} (h : Byt l) (n : Nat) : Byt (List.drop n l) := by
  intro j hj
  rw [List.length_drop] at hj
  rw [getD_drop]; exact h _ (by omega)
theorem Byt.take {l : List Int} (h : Byt l) (n : Nat) : Byt (List.take n l) := by
  intro j hj
  rw [List.length_take] at hj
  rw [getD_take (by omega)]; exact h _ (by omega)
theorem Byt.of {l : List Int} (h : ∀ x ∈ l, 0 ≤ x ∧ x ≤ 255) : Byt l := by
  intro j hj
  rw [List.getD_eq_getElem?_getD, List.getElem?_eq_getElem hj]
  exact h _ (List.getElem_mem hj)
def nextN (l : List Int) (n : Int) : Nat := if l.length = 0 ∨ n ≤ 1 then 0 else (List.getD l 0 0 % n).toNat
def nextL (l : List Int) (n : Int) : List Int := if l.length = 0 ∨ n ≤ 1 then l else List.drop 1 l
theorem nextV_yes {l : List Int} {n : Int} (h : l.length = 0 ∨ n ≤ 1) : ((nextN l n : Nat) : Int) = 0 := by unfold nextN; rw [if_pos h]; rfl
theorem nextL_yes {l : List Int} {n : Int} (h : l.length = 0 ∨ n ≤ 1) : nextL l n = l := if_pos h
theorem nextV_no {l : List Int} {n : Int} (hb : Byt l) (h : ¬ (l.length = 0 ∨ n ≤ 1)) : ((nextN l n : Nat) : Int) = List.getD l 0 0 % n := by
  unfold nextN; rw [if_neg h]; exact Int.toNat_of_nonneg (Int.emod_nonneg _ (by omega))
theorem nextL_no {l : List Int} {n : Int} (h : ¬ (l.length = 0 ∨ n ≤ 1)) : nextL l n = List.drop 1 l := if_neg h
theorem nextL_byt {l : List Int} (n : Int) (h : Byt l) : Byt (nextL l n) := by
  unfold nextL; split
  · exact h
  · exact h.drop 1
theorem nextL_len (l : List Int) (n : Int) : (nextL l n).length ≤ l.length := by
  unfold nextL; split
  · exact Nat.le_refl _
  · rw [List.length_drop]; omega
theorem nextV_in (l : List Int) (n : Int) (h : Byt l) : (((nextN l n : Nat) : Int) < n ∨ nextN l n = 0) ∧ nextN l n ≤ 255 := by
  by_cases hn : l.length = 0 ∨ n ≤ 1
  · have := nextV_yes hn; omega
  · have e0 := nextV_no h hn
    have h0 := h 0 (by omega)
    have e3 := Int.emod_lt_of_pos (List.getD l 0 0) (b := n) (by omega)
    have e1 := Int.mul_ediv_add_emod (List.getD l 0 0) n
    have e2 : 0 ≤ n * (List.getD l 0 0 / n) := Int.mul_nonneg (by omega) (Int.ediv_nonneg h0.1 (by omega))
    omega
def wv (s c i : Nat) : Int := (((i : Int) * 7919 + (c : Int) * 104729 + (s : Int) * 15485863) % 4001 - 2000) * 1000
theorem wv_smp (s c i : Nat) : -8388608 ≤ wv s c i ∧ wv s c i ≤ 8388607 := by unfold wv; omega
def rowL (s i : Nat) : Nat → List Int
  | 0 => []
  | c + 1 => rowL s i c ++ [wv s c i]
def waveL (s ch a : Nat) : Nat → List Int
  | 0 => []
  | k + 1 => waveL s ch a k ++ rowL s (a + k) ch
theorem rowL_len (s i : Nat) : ∀ c, List.length (rowL s i c) = c
  | 0 => rfl
  | c + 1 => by show (rowL s i c ++ [_]).length = _; rw [List.length_append, rowL_len s i c]; rfl
theorem waveL_len (s ch a : Nat) : ∀ k, List.length (waveL s ch a k) = k * ch
  | 0 => by simp [waveL]
  | k + 1 => by show (waveL s ch a k ++ _).length = _; rw [List.length_append, waveL_len s ch a k, rowL_len, Nat.succ_mul]
theorem all_app {l m : List Int} {p : Int → Bool} (h1 : ∀ j, j < List.length l → p (List.getD l j 0) = true) (h2 : ∀ j, j < List.length m → p (List.getD m j 0) = true) : ∀ j, j < List.length (l ++ m) → p (List.getD (l ++ m) j 0) = true := by
  intro j hj
  rw [List.length_append] at hj
  by_cases hk : j < l.length
  · rw [getD_app_l hk]; exact h1 j hk
  · rw [getD_app_r (by omega)]; exact h2 _ (by omega)
theorem all_sing {x : Int} {p : Int → Bool} (h : p x = true) : ∀ j, j < List.length [x] → p (List.getD [x] j 0) = true := by
  intro j hj
  have : j = 0 := by simp at hj; exact hj
  subst this; exact h
theorem rowL_smp (s i : Nat) : ∀ c j, j < List.length (rowL s i c) → smpB (List.getD (rowL s i c) j 0) = true
  | 0 => fun j hj => absurd hj (Nat.not_lt_zero j)
  | c + 1 => all_app (rowL_smp s i c) (all_sing (smp_of (wv_smp s c i)))
theorem waveL_smp (s ch a : Nat) : ∀ k j, j < List.length (waveL s ch a k) → smpB (List.getD (waveL s ch a k) j 0) = true
  | 0 => fun j hj => absurd hj (Nat.not_lt_zero j)
  | k + 1 => all_app (waveL_smp s ch a k) (rowL_smp s (a + k) ch)
theorem waveL_BV {s ch a f : Nat} (h1 : 1 ≤ ch) (h2 : ch ≤ 8) (h3 : f ≤ 65536) : BV ch f (waveL s ch a f) := ⟨h1, h2, waveL_len s ch a f, h3, waveL_smp s ch a f⟩
set_option maxHeartbeats 4000000 in
set_option maxRecDepth 100000 in
theorem G_New (l : List Int) (n : Nat) (hn : List.length l = n) (hb : n ≤ 9223372036854775807) : Fun 10 [.c (.d (D.sl (dI .u8 l) n))] (toG []) 0 (rV 0 0) (toG [(0, some (70, .ds [D.sl (dI .u8 (List.take (min n 300) l)) (List.length (List.take (min n 300) l))]))]) 1 := by
  refine Fun.mk (n := 10) Try.func10 rfl rfl (Nat.le_of_ble_eq_true rfl) ?_
  intro cx hcx
  refine AW.rgs [.no] [0] [] (P := True) (l' := [(0, .e (.c (.d (D.sl (dI .u8 l) n))))]) (g' := []) (nx' := 0) (by kernel_rfl) trivial ?_
  refine AW.rgs [.no, .no, .no, .no, .sls 0 (min n 300) (min n 300) (dI .u8 (List.take (min n 300) l)), .no, .no, .no] [2] [0] (P := ((0 : Nat) = 0) ∧ (((min ((n : Nat) : Int) 300) : Int) = (((min n 300) : Nat) : Int)) ∧ ((0 : Nat) ≤ (min n 300)) ∧ ((min n 300) ≤ n) ∧ ((min n 300) - 0 = (min n 300)) ∧ (List.take ((min n 300) * 1) (List.drop (0 * 1) (dI .u8 l)) = (dI .u8 (List.take (min n 300) l)))) (l' := [(2, rV 0 0)]) (g' := [(0, some (70, .ds [D.sl (dI .u8 (List.take (min n 300) l)) (min n 300)]))]) (nx' := 1) (by kernel_rfl) ⟨rfl, (by first | rfl | omega), (by omega), (by omega), (by omega), (by first | rfl | with_reducible assumption | exact dI_app _ _ _ | exact dI_rep _ _ _ | (simp only [dI_take, dI_drop, dI_app, Nat.mul_one, Nat.zero_mul, List.drop_zero, List.nil_append, List.append_nil]; done) | (simp only [dI_take, dI_drop, dI_app, Nat.mul_one, Nat.zero_mul, List.drop_zero, List.nil_append, List.append_nil]; rfl) | (rw [List.take_of_length_le (by simp only [dI_len, List.length_drop, Nat.mul_one]; omega)]; first | rfl | (simp only [dI_drop, Nat.mul_one, Nat.zero_mul, List.drop_zero]; done) | (simp only [dI_drop, Nat.mul_one, Nat.zero_mul, List.drop_zero]; rfl)))⟩ ?_
  refine AW.ret ?_
  exact EndP.of (.inr rfl) [] (P := ((0 : Nat) = 0) ∧ (([D.sl (dI .u8 (List.take (min n 300) l)) (List.length (List.take (min n 300) l))] : List D) = [D.sl (dI .u8 (List.take (min n 300) l)) (min n 300)])) (by kernel_rfl) ⟨rfl, (by have e9 : (List.take (min n 300) l).length = min n 300 := (by rw [List.length_take]; omega); rw [e9])⟩
set_option maxHeartbeats 4000000 in
set_option maxRecDepth 100000 in
theorem G_Next (l : List Int) (n : Int) (hb : Byt l) : Fun 13 [.c (.ptr 0 0), iE n] (toG [(0, some (70, .ds [D.sl (dI .u8 l) (List.length l)]))]) 1 (iV (((nextN l n) : Nat) : Int)) (toG [(0, some (70, .ds [D.sl (dI .u8 (nextL l n)) (List.length (nextL l n))]))]) 1 := by
  refine Fun.mk (n := 34) Try.func13 rfl rfl (Nat.le_of_ble_eq_true rfl) ?_
  intro cx hcx
  refine AW.rgs [.no] [0, 1] [0] (P := True) (l' := [(0, rV 0 0), (1, iV n)]) (g' := [(0, some (70, .ds [D.sl (dI .u8 l) (List.length l)]))]) (nx' := 1) (by kernel_rfl) trivial ?_
  refine AW.seq ?_
  by_cases hx1 : ((((List.length l) : Nat) : Int) = 0)
  · refine AW.rgs [.no, .no, .no, .no, .no, .b true, .no, .no] [0, 1, 15] [0] (P := (((((List.length l) : Nat) : Int) = 0))) (l' := [(0, rV 0 0), (1, iV n), (15, .e (.c (.d (D.lit (.bool true)))))]) (g' := [(0, some (70, .ds [D.sl (dI .u8 l) (List.length l)]))]) (nx' := 1) (by kernel_rfl) (by omega) ?_
    refine AW.cond_t (.tmp (Look.of rfl)) ?_
    refine AW.rgs [.no] [4] [0] (P := True) (l' := [(4, iV 0)]) (g' := [(0, some (70, .ds [D.sl (dI .u8 l) (List.length l)]))]) (nx' := 1) (by kernel_rfl) trivial ?_
    refine AW.ret ?_
    exact EndP.of (.inr rfl) [] (P := (((((nextN l n) : Nat) : Int) : Int) = 0) ∧ (([D.sl (dI .u8 (nextL l n)) (List.length (nextL l n))] : List D) = [D.sl (dI .u8 l) (List.length l)])) (by kernel_rfl) ⟨(by first | rfl | exact nextV_yes (by omega) | exact nextV_no hb (by omega) | (rw [nextL_yes (by omega)]) | (rw [nextL_no (by omega), List.length_drop])), (by first | rw [nextL_yes (by omega)] | rw [nextL_no (by omega), List.length_drop])⟩
  · by_cases hx2 : (n ≤ 1)
    · refine AW.rgs [.no, .no, .no, .no, .no, .b false, .no, .no, .b true, .no] [0, 1, 15] [0] (P := (¬ ((((List.length l) : Nat) : Int) = 0)) ∧ ((n ≤ 1))) (l' := [(0, rV 0 0), (1, iV n), (15, .e (.c (.d (D.lit (.bool true)))))]) (g' := [(0, some (70, .ds [D.sl (dI .u8 l) (List.length l)]))]) (nx' := 1) (by kernel_rfl) ⟨(by omega), (by omega)⟩ ?_
      refine AW.cond_t (.tmp (Look.of rfl)) ?_
      refine AW.rgs [.no] [4] [0] (P := True) (l' := [(4, iV 0)]) (g' := [(0, some (70, .ds [D.sl (dI .u8 l) (List.length l)]))]) (nx' := 1) (by kernel_rfl) trivial ?_
      refine AW.ret ?_
      exact EndP.of (.inr rfl) [] (P := (((((nextN l n) : Nat) : Int) : Int) = 0) ∧ (([D.sl (dI .u8 (nextL l n)) (List.length (nextL l n))] : List D) = [D.sl (dI .u8 l) (List.length l)])) (by kernel_rfl) ⟨(by first | rfl | exact nextV_yes (by omega) | exact nextV_no hb (by omega) | (rw [nextL_yes (by omega)]) | (rw [nextL_no (by omega), List.length_drop])), (by first | rw [nextL_yes (by omega)] | rw [nextL_no (by omega), List.length_drop])⟩
    · refine AW.rgs [.no, .no, .no, .no, .no, .b false, .no, .no, .b false, .no] [0, 1, 15] [0] (P := (¬ ((((List.length l) : Nat) : Int) = 0)) ∧ (¬ (n ≤ 1))) (l' := [(0, rV 0 0), (1, iV n), (15, .e (.c (.d (D.lit (.bool false)))))]) (g' := [(0, some (70, .ds [D.sl (dI .u8 l) (List.length l)]))]) (nx' := 1) (by kernel_rfl) ⟨(by omega), (by omega)⟩ ?_
      refine AW.cond_f (.tmp (Look.of rfl)) ?_
      refine AW.skip ?_
      have hx3 : 0 ≤ (List.getD l 0 0) ∧ (List.getD l 0 0) ≤ 255 := hb.at 0 (by omega)
      refine AW.rgs [.no, .no, .no, .no, .n 0, .d (D.lit (.int .u8 (List.getD l 0 0))), .w, .no] [0, 1, 5] [0] (P := ((0 : Int) = 0) ∧ ((0 : Nat) < (List.length l)) ∧ ((List.drop 0 (dI .u8 l))[0]? = some (D.lit (.int .u8 (List.getD l 0 0)))) ∧ ((-9223372036854775808) ≤ (List.getD l 0 0) ∧ (List.getD l 0 0) ≤ 9223372036854775807)) (l' := [(0, rV 0 0), (1, iV n), (5, iV (List.getD l 0 0))]) (g' := [(0, some (70, .ds [D.sl (dI .u8 l) (List.length l)]))]) (nx' := 1) (by kernel_rfl) ⟨rfl, (by omega), (dI_at _ _ _ (by first | omega | (rw [dI_len]; omega) | (simp [dI_len] <;> omega) | rfl)), ⟨by omega, by omega⟩⟩ ?_
      refine AW.rgs [.no, .no, .no, .no, .no, .sls 1 (List.length l) ((List.length l) - 1) (dI .u8 (List.drop 1 l)), .no, .no, .no] [1, 5] [0] (P := ((1 : Int) = 1) ∧ ((List.length l) = (List.length l)) ∧ ((1 : Nat) ≤ (List.length l)) ∧ ((List.length l) ≤ (List.length l)) ∧ ((List.length l) - 1 = ((List.length l) - 1)) ∧ (List.take (((List.length l) - 1) * 1) (List.drop (1 * 1) (dI .u8 l)) = (dI .u8 (List.drop 1 l)))) (l' := [(1, iV n), (5, iV (List.getD l 0 0))]) (g' := [(0, some (70, .ds [D.sl (dI .u8 (List.drop 1 l)) ((List.length l) - 1)]))]) (nx' := 1) (by kernel_rfl) ⟨rfl, rfl, (by omega), (by omega), (by omega), (by first | rfl | with_reducible assumption | exact dI_app _ _ _ | exact dI_rep _ _ _ | (simp only [dI_take, dI_drop, dI_app, Nat.mul_one, Nat.zero_mul, List.drop_zero, List.nil_append, List.append_nil]; done) | (simp only [dI_take, dI_drop, dI_app, Nat.mul_one, Nat.zero_mul, List.drop_zero, List.nil_append, List.append_nil]; rfl) | (rw [List.take_of_length_le (by simp only [dI_len, List.length_drop, Nat.mul_one]; omega)]; first | rfl | (simp only [dI_drop, Nat.mul_one, Nat.zero_mul, List.drop_zero]; done) | (simp only [dI_drop, Nat.mul_one, Nat.zero_mul, List.drop_zero]; rfl)))⟩ ?_
      refine AW.rgs [.no, .no, .ps, .no] [4] [0] (P := ((0 : Int) ≤ ((List.getD l 0 0) : Int)) ∧ ((0 : Int) < (n : Int))) (l' := [(4, iV ((List.getD l 0 0) % n))]) (g' := [(0, some (70, .ds [D.sl (dI .u8 (List.drop 1 l)) ((List.length l) - 1)]))]) (nx' := 1) (by kernel_rfl) ⟨(by omega), (by omega)⟩ ?_
      refine AW.ret ?_
      exact EndP.of (.inr rfl) [] (P := (((((nextN l n) : Nat) : Int) : Int) = ((List.getD l 0 0) % n)) ∧ (([D.sl (dI .u8 (nextL l n)) (List.length (nextL l n))] : List D) = [D.sl (dI .u8 (List.drop 1 l)) ((List.length l) - 1)])) (by kernel_rfl) ⟨(by first | rfl | exact nextV_yes (by omega) | exact nextV_no hb (by omega) | (rw [nextL_yes (by omega)]) | (rw [nextL_no (by omega), List.length_drop])), (by first | rw [nextL_yes (by omega)] | rw [nextL_no (by omega), List.length_drop])⟩
set_option maxHeartbeats 4000000 in
set_option maxRecDepth 100000 in
theorem G_Wave (s ch a f : Nat) (h1 : 1 ≤ ch) (h8 : ch ≤ 8) (hs : s ≤ 100) (ha : a ≤ 100000) (hf : f ≤ 65536) : Fun 12 [iE ((s : Nat) : Int), iE ((ch : Nat) : Int), iE ((a : Nat) : Int), iE ((f : Nat) : Int)] (toG []) 0 (.e (.agg [iC ((ch : Nat) : Int), .own 0 0 (f * ch) 1 true])) (toG [(0, some (21, .ds (dI .i32 (waveL s ch a f))))]) 1 := by
  refine Fun.mk (n := 47) Try.func12 rfl rfl (Nat.le_of_ble_eq_true rfl) ?_
  intro cx hcx
  refine AW.rgs [.no] [0, 1, 2, 3, 8] [0] (P := True) (l' := [(0, iV ↑s), (1, iV ↑ch), (2, iV ↑a), (3, iV ↑f), (8, rV 0 0)]) (g' := [(0, some (34, .ds [iD 0, D.lit (.slice none 0 0)]))]) (nx' := 1) (by kernel_rfl) trivial ?_
  refine AW.rgs [.no, .no, .no, .no] [0, 1, 2, 3, 8, 9] [0, 1] (P := True) (l' := [(0, iV ↑s), (1, iV ↑ch), (2, iV ↑a), (3, iV ↑f), (8, rV 0 0), (9, rV 1 0)]) (g' := [(0, some (34, .ds [iD 0, D.lit (.slice none 0 0)])), (1, some (34, .ds [iD ↑ch, D.lit (.slice none 0 0)]))]) (nx' := 2) (by kernel_rfl) trivial ?_
  refine AW.seq ?_
  refine AW.rgs [.no, .no] [0, 1, 2, 3, 8, 9, 10] [0, 1] (P := True) (l' := [(0, iV ↑s), (1, iV ↑ch), (2, iV ↑a), (3, iV ↑f), (8, rV 0 0), (9, rV 1 0), (10, iV ↑a)]) (g' := [(0, some (34, .ds [iD 0, D.lit (.slice none 0 0)])), (1, some (34, .ds [iD ↑ch, D.lit (.slice none 0 0)]))]) (nx' := 2) (by kernel_rfl) trivial ?_
  refine AW.block ?_
  refine AW.adoptC 1 1 1 21 (cs' := [iC ((ch : Nat) : Int), .own 2 0 0 1 true]) rfl rfl rfl ?_
  refine AW.loopE 0 hcx (fun (x : {x : Nat // match x with | k => (k ≤ f)}) => match x with | ⟨k, _⟩ => (⟨[(0, iV ((s : Nat) : Int)), (1, iV ((ch : Nat) : Int)), (2, iV ((a : Nat) : Int)), (3, iV ((f : Nat) : Int)), (8, rV 0 0), (9, rV 1 0), (10, iV (((a : Nat) : Int) + ((k : Nat) : Int)))], [(0, some (34, .ds [iD 0, D.lit (.slice none 0 0)])), (1, some (34, .cs [iC ((ch : Nat) : Int), .own 2 0 (k * ch) 1 true])), (2, some (21, .ds (dI .i32 (waveL s ch a k))))], 3⟩ : ES)) (fun (x : {x : Nat // match x with | k => (k ≤ f)}) => match x with | ⟨k, _⟩ => f - k) ⟨(0 : Nat), (show ((0 : Nat) ≤ f) from (by first | omega | assumption | simp))⟩ [] (P := ((((s : Nat) : Int) : Int) = ((s : Nat) : Int)) ∧ ((((ch : Nat) : Int) : Int) = ((ch : Nat) : Int)) ∧ ((((a : Nat) : Int) : Int) = ((a : Nat) : Int)) ∧ ((((f : Nat) : Int) : Int) = ((f : Nat) : Int)) ∧ ((0 : Nat) = 0) ∧ ((0 : Nat) = 0) ∧ (((((a : Nat) : Int) + 0) : Int) = ((a : Nat) : Int)) ∧ (([iD 0, D.lit (.slice none 0 0)] : List D) = [iD 0, D.lit (.slice none 0 0)]) ∧ ((((ch : Nat) : Int) : Int) = ((ch : Nat) : Int)) ∧ ((0 : Nat) = 0) ∧ (((0 * ch) : Nat) = 0) ∧ (((dI .i32 (waveL s ch a 0)) : List D) = ([] : List D))) (by kernel_rfl) ⟨rfl, rfl, rfl, rfl, rfl, rfl, (by first | rfl | omega | assumption | (simp; done) | (simp; omega)), rfl, rfl, rfl, (by first | rfl | omega | assumption | (simp; done) | (simp; omega)), (by first | rfl | with_reducible assumption | (simp only [dI_take, dI_drop, dI_app]; rfl) | (congr 1; first | assumption | (simp; done) | omega))⟩ ?_
  rintro ⟨k, hinv0⟩
  have hk : (k ≤ f) := hinv0
  refine AW.es (l := [(0, iV ((s : Nat) : Int)), (1, iV ((ch : Nat) : Int)), (2, iV ((a : Nat) : Int)), (3, iV ((f : Nat) : Int)), (8, rV 0 0), (9, rV 1 0), (10, iV (((a : Nat) : Int) + ((k : Nat) : Int)))]) (g := [(0, some (34, .ds [iD 0, D.lit (.slice none 0 0)])), (1, some (34, .cs [iC ((ch : Nat) : Int), .own 2 0 (k * ch) 1 true])), (2, some (21, .ds (dI .i32 (waveL s ch a k))))]) (nx := 3) rfl rfl rfl ?_
  have hkc : k * ch ≤ 524288 := Nat.le_trans (Nat.mul_le_mul hk h8) (by omega)
  have hwl : List.length (waveL s ch a k) = k * ch := waveL_len s ch a k
  refine AW.seq ?_
  by_cases hx1 : ((((a : Nat) : Int) + ((k : Nat) : Int)) < (((a : Nat) : Int) + ((f : Nat) : Int)))
  · refine AW.rgs [.no, .no, .no, .w, .b true] [0, 1, 2, 3, 8, 9, 10, 20] [0, 1, 2] (P := ((-9223372036854775808) ≤ (((a : Nat) : Int) + ((f : Nat) : Int)) ∧ (((a : Nat) : Int) + ((f : Nat) : Int)) ≤ 9223372036854775807) ∧ (((((a : Nat) : Int) + ((k : Nat) : Int)) < (((a : Nat) : Int) + ((f : Nat) : Int))))) (l' := [(0, iV ↑s), (1, iV ↑ch), (2, iV ↑a), (3, iV ↑f), (8, rV 0 0), (9, rV 1 0), (10, iV (↑a + ↑k)), (20, .e (.c (.d (D.lit (.bool true)))))]) (g' := [(0, some (34, .ds [iD 0, D.lit (.slice none 0 0)])), (1, some (34, .cs [iC ↑ch, .own 2 0 (k * ch) 1 true])), (2, some (21, .ds (dI .i32 (waveL s ch a k))))]) (nx' := 3) (by kernel_rfl) ⟨⟨by omega, by omega⟩, (by omega)⟩ ?_
    refine AW.cond_t (.tmp (Look.of rfl)) ?_
    refine AW.skip ?_
    refine AW.seq ?_
    refine AW.block ?_
    refine AW.rgs [.no] [0, 1, 2, 3, 8, 9, 10, 11] [0, 1, 2] (P := True) (l' := [(0, iV ↑s), (1, iV ↑ch), (2, iV ↑a), (3, iV ↑f), (8, rV 0 0), (9, rV 1 0), (10, iV (↑a + ↑k)), (11, iV 0)]) (g' := [(0, some (34, .ds [iD 0, D.lit (.slice none 0 0)])), (1, some (34, .cs [iC ↑ch, .own 2 0 (k * ch) 1 true])), (2, some (21, .ds (dI .i32 (waveL s ch a k))))]) (nx' := 3) (by kernel_rfl) trivial ?_
    refine AW.block ?_
    refine AW.loopE 0 hcx (fun (x : {x : Nat // match x with | j => (j ≤ ch)}) => match x with | ⟨j, _⟩ => (⟨[(0, iV ((s : Nat) : Int)), (1, iV ((ch : Nat) : Int)), (2, iV ((a : Nat) : Int)), (3, iV ((f : Nat) : Int)), (8, rV 0 0), (9, rV 1 0), (10, iV (((a : Nat) : Int) + ((k : Nat) : Int))), (11, iV ((j : Nat) : Int))], [(0, some (34, .ds [iD 0, D.lit (.slice none 0 0)])), (1, some (34, .cs [iC ((ch : Nat) : Int), .own 2 0 ((k * ch) + j) 1 true])), (2, some (21, .ds (dI .i32 ((waveL s ch a k) ++ (rowL s (a + k) j)))))], 3⟩ : ES)) (fun (x : {x : Nat // match x with | j => (j ≤ ch)}) => match x with | ⟨j, _⟩ => ch - j) ⟨(0 : Nat), (show ((0 : Nat) ≤ ch) from (by first | omega | assumption | simp))⟩ [] (P := ((((s : Nat) : Int) : Int) = ((s : Nat) : Int)) ∧ ((((ch : Nat) : Int) : Int) = ((ch : Nat) : Int)) ∧ ((((a : Nat) : Int) : Int) = ((a : Nat) : Int)) ∧ ((((f : Nat) : Int) : Int) = ((f : Nat) : Int)) ∧ ((0 : Nat) = 0) ∧ ((0 : Nat) = 0) ∧ (((((a : Nat) : Int) + ((k : Nat) : Int)) : Int) = (((a : Nat) : Int) + ((k : Nat) : Int))) ∧ ((0 : Int) = 0) ∧ (([iD 0, D.lit (.slice none 0 0)] : List D) = [iD 0, D.lit (.slice none 0 0)]) ∧ ((((ch : Nat) : Int) : Int) = ((ch : Nat) : Int)) ∧ ((0 : Nat) = 0) ∧ ((((k * ch) + 0) : Nat) = (k * ch)) ∧ (((dI .i32 ((waveL s ch a k) ++ (rowL s (a + k) 0))) : List D) = (dI .i32 (waveL s ch a k)))) (by kernel_rfl) ⟨rfl, rfl, rfl, rfl, rfl, rfl, rfl, rfl, rfl, rfl, rfl, (by first | rfl | omega | assumption | (simp; done) | (simp; omega)), (by first | rfl | (simp only [rowL, List.append_nil, List.append_assoc]; done) | (simp only [rowL, List.append_nil, List.append_assoc]; rfl))⟩ ?_
    rintro ⟨j, hinv1⟩
    have hj : (j ≤ ch) := hinv1
    refine AW.es (l := [(0, iV ((s : Nat) : Int)), (1, iV ((ch : Nat) : Int)), (2, iV ((a : Nat) : Int)), (3, iV ((f : Nat) : Int)), (8, rV 0 0), (9, rV 1 0), (10, iV (((a : Nat) : Int) + ((k : Nat) : Int))), (11, iV ((j : Nat) : Int))]) (g := [(0, some (34, .ds [iD 0, D.lit (.slice none 0 0)])), (1, some (34, .cs [iC ((ch : Nat) : Int), .own 2 0 ((k * ch) + j) 1 true])), (2, some (21, .ds (dI .i32 ((waveL s ch a k) ++ (rowL s (a + k) j)))))]) (nx := 3) rfl rfl rfl ?_
    have hrl : List.length (rowL s (a + k) j) = j := rowL_len s (a + k) j
    refine AW.seq ?_
    by_cases hx2 : (((j : Nat) : Int) < ((ch : Nat) : Int))
    · refine AW.rgs [.no, .no, .b true] [0, 1, 2, 3, 8, 9, 10, 11, 25] [0, 1, 2] (P := ((((j : Nat) : Int) < ((ch : Nat) : Int)))) (l' := [(0, iV ↑s), (1, iV ↑ch), (2, iV ↑a), (3, iV ↑f), (8, rV 0 0), (9, rV 1 0), (10, iV (↑a + ↑k)), (11, iV ↑j), (25, .e (.c (.d (D.lit (.bool true)))))]) (g' := [(0, some (34, .ds [iD 0, D.lit (.slice none 0 0)])), (1, some (34, .cs [iC ↑ch, .own 2 0 ((k * ch) + j) 1 true])), (2, some (21, .ds (dI .i32 ((waveL s ch a k) ++ (rowL s (a + k) j)))))]) (nx' := 3) (by kernel_rfl) (by omega) ?_
      refine AW.cond_t (.tmp (Look.of rfl)) ?_
      refine AW.skip ?_
      refine AW.seq ?_
      refine AW.block ?_
      refine AW.rgs [.no, .w, .no, .w, .w, .no, .w, .w, .ps, .w, .no] [0, 1, 2, 3, 8, 9, 10, 11, 12] [0, 1, 2] (P := ((-9223372036854775808) ≤ ((((a : Nat) : Int) + ((k : Nat) : Int)) * 7919) ∧ ((((a : Nat) : Int) + ((k : Nat) : Int)) * 7919) ≤ 9223372036854775807) ∧ ((-9223372036854775808) ≤ (((j : Nat) : Int) * 104729) ∧ (((j : Nat) : Int) * 104729) ≤ 9223372036854775807) ∧ ((-9223372036854775808) ≤ (((((a : Nat) : Int) + ((k : Nat) : Int)) * 7919) + (((j : Nat) : Int) * 104729)) ∧ (((((a : Nat) : Int) + ((k : Nat) : Int)) * 7919) + (((j : Nat) : Int) * 104729)) ≤ 9223372036854775807) ∧ ((-9223372036854775808) ≤ (((s : Nat) : Int) * 15485863) ∧ (((s : Nat) : Int) * 15485863) ≤ 9223372036854775807) ∧ ((-9223372036854775808) ≤ ((((((a : Nat) : Int) + ((k : Nat) : Int)) * 7919) + (((j : Nat) : Int) * 104729)) + (((s : Nat) : Int) * 15485863)) ∧ ((((((a : Nat) : Int) + ((k : Nat) : Int)) * 7919) + (((j : Nat) : Int) * 104729)) + (((s : Nat) : Int) * 15485863)) ≤ 9223372036854775807) ∧ ((0 : Int) ≤ (((((((a : Nat) : Int) + ((k : Nat) : Int)) * 7919) + (((j : Nat) : Int) * 104729)) + (((s : Nat) : Int) * 15485863)) : Int)) ∧ ((0 : Int) < (4001 : Int)) ∧ ((-9223372036854775808) ≤ ((((((((a : Nat) : Int) + ((k : Nat) : Int)) * 7919) + (((j : Nat) : Int) * 104729)) + (((s : Nat) : Int) * 15485863)) % 4001) - 2000) ∧ ((((((((a : Nat) : Int) + ((k : Nat) : Int)) * 7919) + (((j : Nat) : Int) * 104729)) + (((s : Nat) : Int) * 15485863)) % 4001) - 2000) ≤ 9223372036854775807)) (l' := [(0, iV ↑s), (1, iV ↑ch), (2, iV ↑a), (3, iV ↑f), (8, rV 0 0), (9, rV 1 0), (10, iV (↑a + ↑k)), (11, iV ↑j), (12, iV ((((((↑a + ↑k) * 7919) + (↑j * 104729)) + (↑s * 15485863)) % 4001) - 2000))]) (g' := [(0, some (34, .ds [iD 0, D.lit (.slice none 0 0)])), (1, some (34, .cs [iC ↑ch, .own 2 0 ((k * ch) + j) 1 true])), (2, some (21, .ds (dI .i32 ((waveL s ch a k) ++ (rowL s (a + k) j)))))]) (nx' := 3) (by kernel_rfl) ⟨⟨by omega, by omega⟩, ⟨by omega, by omega⟩, ⟨by omega, by omega⟩, ⟨by omega, by omega⟩, ⟨by omega, by omega⟩, (by omega), (by omega), ⟨by omega, by omega⟩⟩ ?_
      refine AW.rg [.no, .no, .no, .w, .w, .no, .ap none (((k * ch) + j) + 1) (dI .i32 (((waveL s ch a k) ++ (rowL s (a + k) j)) ++ ([(((((((((a : Nat) : Int) + ((k : Nat) : Int)) * 7919) + (((j : Nat) : Int) * 104729)) + (((s : Nat) : Int) * 15485863)) % 4001) - 2000) * 1000)] : List Int))), .no, .no] [0, 1, 2, 3, 8, 9, 10, 11] [0, 1, 4] (P := ((-9223372036854775808) ≤ (((((((((a : Nat) : Int) + ((k : Nat) : Int)) * 7919) + (((j : Nat) : Int) * 104729)) + (((s : Nat) : Int) * 15485863)) % 4001) - 2000) * 1000) ∧ (((((((((a : Nat) : Int) + ((k : Nat) : Int)) * 7919) + (((j : Nat) : Int) * 104729)) + (((s : Nat) : Int) * 15485863)) % 4001) - 2000) * 1000) ≤ 9223372036854775807) ∧ ((-2147483648) ≤ (((((((((a : Nat) : Int) + ((k : Nat) : Int)) * 7919) + (((j : Nat) : Int) * 104729)) + (((s : Nat) : Int) * 15485863)) % 4001) - 2000) * 1000) ∧ (((((((((a : Nat) : Int) + ((k : Nat) : Int)) * 7919) + (((j : Nat) : Int) * 104729)) + (((s : Nat) : Int) * 15485863)) % 4001) - 2000) * 1000) ≤ 2147483647) ∧ ([D.lit (.int .i32 (((((((((a : Nat) : Int) + ((k : Nat) : Int)) * 7919) + (((j : Nat) : Int) * 104729)) + (((s : Nat) : Int) * 15485863)) % 4001) - 2000) * 1000))].length = 1 * 1) ∧ (((dI .i32 ((waveL s ch a k) ++ (rowL s (a + k) j))) : List D).length = ((k * ch) + j) * 1) ∧ ((((k * ch) + j) + 1) * 4 ≤ 140737488355328) ∧ (((k * ch) + j) + 1 = (((k * ch) + j) + 1)) ∧ (((dI .i32 ((waveL s ch a k) ++ (rowL s (a + k) j))) : List D) ++ [D.lit (.int .i32 (((((((((a : Nat) : Int) + ((k : Nat) : Int)) * 7919) + (((j : Nat) : Int) * 104729)) + (((s : Nat) : Int) * 15485863)) % 4001) - 2000) * 1000))] = (dI .i32 (((waveL s ch a k) ++ (rowL s (a + k) j)) ++ ([(((((((((a : Nat) : Int) + ((k : Nat) : Int)) * 7919) + (((j : Nat) : Int) * 104729)) + (((s : Nat) : Int) * 15485863)) % 4001) - 2000) * 1000)] : List Int))))) (l' := [(0, iV ↑s), (1, iV ↑ch), (2, iV ↑a), (3, iV ↑f), (8, rV 0 0), (9, rV 1 0), (10, iV (↑a + ↑k)), (11, iV ↑j)]) (g' := [(0, some (34, .ds [iD 0, D.lit (.slice none 0 0)])), (1, some (34, .cs [iC ↑ch, .own 4 0 (((k * ch) + j) + 1) 1 true])), (4, some (21, .ds (dI .i32 (((waveL s ch a k) ++ (rowL s (a + k) j)) ++ ([(((((((↑a + ↑k) * 7919) + (↑j * 104729)) + (↑s * 15485863)) % 4001) - 2000) * 1000)] : List Int)))))]) (nx' := 5) (by kernel_rfl) ⟨⟨by omega, by omega⟩, ⟨by omega, by omega⟩, (by first | omega | (rw [dI_len]; omega) | (simp [dI_len] <;> omega) | rfl), (by first | omega | (rw [dI_len]; omega) | (simp [dI_len] <;> omega) | rfl), (by omega), (by omega), (dI_app .i32 ((waveL s ch a k) ++ (rowL s (a + k) j)) ([(((((((((a : Nat) : Int) + ((k : Nat) : Int)) * 7919) + (((j : Nat) : Int) * 104729)) + (((s : Nat) : Int) * 15485863)) % 4001) - 2000) * 1000)] : List Int))⟩ ?_
      refine AW.rg [.no, .w, .no] [0, 1, 2, 3, 8, 9, 10, 11] [0, 1, 4] (P := ((-9223372036854775808) ≤ (((j : Nat) : Int) + 1) ∧ (((j : Nat) : Int) + 1) ≤ 9223372036854775807)) (l' := [(0, iV ↑s), (1, iV ↑ch), (2, iV ↑a), (3, iV ↑f), (8, rV 0 0), (9, rV 1 0), (10, iV (↑a + ↑k)), (11, iV (↑j + 1))]) (g' := [(0, some (34, .ds [iD 0, D.lit (.slice none 0 0)])), (1, some (34, .cs [iC ↑ch, .own 4 0 (((k * ch) + j) + 1) 1 true])), (4, some (21, .ds (dI .i32 (((waveL s ch a k) ++ (rowL s (a + k) j)) ++ ([(((((((↑a + ↑k) * 7919) + (↑j * 104729)) + (↑s * 15485863)) % 4001) - 2000) * 1000)] : List Int)))))]) (nx' := 5) (by kernel_rfl) ⟨by omega, by omega⟩ ?_
      exact Rd.of ⟨((j + 1) : Nat), (show ((j + 1) ≤ ch) from (by first | omega | assumption | simp))⟩ [(2, 4)] (P := ((((s : Nat) : Int) : Int) = ((s : Nat) : Int)) ∧ ((((ch : Nat) : Int) : Int) = ((ch : Nat) : Int)) ∧ ((((a : Nat) : Int) : Int) = ((a : Nat) : Int)) ∧ ((((f : Nat) : Int) : Int) = ((f : Nat) : Int)) ∧ ((0 : Nat) = 0) ∧ ((0 : Nat) = 0) ∧ (((((a : Nat) : Int) + ((k : Nat) : Int)) : Int) = (((a : Nat) : Int) + ((k : Nat) : Int))) ∧ (((((j + 1) : Nat) : Int) : Int) = (((j : Nat) : Int) + 1)) ∧ (([iD 0, D.lit (.slice none 0 0)] : List D) = [iD 0, D.lit (.slice none 0 0)]) ∧ ((((ch : Nat) : Int) : Int) = ((ch : Nat) : Int)) ∧ ((0 : Nat) = 0) ∧ ((((k * ch) + (j + 1)) : Nat) = (((k * ch) + j) + 1)) ∧ (((dI .i32 ((waveL s ch a k) ++ (rowL s (a + k) (j + 1)))) : List D) = (dI .i32 (((waveL s ch a k) ++ (rowL s (a + k) j)) ++ ([(((((((((a : Nat) : Int) + ((k : Nat) : Int)) * 7919) + (((j : Nat) : Int) * 104729)) + (((s : Nat) : Int) * 15485863)) % 4001) - 2000) * 1000)] : List Int))))) (by kernel_rfl) ⟨rfl, rfl, rfl, rfl, rfl, rfl, rfl, (by first | rfl | omega | assumption | (simp; done) | (simp; omega)), rfl, rfl, rfl, (by first | rfl | omega | assumption | (simp; done) | (simp; omega)), (by first | rfl | (simp only [rowL, List.append_nil, List.append_assoc]; done) | (simp only [rowL, List.append_nil, List.append_assoc]; rfl))⟩ (show ch - (j + 1) < ch - j from (by first | omega | (show _ < _; simp; omega)))
    · refine AW.rgs [.no, .no, .b false] [0, 1, 2, 3, 8, 9, 10, 11, 25] [0, 1, 2] (P := (¬ (((j : Nat) : Int) < ((ch : Nat) : Int)))) (l' := [(0, iV ↑s), (1, iV ↑ch), (2, iV ↑a), (3, iV ↑f), (8, rV 0 0), (9, rV 1 0), (10, iV (↑a + ↑k)), (11, iV ↑j), (25, .e (.c (.d (D.lit (.bool false)))))]) (g' := [(0, some (34, .ds [iD 0, D.lit (.slice none 0 0)])), (1, some (34, .cs [iC ↑ch, .own 2 0 ((k * ch) + j) 1 true])), (2, some (21, .ds (dI .i32 ((waveL s ch a k) ++ (rowL s (a + k) j)))))]) (nx' := 3) (by kernel_rfl) (by omega) ?_
      refine AW.cond_f (.tmp (Look.of rfl)) ?_
      refine AW.exit ?_
      refine AW.rg [.no, .w, .no] [0, 1, 2, 3, 8, 9, 10] [0, 1, 2] (P := ((-9223372036854775808) ≤ ((((a : Nat) : Int) + ((k : Nat) : Int)) + 1) ∧ ((((a : Nat) : Int) + ((k : Nat) : Int)) + 1) ≤ 9223372036854775807)) (l' := [(0, iV ↑s), (1, iV ↑ch), (2, iV ↑a), (3, iV ↑f), (8, rV 0 0), (9, rV 1 0), (10, iV ((↑a + ↑k) + 1))]) (g' := [(0, some (34, .ds [iD 0, D.lit (.slice none 0 0)])), (1, some (34, .cs [iC ↑ch, .own 2 0 ((k * ch) + j) 1 true])), (2, some (21, .ds (dI .i32 ((waveL s ch a k) ++ (rowL s (a + k) j)))))]) (nx' := 3) (by kernel_rfl) ⟨by omega, by omega⟩ ?_
      obtain rfl : ch = j := by omega
      have hsm : (k + 1) * ch = k * ch + ch := Nat.succ_mul k ch
      exact Rd.of ⟨((k + 1) : Nat), (show ((k + 1) ≤ f) from (by first | omega | assumption | simp))⟩ [] (P := ((((s : Nat) : Int) : Int) = ((s : Nat) : Int)) ∧ ((((ch : Nat) : Int) : Int) = ((ch : Nat) : Int)) ∧ ((((a : Nat) : Int) : Int) = ((a : Nat) : Int)) ∧ ((((f : Nat) : Int) : Int) = ((f : Nat) : Int)) ∧ ((0 : Nat) = 0) ∧ ((0 : Nat) = 0) ∧ (((((a : Nat) : Int) + (((k + 1) : Nat) : Int)) : Int) = ((((a : Nat) : Int) + ((k : Nat) : Int)) + 1)) ∧ (([iD 0, D.lit (.slice none 0 0)] : List D) = [iD 0, D.lit (.slice none 0 0)]) ∧ ((((ch : Nat) : Int) : Int) = ((ch : Nat) : Int)) ∧ ((0 : Nat) = 0) ∧ ((((k + 1) * ch) : Nat) = ((k * ch) + ch)) ∧ (((dI .i32 (waveL s ch a (k + 1))) : List D) = (dI .i32 ((waveL s ch a k) ++ (rowL s (a + k) ch))))) (by kernel_rfl) ⟨rfl, rfl, rfl, rfl, rfl, rfl, (by first | rfl | omega | assumption | (simp; done) | (simp; omega)), rfl, rfl, rfl, (by first | rfl | omega | assumption | (simp; done) | (simp; omega)), (by first | rfl | with_reducible assumption | (simp only [dI_take, dI_drop, dI_app]; rfl) | (congr 1; first | assumption | (simp; done) | omega))⟩ (show f - (k + 1) < f - k from (by first | omega | (show _ < _; simp; omega)))
  · refine AW.rgs [.no, .no, .no, .w, .b false] [0, 1, 2, 3, 8, 9, 10, 20] [0, 1, 2] (P := ((-9223372036854775808) ≤ (((a : Nat) : Int) + ((f : Nat) : Int)) ∧ (((a : Nat) : Int) + ((f : Nat) : Int)) ≤ 9223372036854775807) ∧ (¬ ((((a : Nat) : Int) + ((k : Nat) : Int)) < (((a : Nat) : Int) + ((f : Nat) : Int))))) (l' := [(0, iV ↑s), (1, iV ↑ch), (2, iV ↑a), (3, iV ↑f), (8, rV 0 0), (9, rV 1 0), (10, iV (↑a + ↑k)), (20, .e (.c (.d (D.lit (.bool false)))))]) (g' := [(0, some (34, .ds [iD 0, D.lit (.slice none 0 0)])), (1, some (34, .cs [iC ↑ch, .own 2 0 (k * ch) 1 true])), (2, some (21, .ds (dI .i32 (waveL s ch a k))))]) (nx' := 3) (by kernel_rfl) ⟨⟨by omega, by omega⟩, (by omega)⟩ ?_
    refine AW.cond_f (.tmp (Look.of rfl)) ?_
    refine AW.exit ?_
    refine AW.rgs [.no, .no] [8] [0, 2] (P := True) (l' := [(8, rV 0 0)]) (g' := [(0, some (34, .cs [iC ↑ch, .own 2 0 (k * ch) 1 true])), (2, some (21, .ds (dI .i32 (waveL s ch a k))))]) (nx' := 3) (by kernel_rfl) trivial ?_
    refine AW.ret ?_
    obtain rfl : f = k := by omega
    exact EndP.of (.inr rfl) [(0, 2)] (P := ((((ch : Nat) : Int) : Int) = ((ch : Nat) : Int)) ∧ ((0 : Nat) = 0) ∧ (((f * ch) : Nat) = (f * ch)) ∧ (((dI .i32 (waveL s ch a f)) : List D) = (dI .i32 (waveL s ch a f)))) (by kernel_rfl) ⟨rfl, rfl, rfl, rfl⟩
end Go.Proofs.Ytkneaefmjdlegaa
