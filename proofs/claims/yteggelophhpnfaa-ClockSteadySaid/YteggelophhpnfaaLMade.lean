/- Dice. No statement is proved here. -/
import Derived.Test.YteggelophhpnfaaL04
namespace Go.Proofs.Yteggelophhpnfaa
open Go.ChangeShapes Go.WideShapes Go.ChangeAt Go.RowKit
set_option linter.unusedVariables false
set_option linter.unusedSimpArgs false


def Byt (l : List Int) : Prop := ∀ j, j < List.length l → 0 ≤ List.getD l j 0 ∧ List.getD l j 0 ≤ 255
theorem Byt.at {l : List Int} (h : Byt l) (j : Nat) (hj : j < List.length l) : 0 ≤ List.getD l j 0 ∧ List.getD l j 0 ≤ 255 := h j hj
theorem Byt.drop {l : List Int} (h : Byt l) (n : Nat) : Byt (List.drop n l) := by
  intro j hj
  rw [List.length_drop] at hj
  rw [getD_drop]; exact h _ (by omega)
theorem Byt.take {l : List Int} (h : Byt l) (n : Nat) : Byt (List.take n l) := by
  intro j hj
  rw [List.length_take] at hj
  rw [getD_take (by omega)]; exact h _ (by omega)
theorem Byt.of {l : List Int} (h : ∀ x ∈ l, 0 ≤ x ∧ x ≤ 255) : Byt l := by
  intro j hj
  rw [List.getD_eq_getElem?_getD, List.getElem?_eq_getElem hj]
  exact h _ (List.getElem_mem hj)
def nextN (l : List Int) (n : Int) : Nat := if l.length = 0 ∨ n ≤ 1 then 0 else (List.getD l 0 0 % n).toNat
def nextL (l : List Int) (n : Int) : List Int := if l.length = 0 ∨ n ≤ 1 then l else List.drop 1 l
theorem nextV_yes {l : List Int} {n : Int} (h : l.length = 0 ∨ n ≤ 1) : ((nextN l n : Nat) : Int) = 0 := by unfold nextN; rw [if_pos h]; rfl
theorem nextL_yes {l : List Int} {n : Int} (h : l.length = 0 ∨ n ≤ 1) : nextL l n = l := if_pos h
theorem nextV_no {l : List Int} {n : Int} (hb : Byt l) (h : ¬ (l.length = 0 ∨ n ≤ 1)) : ((nextN l n : Nat) : Int) = List.getD l 0 0 % n := by
  unfold nextN; rw [if_neg h]; exact Int.toNat_of_nonneg (Int.emod_nonneg _ (by omega))
theorem nextL_no {l : List Int} {n : Int} (h : ¬ (l.length = 0 ∨ n ≤ 1)) : nextL l n = List.drop 1 l := if_neg h
theorem nextL_byt {l : List Int} (n : Int) (h : Byt l) : Byt (nextL l n) := by
  unfold nextL; split
  · exact h
  · exact h.drop 1
theorem nextL_len (l : List Int) (n : Int) : (nextL l n).length ≤ l.length := by
  unfold nextL; split
  · exact Nat.le_refl _
  · rw [List.length_drop]; omega
theorem nextV_in (l : List Int) (n : Int) (h : Byt l) : (((nextN l n : Nat) : Int) < n ∨ nextN l n = 0) ∧ nextN l n ≤ 255 := by
  by_cases hn : l.length = 0 ∨ n ≤ 1
  · have := nextV_yes hn; omega
  · have e0 := nextV_no h hn
    have h0 := h 0 (by omega)
    have e3 := Int.emod_lt_of_pos (List.getD l 0 0) (b := n) (by omega)
    have e1 := Int.mul_ediv_add_emod (List.getD l 0 0) n
    have e2 : 0 ≤ n * (List.getD l 0 0 / n) := Int.mul_nonneg (by omega) (Int.ediv_nonneg h0.1 (by omega))
    omega
def sampV (l : List Int) : Int :=
  if nextN l 8 = 0 then 0 else if nextN l 8 = 1 then 8388607 else if nextN l 8 = 2 then -8388608 else if nextN l 8 = 3 then (nextN (nextL l 8) 256 : Int) - 128
  else (nextN (nextL l 8) 256 : Int) * 65536 - 8388608 + (nextN (nextL (nextL l 8) 256) 256 : Int) * 256 + (nextN (nextL (nextL (nextL l 8) 256) 256) 256 : Int)
def sampL (l : List Int) : List Int :=
  if nextN l 8 = 0 then nextL l 8 else if nextN l 8 = 1 then nextL l 8 else if nextN l 8 = 2 then nextL l 8 else if nextN l 8 = 3 then nextL (nextL l 8) 256
  else nextL (nextL (nextL (nextL l 8) 256) 256) 256
theorem sampL_byt {l : List Int} (h : Byt l) : Byt (sampL l) := by
  unfold sampL
  repeat' split
  all_goals repeat first | exact h | refine nextL_byt _ ?_
theorem sampL_len (l : List Int) : (sampL l).length ≤ l.length := by
  unfold sampL
  repeat' split
  all_goals first | exact nextL_len _ _ | exact Nat.le_trans (nextL_len _ _) (nextL_len _ _) | exact Nat.le_trans (nextL_len _ _) (Nat.le_trans (nextL_len _ _) (Nat.le_trans (nextL_len _ _) (nextL_len _ _)))
theorem sampV_smp {l : List Int} (h : Byt l) : -8388608 ≤ sampV l ∧ sampV l ≤ 8388607 := by
  have h1 := nextV_in (nextL l 8) 256 (nextL_byt _ h)
  have h2 := nextV_in (nextL (nextL l 8) 256) 256 (nextL_byt _ (nextL_byt _ h))
  have h3 := nextV_in (nextL (nextL (nextL l 8) 256) 256) 256 (nextL_byt _ (nextL_byt _ (nextL_byt _ h)))
  unfold sampV
  repeat' split
  all_goals omega
def itL : Nat → List Int → List Int
  | 0, l => l
  | k + 1, l => sampL (itL k l)
def blkV : Nat → List Int → List Int
  | 0, _ => []
  | k + 1, l => blkV k l ++ [sampV (itL k l)]
theorem itL_byt {l : List Int} (h : Byt l) : ∀ k, Byt (itL k l)
  | 0 => h
  | k + 1 => sampL_byt (itL_byt h k)
theorem blkV_len (l : List Int) : ∀ k, List.length (blkV k l) = k
  | 0 => rfl
  | k + 1 => by show (blkV k l ++ [_]).length = _; rw [List.length_append, blkV_len l k]; rfl
theorem blkV_smp {l : List Int} (h : Byt l) : ∀ k j, j < List.length (blkV k l) → smpB (List.getD (blkV k l) j 0) = true
  | 0, j, hj => absurd hj (Nat.not_lt_zero j)
  | k + 1, j, hj => by
    rw [blkV_len] at hj
    show smpB (List.getD (blkV k l ++ [sampV (itL k l)]) j 0) = true
    by_cases hk : j < k
    · rw [getD_app_l (by rw [blkV_len]; exact hk)]; exact blkV_smp h k j (by rw [blkV_len]; exact hk)
    · rw [getD_app_r (by rw [blkV_len]; omega), blkV_len, show j - k = 0 by omega]
      exact smp_of (sampV_smp (itL_byt h k))
theorem blkV_BV {l : List Int} (h : Byt l) {c f : Nat} (h1 : 1 ≤ c) (h2 : c ≤ 8) (h3 : f ≤ 65536) : BV c f (blkV (c * f) l) := ⟨h1, h2, by rw [blkV_len, Nat.mul_comm], h3, blkV_smp h _⟩
def wv (s c i : Nat) : Int := (((i : Int) * 7919 + (c : Int) * 104729 + (s : Int) * 15485863) % 4001 - 2000) * 1000
theorem wv_smp (s c i : Nat) : -8388608 ≤ wv s c i ∧ wv s c i ≤ 8388607 := by unfold wv; omega
def rowL (s i : Nat) : Nat → List Int
  | 0 => []
  | c + 1 => rowL s i c ++ [wv s c i]
def waveL (s ch a : Nat) : Nat → List Int
  | 0 => []
  | k + 1 => waveL s ch a k ++ rowL s (a + k) ch
theorem rowL_len (s i : Nat) : ∀ c, List.length (rowL s i c) = c
  | 0 => rfl
  | c + 1 => by show (rowL s i c ++ [_]).length = _; rw [List.length_append, rowL_len s i c]; rfl
theorem waveL_len (s ch a : Nat) : ∀ k, List.length (waveL s ch a k) = k * ch
  | 0 => by simp [waveL]
  | k + 1 => by show (waveL s ch a k ++ _).length = _; rw [List.length_append, waveL_len s ch a k, rowL_len, Nat.succ_mul]
theorem all_app {l m : List Int} {p : Int → Bool} (h1 : ∀ j, j < List.length l → p (List.getD l j 0) = true) (h2 : ∀ j, j < List.length m → p (List.getD m j 0) = true) : ∀ j, j < List.length (l ++ m) → p (List.getD (l ++ m) j 0) = true := by
  intro j hj
  rw [List.length_append] at hj
  by_cases hk : j < l.length
  · rw [getD_app_l hk]; exact h1 j hk
  · rw [getD_app_r (by omega)]; exact h2 _ (by omega)
theorem all_sing {x : Int} {p : Int → Bool} (h : p x = true) : ∀ j, j < List.length [x] → p (List.getD [x] j 0) = true := by
  intro j hj
  have : j = 0 := by simp at hj; exact hj
  subst this; exact h
theorem rowL_smp (s i : Nat) : ∀ c j, j < List.length (rowL s i c) → smpB (List.getD (rowL s i c) j 0) = true
  | 0 => fun j hj => absurd hj (Nat.not_lt_zero j)
  | c + 1 => all_app (rowL_smp s i c) (all_sing (smp_of (wv_smp s c i)))
theorem waveL_smp (s ch a : Nat) : ∀ k j, j < List.length (waveL s ch a k) → smpB (List.getD (waveL s ch a k) j 0) = true
  | 0 => fun j hj => absurd hj (Nat.not_lt_zero j)
  | k + 1 => all_app (waveL_smp s ch a k) (rowL_smp s (a + k) ch)
theorem waveL_BV {s ch a f : Nat} (h1 : 1 ≤ ch) (h2 : ch ≤ 8) (h3 : f ≤ 65536) : BV ch f (waveL s ch a f) := ⟨h1, h2, waveL_len s ch a f, h3, waveL_smp s ch a f⟩

set_option maxHeartbeats 4000000 in
set_option maxRecDepth 100000 in
theorem G_New (l : List Int) (n : Nat) (hn : List.length l = n) (hb : n ≤ 9223372036854775807) : Fun 25 [.c (.d (D.sl (dI .u8 l) n))] (toG []) 0 (rV 0 0) (toG [(0, some (72, .ds [D.sl (dI .u8 (List.take (min n 300) l)) (List.length (List.take (min n 300) l))]))]) 1 := by
  refine Fun.mk (n := 10) Try.func25 rfl rfl (Nat.le_of_ble_eq_true rfl) ?_
  intro cx hcx
  refine AW.rgs [.no] [0] [] (P := True) (l' := [(0, .e (.c (.d (D.sl (dI .u8 l) n))))]) (g' := []) (nx' := 0) (by kernel_rfl) trivial ?_
  refine AW.rgs [.no, .no, .no, .no, .sls 0 (min n 300) (min n 300) (dI .u8 (List.take (min n 300) l)), .no, .no, .no] [2] [0] (P := ((0 : Nat) = 0) ∧ (((min ((n : Nat) : Int) 300) : Int) = (((min n 300) : Nat) : Int)) ∧ ((0 : Nat) ≤ (min n 300)) ∧ ((min n 300) ≤ n) ∧ ((min n 300) - 0 = (min n 300)) ∧ (List.take ((min n 300) * 1) (List.drop (0 * 1) (dI .u8 l)) = (dI .u8 (List.take (min n 300) l)))) (l' := [(2, rV 0 0)]) (g' := [(0, some (72, .ds [D.sl (dI .u8 (List.take (min n 300) l)) (min n 300)]))]) (nx' := 1) (by kernel_rfl) ⟨rfl, (by first | rfl | omega), (by omega), (by omega), (by omega), (by first | rfl | with_reducible assumption | exact dI_app _ _ _ | exact dI_rep _ _ _ | (simp only [dI_take, dI_drop, dI_app, Nat.mul_one, Nat.zero_mul, List.drop_zero, List.nil_append, List.append_nil]; done) | (simp only [dI_take, dI_drop, dI_app, Nat.mul_one, Nat.zero_mul, List.drop_zero, List.nil_append, List.append_nil]; rfl) | (rw [List.take_of_length_le (by simp only [dI_len, List.length_drop, List.length_replicate, Nat.mul_one]; omega)]; first | rfl | (simp only [dI_drop, Nat.mul_one, Nat.zero_mul, List.drop_zero]; done) | (simp only [dI_drop, Nat.mul_one, Nat.zero_mul, List.drop_zero]; rfl)))⟩ ?_
  refine AW.ret ?_
  exact EndP.of (.inr rfl) [] (P := ((0 : Nat) = 0) ∧ (([D.sl (dI .u8 (List.take (min n 300) l)) (List.length (List.take (min n 300) l))] : List D) = [D.sl (dI .u8 (List.take (min n 300) l)) (min n 300)])) (by kernel_rfl) ⟨rfl, (by have e9 : (List.take (min n 300) l).length = min n 300 := (by rw [List.length_take]; omega); rw [e9])⟩

set_option maxHeartbeats 4000000 in
set_option maxRecDepth 100000 in
theorem G_Next (l : List Int) (n : Int) (hb : Byt l) : Fun 39 [.c (.ptr 0 0), iE n] (toG [(0, some (72, .ds [D.sl (dI .u8 l) (List.length l)]))]) 1 (iV (((nextN l n) : Nat) : Int)) (toG [(0, some (72, .ds [D.sl (dI .u8 (nextL l n)) (List.length (nextL l n))]))]) 1 := by
  refine Fun.mk (n := 34) Try.func39 rfl rfl (Nat.le_of_ble_eq_true rfl) ?_
  intro cx hcx
  refine AW.rgs [.no] [0, 1] [0] (P := True) (l' := [(0, rV 0 0), (1, iV n)]) (g' := [(0, some (72, .ds [D.sl (dI .u8 l) (List.length l)]))]) (nx' := 1) (by kernel_rfl) trivial ?_
  refine AW.seq ?_
  by_cases hx1 : ((((List.length l) : Nat) : Int) = 0)
  · refine AW.rgs [.no, .no, .no, .no, .no, .b true, .no, .no] [0, 1, 15] [0] (P := (((((List.length l) : Nat) : Int) = 0))) (l' := [(0, rV 0 0), (1, iV n), (15, .e (.c (.d (D.lit (.bool true)))))]) (g' := [(0, some (72, .ds [D.sl (dI .u8 l) (List.length l)]))]) (nx' := 1) (by kernel_rfl) (by omega) ?_
    refine AW.cond_t (.tmp (Look.of rfl)) ?_
    refine AW.rgs [.no] [4] [0] (P := True) (l' := [(4, iV 0)]) (g' := [(0, some (72, .ds [D.sl (dI .u8 l) (List.length l)]))]) (nx' := 1) (by kernel_rfl) trivial ?_
    refine AW.ret ?_
    exact EndP.of (.inr rfl) [] (P := (((((nextN l n) : Nat) : Int) : Int) = 0) ∧ (([D.sl (dI .u8 (nextL l n)) (List.length (nextL l n))] : List D) = [D.sl (dI .u8 l) (List.length l)])) (by kernel_rfl) ⟨(by first | rfl | exact nextV_yes (by omega) | exact nextV_no hb (by omega) | (rw [nextL_yes (by omega)]) | (rw [nextL_no (by omega), List.length_drop])), (by first | rw [nextL_yes (by omega)] | rw [nextL_no (by omega), List.length_drop])⟩
  · by_cases hx2 : (n ≤ 1)
    · refine AW.rgs [.no, .no, .no, .no, .no, .b false, .no, .no, .b true, .no] [0, 1, 15] [0] (P := (¬ ((((List.length l) : Nat) : Int) = 0)) ∧ ((n ≤ 1))) (l' := [(0, rV 0 0), (1, iV n), (15, .e (.c (.d (D.lit (.bool true)))))]) (g' := [(0, some (72, .ds [D.sl (dI .u8 l) (List.length l)]))]) (nx' := 1) (by kernel_rfl) ⟨(by omega), (by omega)⟩ ?_
      refine AW.cond_t (.tmp (Look.of rfl)) ?_
      refine AW.rgs [.no] [4] [0] (P := True) (l' := [(4, iV 0)]) (g' := [(0, some (72, .ds [D.sl (dI .u8 l) (List.length l)]))]) (nx' := 1) (by kernel_rfl) trivial ?_
      refine AW.ret ?_
      exact EndP.of (.inr rfl) [] (P := (((((nextN l n) : Nat) : Int) : Int) = 0) ∧ (([D.sl (dI .u8 (nextL l n)) (List.length (nextL l n))] : List D) = [D.sl (dI .u8 l) (List.length l)])) (by kernel_rfl) ⟨(by first | rfl | exact nextV_yes (by omega) | exact nextV_no hb (by omega) | (rw [nextL_yes (by omega)]) | (rw [nextL_no (by omega), List.length_drop])), (by first | rw [nextL_yes (by omega)] | rw [nextL_no (by omega), List.length_drop])⟩
    · refine AW.rgs [.no, .no, .no, .no, .no, .b false, .no, .no, .b false, .no] [0, 1, 15] [0] (P := (¬ ((((List.length l) : Nat) : Int) = 0)) ∧ (¬ (n ≤ 1))) (l' := [(0, rV 0 0), (1, iV n), (15, .e (.c (.d (D.lit (.bool false)))))]) (g' := [(0, some (72, .ds [D.sl (dI .u8 l) (List.length l)]))]) (nx' := 1) (by kernel_rfl) ⟨(by omega), (by omega)⟩ ?_
      refine AW.cond_f (.tmp (Look.of rfl)) ?_
      refine AW.skip ?_
      have hx3 : 0 ≤ (List.getD l 0 0) ∧ (List.getD l 0 0) ≤ 255 := hb.at 0 (by omega)
      refine AW.rgs [.no, .no, .no, .no, .n 0, .d (D.lit (.int .u8 (List.getD l 0 0))), .w, .no] [0, 1, 5] [0] (P := ((0 : Int) = 0) ∧ ((0 : Nat) < (List.length l)) ∧ ((List.drop 0 (dI .u8 l))[0]? = some (D.lit (.int .u8 (List.getD l 0 0)))) ∧ ((-9223372036854775808) ≤ (List.getD l 0 0) ∧ (List.getD l 0 0) ≤ 9223372036854775807)) (l' := [(0, rV 0 0), (1, iV n), (5, iV (List.getD l 0 0))]) (g' := [(0, some (72, .ds [D.sl (dI .u8 l) (List.length l)]))]) (nx' := 1) (by kernel_rfl) ⟨rfl, (by omega), (dI_at _ _ _ (by first | omega | (rw [dI_len]; omega) | (simp [dI_len] <;> omega) | rfl)), ⟨by omega, by omega⟩⟩ ?_
      refine AW.rgs [.no, .no, .no, .no, .no, .sls 1 (List.length l) ((List.length l) - 1) (dI .u8 (List.drop 1 l)), .no, .no, .no] [1, 5] [0] (P := ((1 : Int) = 1) ∧ ((List.length l) = (List.length l)) ∧ ((1 : Nat) ≤ (List.length l)) ∧ ((List.length l) ≤ (List.length l)) ∧ ((List.length l) - 1 = ((List.length l) - 1)) ∧ (List.take (((List.length l) - 1) * 1) (List.drop (1 * 1) (dI .u8 l)) = (dI .u8 (List.drop 1 l)))) (l' := [(1, iV n), (5, iV (List.getD l 0 0))]) (g' := [(0, some (72, .ds [D.sl (dI .u8 (List.drop 1 l)) ((List.length l) - 1)]))]) (nx' := 1) (by kernel_rfl) ⟨rfl, rfl, (by omega), (by omega), (by omega), (by first | rfl | with_reducible assumption | exact dI_app _ _ _ | exact dI_rep _ _ _ | (simp only [dI_take, dI_drop, dI_app, Nat.mul_one, Nat.zero_mul, List.drop_zero, List.nil_append, List.append_nil]; done) | (simp only [dI_take, dI_drop, dI_app, Nat.mul_one, Nat.zero_mul, List.drop_zero, List.nil_append, List.append_nil]; rfl) | (rw [List.take_of_length_le (by simp only [dI_len, List.length_drop, List.length_replicate, Nat.mul_one]; omega)]; first | rfl | (simp only [dI_drop, Nat.mul_one, Nat.zero_mul, List.drop_zero]; done) | (simp only [dI_drop, Nat.mul_one, Nat.zero_mul, List.drop_zero]; rfl)))⟩ ?_
      refine AW.rgs [.no, .no, .ps, .no] [4] [0] (P := ((0 : Int) ≤ ((List.getD l 0 0) : Int)) ∧ ((0 : Int) < (n : Int))) (l' := [(4, iV ((List.getD l 0 0) % n))]) (g' := [(0, some (72, .ds [D.sl (dI .u8 (List.drop 1 l)) ((List.length l) - 1)]))]) (nx' := 1) (by kernel_rfl) ⟨(by omega), (by omega)⟩ ?_
      refine AW.ret ?_
      exact EndP.of (.inr rfl) [] (P := (((((nextN l n) : Nat) : Int) : Int) = ((List.getD l 0 0) % n)) ∧ (([D.sl (dI .u8 (nextL l n)) (List.length (nextL l n))] : List D) = [D.sl (dI .u8 (List.drop 1 l)) ((List.length l) - 1)])) (by kernel_rfl) ⟨(by first | rfl | exact nextV_yes (by omega) | exact nextV_no hb (by omega) | (rw [nextL_yes (by omega)]) | (rw [nextL_no (by omega), List.length_drop])), (by first | rw [nextL_yes (by omega)] | rw [nextL_no (by omega), List.length_drop])⟩

end Go.Proofs.Yteggelophhpnfaa
