/- A block in pieces. No statement is proved here. -/
import Derived.Test.YtfnchjmghklmnaaL04
import Derived.Test.YtfnchjmghklmnaaAmD
namespace Go.Proofs.Ytfnchjmghklmnaa
open Go.ChangeShapes Go.WideShapes Go.ChangeAt Go.RowKit
set_option linter.unusedVariables false
set_option linter.unusedSimpArgs false


def pcL (ch : Nat) (l : List Int) (f t : Nat) : List Int := List.take (t * ch - f * ch) (List.drop (f * ch) l)
def pcE (ch : Nat) (l : List Int) (f t : Nat) : List D := [D.lit (.int .i64 ((ch : Nat) : Int)), D.sl (dI .i32 (pcL ch l f t)) (t * ch - f * ch)]
def pcA (xs : List D) (ch : Nat) (l : List Int) (f t : Nat) : List D := xs ++ pcE ch l f t
def cuS (a : List Int) (k : Nat) : Nat := (List.getD a k 0 % 8).toNat
def cuF (n : Nat) (a : List Int) : Nat → Nat
  | 0 => 0
  | k + 1 => if cuF n a k + cuS a k ≤ n then cuF n a k + cuS a k else cuF n a k
def cuC (n : Nat) (a : List Int) : Nat → Nat
  | 0 => 0
  | k + 1 => if cuF n a k + cuS a k ≤ n then cuC n a k + 1 else cuC n a k
def cuD (ch : Nat) (l : List Int) (n : Nat) (a : List Int) : Nat → List D
  | 0 => []
  | k + 1 => if cuF n a k + cuS a k ≤ n then pcA (cuD ch l n a k) ch l (cuF n a k) (cuF n a k + cuS a k) else cuD ch l n a k
theorem cuS_at {a : List Int} {k : Nat} (h : 0 ≤ List.getD a k 0 ∧ List.getD a k 0 ≤ 255) : (0 ≤ List.getD a k 0 ∧ List.getD a k 0 ≤ 255) ∧ ((cuS a k : Nat) : Int) = List.getD a k 0 % 8 ∧ cuS a k ≤ 7 := by
  refine ⟨h, ?_, ?_⟩ <;> unfold cuS <;> omega
theorem cuF_le (n : Nat) (a : List Int) : ∀ k, cuF n a k ≤ n
  | 0 => Nat.zero_le _
  | k + 1 => by
    show (if _ then _ else _) ≤ n
    split
    · assumption
    · exact cuF_le n a k
theorem cuD_len (ch : Nat) (l : List Int) (n : Nat) (a : List Int) : ∀ k, List.length (cuD ch l n a k) = cuC n a k * 2
  | 0 => rfl
  | k + 1 => by
    have ih := cuD_len ch l n a k
    show List.length (if cuF n a k + cuS a k ≤ n then pcA (cuD ch l n a k) ch l (cuF n a k) (cuF n a k + cuS a k) else cuD ch l n a k) = (if cuF n a k + cuS a k ≤ n then cuC n a k + 1 else cuC n a k) * 2
    split
    · show List.length (_ ++ pcE _ _ _ _) = _
      rw [List.length_append, ih]; show cuC n a k * 2 + 2 = (cuC n a k + 1) * 2; omega
    · exact ih
theorem cu_yes {n : Nat} {a : List Int} {k ch : Nat} {l : List Int} (h : cuF n a k + cuS a k ≤ n) : cuF n a (k + 1) = cuF n a k + cuS a k ∧ cuC n a (k + 1) = cuC n a k + 1 ∧ cuD ch l n a (k + 1) = pcA (cuD ch l n a k) ch l (cuF n a k) (cuF n a k + cuS a k) := ⟨if_pos h, if_pos h, if_pos h⟩
theorem cu_no {n : Nat} {a : List Int} {k ch : Nat} {l : List Int} (h : ¬ cuF n a k + cuS a k ≤ n) : cuF n a (k + 1) = cuF n a k ∧ cuC n a (k + 1) = cuC n a k ∧ cuD ch l n a (k + 1) = cuD ch l n a k := ⟨if_neg h, if_neg h, if_neg h⟩
theorem cuC_le (n : Nat) (a : List Int) : ∀ k, cuC n a k ≤ k
  | 0 => Nat.le_refl _
  | k + 1 => by
    have ih := cuC_le n a k
    show (if cuF n a k + cuS a k ≤ n then cuC n a k + 1 else cuC n a k) ≤ k + 1
    split <;> omega
/-- where piece i begins, as far as step k -/
def cuA (n : Nat) (a : List Int) : Nat → Nat → Nat
  | 0, _ => 0
  | k + 1, i => if cuF n a k + cuS a k ≤ n then (if i ≤ cuC n a k then cuA n a k i else cuF n a k + cuS a k) else cuA n a k i
theorem cuA_le (n : Nat) (a : List Int) : ∀ k i, cuA n a k i ≤ cuF n a k
  | 0, _ => Nat.le_refl _
  | k + 1, i => by
    have ih := cuA_le n a k i
    show (if cuF n a k + cuS a k ≤ n then (if i ≤ cuC n a k then cuA n a k i else cuF n a k + cuS a k) else cuA n a k i) ≤ (if cuF n a k + cuS a k ≤ n then cuF n a k + cuS a k else cuF n a k)
    split
    · split <;> omega
    · exact ih
theorem cuA_hi (n : Nat) (a : List Int) : ∀ k i, cuC n a k ≤ i → cuA n a k i = cuF n a k
  | 0, _, _ => rfl
  | k + 1, i, h => by
    have ih := cuA_hi n a k i
    replace h : (if cuF n a k + cuS a k ≤ n then cuC n a k + 1 else cuC n a k) ≤ i := h
    show (if cuF n a k + cuS a k ≤ n then (if i ≤ cuC n a k then cuA n a k i else cuF n a k + cuS a k) else cuA n a k i) = (if cuF n a k + cuS a k ≤ n then cuF n a k + cuS a k else cuF n a k)
    split
    · rw [if_pos (by assumption)] at h; rw [if_neg (by omega)]
    · rw [if_neg (by assumption)] at h; exact ih h
theorem cuA_mono (n : Nat) (a : List Int) : ∀ k i, cuA n a k i ≤ cuA n a k (i + 1)
  | 0, _ => Nat.le_refl _
  | k + 1, i => by
    have ih := cuA_mono n a k i
    have hl := cuA_le n a k i
    show (if cuF n a k + cuS a k ≤ n then (if i ≤ cuC n a k then cuA n a k i else cuF n a k + cuS a k) else cuA n a k i) ≤ (if cuF n a k + cuS a k ≤ n then (if i + 1 ≤ cuC n a k then cuA n a k (i + 1) else cuF n a k + cuS a k) else cuA n a k (i + 1))
    split
    · split <;> split <;> omega
    · exact ih
theorem cuA_z (n : Nat) (a : List Int) : ∀ k, cuA n a k 0 = 0
  | 0 => rfl
  | k + 1 => by
    show (if cuF n a k + cuS a k ≤ n then (if 0 ≤ cuC n a k then cuA n a k 0 else cuF n a k + cuS a k) else cuA n a k 0) = 0
    rw [if_pos (Nat.zero_le _), cuA_z n a k, ite_self]
theorem pc_last {x : List D} {c i : Nat} {ch : Nat} {l : List Int} {f t : Nat} (h : List.length x = c * 2) (e : i = c) : List.take 2 (List.drop (i * 2) (pcA x ch l f t)) = pcE ch l f t := by
  subst e
  unfold pcA
  rw [List.drop_append_of_le_length (by omega), List.drop_of_length_le (by omega)]; rfl
theorem pc_low {x : List D} {c i : Nat} {ch : Nat} {l : List Int} {f t : Nat} (h : List.length x = c * 2) (e : i < c) : List.take 2 (List.drop (i * 2) (pcA x ch l f t)) = List.take 2 (List.drop (i * 2) x) := by
  unfold pcA
  rw [List.drop_append_of_le_length (by omega), List.take_append_of_le_length (by rw [List.length_drop]; omega)]
theorem cuD_at (ch : Nat) (l : List Int) (n : Nat) (a : List Int) : ∀ k i, i < cuC n a k → List.take 2 (List.drop (i * 2) (cuD ch l n a k)) = pcE ch l (cuA n a k i) (cuA n a k (i + 1))
  | 0, _, h => absurd h (Nat.not_lt_zero _)
  | k + 1, i, h => by
    have ih := cuD_at ch l n a k i
    have hlen := cuD_len ch l n a k
    replace h : i < (if cuF n a k + cuS a k ≤ n then cuC n a k + 1 else cuC n a k) := h
    show List.take 2 (List.drop (i * 2) (if cuF n a k + cuS a k ≤ n then pcA (cuD ch l n a k) ch l (cuF n a k) (cuF n a k + cuS a k) else cuD ch l n a k)) = pcE ch l (if cuF n a k + cuS a k ≤ n then (if i ≤ cuC n a k then cuA n a k i else cuF n a k + cuS a k) else cuA n a k i) (if cuF n a k + cuS a k ≤ n then (if i + 1 ≤ cuC n a k then cuA n a k (i + 1) else cuF n a k + cuS a k) else cuA n a k (i + 1))
    split
    · rw [if_pos (by assumption)] at h
      by_cases hi : i < cuC n a k
      · rw [pc_low hlen hi, if_pos (by omega), if_pos (by omega)]; exact ih hi
      · have e : i = cuC n a k := by omega
        rw [pc_last hlen e, if_pos (by omega), if_neg (by omega), cuA_hi n a k i (by omega)]
    · rw [if_neg (by assumption)] at h; exact ih h
def fA (p : Nat → Nat) (i : Nat) : Nat := p i
/-- pieces of a block: where they begin, and what they are -/
structure Pcs (ch n : Nat) (l : List Int) (P : Nat) (p : Nat → Nat) (x : List D) : Prop where
  pos : 1 ≤ P
  len : List.length x = P * 2
  z : fA p 0 = 0
  e : fA p P = n
  mono : ∀ i, fA p i ≤ fA p (i + 1)
  le : ∀ i, fA p i ≤ n
  at' : ∀ i, i < P → List.take 2 (List.drop (i * 2) x) = pcE ch l (fA p i) (fA p (i + 1))
def cuP (n : Nat) (a : List Int) (q i : Nat) : Nat := if i ≤ cuC n a q then cuA n a q i else n
theorem cu_Pcs (ch n : Nat) (l : List Int) (a : List Int) (q : Nat) : Pcs ch n l (cuC n a q + 1) (cuP n a q) (pcA (cuD ch l n a q) ch l (cuF n a q) n) where
  pos := by omega
  len := by show List.length (_ ++ pcE _ _ _ _) = _; rw [List.length_append, cuD_len]; show cuC n a q * 2 + 2 = (cuC n a q + 1) * 2; omega
  z := by show (if 0 ≤ cuC n a q then cuA n a q 0 else n) = 0; rw [if_pos (Nat.zero_le _), cuA_z]
  e := by show (if cuC n a q + 1 ≤ cuC n a q then cuA n a q (cuC n a q + 1) else n) = n; rw [if_neg (by omega)]
  mono := fun i => by
    show (if i ≤ cuC n a q then cuA n a q i else n) ≤ (if i + 1 ≤ cuC n a q then cuA n a q (i + 1) else n)
    have h1 := cuA_mono n a q i
    have h2 := cuA_le n a q i
    have h3 := cuF_le n a q
    split <;> split <;> omega
  le := fun i => by
    show (if i ≤ cuC n a q then cuA n a q i else n) ≤ n
    have h2 := cuA_le n a q i
    have h3 := cuF_le n a q
    split <;> omega
  at' := fun i hi => by
    show List.take 2 _ = pcE ch l (if i ≤ cuC n a q then cuA n a q i else n) (if i + 1 ≤ cuC n a q then cuA n a q (i + 1) else n)
    by_cases h : i < cuC n a q
    · rw [pc_low (cuD_len ch l n a q) h, if_pos (by omega), if_pos (by omega)]; exact cuD_at ch l n a q i h
    · rw [pc_last (cuD_len ch l n a q) (show i = cuC n a q by omega), if_pos (by omega), if_neg (by omega), cuA_hi n a q i (by omega)]
theorem pcL_BV {ch n f t : Nat} {l : List Int} (h : BV ch n l) (h1 : f ≤ t) (h2 : t ≤ n) : BV ch (t - f) (pcL ch l f t) := by
  have e1 : t * ch ≤ n * ch := Nat.mul_le_mul_right _ h2
  have e2 : f * ch ≤ t * ch := Nat.mul_le_mul_right _ h1
  have hl := h.len
  have e3 : List.length (pcL ch l f t) = t * ch - f * ch := by unfold pcL; rw [List.length_take, List.length_drop]; omega
  refine ⟨h.c1, h.c8, by rw [e3, Nat.sub_mul], by have := h.fit; omega, fun j hj => ?_⟩
  rw [e3] at hj
  unfold pcL
  rw [getD_take hj, getD_drop]
  exact h.smp _ (by omega)
theorem pcs_facts {ch n : Nat} {l : List Int} {P : Nat} {p : Nat → Nat} {x : List D} (h : Pcs ch n l P p x) (hv : BV ch n l) (i : Nat) : fA p i ≤ fA p (i + 1) ∧ fA p (i + 1) ≤ n ∧ fA p i * ch ≤ fA p (i + 1) * ch ∧ fA p (i + 1) * ch ≤ n * ch ∧ List.length (pcL ch l (fA p i) (fA p (i + 1))) = fA p (i + 1) * ch - fA p i * ch := by
  have e1 := h.mono i
  have e2 := h.le (i + 1)
  have e3 : fA p i * ch ≤ fA p (i + 1) * ch := Nat.mul_le_mul_right _ e1
  have e4 : fA p (i + 1) * ch ≤ n * ch := Nat.mul_le_mul_right _ e2
  have hl := hv.len
  exact ⟨e1, e2, e3, e4, by unfold pcL; rw [List.length_take, List.length_drop]; omega⟩
theorem pcL_at {ch n f t j : Nat} {l : List Int} (h2 : j < t * ch - f * ch) : List.getD (pcL ch l f t) j 0 = List.getD l (f * ch + j) 0 := by
  unfold pcL; rw [getD_take h2, getD_drop]

set_option maxHeartbeats 4000000 in
set_option maxRecDepth 100000 in
theorem Z_Cut (ch f t : Nat) (l : List Int) (n : Nat) (hn : List.length l = n) (h1 : f ≤ t) (h2 : t * ch ≤ n) (hb : n ≤ 10000000) : Fun 25 [.agg [iC ((ch : Nat) : Int), .d (D.sl (dI .i32 l) n)], iE ((f : Nat) : Int), iE ((t : Nat) : Int)] (toG []) 0 (.e (.agg [iC ((ch : Nat) : Int), .d (D.sl (dI .i32 (pcL ch l f t)) ((t * ch) - (f * ch)))])) (toG []) 0 := by
  have hfc : f * ch ≤ t * ch := Nat.mul_le_mul_right _ h1
  refine Fun.mk (n := 22) Try.func25 rfl rfl (Nat.le_of_ble_eq_true rfl) ?_
  intro cx hcx
  refine AW.rgs [.no, .no] [1, 2, 3, 6] [0, 1] (P := True) (l' := [(1, iV ↑f), (2, iV ↑t), (3, rV 0 0), (6, rV 1 0)]) (g' := [(0, some (33, .ds [iD ↑ch, D.sl (dI .i32 l) n])), (1, some (33, .ds [iD 0, D.lit (.slice none 0 0)]))]) (nx' := 2) (by kernel_rfl) trivial ?_
  refine AW.rgs [.no, .no, .no, .no, .no, .no, .no, .w, .no, .no, .no, .w, .sls (f * ch) (t * ch) ((t * ch) - (f * ch)) (dI .i32 (List.take ((t * ch) - (f * ch)) (List.drop (f * ch) l))), .ap none ((t * ch) - (f * ch)) (dI .i32 (List.take ((t * ch) - (f * ch)) (List.drop (f * ch) l))), .no, .no] [6] [1, 2] (P := ((-9223372036854775808) ≤ (((f : Nat) : Int) * ((ch : Nat) : Int)) ∧ (((f : Nat) : Int) * ((ch : Nat) : Int)) ≤ 9223372036854775807) ∧ ((-9223372036854775808) ≤ (((t : Nat) : Int) * ((ch : Nat) : Int)) ∧ (((t : Nat) : Int) * ((ch : Nat) : Int)) ≤ 9223372036854775807) ∧ (((((f : Nat) : Int) * ((ch : Nat) : Int)) : Int) = (((f * ch) : Nat) : Int)) ∧ (((((t : Nat) : Int) * ((ch : Nat) : Int)) : Int) = (((t * ch) : Nat) : Int)) ∧ ((f * ch) ≤ (t * ch)) ∧ ((t * ch) ≤ n) ∧ ((t * ch) - (f * ch) = ((t * ch) - (f * ch))) ∧ (List.take (((t * ch) - (f * ch)) * 1) (List.drop ((f * ch) * 1) (dI .i32 l)) = (dI .i32 (List.take ((t * ch) - (f * ch)) (List.drop (f * ch) l)))) ∧ ((dI .i32 (List.take ((t * ch) - (f * ch)) (List.drop (f * ch) l))).length = ((t * ch) - (f * ch)) * 1) ∧ (((t * ch) - (f * ch)) * 4 ≤ 140737488355328) ∧ (((t * ch) - (f * ch)) = ((t * ch) - (f * ch))) ∧ (((dI .i32 (List.take ((t * ch) - (f * ch)) (List.drop (f * ch) l))) : List D) = (dI .i32 (List.take ((t * ch) - (f * ch)) (List.drop (f * ch) l))))) (l' := [(6, rV 1 0)]) (g' := [(1, some (33, .cs [iC ↑ch, .own 2 0 ((t * ch) - (f * ch)) 1 true])), (2, some (21, .ds (dI .i32 (List.take ((t * ch) - (f * ch)) (List.drop (f * ch) l)))))]) (nx' := 3) (by kernel_rfl) ⟨⟨by omega, by omega⟩, ⟨by omega, by omega⟩, (by first | rfl | omega), (by first | rfl | omega), (by omega), (by omega), (by omega), (by first | rfl | with_reducible assumption | exact dI_app _ _ _ | exact dI_rep _ _ _ | (simp only [dI_take, dI_drop, dI_app, Nat.mul_one, Nat.zero_mul, List.drop_zero, List.nil_append, List.append_nil]; done) | (simp only [dI_take, dI_drop, dI_app, Nat.mul_one, Nat.zero_mul, List.drop_zero, List.nil_append, List.append_nil]; rfl) | (rw [List.take_of_length_le (by simp only [dI_len, List.length_drop, List.length_replicate, Nat.mul_one]; omega)]; first | rfl | (simp only [dI_drop, Nat.mul_one, Nat.zero_mul, List.drop_zero]; done) | (simp only [dI_drop, Nat.mul_one, Nat.zero_mul, List.drop_zero]; rfl))), (by first | omega | (rw [dI_len]; omega) | (simp [dI_len] <;> omega) | rfl), (by omega), rfl, rfl⟩ ?_
  refine AW.freeze 2 (l' := [(6, rV 1 0)]) (g' := [(1, some (33, .ds [iD ((ch : Nat) : Int), D.sl (dI .i32 (List.take ((t * ch) - (f * ch)) (List.drop (f * ch) l))) ((t * ch) - (f * ch))]))]) rfl (FzS.cons rfl (.same _) FzS.nil) (FzG.to (bc := .cs [iC ((ch : Nat) : Int), .own 2 0 ((t * ch) - (f * ch)) 1 true]) rfl (by rfl) (FzL.cons (.same _) (FzL.cons (@FzC.own 2 ((dI .i32 (List.take ((t * ch) - (f * ch)) (List.drop (f * ch) l))) : List D) 0 ((t * ch) - (f * ch)) 1 true ((dI .i32 (List.take ((t * ch) - (f * ch)) (List.drop (f * ch) l))) : List D) (by rw [List.drop_zero, Nat.mul_one, List.take_of_length_le (by first | omega | (rw [dI_len]; omega) | (simp [dI_len] <;> omega))]) (by first | omega | (rw [dI_len]; omega) | (simp [dI_len] <;> omega) | rfl)) FzL.nil)) FzG.nil) ?_
  refine AW.ret ?_
  exact EndP.of (.inr rfl) [] (P := ((((ch : Nat) : Int) : Int) = ((ch : Nat) : Int)) ∧ (((dI .i32 (pcL ch l f t)) : List D) = (dI .i32 (List.take ((t * ch) - (f * ch)) (List.drop (f * ch) l)))) ∧ ((((t * ch) - (f * ch)) : Nat) = ((t * ch) - (f * ch)))) (by kernel_rfl) ⟨rfl, (by first | rfl | with_reducible assumption | (simp only [dI_take, dI_drop, dI_app]; rfl) | (congr 1; first | assumption | (simp; done) | omega)), rfl⟩

set_option maxHeartbeats 4000000 in
set_option maxRecDepth 100000 in
theorem Z_Pieces (ch n : Nat) (l : List Int) (N : Nat) (a : List Int) (q : Nat) (hn : List.length l = N) (hv : BV ch n l) (ha : List.length a = q) (hq : q ≤ 1000) (hy : ∀ j, j < q → 0 ≤ List.getD a j 0 ∧ List.getD a j 0 ≤ 255) : Fun 10 [.agg [iC ((ch : Nat) : Int), .d (D.sl (dI .i32 l) N)], .c (.d (D.sl (dI .u8 a) q))] (toG []) 0 (oV 0 0 ((cuC n a q) + 1) 2) (toG [(0, some (33, .ds (pcA (cuD ch l n a q) ch l (cuF n a q) n)))]) 1 := by
  have hlN : N = n * ch := hn.symm.trans hv.len
  have hbig : n * ch ≤ 524288 := hv.big
  have hfit : n ≤ 65536 := hv.fit
  refine Fun.mk (n := 43) Try.func10 rfl rfl (Nat.le_of_ble_eq_true rfl) ?_
  intro cx hcx
  refine AW.rgs [.no, .no] [1, 2] [0] (P := True) (l' := [(1, sV .u8 a q), (2, rV 0 0)]) (g' := [(0, some (33, .ds [iD ↑ch, D.sl (dI .i32 l) N]))]) (nx' := 1) (by kernel_rfl) trivial ?_
  refine AW.rgs [.no] [1, 2, 5] [0] (P := True) (l' := [(1, sV .u8 a q), (2, rV 0 0), (5, nV)]) (g' := [(0, some (33, .ds [iD ↑ch, D.sl (dI .i32 l) N]))]) (nx' := 1) (by kernel_rfl) trivial ?_
  refine AW.rgs [.no, .call [] (iV ((n : Nat) : Int)) [] 0 [] none, .no, .no] [1, 2, 5, 6, 7] [0] (P := (_)) (l' := [(1, sV .u8 a q), (2, rV 0 0), (5, nV), (6, iV 0), (7, iV ↑n)]) (g' := [(0, some (33, .ds [iD ↑ch, D.sl (dI .i32 l) N]))]) (nx' := 1) (by kernel_rfl) (G_rFrames ch n l N (by omega) (by first | omega | with_reducible assumption | (simp <;> omega) | rfl | assumption)) ?_
  refine AW.seq ?_
  refine AW.rgs [.no, .no, .no] [2, 5, 6, 7, 13, 14, 15] [0] (P := True) (l' := [(2, rV 0 0), (5, nV), (6, iV 0), (7, iV ↑n), (13, sV .u8 a q), (14, iV ↑q), (15, iV 0)]) (g' := [(0, some (33, .ds [iD ↑ch, D.sl (dI .i32 l) N]))]) (nx' := 1) (by kernel_rfl) trivial ?_
  refine AW.block ?_
  refine AW.adoptS 5 2 33 rfl ?_
  refine AW.loopE 0 hcx (fun (x : {x : Nat // match x with | k => (k ≤ q)}) => match x with | ⟨k, _⟩ => (⟨[(2, rV 0 0), (5, oV 1 0 (cuC n a k) 2), (6, iV (((cuF n a k) : Nat) : Int)), (7, iV ((n : Nat) : Int)), (13, sV .u8 a q), (14, iV ((q : Nat) : Int)), (15, iV ((k : Nat) : Int))], [(0, some (33, .ds [iD ((ch : Nat) : Int), D.sl (dI .i32 l) N])), (1, some (33, .ds (cuD ch l n a k)))], 2⟩ : ES)) (fun (x : {x : Nat // match x with | k => (k ≤ q)}) => match x with | ⟨k, _⟩ => q - k) ⟨(0 : Nat), (show ((0 : Nat) ≤ q) from (by first | omega | assumption | simp))⟩ [] (P := ((0 : Nat) = 0) ∧ ((0 : Nat) = 0) ∧ (((cuC n a 0) : Nat) = 0) ∧ (((((cuF n a 0) : Nat) : Int) : Int) = 0) ∧ ((((n : Nat) : Int) : Int) = ((n : Nat) : Int)) ∧ (((dI .u8 a) : List D) = (dI .u8 a)) ∧ ((q : Nat) = q) ∧ ((((q : Nat) : Int) : Int) = ((q : Nat) : Int)) ∧ ((0 : Int) = 0) ∧ (([iD ((ch : Nat) : Int), D.sl (dI .i32 l) N] : List D) = [iD ((ch : Nat) : Int), D.sl (dI .i32 l) N]) ∧ (((cuD ch l n a 0) : List D) = ([] : List D))) (by kernel_rfl) ⟨rfl, rfl, (by first | rfl | omega | assumption | (simp; done) | (simp; omega)), (by first | rfl | omega | assumption | (simp; done) | (simp; omega)), rfl, rfl, rfl, rfl, rfl, rfl, (by first | rfl | with_reducible assumption | (simp only [dI_take, dI_drop, dI_app]; rfl) | (congr 1; first | assumption | (simp; done) | omega))⟩ ?_
  rintro ⟨k, hinv0⟩
  have hk : (k ≤ q) := hinv0
  refine AW.es (l := [(2, rV 0 0), (5, oV 1 0 (cuC n a k) 2), (6, iV (((cuF n a k) : Nat) : Int)), (7, iV ((n : Nat) : Int)), (13, sV .u8 a q), (14, iV ((q : Nat) : Int)), (15, iV ((k : Nat) : Int))]) (g := [(0, some (33, .ds [iD ((ch : Nat) : Int), D.sl (dI .i32 l) N])), (1, some (33, .ds (cuD ch l n a k)))]) (nx := 2) rfl rfl rfl ?_
  have hcl : cuF n a k ≤ n := cuF_le n a k
  have hcc : cuC n a k ≤ k := cuC_le n a k
  have hcd : List.length (cuD ch l n a k) = cuC n a k * 2 := cuD_len ch l n a k
  by_cases hx1 : (((k : Nat) : Int) < ((q : Nat) : Int))
  · refine AW.rgs [.b true] [2, 5, 6, 7, 13, 14, 15, 16] [0, 1] (P := ((((k : Nat) : Int) < ((q : Nat) : Int)))) (l' := [(2, rV 0 0), (5, oV 1 0 (cuC n a k) 2), (6, iV (((cuF n a k) : Nat) : Int)), (7, iV ↑n), (13, sV .u8 a q), (14, iV ↑q), (15, iV ↑k), (16, bV true)]) (g' := [(0, some (33, .ds [iD ↑ch, D.sl (dI .i32 l) N])), (1, some (33, .ds (cuD ch l n a k)))]) (nx' := 2) (by kernel_rfl) (by omega) ?_
    refine AW.seq ?_
    refine AW.cond_t (.tmp (Look.of rfl)) ?_
    refine AW.skip ?_
    refine AW.seq ?_
    refine AW.block ?_
    have hx2 : (0 ≤ (List.getD a k 0) ∧ (List.getD a k 0) ≤ 255) ∧ ((cuS a k : Nat) : Int) = (List.getD a k 0) % 8 ∧ cuS a k ≤ 7 := cuS_at (hy _ (by omega))
    refine AW.rgs [.n k, .d (D.lit (.int .u8 (List.getD a k 0))), .no] [2, 5, 6, 7, 9, 13, 14, 15] [0, 1] (P := ((((k : Nat) : Int) : Int) = ((k : Nat) : Int)) ∧ (k < q) ∧ ((List.drop k (dI .u8 a))[0]? = some (D.lit (.int .u8 (List.getD a k 0))))) (l' := [(2, rV 0 0), (5, oV 1 0 (cuC n a k) 2), (6, iV (((cuF n a k) : Nat) : Int)), (7, iV ↑n), (9, .e (.c (.d (D.lit (.int .u8 (List.getD a k 0)))))), (13, sV .u8 a q), (14, iV ↑q), (15, iV ↑k)]) (g' := [(0, some (33, .ds [iD ↑ch, D.sl (dI .i32 l) N])), (1, some (33, .ds (cuD ch l n a k)))]) (nx' := 2) (by kernel_rfl) ⟨rfl, (by omega), (dI_at _ _ _ (by first | omega | (rw [dI_len]; omega) | (simp [dI_len] <;> omega) | rfl))⟩ ?_
    refine AW.rgs [.no, .no, .w, .ps, .wi ((((cuF n a k) : Nat) : Int) + (((cuS a k) : Nat) : Int)), .no] [2, 5, 6, 7, 10, 13, 14, 15] [0, 1] (P := ((-9223372036854775808) ≤ (List.getD a k 0) ∧ (List.getD a k 0) ≤ 9223372036854775807) ∧ ((0 : Int) ≤ ((List.getD a k 0) : Int)) ∧ ((0 : Int) < (8 : Int)) ∧ ((-9223372036854775808) ≤ ((((cuF n a k) : Nat) : Int) + ((List.getD a k 0) % 8)) ∧ ((((cuF n a k) : Nat) : Int) + ((List.getD a k 0) % 8)) ≤ 9223372036854775807) ∧ ((((((cuF n a k) : Nat) : Int) + ((List.getD a k 0) % 8)) : Int) = ((((cuF n a k) : Nat) : Int) + (((cuS a k) : Nat) : Int)))) (l' := [(2, rV 0 0), (5, oV 1 0 (cuC n a k) 2), (6, iV (((cuF n a k) : Nat) : Int)), (7, iV ↑n), (10, iV ((((cuF n a k) : Nat) : Int) + (((cuS a k) : Nat) : Int))), (13, sV .u8 a q), (14, iV ↑q), (15, iV ↑k)]) (g' := [(0, some (33, .ds [iD ↑ch, D.sl (dI .i32 l) N])), (1, some (33, .ds (cuD ch l n a k)))]) (nx' := 2) (by kernel_rfl) ⟨⟨by omega, by omega⟩, (by omega), (by omega), ⟨by omega, by omega⟩, (by omega)⟩ ?_
    by_cases hx3 : (((((cuF n a k) : Nat) : Int) + (((cuS a k) : Nat) : Int)) ≤ ((n : Nat) : Int))
    · refine AW.rgs [.no, .no, .b true] [2, 5, 6, 7, 10, 13, 14, 15, 26] [0, 1] (P := ((((((cuF n a k) : Nat) : Int) + (((cuS a k) : Nat) : Int)) ≤ ((n : Nat) : Int)))) (l' := [(2, rV 0 0), (5, oV 1 0 (cuC n a k) 2), (6, iV (((cuF n a k) : Nat) : Int)), (7, iV ↑n), (10, iV ((((cuF n a k) : Nat) : Int) + (((cuS a k) : Nat) : Int))), (13, sV .u8 a q), (14, iV ↑q), (15, iV ↑k), (26, bV true)]) (g' := [(0, some (33, .ds [iD ↑ch, D.sl (dI .i32 l) N])), (1, some (33, .ds (cuD ch l n a k)))]) (nx' := 2) (by kernel_rfl) (by omega) ?_
      refine AW.cond_t (.tmp (Look.of rfl)) ?_
      have hx4 : (cuF n a k + cuS a k) * ch ≤ N := by rw [hlN]; exact Nat.mul_le_mul_right _ (by omega)
      refine AW.rg [.no, .no, .no, .no, .call [] (.e (.agg [iC ((ch : Nat) : Int), .d (D.sl (dI .i32 (pcL ch l (cuF n a k) ((cuF n a k) + (cuS a k)))) ((((cuF n a k) + (cuS a k)) * ch) - ((cuF n a k) * ch)))])) [] 0 [] none, .no, .ap none ((cuC n a k) + 1) (pcA (cuD ch l n a k) ch l (cuF n a k) ((cuF n a k) + (cuS a k))), .no, .no, .no] [2, 5, 6, 7, 13, 14, 15] [0, 3] (P := (_) ∧ ([iD ((ch : Nat) : Int), D.sl (dI .i32 (pcL ch l (cuF n a k) ((cuF n a k) + (cuS a k)))) ((((cuF n a k) + (cuS a k)) * ch) - ((cuF n a k) * ch))].length = 1 * 2) ∧ (((cuD ch l n a k) : List D).length = (cuC n a k) * 2) ∧ (((cuC n a k) + 1) * 32 ≤ 140737488355328) ∧ ((cuC n a k) + 1 = ((cuC n a k) + 1)) ∧ (((cuD ch l n a k) : List D) ++ [iD ((ch : Nat) : Int), D.sl (dI .i32 (pcL ch l (cuF n a k) ((cuF n a k) + (cuS a k)))) ((((cuF n a k) + (cuS a k)) * ch) - ((cuF n a k) * ch))] = (pcA (cuD ch l n a k) ch l (cuF n a k) ((cuF n a k) + (cuS a k))))) (l' := [(2, rV 0 0), (5, oV 3 0 ((cuC n a k) + 1) 2), (6, iV ((((cuF n a k) : Nat) : Int) + (((cuS a k) : Nat) : Int))), (7, iV ↑n), (13, sV .u8 a q), (14, iV ↑q), (15, iV ↑k)]) (g' := [(0, some (33, .ds [iD ↑ch, D.sl (dI .i32 l) N])), (3, some (33, .ds (pcA (cuD ch l n a k) ch l (cuF n a k) ((cuF n a k) + (cuS a k)))))]) (nx' := 4) (by kernel_rfl) ⟨(Z_Cut ch (cuF n a k) ((cuF n a k) + (cuS a k)) l N (by omega) (by first | omega | with_reducible assumption | (simp <;> omega) | rfl | assumption) (by first | omega | with_reducible assumption | (simp <;> omega) | rfl | assumption) (by omega)), (by first | omega | (rw [dI_len]; omega) | (simp [dI_len] <;> omega) | rfl), (by first | omega | (rw [dI_len]; omega) | (simp [dI_len] <;> omega) | rfl), (by omega), (by omega), rfl⟩ ?_
      refine AW.rg [.w, .no] [2, 5, 6, 7, 13, 14, 15] [0, 3] (P := ((-9223372036854775808) ≤ (((k : Nat) : Int) + 1) ∧ (((k : Nat) : Int) + 1) ≤ 9223372036854775807)) (l' := [(2, rV 0 0), (5, oV 3 0 ((cuC n a k) + 1) 2), (6, iV ((((cuF n a k) : Nat) : Int) + (((cuS a k) : Nat) : Int))), (7, iV ↑n), (13, sV .u8 a q), (14, iV ↑q), (15, iV (↑k + 1))]) (g' := [(0, some (33, .ds [iD ↑ch, D.sl (dI .i32 l) N])), (3, some (33, .ds (pcA (cuD ch l n a k) ch l (cuF n a k) ((cuF n a k) + (cuS a k)))))]) (nx' := 4) (by kernel_rfl) ⟨by omega, by omega⟩ ?_
      obtain ⟨he1, he2, he3⟩ := cu_yes (ch := ch) (l := l) (show cuF n a k + cuS a k ≤ n by omega)
      exact Rd.of ⟨((k + 1) : Nat), (show ((k + 1) ≤ q) from (by first | omega | assumption | simp))⟩ [(1, 3)] (P := ((0 : Nat) = 0) ∧ ((0 : Nat) = 0) ∧ (((cuC n a (k + 1)) : Nat) = ((cuC n a k) + 1)) ∧ (((((cuF n a (k + 1)) : Nat) : Int) : Int) = ((((cuF n a k) : Nat) : Int) + (((cuS a k) : Nat) : Int))) ∧ ((((n : Nat) : Int) : Int) = ((n : Nat) : Int)) ∧ (((dI .u8 a) : List D) = (dI .u8 a)) ∧ ((q : Nat) = q) ∧ ((((q : Nat) : Int) : Int) = ((q : Nat) : Int)) ∧ (((((k + 1) : Nat) : Int) : Int) = (((k : Nat) : Int) + 1)) ∧ (([iD ((ch : Nat) : Int), D.sl (dI .i32 l) N] : List D) = [iD ((ch : Nat) : Int), D.sl (dI .i32 l) N]) ∧ (((cuD ch l n a (k + 1)) : List D) = (pcA (cuD ch l n a k) ch l (cuF n a k) ((cuF n a k) + (cuS a k))))) (by kernel_rfl) ⟨rfl, rfl, (by first | rfl | omega | assumption | (simp; done) | (simp; omega)), (by first | rfl | omega | assumption | (simp; done) | (simp; omega)), rfl, rfl, rfl, rfl, (by first | rfl | omega | assumption | (simp; done) | (simp; omega)), rfl, (by first | rfl | with_reducible assumption | (simp only [dI_take, dI_drop, dI_app]; rfl) | (congr 1; first | assumption | (simp; done) | omega))⟩ (show q - (k + 1) < q - k from (by first | omega | (show _ < _; simp; omega)))
    · refine AW.rgs [.no, .no, .b false] [2, 5, 6, 7, 10, 13, 14, 15, 26] [0, 1] (P := (¬ (((((cuF n a k) : Nat) : Int) + (((cuS a k) : Nat) : Int)) ≤ ((n : Nat) : Int)))) (l' := [(2, rV 0 0), (5, oV 1 0 (cuC n a k) 2), (6, iV (((cuF n a k) : Nat) : Int)), (7, iV ↑n), (10, iV ((((cuF n a k) : Nat) : Int) + (((cuS a k) : Nat) : Int))), (13, sV .u8 a q), (14, iV ↑q), (15, iV ↑k), (26, bV false)]) (g' := [(0, some (33, .ds [iD ↑ch, D.sl (dI .i32 l) N])), (1, some (33, .ds (cuD ch l n a k)))]) (nx' := 2) (by kernel_rfl) (by omega) ?_
      refine AW.cond_f (.tmp (Look.of rfl)) ?_
      refine AW.skip ?_
      refine AW.rg [.w, .no] [2, 5, 6, 7, 13, 14, 15] [0, 1] (P := ((-9223372036854775808) ≤ (((k : Nat) : Int) + 1) ∧ (((k : Nat) : Int) + 1) ≤ 9223372036854775807)) (l' := [(2, rV 0 0), (5, oV 1 0 (cuC n a k) 2), (6, iV (((cuF n a k) : Nat) : Int)), (7, iV ↑n), (13, sV .u8 a q), (14, iV ↑q), (15, iV (↑k + 1))]) (g' := [(0, some (33, .ds [iD ↑ch, D.sl (dI .i32 l) N])), (1, some (33, .ds (cuD ch l n a k)))]) (nx' := 2) (by kernel_rfl) ⟨by omega, by omega⟩ ?_
      obtain ⟨he1, he2, he3⟩ := cu_no (ch := ch) (l := l) (show ¬ cuF n a k + cuS a k ≤ n by omega)
      exact Rd.of ⟨((k + 1) : Nat), (show ((k + 1) ≤ q) from (by first | omega | assumption | simp))⟩ [] (P := ((0 : Nat) = 0) ∧ ((0 : Nat) = 0) ∧ (((cuC n a (k + 1)) : Nat) = (cuC n a k)) ∧ (((((cuF n a (k + 1)) : Nat) : Int) : Int) = (((cuF n a k) : Nat) : Int)) ∧ ((((n : Nat) : Int) : Int) = ((n : Nat) : Int)) ∧ (((dI .u8 a) : List D) = (dI .u8 a)) ∧ ((q : Nat) = q) ∧ ((((q : Nat) : Int) : Int) = ((q : Nat) : Int)) ∧ (((((k + 1) : Nat) : Int) : Int) = (((k : Nat) : Int) + 1)) ∧ (([iD ((ch : Nat) : Int), D.sl (dI .i32 l) N] : List D) = [iD ((ch : Nat) : Int), D.sl (dI .i32 l) N]) ∧ (((cuD ch l n a (k + 1)) : List D) = (cuD ch l n a k))) (by kernel_rfl) ⟨rfl, rfl, (by first | rfl | omega | assumption | (simp; done) | (simp; omega)), (by first | rfl | omega | assumption | (simp; done) | (simp; omega)), rfl, rfl, rfl, rfl, (by first | rfl | omega | assumption | (simp; done) | (simp; omega)), rfl, (by first | rfl | with_reducible assumption | (simp only [dI_take, dI_drop, dI_app]; rfl) | (congr 1; first | assumption | (simp; done) | omega))⟩ (show q - (k + 1) < q - k from (by first | omega | (show _ < _; simp; omega)))
  · refine AW.rgs [.b false] [2, 5, 6, 7, 13, 14, 15, 16] [0, 1] (P := (¬ (((k : Nat) : Int) < ((q : Nat) : Int)))) (l' := [(2, rV 0 0), (5, oV 1 0 (cuC n a k) 2), (6, iV (((cuF n a k) : Nat) : Int)), (7, iV ↑n), (13, sV .u8 a q), (14, iV ↑q), (15, iV ↑k), (16, bV false)]) (g' := [(0, some (33, .ds [iD ↑ch, D.sl (dI .i32 l) N])), (1, some (33, .ds (cuD ch l n a k)))]) (nx' := 2) (by kernel_rfl) (by omega) ?_
    refine AW.seq ?_
    refine AW.cond_f (.tmp (Look.of rfl)) ?_
    refine AW.exit ?_
    obtain rfl : q = k := by omega
    have hx5 : n * ch ≤ N := Nat.le_of_eq hlN.symm
    have hx6 : cuF n a q ≤ n := cuF_le n a q
    have hx7 : cuC n a q ≤ q := cuC_le n a q
    have hx8 : List.length (cuD ch l n a q) = cuC n a q * 2 := cuD_len ch l n a q
    refine AW.rgs [.no, .no, .no, .no, .call [] (.e (.agg [iC ((ch : Nat) : Int), .d (D.sl (dI .i32 (pcL ch l (cuF n a q) n)) ((n * ch) - ((cuF n a q) * ch)))])) [] 0 [] none, .no, .ap none ((cuC n a q) + 1) (pcA (cuD ch l n a q) ch l (cuF n a q) n), .no] [4] [3] (P := (_) ∧ ([iD ((ch : Nat) : Int), D.sl (dI .i32 (pcL ch l (cuF n a q) n)) ((n * ch) - ((cuF n a q) * ch))].length = 1 * 2) ∧ (((cuD ch l n a q) : List D).length = (cuC n a q) * 2) ∧ (((cuC n a q) + 1) * 32 ≤ 140737488355328) ∧ ((cuC n a q) + 1 = ((cuC n a q) + 1)) ∧ (((cuD ch l n a q) : List D) ++ [iD ((ch : Nat) : Int), D.sl (dI .i32 (pcL ch l (cuF n a q) n)) ((n * ch) - ((cuF n a q) * ch))] = (pcA (cuD ch l n a q) ch l (cuF n a q) n))) (l' := [(4, oV 3 0 ((cuC n a q) + 1) 2)]) (g' := [(3, some (33, .ds (pcA (cuD ch l n a q) ch l (cuF n a q) n)))]) (nx' := 4) (by kernel_rfl) ⟨(Z_Cut ch (cuF n a q) n l N (by omega) (by first | omega | with_reducible assumption | (simp <;> omega) | rfl | assumption) (by omega) (by omega)), (by first | omega | (rw [dI_len]; omega) | (simp [dI_len] <;> omega) | rfl), (by first | omega | (rw [dI_len]; omega) | (simp [dI_len] <;> omega) | rfl), (by omega), (by omega), rfl⟩ ?_
    refine AW.ret ?_
    exact EndP.of (.inr rfl) [(0, 3)] (P := ((0 : Nat) = 0) ∧ ((((cuC n a q) + 1) : Nat) = ((cuC n a q) + 1)) ∧ (((pcA (cuD ch l n a q) ch l (cuF n a q) n) : List D) = (pcA (cuD ch l n a q) ch l (cuF n a q) n))) (by kernel_rfl) ⟨rfl, rfl, rfl⟩

theorem X_Pieces (ch n : Nat) (l : List Int) (N : Nat) (a : List Int) (q : Nat) (hn : List.length l = N) (hv : BV ch n l) (ha : List.length a = q) (hq : q ≤ 1000) (hy : ∀ j, j < q → 0 ≤ List.getD a j 0 ∧ List.getD a j 0 ≤ 255) : ∃ (P : Nat) (p : Nat → Nat) (x : List D), (1 ≤ P ∧ P ≤ q + 1) ∧ (List.length x = P * 2) ∧ (Pcs ch n l P p x) ∧ (Fun 10 [.agg [iC ((ch : Nat) : Int), .d (D.sl (dI .i32 l) N)], .c (.d (D.sl (dI .u8 a) q))] (toG []) 0 (oV 0 0 P 2) (toG [(0, some (33, .ds x))]) 1) := ⟨((cuC n a q) + 1), (cuP n a q), (pcA (cuD ch l n a q) ch l (cuF n a q) n), ⟨by omega, by have := cuC_le n a q; omega⟩, (cu_Pcs ch n l a q).len, cu_Pcs ch n l a q, Z_Pieces ch n l N a q hn hv ha hq hy⟩

end Go.Proofs.Ytfnchjmghklmnaa
