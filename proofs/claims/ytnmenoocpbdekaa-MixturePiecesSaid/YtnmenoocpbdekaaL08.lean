/- Limiters. No statement is proved here. -/
import Derived.Test.YtnmenoocpbdekaaL04
namespace Go.Proofs.Ytnmenoocpbdekaa
open Go.ChangeShapes Go.WideShapes Go.ChangeAt Go.RowKit
set_option linter.unusedVariables false
set_option linter.unusedSimpArgs false


def limOk (t r g : Int) : Bool := decide (1 ≤ t ∧ t ≤ 8388607 ∧ 1 ≤ r ∧ r ≤ 65536 ∧ 0 ≤ g ∧ g ≤ 65536)
theorem limOk_of {t r g : Int} (h : limOk t r g = true) : 1 ≤ t ∧ t ≤ 8388607 ∧ 1 ≤ r ∧ r ≤ 65536 ∧ 0 ≤ g ∧ g ≤ 65536 := of_decide_eq_true h
theorem limOk_not {t r g : Int} (h : limOk t r g = false) : ¬ (1 ≤ t ∧ t ≤ 8388607 ∧ 1 ≤ r ∧ r ≤ 65536 ∧ 0 ≤ g ∧ g ≤ 65536) := of_decide_eq_false h
def neededV (t p : Int) : Int := if 1 ≤ t ∧ t ≤ 8388607 ∧ 0 ≤ p ∧ p ≤ 1099511627776 then (if p ≤ t then 65536 else t * 65536 / p) else 0
theorem needed_no {t p : Int} (h : ¬ (1 ≤ t ∧ t ≤ 8388607 ∧ 0 ≤ p ∧ p ≤ 1099511627776)) : neededV t p = 0 := if_neg h
theorem needed_y1 {t p : Int} (h : 1 ≤ t ∧ t ≤ 8388607 ∧ 0 ≤ p ∧ p ≤ 1099511627776) (h1 : p ≤ t) : neededV t p = 65536 := by unfold neededV; rw [if_pos h, if_pos h1]
theorem needed_y2 {t p : Int} (h : 1 ≤ t ∧ t ≤ 8388607 ∧ 0 ≤ p ∧ p ≤ 1099511627776) (h1 : ¬ p ≤ t) : neededV t p = t * 65536 / p := by unfold neededV; rw [if_pos h, if_neg h1]
theorem needed_in (t p : Int) : 0 ≤ neededV t p ∧ neededV t p ≤ 65536 := by
  by_cases h : 1 ≤ t ∧ t ≤ 8388607 ∧ 0 ≤ p ∧ p ≤ 1099511627776
  · by_cases h1 : p ≤ t
    · rw [needed_y1 h h1]; omega
    · rw [needed_y2 h h1]
      refine ⟨Int.ediv_nonneg (by omega) (by omega), ?_⟩
      have : t * 65536 / p < 65537 := by
        rw [Int.ediv_lt_iff_lt_mul (by omega)]; omega
      omega
  · rw [needed_no h]; omega
def absI (s : Int) : Int := if s < 0 then -s else s
theorem absI_n {s : Int} (h : s < 0) : absI s = -s := if_pos h
theorem absI_p {s : Int} (h : ¬ s < 0) : absI s = s := if_neg h
def sumB (s : Int) : Bool := decide (-1099511627776 ≤ s ∧ s ≤ 1099511627776)
def fitB (c : Int) (l : List Int) : Bool := decide (1 ≤ c ∧ c ≤ 8 ∧ (l.length : Int) % c = 0 ∧ (l.length : Int) / c ≤ 65536) && l.all sumB
theorem fitB_t {ch : Int} {l : List Int} {n : Nat} (hn : List.length l = n) (h1 : 1 ≤ ch) (h2 : ch ≤ 8) (h3 : (n : Int) % ch = 0) (h4 : (n : Int) / ch ≤ 65536) (h5 : ∀ j, j < n → sumB (List.getD l j 0) = true) : fitB ch l = true := by
  unfold fitB
  rw [Bool.and_eq_true]
  exact ⟨decide_eq_true ⟨h1, h2, by rw [hn]; exact h3, by rw [hn]; exact h4⟩, all_of (fun j hj => h5 j (by omega))⟩
theorem fitB_f {ch : Int} {l : List Int} {n : Nat} (hn : List.length l = n) (h : ¬ (1 ≤ ch ∧ ch ≤ 8 ∧ (n : Int) % ch = 0 ∧ (n : Int) / ch ≤ 65536)) : fitB ch l = false := by
  unfold fitB
  rw [hn, decide_eq_false h]; rfl
theorem fitB_s {ch : Int} {l : List Int} {n k : Nat} (hn : List.length l = n) (hk : k < n) (h : ¬ (-1099511627776 ≤ List.getD l k 0 ∧ List.getD l k 0 ≤ 1099511627776)) : fitB ch l = false := by
  cases hb : fitB ch l with
  | false => rfl
  | true =>
    unfold fitB at hb
    rw [Bool.and_eq_true] at hb
    have := all_at hb.2 k (by omega)
    exact absurd (of_decide_eq_true this) h
theorem fitB_no {ch : Int} {l : List Int} (h : fitB ch l = false) : ¬ (1 ≤ ch ∧ ch ≤ 8 ∧ (l.length : Int) % ch = 0 ∧ (l.length : Int) / ch ≤ 65536) ∨ ((1 ≤ ch ∧ ch ≤ 8 ∧ (l.length : Int) % ch = 0 ∧ (l.length : Int) / ch ≤ 65536) ∧ ∃ k, k < l.length ∧ ¬ (-1099511627776 ≤ List.getD l k 0 ∧ List.getD l k 0 ≤ 1099511627776)) := by
  by_cases hc : 1 ≤ ch ∧ ch ≤ 8 ∧ (l.length : Int) % ch = 0 ∧ (l.length : Int) / ch ≤ 65536
  · right
    refine ⟨hc, ?_⟩
    apply Classical.byContradiction
    intro hn
    have : fitB ch l = true := fitB_t rfl hc.1 hc.2.1 hc.2.2.1 hc.2.2.2 (fun j hj => decide_eq_true (Classical.byContradiction fun h9 => hn ⟨j, hj, h9⟩))
    rw [h] at this; cases this
  · exact .inl hc
/-- sums of f frames -/
structure FV (ch f : Nat) (l : List Int) : Prop where
  c1 : 1 ≤ ch
  c8 : ch ≤ 8
  len : List.length l = f * ch
  fit : f ≤ 65536
  smp : ∀ j, j < List.length l → -1099511627776 ≤ List.getD l j 0 ∧ List.getD l j 0 ≤ 1099511627776
theorem FV.ok {ch f : Nat} {l : List Int} (h : FV ch f l) : fitB ((ch : Nat) : Int) l = true := by
  obtain ⟨h1, h2, h3, h4, h5⟩ := h
  refine fitB_t rfl (by omega) (by omega) ?_ ?_ (fun j hj => decide_eq_true (h5 j hj))
  · rw [h3, Int.natCast_mul]; exact Int.mul_emod_left _ _
  · rw [h3, Int.natCast_mul, Int.mul_ediv_cancel _ (by omega)]; omega
theorem FV.of {c : Int} {l : List Int} (h : fitB c l = true) : ∃ ch f : Nat, c = ch ∧ FV ch f l := by
  unfold fitB at h
  rw [Bool.and_eq_true] at h
  obtain ⟨h1, h2, h3, h4⟩ := of_decide_eq_true h.1
  refine ⟨c.toNat, ((l.length : Int) / c).toNat, by omega, by omega, by omega, ?_, by omega, fun j hj => of_decide_eq_true (all_at h.2 j hj)⟩
  have e := Int.mul_ediv_add_emod (l.length : Int) c
  rw [h3] at e
  have h0 : 0 ≤ (l.length : Int) / c := Int.ediv_nonneg (by omega) (by omega)
  have e2 : ((((l.length : Int) / c).toNat * c.toNat : Nat) : Int) = (l.length : Int) := by
    rw [Int.natCast_mul, Int.toNat_of_nonneg h0, Int.toNat_of_nonneg (by omega), Int.mul_comm]; omega
  omega
theorem FV.big {ch f : Nat} {l : List Int} (h : FV ch f l) : f * ch ≤ 524288 := Nat.le_trans (Nat.mul_le_mul h.fit h.c8) (by omega)
theorem FV.quo {ch f : Nat} {l : List Int} (h : FV ch f l) : ((f * ch : Nat) : Int) / (ch : Int) = f := by
  rw [Int.natCast_mul, Int.mul_ediv_cancel _ (by have := h.c1; omega)]
def sumsB (l : List Int) : Prop := ∀ j, j < List.length l → -1099511627776 ≤ List.getD l j 0 ∧ List.getD l j 0 ≤ 1099511627776
theorem sumsB.at {l : List Int} (h : sumsB l) (j : Nat) (hj : j < List.length l) : -1099511627776 ≤ List.getD l j 0 ∧ List.getD l j 0 ≤ 1099511627776 := h j hj
theorem sumsB.part {l : List Int} (h : sumsB l) (a b : Nat) : sumsB (List.take a (List.drop b l)) := by
  intro j hj
  rw [List.length_take, List.length_drop] at hj
  rw [getD_take (by omega), getD_drop]
  exact h _ (by omega)
/-- the peak of the first k sums -/
def peakV : Nat → List Int → Int
  | 0, _ => 0
  | k + 1, l => max (peakV k l) (absI (List.getD l k 0))
theorem peakV_in {l : List Int} (h : sumsB l) : ∀ k, k ≤ List.length l → 0 ≤ peakV k l ∧ peakV k l ≤ 1099511627776
  | 0, _ => ⟨Int.le_refl 0, by show (0 : Int) ≤ _; omega⟩
  | k + 1, hk => by
    have h1 := peakV_in h k (by omega)
    have h2 := h k (by omega)
    show 0 ≤ max (peakV k l) (absI (List.getD l k 0)) ∧ max (peakV k l) (absI (List.getD l k 0)) ≤ _
    unfold absI
    split <;> omega
theorem peakV_1 (k : Nat) (l : List Int) : peakV (k + 1) l = max (max (peakV k l) (List.getD l k 0)) (0 - List.getD l k 0) ∨ peakV k l < 0 := by
  by_cases h : peakV k l < 0
  · exact .inr h
  · left
    show max (peakV k l) (absI (List.getD l k 0)) = _
    unfold absI
    split <;> omega
theorem peakV_2 (k : Nat) (l : List Int) : (¬ List.getD l k 0 < 0 ∨ peakV (k + 1) l = max (peakV k l) (0 - List.getD l k 0)) ∧ (List.getD l k 0 < 0 ∨ peakV (k + 1) l = max (peakV k l) (List.getD l k 0)) := by
  have e : peakV (k + 1) l = max (peakV k l) (absI (List.getD l k 0)) := rfl
  rw [e]
  unfold absI
  split <;> omega
theorem peakV_ge {l : List Int} : ∀ n k, k < n → absI (List.getD l k 0) ≤ peakV n l
  | n + 1, k, hk => by
    show _ ≤ max (peakV n l) (absI (List.getD l n 0))
    by_cases hkn : k = n
    · subst hkn; omega
    · have := peakV_ge (l := l) n k (by omega); omega
def outV (g s : Int) : Int := if s < 0 then -((-s) * g / 65536) else s * g / 65536
theorem outV_n {g s : Int} (h : s < 0) : outV g s = -((-s) * g / 65536) := if_pos h
theorem outV_p {g s : Int} (h : ¬ s < 0) : outV g s = s * g / 65536 := if_neg h
theorem outV_eq (g s : Int) : Int.tdiv (s * g) 65536 = outV g s ∨ g < 0 := by
  by_cases hg : g < 0
  · exact .inr hg
  · left
    by_cases hs : s < 0
    · rw [outV_n hs]
      have e : s * g = -((-s) * g) := by rw [Int.neg_mul, Int.neg_neg]
      rw [e, Int.neg_tdiv, Int.tdiv_eq_ediv_of_nonneg (Int.mul_nonneg (by omega) (by omega))]
    · rw [outV_p hs, Int.tdiv_eq_ediv_of_nonneg (Int.mul_nonneg (by omega) (by omega))]
theorem mag_le {t p g a : Int} (ht : 1 ≤ t ∧ t ≤ 8388607) (hp : 0 ≤ p ∧ p ≤ 1099511627776) (hg : 0 ≤ g ∧ g ≤ neededV t p) (ha : 0 ≤ a ∧ a ≤ p) : 0 ≤ a * g / 65536 ∧ a * g / 65536 ≤ 8388607 ∧ 0 ≤ a * g ∧ a * g ≤ 72057594037927936 := by
  have h0 : 0 ≤ a * g := Int.mul_nonneg ha.1 hg.1
  have hn := needed_in t p
  have h72 : a * g ≤ 1099511627776 * 65536 := Int.le_trans (Int.mul_le_mul_of_nonneg_right (show a ≤ 1099511627776 by omega) hg.1) (Int.mul_le_mul_of_nonneg_left (show g ≤ 65536 by omega) (by omega))
  have h1 : a * g ≤ t * 65536 := by
    by_cases hpt : p ≤ t
    · rw [needed_y1 (by omega) hpt] at hg
      exact Int.le_trans (Int.mul_le_mul_of_nonneg_right (show a ≤ t by omega) hg.1) (Int.mul_le_mul_of_nonneg_left hg.2 (by omega))
    · rw [needed_y2 (by omega) hpt] at hg
      have e1 : a * g ≤ p * g := Int.mul_le_mul_of_nonneg_right ha.2 hg.1
      have e2 : p * g ≤ p * (t * 65536 / p) := Int.mul_le_mul_of_nonneg_left hg.2 (by omega)
      have e3 : p * (t * 65536 / p) ≤ t * 65536 := Int.mul_ediv_self_le (by omega)
      omega
  refine ⟨Int.ediv_nonneg h0 (by omega), ?_, h0, by omega⟩
  have : a * g / 65536 < 8388608 := by rw [Int.ediv_lt_iff_lt_mul (by omega)]; omega
  omega
/-- what a sum becomes -/
theorem out_in {t g s p : Int} (ht : 1 ≤ t ∧ t ≤ 8388607) (hp : 0 ≤ p ∧ p ≤ 1099511627776) (hg : 0 ≤ g ∧ g ≤ neededV t p) (ha : absI s ≤ p) : -8388608 ≤ outV g s ∧ outV g s ≤ 8388607 ∧ satI (outV g s) = outV g s ∧ -72057594037927936 ≤ s * g ∧ s * g ≤ 72057594037927936 := by
  by_cases hs : s < 0
  · rw [absI_n hs] at ha
    have := mag_le ht hp hg (a := -s) (by omega)
    rw [outV_n hs]
    have e : s * g = -((-s) * g) := by rw [Int.neg_mul, Int.neg_neg]
    unfold satI
    generalize (-s) * g = y at *
    omega
  · rw [absI_p hs] at ha
    have := mag_le ht hp hg (a := s) (by omega)
    rw [outV_p hs]
    unfold satI
    generalize s * g = y at *
    omega
def outsV (g : Int) : Nat → List Int → List Int
  | 0, _ => []
  | k + 1, l => outsV g k l ++ [outV g (List.getD l k 0)]
theorem outsV_len (g : Int) (l : List Int) : ∀ k, List.length (outsV g k l) = k
  | 0 => rfl
  | k + 1 => by show (outsV g k l ++ [_]).length = _; rw [List.length_append, outsV_len g l k]; rfl
def gainV (t r g : Int) (c : Nat) (fr : List Int) : Int := min (neededV t (peakV c fr)) (g + r)
theorem outsV_next {g v : Int} {k : Nat} {os l : List Int} (h : v = outV g (List.getD l k 0)) : dI .i32 (os ++ outsV g (k + 1) l) = dI .i32 ((os ++ outsV g k l) ++ [v]) := by
  subst h
  rw [List.append_assoc]; rfl
theorem outR {t g s p : Int} (ht : 1 ≤ t ∧ t ≤ 8388607) (hp : 0 ≤ p ∧ p ≤ 1099511627776) (hg : 0 ≤ g ∧ g ≤ neededV t p) (ha : absI s ≤ p) : (¬ s < 0 ∨ outV g s = 0 - (0 - s) * g / 65536) ∧ (s < 0 ∨ outV g s = s * g / 65536) ∧ (-8388608 ≤ outV g s ∧ outV g s ≤ 8388607) ∧ -72057594037927936 ≤ s * g ∧ s * g ≤ 72057594037927936 ∧ (0 - s) * g = 0 - s * g ∧ (s < 0 ∨ 0 ≤ s * g) ∧ (¬ s < 0 ∨ s * g ≤ 0) := by
  have h := out_in ht hp hg ha
  have e : (0 - s) * g = 0 - s * g := by rw [Int.sub_mul, Int.zero_mul]
  refine ⟨?_, ?_, ⟨h.1, h.2.1⟩, h.2.2.2.1, h.2.2.2.2, e, ?_, ?_⟩
  · by_cases hs : s < 0
    · right; rw [outV_n hs, Int.zero_sub, Int.zero_sub]
    · exact .inl hs
  · by_cases hs : s < 0
    · exact .inl hs
    · right; exact outV_p hs
  · by_cases hs : s < 0
    · exact .inl hs
    · right; exact Int.mul_nonneg (by omega) hg.1
  · by_cases hs : s < 0
    · right
      have := Int.mul_nonneg (show 0 ≤ 0 - s by omega) hg.1
      omega
    · exact .inl hs
theorem gainV_in {t r g : Int} {c : Nat} {fr : List Int} (hr : 0 ≤ r) (hg : 0 ≤ g) : 0 ≤ gainV t r g c fr ∧ gainV t r g c fr ≤ 65536 ∧ gainV t r g c fr ≤ neededV t (peakV c fr) := by
  have := needed_in t (peakV c fr)
  unfold gainV; omega
def frL (c k : Nat) (l : List Int) : List Int := List.take c (List.drop (k * c) l)
def runG (t r : Int) (c : Nat) (g : Int) (l : List Int) : Nat → Int
  | 0 => g
  | k + 1 => gainV t r (runG t r c g l k) c (frL c k l)
def runO (t r : Int) (c : Nat) (g : Int) (l : List Int) : Nat → List Int
  | 0 => []
  | k + 1 => runO t r c g l k ++ outsV (runG t r c g l (k + 1)) c (frL c k l)
theorem runG_in {t r g : Int} {c : Nat} {l : List Int} (hr : 0 ≤ r) (hg : 0 ≤ g ∧ g ≤ 65536) : ∀ k, 0 ≤ runG t r c g l k ∧ runG t r c g l k ≤ 65536
  | 0 => hg
  | k + 1 => by have := gainV_in (t := t) (r := r) (g := runG t r c g l k) (c := c) (fr := frL c k l) hr (runG_in hr hg k).1; exact ⟨this.1, this.2.1⟩
theorem runO_len (t r : Int) (c : Nat) (g : Int) (l : List Int) : ∀ k, List.length (runO t r c g l k) = k * c
  | 0 => by simp [runO]
  | k + 1 => by show (runO t r c g l k ++ _).length = _; rw [List.length_append, runO_len t r c g l k, outsV_len, Nat.succ_mul]
theorem frL_len {c k f : Nat} {l : List Int} (h : List.length l = f * c) (hk : k < f) : List.length (frL c k l) = c := by
  have : (k + 1) * c ≤ f * c := Nat.mul_le_mul_right _ hk
  rw [Nat.succ_mul] at this
  unfold frL
  rw [List.length_take, List.length_drop]; omega
theorem FV.sums {ch f : Nat} {l : List Int} (h : FV ch f l) : sumsB l := h.smp
theorem frL_sums {c k : Nat} {l : List Int} (h : sumsB l) : sumsB (frL c k l) := h.part _ _

set_option maxHeartbeats 4000000 in
set_option maxRecDepth 100000 in
theorem G_isThr (n : Int)  : Fun 106 [iE n] (toG []) 0 (.e (.c (.d (D.lit (.bool (decide (1 ≤ n ∧ n ≤ 8388607))))))) (toG []) 0 := by
  refine Fun.mk (n := 9) Try.func106 rfl rfl (Nat.le_of_ble_eq_true rfl) ?_
  intro cx hcx
  refine AW.rgs [.no] [0] [] (P := True) (l' := [(0, iV n)]) (g' := []) (nx' := 0) (by kernel_rfl) trivial ?_
  by_cases hx1 : ((1 : Int) ≤ n)
  · by_cases hx2 : (n ≤ 8388607)
    · refine AW.rgs [.no, .b true, .no, .no, .b true, .no, .no] [2] [] (P := (((1 : Int) ≤ n)) ∧ ((n ≤ 8388607))) (l' := [(2, .e (.c (.d (D.lit (.bool true)))))]) (g' := []) (nx' := 0) (by kernel_rfl) ⟨(by omega), (by omega)⟩ ?_
      refine AW.ret ?_
      exact EndP.of (.inr rfl) [] (P := ((decide (1 ≤ n ∧ n ≤ 8388607)) = true)) (by kernel_rfl) (by first | exact decide_eq_true (by omega) | exact decide_eq_false (by omega))
    · refine AW.rgs [.no, .b true, .no, .no, .b false, .no, .no] [2] [] (P := (((1 : Int) ≤ n)) ∧ (¬ (n ≤ 8388607))) (l' := [(2, .e (.c (.d (D.lit (.bool false)))))]) (g' := []) (nx' := 0) (by kernel_rfl) ⟨(by omega), (by omega)⟩ ?_
      refine AW.ret ?_
      exact EndP.of (.inr rfl) [] (P := ((decide (1 ≤ n ∧ n ≤ 8388607)) = false)) (by kernel_rfl) (by first | exact decide_eq_true (by omega) | exact decide_eq_false (by omega))
  · refine AW.rgs [.no, .b false, .no, .no, .no] [2] [] (P := (¬ ((1 : Int) ≤ n))) (l' := [(2, .e (.c (.d (D.lit (.bool false)))))]) (g' := []) (nx' := 0) (by kernel_rfl) (by omega) ?_
    refine AW.ret ?_
    exact EndP.of (.inr rfl) [] (P := ((decide (1 ≤ n ∧ n ≤ 8388607)) = false)) (by kernel_rfl) (by first | exact decide_eq_true (by omega) | exact decide_eq_false (by omega))

set_option maxHeartbeats 4000000 in
set_option maxRecDepth 100000 in
theorem G_isRel (n : Int)  : Fun 107 [iE n] (toG []) 0 (.e (.c (.d (D.lit (.bool (decide (1 ≤ n ∧ n ≤ 65536))))))) (toG []) 0 := by
  refine Fun.mk (n := 9) Try.func107 rfl rfl (Nat.le_of_ble_eq_true rfl) ?_
  intro cx hcx
  refine AW.rgs [.no] [0] [] (P := True) (l' := [(0, iV n)]) (g' := []) (nx' := 0) (by kernel_rfl) trivial ?_
  by_cases hx1 : ((1 : Int) ≤ n)
  · by_cases hx2 : (n ≤ 65536)
    · refine AW.rgs [.no, .b true, .no, .no, .b true, .no, .no] [2] [] (P := (((1 : Int) ≤ n)) ∧ ((n ≤ 65536))) (l' := [(2, .e (.c (.d (D.lit (.bool true)))))]) (g' := []) (nx' := 0) (by kernel_rfl) ⟨(by omega), (by omega)⟩ ?_
      refine AW.ret ?_
      exact EndP.of (.inr rfl) [] (P := ((decide (1 ≤ n ∧ n ≤ 65536)) = true)) (by kernel_rfl) (by first | exact decide_eq_true (by omega) | exact decide_eq_false (by omega))
    · refine AW.rgs [.no, .b true, .no, .no, .b false, .no, .no] [2] [] (P := (((1 : Int) ≤ n)) ∧ (¬ (n ≤ 65536))) (l' := [(2, .e (.c (.d (D.lit (.bool false)))))]) (g' := []) (nx' := 0) (by kernel_rfl) ⟨(by omega), (by omega)⟩ ?_
      refine AW.ret ?_
      exact EndP.of (.inr rfl) [] (P := ((decide (1 ≤ n ∧ n ≤ 65536)) = false)) (by kernel_rfl) (by first | exact decide_eq_true (by omega) | exact decide_eq_false (by omega))
  · refine AW.rgs [.no, .b false, .no, .no, .no] [2] [] (P := (¬ ((1 : Int) ≤ n))) (l' := [(2, .e (.c (.d (D.lit (.bool false)))))]) (g' := []) (nx' := 0) (by kernel_rfl) (by omega) ?_
    refine AW.ret ?_
    exact EndP.of (.inr rfl) [] (P := ((decide (1 ≤ n ∧ n ≤ 65536)) = false)) (by kernel_rfl) (by first | exact decide_eq_true (by omega) | exact decide_eq_false (by omega))

set_option maxHeartbeats 4000000 in
set_option maxRecDepth 100000 in
theorem G_LValid (t r g : Int)  : Fun 36 [.agg [iC t, iC r, iC g]] (toG []) 0 (.e (.c (.d (D.lit (.bool (limOk t r g)))))) (toG []) 0 := by
  refine Fun.mk (n := 21) Try.func36 rfl rfl (Nat.le_of_ble_eq_true rfl) ?_
  intro cx hcx
  refine AW.rgs [.no, .no] [1] [0] (P := True) (l' := [(1, rV 0 0)]) (g' := [(0, some (46, .ds [iD t, iD r, iD g]))]) (nx' := 1) (by kernel_rfl) trivial ?_
  rcases Bool.eq_false_or_eq_true (decide (1 ≤ t ∧ t ≤ 8388607)) with hx1 | hx1
  · have hx2 : (((1 : Int) ≤ t) ∧ (t ≤ 8388607)) := of_decide_eq_true hx1
    rcases Bool.eq_false_or_eq_true (decide (1 ≤ r ∧ r ≤ 65536)) with hx3 | hx3
    · have hx4 : (((1 : Int) ≤ r) ∧ (r ≤ 65536)) := of_decide_eq_true hx3
      by_cases hx5 : ((0 : Int) ≤ g)
      · by_cases hx6 : (g ≤ 65536)
        · refine AW.rgs [.no, .no, .call [] (.e (.c (.d (D.lit (.bool true))))) [] 0 [] none, .no, .no, .no, .call [] (.e (.c (.d (D.lit (.bool true))))) [] 0 [] none, .no, .no, .no, .no, .b true, .no, .no, .no, .no, .b true, .no, .no] [2] [] (P := (Fun 106 [iE t] (toG []) 0 (.e (.c (.d (D.lit (.bool true))))) (toG []) 0) ∧ (Fun 107 [iE r] (toG []) 0 (.e (.c (.d (D.lit (.bool true))))) (toG []) 0) ∧ (((0 : Int) ≤ g)) ∧ ((g ≤ 65536))) (l' := [(2, .e (.c (.d (D.lit (.bool true)))))]) (g' := []) (nx' := 1) (by kernel_rfl) ⟨(by have h0 := (G_isThr t); rw [hx1] at h0; exact h0), (by have h0 := (G_isRel r); rw [hx3] at h0; exact h0), (by omega), (by omega)⟩ ?_
          refine AW.ret ?_
          exact EndP.of (.inr rfl) [] (P := ((limOk t r g) = true)) (by kernel_rfl) (by first | exact decide_eq_true (by omega) | exact decide_eq_false (by omega))
        · refine AW.rgs [.no, .no, .call [] (.e (.c (.d (D.lit (.bool true))))) [] 0 [] none, .no, .no, .no, .call [] (.e (.c (.d (D.lit (.bool true))))) [] 0 [] none, .no, .no, .no, .no, .b true, .no, .no, .no, .no, .b false, .no, .no] [2] [] (P := (Fun 106 [iE t] (toG []) 0 (.e (.c (.d (D.lit (.bool true))))) (toG []) 0) ∧ (Fun 107 [iE r] (toG []) 0 (.e (.c (.d (D.lit (.bool true))))) (toG []) 0) ∧ (((0 : Int) ≤ g)) ∧ (¬ (g ≤ 65536))) (l' := [(2, .e (.c (.d (D.lit (.bool false)))))]) (g' := []) (nx' := 1) (by kernel_rfl) ⟨(by have h0 := (G_isThr t); rw [hx1] at h0; exact h0), (by have h0 := (G_isRel r); rw [hx3] at h0; exact h0), (by omega), (by omega)⟩ ?_
          refine AW.ret ?_
          exact EndP.of (.inr rfl) [] (P := ((limOk t r g) = false)) (by kernel_rfl) (by first | exact decide_eq_true (by omega) | exact decide_eq_false (by omega))
      · refine AW.rgs [.no, .no, .call [] (.e (.c (.d (D.lit (.bool true))))) [] 0 [] none, .no, .no, .no, .call [] (.e (.c (.d (D.lit (.bool true))))) [] 0 [] none, .no, .no, .no, .no, .b false, .no, .no, .no, .no] [2] [] (P := (Fun 106 [iE t] (toG []) 0 (.e (.c (.d (D.lit (.bool true))))) (toG []) 0) ∧ (Fun 107 [iE r] (toG []) 0 (.e (.c (.d (D.lit (.bool true))))) (toG []) 0) ∧ (¬ ((0 : Int) ≤ g))) (l' := [(2, .e (.c (.d (D.lit (.bool false)))))]) (g' := []) (nx' := 1) (by kernel_rfl) ⟨(by have h0 := (G_isThr t); rw [hx1] at h0; exact h0), (by have h0 := (G_isRel r); rw [hx3] at h0; exact h0), (by omega)⟩ ?_
        refine AW.ret ?_
        exact EndP.of (.inr rfl) [] (P := ((limOk t r g) = false)) (by kernel_rfl) (by first | exact decide_eq_true (by omega) | exact decide_eq_false (by omega))
    · have hx7 : ¬ (((1 : Int) ≤ r) ∧ (r ≤ 65536)) := of_decide_eq_false hx3
      refine AW.rgs [.no, .no, .call [] (.e (.c (.d (D.lit (.bool true))))) [] 0 [] none, .no, .no, .no, .call [] (.e (.c (.d (D.lit (.bool false))))) [] 0 [] none, .no, .no, .no, .no, .no, .no] [2] [] (P := (Fun 106 [iE t] (toG []) 0 (.e (.c (.d (D.lit (.bool true))))) (toG []) 0) ∧ (Fun 107 [iE r] (toG []) 0 (.e (.c (.d (D.lit (.bool false))))) (toG []) 0)) (l' := [(2, .e (.c (.d (D.lit (.bool false)))))]) (g' := []) (nx' := 1) (by kernel_rfl) ⟨(by have h0 := (G_isThr t); rw [hx1] at h0; exact h0), (by have h0 := (G_isRel r); rw [hx3] at h0; exact h0)⟩ ?_
      refine AW.ret ?_
      exact EndP.of (.inr rfl) [] (P := ((limOk t r g) = false)) (by kernel_rfl) (by first | exact decide_eq_true (by omega) | exact decide_eq_false (by omega))
  · have hx8 : ¬ (((1 : Int) ≤ t) ∧ (t ≤ 8388607)) := of_decide_eq_false hx1
    refine AW.rgs [.no, .no, .call [] (.e (.c (.d (D.lit (.bool false))))) [] 0 [] none, .no, .no, .no, .no, .no, .no, .no] [2] [] (P := (Fun 106 [iE t] (toG []) 0 (.e (.c (.d (D.lit (.bool false))))) (toG []) 0)) (l' := [(2, .e (.c (.d (D.lit (.bool false)))))]) (g' := []) (nx' := 1) (by kernel_rfl) (by have h0 := (G_isThr t); rw [hx1] at h0; exact h0) ?_
    refine AW.ret ?_
    exact EndP.of (.inr rfl) [] (P := ((limOk t r g) = false)) (by kernel_rfl) (by first | exact decide_eq_true (by omega) | exact decide_eq_false (by omega))

set_option maxHeartbeats 4000000 in
set_option maxRecDepth 100000 in
theorem G_rLValid (t r g : Int)  : Fun 37 [.agg [iC t, iC r, iC g]] (toG []) 0 (.e (.c (.d (D.lit (.bool (limOk t r g)))))) (toG []) 0 := by
  refine Fun.mk (n := 31) Try.func37 rfl rfl (Nat.le_of_ble_eq_true rfl) ?_
  intro cx hcx
  refine AW.rgs [.no, .no] [1] [0] (P := True) (l' := [(1, rV 0 0)]) (g' := [(0, some (46, .ds [iD t, iD r, iD g]))]) (nx' := 1) (by kernel_rfl) trivial ?_
  by_cases hx1 : ((1 : Int) ≤ t)
  · by_cases hx2 : (t ≤ 8388607)
    · by_cases hx3 : ((1 : Int) ≤ r)
      · by_cases hx4 : (r ≤ 65536)
        · by_cases hx5 : ((0 : Int) ≤ g)
          · by_cases hx6 : (g ≤ 65536)
            · refine AW.rgs [.no, .no, .b true, .no, .no, .no, .b true, .no, .no, .no, .no, .b true, .no, .no, .no, .no, .b true, .no, .no, .no, .no, .b true, .no, .no, .no, .no, .b true, .no, .no] [2] [] (P := (((1 : Int) ≤ t)) ∧ ((t ≤ 8388607)) ∧ (((1 : Int) ≤ r)) ∧ ((r ≤ 65536)) ∧ (((0 : Int) ≤ g)) ∧ ((g ≤ 65536))) (l' := [(2, .e (.c (.d (D.lit (.bool true)))))]) (g' := []) (nx' := 1) (by kernel_rfl) ⟨(by omega), (by omega), (by omega), (by omega), (by omega), (by omega)⟩ ?_
              refine AW.ret ?_
              exact EndP.of (.inr rfl) [] (P := ((limOk t r g) = true)) (by kernel_rfl) (by first | exact decide_eq_true (by omega) | exact decide_eq_false (by omega))
            · refine AW.rgs [.no, .no, .b true, .no, .no, .no, .b true, .no, .no, .no, .no, .b true, .no, .no, .no, .no, .b true, .no, .no, .no, .no, .b true, .no, .no, .no, .no, .b false, .no, .no] [2] [] (P := (((1 : Int) ≤ t)) ∧ ((t ≤ 8388607)) ∧ (((1 : Int) ≤ r)) ∧ ((r ≤ 65536)) ∧ (((0 : Int) ≤ g)) ∧ (¬ (g ≤ 65536))) (l' := [(2, .e (.c (.d (D.lit (.bool false)))))]) (g' := []) (nx' := 1) (by kernel_rfl) ⟨(by omega), (by omega), (by omega), (by omega), (by omega), (by omega)⟩ ?_
              refine AW.ret ?_
              exact EndP.of (.inr rfl) [] (P := ((limOk t r g) = false)) (by kernel_rfl) (by first | exact decide_eq_true (by omega) | exact decide_eq_false (by omega))
          · refine AW.rgs [.no, .no, .b true, .no, .no, .no, .b true, .no, .no, .no, .no, .b true, .no, .no, .no, .no, .b true, .no, .no, .no, .no, .b false, .no, .no, .no, .no] [2] [] (P := (((1 : Int) ≤ t)) ∧ ((t ≤ 8388607)) ∧ (((1 : Int) ≤ r)) ∧ ((r ≤ 65536)) ∧ (¬ ((0 : Int) ≤ g))) (l' := [(2, .e (.c (.d (D.lit (.bool false)))))]) (g' := []) (nx' := 1) (by kernel_rfl) ⟨(by omega), (by omega), (by omega), (by omega), (by omega)⟩ ?_
            refine AW.ret ?_
            exact EndP.of (.inr rfl) [] (P := ((limOk t r g) = false)) (by kernel_rfl) (by first | exact decide_eq_true (by omega) | exact decide_eq_false (by omega))
        · refine AW.rgs [.no, .no, .b true, .no, .no, .no, .b true, .no, .no, .no, .no, .b true, .no, .no, .no, .no, .b false, .no, .no, .no, .no, .no, .no] [2] [] (P := (((1 : Int) ≤ t)) ∧ ((t ≤ 8388607)) ∧ (((1 : Int) ≤ r)) ∧ (¬ (r ≤ 65536))) (l' := [(2, .e (.c (.d (D.lit (.bool false)))))]) (g' := []) (nx' := 1) (by kernel_rfl) ⟨(by omega), (by omega), (by omega), (by omega)⟩ ?_
          refine AW.ret ?_
          exact EndP.of (.inr rfl) [] (P := ((limOk t r g) = false)) (by kernel_rfl) (by first | exact decide_eq_true (by omega) | exact decide_eq_false (by omega))
      · refine AW.rgs [.no, .no, .b true, .no, .no, .no, .b true, .no, .no, .no, .no, .b false, .no, .no, .no, .no, .no, .no, .no, .no] [2] [] (P := (((1 : Int) ≤ t)) ∧ ((t ≤ 8388607)) ∧ (¬ ((1 : Int) ≤ r))) (l' := [(2, .e (.c (.d (D.lit (.bool false)))))]) (g' := []) (nx' := 1) (by kernel_rfl) ⟨(by omega), (by omega), (by omega)⟩ ?_
        refine AW.ret ?_
        exact EndP.of (.inr rfl) [] (P := ((limOk t r g) = false)) (by kernel_rfl) (by first | exact decide_eq_true (by omega) | exact decide_eq_false (by omega))
    · refine AW.rgs [.no, .no, .b true, .no, .no, .no, .b false, .no, .no, .no, .no, .no, .no, .no, .no, .no, .no] [2] [] (P := (((1 : Int) ≤ t)) ∧ (¬ (t ≤ 8388607))) (l' := [(2, .e (.c (.d (D.lit (.bool false)))))]) (g' := []) (nx' := 1) (by kernel_rfl) ⟨(by omega), (by omega)⟩ ?_
      refine AW.ret ?_
      exact EndP.of (.inr rfl) [] (P := ((limOk t r g) = false)) (by kernel_rfl) (by first | exact decide_eq_true (by omega) | exact decide_eq_false (by omega))
  · refine AW.rgs [.no, .no, .b false, .no, .no, .no, .no, .no, .no, .no, .no, .no, .no, .no] [2] [] (P := (¬ ((1 : Int) ≤ t))) (l' := [(2, .e (.c (.d (D.lit (.bool false)))))]) (g' := []) (nx' := 1) (by kernel_rfl) (by omega) ?_
    refine AW.ret ?_
    exact EndP.of (.inr rfl) [] (P := ((limOk t r g) = false)) (by kernel_rfl) (by first | exact decide_eq_true (by omega) | exact decide_eq_false (by omega))

set_option maxHeartbeats 4000000 in
set_option maxRecDepth 100000 in
theorem G_LNew (t r : Int) (h : limOk t r 65536 = true) : Fun 34 [iE t, iE r] (toG []) 0 (.tup [.agg [iC t, iC r, iC 65536], iE 0]) (toG []) 0 := by
  have h1 : 1 ≤ t ∧ t ≤ 8388607 ∧ 1 ≤ r ∧ r ≤ 65536 := by have := limOk_of h; omega
  refine Fun.mk (n := 18) Try.func34 rfl rfl (Nat.le_of_ble_eq_true rfl) ?_
  intro cx hcx
  refine AW.rgs [.no, .no] [0, 1, 4] [0] (P := True) (l' := [(0, iV t), (1, iV r), (4, rV 0 0)]) (g' := [(0, some (46, .ds [iD 0, iD 0, iD 0]))]) (nx' := 1) (by kernel_rfl) trivial ?_
  refine AW.seq ?_
  refine AW.rgs [.no, .call [] (.e (.c (.d (D.lit (.bool true))))) [] 0 [] none, .no, .no, .no, .call [] (.e (.c (.d (D.lit (.bool true))))) [] 0 [] none, .no, .no] [0, 1, 4, 13] [0] (P := (_) ∧ (_)) (l' := [(0, iV t), (1, iV r), (4, rV 0 0), (13, .e (.c (.d (D.lit (.bool false)))))]) (g' := [(0, some (46, .ds [iD 0, iD 0, iD 0]))]) (nx' := 1) (by kernel_rfl) ⟨(Fun.y (G_isThr t) (y' := .e (.c (.d (D.lit (.bool true))))) (congrArg (fun b => LV (.bool b)) (decide_eq_true (by omega)))), (Fun.y (G_isRel r) (y' := .e (.c (.d (D.lit (.bool true))))) (congrArg (fun b => LV (.bool b)) (decide_eq_true (by omega))))⟩ ?_
  refine AW.cond_f (.tmp (Look.of rfl)) ?_
  refine AW.skip ?_
  refine AW.rgs [.no, .no, .no, .no, .no] [4, 5] [0] (P := True) (l' := [(4, rV 0 0), (5, iV 0)]) (g' := [(0, some (46, .ds [iD t, iD r, iD 65536]))]) (nx' := 1) (by kernel_rfl) trivial ?_
  refine AW.ret ?_
  exact EndP.of (.inr rfl) [] (P := ((t : Int) = t) ∧ ((r : Int) = r) ∧ ((65536 : Int) = 65536) ∧ ((0 : Int) = 0)) (by kernel_rfl) ⟨rfl, rfl, rfl, rfl⟩

set_option maxHeartbeats 4000000 in
set_option maxRecDepth 100000 in
theorem G_LNew_no (t r : Int) (h : limOk t r 65536 = false) : Fun 34 [iE t, iE r] (toG []) 0 (.tup [.agg [iC 0, iC 0, iC 0], iE 2]) (toG []) 0 := by
  have h1 : ¬ (1 ≤ t ∧ t ≤ 8388607 ∧ 1 ≤ r ∧ r ≤ 65536) := by have := limOk_not h; omega
  refine Fun.mk (n := 18) Try.func34 rfl rfl (Nat.le_of_ble_eq_true rfl) ?_
  intro cx hcx
  refine AW.rgs [.no, .no] [0, 1, 4] [0] (P := True) (l' := [(0, iV t), (1, iV r), (4, rV 0 0)]) (g' := [(0, some (46, .ds [iD 0, iD 0, iD 0]))]) (nx' := 1) (by kernel_rfl) trivial ?_
  refine AW.seq ?_
  rcases Bool.eq_false_or_eq_true (decide (1 ≤ t ∧ t ≤ 8388607)) with hx1 | hx1
  · have hx2 : (((1 : Int) ≤ t) ∧ (t ≤ 8388607)) := of_decide_eq_true hx1
    refine AW.rgs [.no, .call [] (.e (.c (.d (D.lit (.bool true))))) [] 0 [] none, .no, .no, .no, .call [] (.e (.c (.d (D.lit (.bool false))))) [] 0 [] none, .no, .no] [0, 1, 4, 13] [0] (P := (Fun 106 [iE t] (toG []) 0 (.e (.c (.d (D.lit (.bool true))))) (toG []) 0) ∧ (_)) (l' := [(0, iV t), (1, iV r), (4, rV 0 0), (13, .e (.c (.d (D.lit (.bool true)))))]) (g' := [(0, some (46, .ds [iD 0, iD 0, iD 0]))]) (nx' := 1) (by kernel_rfl) ⟨(by have h0 := (G_isThr t); rw [hx1] at h0; exact h0), (Fun.y (G_isRel r) (y' := .e (.c (.d (D.lit (.bool false))))) (congrArg (fun b => LV (.bool b)) (decide_eq_false (by omega))))⟩ ?_
    refine AW.cond_t (.tmp (Look.of rfl)) ?_
    refine AW.rgs [.no, .no, .no] [4, 5] [0] (P := True) (l' := [(4, rV 0 0), (5, iV 2)]) (g' := [(0, some (46, .ds [iD 0, iD 0, iD 0]))]) (nx' := 1) (by kernel_rfl) trivial ?_
    refine AW.ret ?_
    exact EndP.of (.inr rfl) [] (P := ((0 : Int) = 0) ∧ ((0 : Int) = 0) ∧ ((0 : Int) = 0) ∧ ((2 : Int) = 2)) (by kernel_rfl) ⟨rfl, rfl, rfl, rfl⟩
  · have hx3 : ¬ (((1 : Int) ≤ t) ∧ (t ≤ 8388607)) := of_decide_eq_false hx1
    refine AW.rgs [.no, .call [] (.e (.c (.d (D.lit (.bool false))))) [] 0 [] none, .no, .no, .no] [0, 1, 4, 13] [0] (P := (Fun 106 [iE t] (toG []) 0 (.e (.c (.d (D.lit (.bool false))))) (toG []) 0)) (l' := [(0, iV t), (1, iV r), (4, rV 0 0), (13, .e (.c (.d (D.lit (.bool true)))))]) (g' := [(0, some (46, .ds [iD 0, iD 0, iD 0]))]) (nx' := 1) (by kernel_rfl) (by have h0 := (G_isThr t); rw [hx1] at h0; exact h0) ?_
    refine AW.cond_t (.tmp (Look.of rfl)) ?_
    refine AW.rgs [.no, .no, .no] [4, 5] [0] (P := True) (l' := [(4, rV 0 0), (5, iV 2)]) (g' := [(0, some (46, .ds [iD 0, iD 0, iD 0]))]) (nx' := 1) (by kernel_rfl) trivial ?_
    refine AW.ret ?_
    exact EndP.of (.inr rfl) [] (P := ((0 : Int) = 0) ∧ ((0 : Int) = 0) ∧ ((0 : Int) = 0) ∧ ((2 : Int) = 2)) (by kernel_rfl) ⟨rfl, rfl, rfl, rfl⟩

set_option maxHeartbeats 4000000 in
set_option maxRecDepth 100000 in
theorem G_rLNew (t r : Int) (h : limOk t r 65536 = true) : Fun 35 [iE t, iE r] (toG []) 0 (.tup [.agg [iC t, iC r, iC 65536], iE 0]) (toG []) 0 := by
  have h1 : 1 ≤ t ∧ t ≤ 8388607 ∧ 1 ≤ r ∧ r ≤ 65536 := by have := limOk_of h; omega
  refine Fun.mk (n := 15) Try.func35 rfl rfl (Nat.le_of_ble_eq_true rfl) ?_
  intro cx hcx
  refine AW.rgs [.no, .no] [0, 1, 4] [0] (P := True) (l' := [(0, iV t), (1, iV r), (4, rV 0 0)]) (g' := [(0, some (46, .ds [iD 0, iD 0, iD 0]))]) (nx' := 1) (by kernel_rfl) trivial ?_
  refine AW.rgs [.no, .no, .no, .no, .no] [4, 6] [0, 1] (P := True) (l' := [(4, rV 0 0), (6, rV 1 0)]) (g' := [(0, some (46, .ds [iD 0, iD 0, iD 0])), (1, some (46, .ds [iD t, iD r, iD 65536]))]) (nx' := 2) (by kernel_rfl) trivial ?_
  refine AW.seq ?_
  refine AW.rgs [.no, .call [] (.e (.c (.d (D.lit (.bool true))))) [] 0 [] none, .no] [4, 6, 12] [0, 1] (P := (Fun 37 [.agg [iC t, iC r, iC 65536]] (toG []) 0 (.e (.c (.d (D.lit (.bool true))))) (toG []) 0)) (l' := [(4, rV 0 0), (6, rV 1 0), (12, .e (.c (.d (D.lit (.bool false)))))]) (g' := [(0, some (46, .ds [iD 0, iD 0, iD 0])), (1, some (46, .ds [iD t, iD r, iD 65536]))]) (nx' := 2) (by kernel_rfl) (by have h0 := (G_rLValid t r 65536); rw [h] at h0; exact h0) ?_
  refine AW.cond_f (.tmp (Look.of rfl)) ?_
  refine AW.skip ?_
  refine AW.rgs [.no, .no, .no] [4, 5] [0] (P := True) (l' := [(4, rV 0 0), (5, iV 0)]) (g' := [(0, some (46, .ds [iD t, iD r, iD 65536]))]) (nx' := 2) (by kernel_rfl) trivial ?_
  refine AW.ret ?_
  exact EndP.of (.inr rfl) [] (P := ((t : Int) = t) ∧ ((r : Int) = r) ∧ ((65536 : Int) = 65536) ∧ ((0 : Int) = 0)) (by kernel_rfl) ⟨rfl, rfl, rfl, rfl⟩

set_option maxHeartbeats 4000000 in
set_option maxRecDepth 100000 in
theorem G_rLNew_no (t r : Int) (h : limOk t r 65536 = false) : Fun 35 [iE t, iE r] (toG []) 0 (.tup [.agg [iC 0, iC 0, iC 0], iE 2]) (toG []) 0 := by
  have h1 : ¬ (1 ≤ t ∧ t ≤ 8388607 ∧ 1 ≤ r ∧ r ≤ 65536) := by have := limOk_not h; omega
  refine Fun.mk (n := 15) Try.func35 rfl rfl (Nat.le_of_ble_eq_true rfl) ?_
  intro cx hcx
  refine AW.rgs [.no, .no] [0, 1, 4] [0] (P := True) (l' := [(0, iV t), (1, iV r), (4, rV 0 0)]) (g' := [(0, some (46, .ds [iD 0, iD 0, iD 0]))]) (nx' := 1) (by kernel_rfl) trivial ?_
  refine AW.rgs [.no, .no, .no, .no, .no] [4, 6] [0, 1] (P := True) (l' := [(4, rV 0 0), (6, rV 1 0)]) (g' := [(0, some (46, .ds [iD 0, iD 0, iD 0])), (1, some (46, .ds [iD t, iD r, iD 65536]))]) (nx' := 2) (by kernel_rfl) trivial ?_
  refine AW.seq ?_
  refine AW.rgs [.no, .call [] (.e (.c (.d (D.lit (.bool false))))) [] 0 [] none, .no] [4, 6, 12] [0, 1] (P := (Fun 37 [.agg [iC t, iC r, iC 65536]] (toG []) 0 (.e (.c (.d (D.lit (.bool false))))) (toG []) 0)) (l' := [(4, rV 0 0), (6, rV 1 0), (12, .e (.c (.d (D.lit (.bool true)))))]) (g' := [(0, some (46, .ds [iD 0, iD 0, iD 0])), (1, some (46, .ds [iD t, iD r, iD 65536]))]) (nx' := 2) (by kernel_rfl) (by have h0 := (G_rLValid t r 65536); rw [h] at h0; exact h0) ?_
  refine AW.cond_t (.tmp (Look.of rfl)) ?_
  refine AW.rgs [.no, .no, .no] [4, 5] [0] (P := True) (l' := [(4, rV 0 0), (5, iV 2)]) (g' := [(0, some (46, .ds [iD 0, iD 0, iD 0]))]) (nx' := 2) (by kernel_rfl) trivial ?_
  refine AW.ret ?_
  exact EndP.of (.inr rfl) [] (P := ((0 : Int) = 0) ∧ ((0 : Int) = 0) ∧ ((0 : Int) = 0) ∧ ((2 : Int) = 2)) (by kernel_rfl) ⟨rfl, rfl, rfl, rfl⟩

set_option maxHeartbeats 4000000 in
set_option maxRecDepth 100000 in
theorem G_Needed (t p : Int)  : Fun 38 [iE t, iE p] (toG []) 0 (iV (neededV t p)) (toG []) 0 := by
  have hq : 1 ≤ t ∧ t ≤ 8388607 ∧ 1 ≤ p ∧ p ≤ 1099511627776 → 0 ≤ t * 65536 / p ∧ t * 65536 / p ≤ 549755813888 := fun h9 => ⟨Int.ediv_nonneg (by omega) (by omega), Int.le_trans (Int.ediv_le_self _ (by omega)) (by omega)⟩
  refine Fun.mk (n := 23) Try.func38 rfl rfl (Nat.le_of_ble_eq_true rfl) ?_
  intro cx hcx
  refine AW.rgs [.no] [0, 1] [] (P := True) (l' := [(0, iV t), (1, iV p)]) (g' := []) (nx' := 0) (by kernel_rfl) trivial ?_
  refine AW.seq ?_
  rcases Bool.eq_false_or_eq_true (decide (1 ≤ t ∧ t ≤ 8388607)) with hx1 | hx1
  · have hx2 : (((1 : Int) ≤ t) ∧ (t ≤ 8388607)) := of_decide_eq_true hx1
    by_cases hx3 : (p < 0)
    · refine AW.rgs [.no, .call [] (.e (.c (.d (D.lit (.bool true))))) [] 0 [] none, .no, .no, .no, .b true, .no, .no, .no] [0, 1, 15] [] (P := (Fun 106 [iE t] (toG []) 0 (.e (.c (.d (D.lit (.bool true))))) (toG []) 0) ∧ ((p < 0))) (l' := [(0, iV t), (1, iV p), (15, .e (.c (.d (D.lit (.bool true)))))]) (g' := []) (nx' := 0) (by kernel_rfl) ⟨(by have h0 := (G_isThr t); rw [hx1] at h0; exact h0), (by omega)⟩ ?_
      refine AW.cond_t (.tmp (Look.of rfl)) ?_
      refine AW.rgs [.no] [4] [] (P := True) (l' := [(4, iV 0)]) (g' := []) (nx' := 0) (by kernel_rfl) trivial ?_
      refine AW.ret ?_
      exact EndP.of (.inr rfl) [] (P := (((neededV t p) : Int) = 0)) (by kernel_rfl) (by first | rfl | exact needed_no (by omega) | exact needed_y1 (by omega) (by omega) | exact needed_y2 (by omega) (by omega))
    · by_cases hx4 : ((1099511627776 : Int) < p)
      · refine AW.rgs [.no, .call [] (.e (.c (.d (D.lit (.bool true))))) [] 0 [] none, .no, .no, .no, .b false, .no, .no, .no, .b true, .no] [0, 1, 15] [] (P := (Fun 106 [iE t] (toG []) 0 (.e (.c (.d (D.lit (.bool true))))) (toG []) 0) ∧ (¬ (p < 0)) ∧ (((1099511627776 : Int) < p))) (l' := [(0, iV t), (1, iV p), (15, .e (.c (.d (D.lit (.bool true)))))]) (g' := []) (nx' := 0) (by kernel_rfl) ⟨(by have h0 := (G_isThr t); rw [hx1] at h0; exact h0), (by omega), (by omega)⟩ ?_
        refine AW.cond_t (.tmp (Look.of rfl)) ?_
        refine AW.rgs [.no] [4] [] (P := True) (l' := [(4, iV 0)]) (g' := []) (nx' := 0) (by kernel_rfl) trivial ?_
        refine AW.ret ?_
        exact EndP.of (.inr rfl) [] (P := (((neededV t p) : Int) = 0)) (by kernel_rfl) (by first | rfl | exact needed_no (by omega) | exact needed_y1 (by omega) (by omega) | exact needed_y2 (by omega) (by omega))
      · refine AW.rgs [.no, .call [] (.e (.c (.d (D.lit (.bool true))))) [] 0 [] none, .no, .no, .no, .b false, .no, .no, .no, .b false, .no] [0, 1, 15] [] (P := (Fun 106 [iE t] (toG []) 0 (.e (.c (.d (D.lit (.bool true))))) (toG []) 0) ∧ (¬ (p < 0)) ∧ (¬ ((1099511627776 : Int) < p))) (l' := [(0, iV t), (1, iV p), (15, .e (.c (.d (D.lit (.bool false)))))]) (g' := []) (nx' := 0) (by kernel_rfl) ⟨(by have h0 := (G_isThr t); rw [hx1] at h0; exact h0), (by omega), (by omega)⟩ ?_
        refine AW.cond_f (.tmp (Look.of rfl)) ?_
        refine AW.skip ?_
        refine AW.seq ?_
        by_cases hx5 : (p ≤ t)
        · refine AW.rgs [.no, .no, .b true] [0, 1, 18] [] (P := ((p ≤ t))) (l' := [(0, iV t), (1, iV p), (18, .e (.c (.d (D.lit (.bool true)))))]) (g' := []) (nx' := 0) (by kernel_rfl) (by omega) ?_
          refine AW.cond_t (.tmp (Look.of rfl)) ?_
          refine AW.rgs [.no] [4] [] (P := True) (l' := [(4, iV 65536)]) (g' := []) (nx' := 0) (by kernel_rfl) trivial ?_
          refine AW.ret ?_
          exact EndP.of (.inr rfl) [] (P := (((neededV t p) : Int) = 65536)) (by kernel_rfl) (by first | rfl | exact needed_no (by omega) | exact needed_y1 (by omega) (by omega) | exact needed_y2 (by omega) (by omega))
        · refine AW.rgs [.no, .no, .b false] [0, 1, 18] [] (P := (¬ (p ≤ t))) (l' := [(0, iV t), (1, iV p), (18, .e (.c (.d (D.lit (.bool false)))))]) (g' := []) (nx' := 0) (by kernel_rfl) (by omega) ?_
          refine AW.cond_f (.tmp (Look.of rfl)) ?_
          refine AW.skip ?_
          refine AW.rgs [.no, .w, .no, .ps, .no] [4] [] (P := ((-9223372036854775808) ≤ (t * 65536) ∧ (t * 65536) ≤ 9223372036854775807) ∧ ((0 : Int) ≤ ((t * 65536) : Int)) ∧ ((0 : Int) < (p : Int)) ∧ ((-9223372036854775808) ≤ (t * 65536) ∧ (t * 65536) ≤ 9223372036854775807)) (l' := [(4, iV ((t * 65536) / p))]) (g' := []) (nx' := 0) (by kernel_rfl) ⟨⟨by omega, by omega⟩, (by omega), (by omega), ⟨by omega, by omega⟩⟩ ?_
          refine AW.ret ?_
          exact EndP.of (.inr rfl) [] (P := (((neededV t p) : Int) = ((t * 65536) / p))) (by kernel_rfl) (by first | rfl | exact needed_no (by omega) | exact needed_y1 (by omega) (by omega) | exact needed_y2 (by omega) (by omega))
  · have hx6 : ¬ (((1 : Int) ≤ t) ∧ (t ≤ 8388607)) := of_decide_eq_false hx1
    refine AW.rgs [.no, .call [] (.e (.c (.d (D.lit (.bool false))))) [] 0 [] none, .no, .no, .no, .no, .no] [0, 1, 15] [] (P := (Fun 106 [iE t] (toG []) 0 (.e (.c (.d (D.lit (.bool false))))) (toG []) 0)) (l' := [(0, iV t), (1, iV p), (15, .e (.c (.d (D.lit (.bool true)))))]) (g' := []) (nx' := 0) (by kernel_rfl) (by have h0 := (G_isThr t); rw [hx1] at h0; exact h0) ?_
    refine AW.cond_t (.tmp (Look.of rfl)) ?_
    refine AW.rgs [.no] [4] [] (P := True) (l' := [(4, iV 0)]) (g' := []) (nx' := 0) (by kernel_rfl) trivial ?_
    refine AW.ret ?_
    exact EndP.of (.inr rfl) [] (P := (((neededV t p) : Int) = 0)) (by kernel_rfl) (by first | rfl | exact needed_no (by omega) | exact needed_y1 (by omega) (by omega) | exact needed_y2 (by omega) (by omega))

set_option maxHeartbeats 4000000 in
set_option maxRecDepth 100000 in
theorem G_rNeeded (t p : Int)  : Fun 39 [iE t, iE p] (toG []) 0 (iV (neededV t p)) (toG []) 0 := by
  have hq : 1 ≤ t ∧ t ≤ 8388607 ∧ 1 ≤ p ∧ p ≤ 1099511627776 → 0 ≤ t * 65536 / p ∧ t * 65536 / p ≤ 549755813888 := fun h9 => ⟨Int.ediv_nonneg (by omega) (by omega), Int.le_trans (Int.ediv_le_self _ (by omega)) (by omega)⟩
  refine Fun.mk (n := 26) Try.func39 rfl rfl (Nat.le_of_ble_eq_true rfl) ?_
  intro cx hcx
  refine AW.rgs [.no] [0, 1] [] (P := True) (l' := [(0, iV t), (1, iV p)]) (g' := []) (nx' := 0) (by kernel_rfl) trivial ?_
  refine AW.seq ?_
  by_cases hx1 : (t < 1)
  · refine AW.rgs [.no, .b true, .no, .no, .no, .no, .no, .no] [0, 1, 18] [] (P := ((t < 1))) (l' := [(0, iV t), (1, iV p), (18, .e (.c (.d (D.lit (.bool true)))))]) (g' := []) (nx' := 0) (by kernel_rfl) (by omega) ?_
    refine AW.cond_t (.tmp (Look.of rfl)) ?_
    refine AW.rgs [.no] [4] [] (P := True) (l' := [(4, iV 0)]) (g' := []) (nx' := 0) (by kernel_rfl) trivial ?_
    refine AW.ret ?_
    exact EndP.of (.inr rfl) [] (P := (((neededV t p) : Int) = 0)) (by kernel_rfl) (by first | rfl | exact needed_no (by omega) | exact needed_y1 (by omega) (by omega) | exact needed_y2 (by omega) (by omega))
  · by_cases hx2 : ((8388607 : Int) < t)
    · refine AW.rgs [.no, .b false, .no, .no, .b true, .no, .no, .no, .no, .no] [0, 1, 18] [] (P := (¬ (t < 1)) ∧ (((8388607 : Int) < t))) (l' := [(0, iV t), (1, iV p), (18, .e (.c (.d (D.lit (.bool true)))))]) (g' := []) (nx' := 0) (by kernel_rfl) ⟨(by omega), (by omega)⟩ ?_
      refine AW.cond_t (.tmp (Look.of rfl)) ?_
      refine AW.rgs [.no] [4] [] (P := True) (l' := [(4, iV 0)]) (g' := []) (nx' := 0) (by kernel_rfl) trivial ?_
      refine AW.ret ?_
      exact EndP.of (.inr rfl) [] (P := (((neededV t p) : Int) = 0)) (by kernel_rfl) (by first | rfl | exact needed_no (by omega) | exact needed_y1 (by omega) (by omega) | exact needed_y2 (by omega) (by omega))
    · by_cases hx3 : (p < 0)
      · refine AW.rgs [.no, .b false, .no, .no, .b false, .no, .no, .no, .b true, .no, .no, .no] [0, 1, 18] [] (P := (¬ (t < 1)) ∧ (¬ ((8388607 : Int) < t)) ∧ ((p < 0))) (l' := [(0, iV t), (1, iV p), (18, .e (.c (.d (D.lit (.bool true)))))]) (g' := []) (nx' := 0) (by kernel_rfl) ⟨(by omega), (by omega), (by omega)⟩ ?_
        refine AW.cond_t (.tmp (Look.of rfl)) ?_
        refine AW.rgs [.no] [4] [] (P := True) (l' := [(4, iV 0)]) (g' := []) (nx' := 0) (by kernel_rfl) trivial ?_
        refine AW.ret ?_
        exact EndP.of (.inr rfl) [] (P := (((neededV t p) : Int) = 0)) (by kernel_rfl) (by first | rfl | exact needed_no (by omega) | exact needed_y1 (by omega) (by omega) | exact needed_y2 (by omega) (by omega))
      · by_cases hx4 : ((1099511627776 : Int) < p)
        · refine AW.rgs [.no, .b false, .no, .no, .b false, .no, .no, .no, .b false, .no, .no, .no, .b true, .no] [0, 1, 18] [] (P := (¬ (t < 1)) ∧ (¬ ((8388607 : Int) < t)) ∧ (¬ (p < 0)) ∧ (((1099511627776 : Int) < p))) (l' := [(0, iV t), (1, iV p), (18, .e (.c (.d (D.lit (.bool true)))))]) (g' := []) (nx' := 0) (by kernel_rfl) ⟨(by omega), (by omega), (by omega), (by omega)⟩ ?_
          refine AW.cond_t (.tmp (Look.of rfl)) ?_
          refine AW.rgs [.no] [4] [] (P := True) (l' := [(4, iV 0)]) (g' := []) (nx' := 0) (by kernel_rfl) trivial ?_
          refine AW.ret ?_
          exact EndP.of (.inr rfl) [] (P := (((neededV t p) : Int) = 0)) (by kernel_rfl) (by first | rfl | exact needed_no (by omega) | exact needed_y1 (by omega) (by omega) | exact needed_y2 (by omega) (by omega))
        · refine AW.rgs [.no, .b false, .no, .no, .b false, .no, .no, .no, .b false, .no, .no, .no, .b false, .no] [0, 1, 18] [] (P := (¬ (t < 1)) ∧ (¬ ((8388607 : Int) < t)) ∧ (¬ (p < 0)) ∧ (¬ ((1099511627776 : Int) < p))) (l' := [(0, iV t), (1, iV p), (18, .e (.c (.d (D.lit (.bool false)))))]) (g' := []) (nx' := 0) (by kernel_rfl) ⟨(by omega), (by omega), (by omega), (by omega)⟩ ?_
          refine AW.cond_f (.tmp (Look.of rfl)) ?_
          refine AW.skip ?_
          refine AW.seq ?_
          by_cases hx5 : (p ≤ t)
          · refine AW.rgs [.no, .no, .b true] [0, 1, 21] [] (P := ((p ≤ t))) (l' := [(0, iV t), (1, iV p), (21, .e (.c (.d (D.lit (.bool true)))))]) (g' := []) (nx' := 0) (by kernel_rfl) (by omega) ?_
            refine AW.cond_t (.tmp (Look.of rfl)) ?_
            refine AW.rgs [.no] [4] [] (P := True) (l' := [(4, iV 65536)]) (g' := []) (nx' := 0) (by kernel_rfl) trivial ?_
            refine AW.ret ?_
            exact EndP.of (.inr rfl) [] (P := (((neededV t p) : Int) = 65536)) (by kernel_rfl) (by first | rfl | exact needed_no (by omega) | exact needed_y1 (by omega) (by omega) | exact needed_y2 (by omega) (by omega))
          · refine AW.rgs [.no, .no, .b false] [0, 1, 21] [] (P := (¬ (p ≤ t))) (l' := [(0, iV t), (1, iV p), (21, .e (.c (.d (D.lit (.bool false)))))]) (g' := []) (nx' := 0) (by kernel_rfl) (by omega) ?_
            refine AW.cond_f (.tmp (Look.of rfl)) ?_
            refine AW.skip ?_
            refine AW.rgs [.no, .w, .no, .ps, .no] [4] [] (P := ((-9223372036854775808) ≤ (t * 65536) ∧ (t * 65536) ≤ 9223372036854775807) ∧ ((0 : Int) ≤ ((t * 65536) : Int)) ∧ ((0 : Int) < (p : Int)) ∧ ((-9223372036854775808) ≤ (t * 65536) ∧ (t * 65536) ≤ 9223372036854775807)) (l' := [(4, iV ((t * 65536) / p))]) (g' := []) (nx' := 0) (by kernel_rfl) ⟨⟨by omega, by omega⟩, (by omega), (by omega), ⟨by omega, by omega⟩⟩ ?_
            refine AW.ret ?_
            exact EndP.of (.inr rfl) [] (P := (((neededV t p) : Int) = ((t * 65536) / p))) (by kernel_rfl) (by first | rfl | exact needed_no (by omega) | exact needed_y1 (by omega) (by omega) | exact needed_y2 (by omega) (by omega))

set_option maxHeartbeats 4000000 in
set_option maxRecDepth 100000 in
theorem G_fits (ch : Int) (l : List Int) (n : Nat) (hn : List.length l = n) (hm : n ≤ 100000000000000) : Fun 101 [iE ch, .c (.d (D.sl (dI .i64 l) n))] (toG []) 0 (.e (.c (.d (D.lit (.bool (fitB ch l)))))) (toG []) 0 := by
  refine Fun.mk (n := 40) Try.func101 rfl rfl (Nat.le_of_ble_eq_true rfl) ?_
  intro cx hcx
  refine AW.rgs [.no] [0, 1] [] (P := True) (l' := [(0, iV ch), (1, .e (.c (.d (D.sl (dI .i64 l) n))))]) (g' := []) (nx' := 0) (by kernel_rfl) trivial ?_
  refine AW.seq ?_
  by_cases hx1 : (ch < 1)
  · refine AW.rgs [.no, .b true, .no, .no, .no, .no, .no, .no] [1, 26] [] (P := ((ch < 1))) (l' := [(1, .e (.c (.d (D.sl (dI .i64 l) n)))), (26, .e (.c (.d (D.lit (.bool true)))))]) (g' := []) (nx' := 0) (by kernel_rfl) (by omega) ?_
    refine AW.cond_t (.tmp (Look.of rfl)) ?_
    refine AW.rgs [.no] [4] [] (P := True) (l' := [(4, .e (.c (.d (D.lit (.bool false)))))]) (g' := []) (nx' := 0) (by kernel_rfl) trivial ?_
    refine AW.ret ?_
    exact EndP.of (.inr rfl) [] (P := ((fitB ch l) = false)) (by kernel_rfl) (by first | exact fitB_t hn (by omega) (by omega) (by omega) (by omega) (fun j hj => ha j (by omega)) | exact fitB_f hn (by omega) | exact fitB_s (k := k) hn (by omega) (by omega))
  · by_cases hx2 : ((8 : Int) < ch)
    · refine AW.rgs [.no, .b false, .no, .no, .b true, .no, .no, .no, .no, .no] [1, 26] [] (P := (¬ (ch < 1)) ∧ (((8 : Int) < ch))) (l' := [(1, .e (.c (.d (D.sl (dI .i64 l) n)))), (26, .e (.c (.d (D.lit (.bool true)))))]) (g' := []) (nx' := 0) (by kernel_rfl) ⟨(by omega), (by omega)⟩ ?_
      refine AW.cond_t (.tmp (Look.of rfl)) ?_
      refine AW.rgs [.no] [4] [] (P := True) (l' := [(4, .e (.c (.d (D.lit (.bool false)))))]) (g' := []) (nx' := 0) (by kernel_rfl) trivial ?_
      refine AW.ret ?_
      exact EndP.of (.inr rfl) [] (P := ((fitB ch l) = false)) (by kernel_rfl) (by first | exact fitB_t hn (by omega) (by omega) (by omega) (by omega) (fun j hj => ha j (by omega)) | exact fitB_f hn (by omega) | exact fitB_s (k := k) hn (by omega) (by omega))
    · by_cases hx3 : ((((n : Nat) : Int) % ch) ≠ 0)
      · refine AW.rgs [.no, .b false, .no, .no, .b false, .no, .no, .no, .no, .no, .ps, .b true, .no, .no, .no] [1, 26] [] (P := (¬ (ch < 1)) ∧ (¬ ((8 : Int) < ch)) ∧ ((0 : Int) ≤ (((n : Nat) : Int) : Int)) ∧ ((0 : Int) < (ch : Int)) ∧ (((((n : Nat) : Int) % ch) ≠ 0))) (l' := [(1, .e (.c (.d (D.sl (dI .i64 l) n)))), (26, .e (.c (.d (D.lit (.bool true)))))]) (g' := []) (nx' := 0) (by kernel_rfl) ⟨(by omega), (by omega), (by omega), (by omega), (by omega)⟩ ?_
        refine AW.cond_t (.tmp (Look.of rfl)) ?_
        refine AW.rgs [.no] [4] [] (P := True) (l' := [(4, .e (.c (.d (D.lit (.bool false)))))]) (g' := []) (nx' := 0) (by kernel_rfl) trivial ?_
        refine AW.ret ?_
        exact EndP.of (.inr rfl) [] (P := ((fitB ch l) = false)) (by kernel_rfl) (by first | exact fitB_t hn (by omega) (by omega) (by omega) (by omega) (fun j hj => ha j (by omega)) | exact fitB_f hn (by omega) | exact fitB_s (k := k) hn (by omega) (by omega))
      · by_cases hx4 : ((65536 : Int) < (((n : Nat) : Int) / ch))
        · refine AW.rgs [.no, .b false, .no, .no, .b false, .no, .no, .no, .no, .no, .ps, .b false, .no, .no, .no, .no, .no, .ps, .b true, .no] [1, 26] [] (P := (¬ (ch < 1)) ∧ (¬ ((8 : Int) < ch)) ∧ ((0 : Int) ≤ (((n : Nat) : Int) : Int)) ∧ ((0 : Int) < (ch : Int)) ∧ (¬ ((((n : Nat) : Int) % ch) ≠ 0)) ∧ ((0 : Int) ≤ (((n : Nat) : Int) : Int)) ∧ ((0 : Int) < (ch : Int)) ∧ ((-9223372036854775808) ≤ ((n : Nat) : Int) ∧ ((n : Nat) : Int) ≤ 9223372036854775807) ∧ (((65536 : Int) < (((n : Nat) : Int) / ch)))) (l' := [(1, .e (.c (.d (D.sl (dI .i64 l) n)))), (26, .e (.c (.d (D.lit (.bool true)))))]) (g' := []) (nx' := 0) (by kernel_rfl) ⟨(by omega), (by omega), (by omega), (by omega), (by omega), (by omega), (by omega), ⟨by omega, by omega⟩, (by omega)⟩ ?_
          refine AW.cond_t (.tmp (Look.of rfl)) ?_
          refine AW.rgs [.no] [4] [] (P := True) (l' := [(4, .e (.c (.d (D.lit (.bool false)))))]) (g' := []) (nx' := 0) (by kernel_rfl) trivial ?_
          refine AW.ret ?_
          exact EndP.of (.inr rfl) [] (P := ((fitB ch l) = false)) (by kernel_rfl) (by first | exact fitB_t hn (by omega) (by omega) (by omega) (by omega) (fun j hj => ha j (by omega)) | exact fitB_f hn (by omega) | exact fitB_s (k := k) hn (by omega) (by omega))
        · refine AW.rgs [.no, .b false, .no, .no, .b false, .no, .no, .no, .no, .no, .ps, .b false, .no, .no, .no, .no, .no, .ps, .b false, .no] [1, 26] [] (P := (¬ (ch < 1)) ∧ (¬ ((8 : Int) < ch)) ∧ ((0 : Int) ≤ (((n : Nat) : Int) : Int)) ∧ ((0 : Int) < (ch : Int)) ∧ (¬ ((((n : Nat) : Int) % ch) ≠ 0)) ∧ ((0 : Int) ≤ (((n : Nat) : Int) : Int)) ∧ ((0 : Int) < (ch : Int)) ∧ ((-9223372036854775808) ≤ ((n : Nat) : Int) ∧ ((n : Nat) : Int) ≤ 9223372036854775807) ∧ (¬ ((65536 : Int) < (((n : Nat) : Int) / ch)))) (l' := [(1, .e (.c (.d (D.sl (dI .i64 l) n)))), (26, .e (.c (.d (D.lit (.bool false)))))]) (g' := []) (nx' := 0) (by kernel_rfl) ⟨(by omega), (by omega), (by omega), (by omega), (by omega), (by omega), (by omega), ⟨by omega, by omega⟩, (by omega)⟩ ?_
          refine AW.cond_f (.tmp (Look.of rfl)) ?_
          refine AW.skip ?_
          refine AW.seq ?_
          refine AW.rgs [.no, .no, .no] [27, 28, 29] [] (P := True) (l' := [(27, .e (.c (.d (D.sl (dI .i64 l) n)))), (28, iV ↑n), (29, iV 0)]) (g' := []) (nx' := 0) (by kernel_rfl) trivial ?_
          refine AW.block ?_
          refine AW.loopE 0 hcx (fun (x : {x : Nat // match x with | k => (k ≤ n) ∧ (∀ j, j < k → sumB (List.getD l j 0) = true)}) => match x with | ⟨k, _⟩ => (⟨[(27, .e (.c (.d (D.sl (dI .i64 l) n)))), (28, iV ((n : Nat) : Int)), (29, iV ((k : Nat) : Int))], [], 0⟩ : ES)) (fun (x : {x : Nat // match x with | k => (k ≤ n) ∧ (∀ j, j < k → sumB (List.getD l j 0) = true)}) => match x with | ⟨k, _⟩ => n - k) ⟨(0 : Nat), (show ((0 : Nat) ≤ n) ∧ (∀ j, j < (0 : Nat) → sumB (List.getD l j 0) = true) from ⟨(by first | omega | assumption | simp), (fun j hj => absurd hj (Nat.not_lt_zero j))⟩)⟩ [] (P := (((dI .i64 l) : List D) = (dI .i64 l)) ∧ ((n : Nat) = n) ∧ ((((n : Nat) : Int) : Int) = ((n : Nat) : Int)) ∧ ((0 : Int) = 0)) (by kernel_rfl) ⟨rfl, rfl, rfl, rfl⟩ ?_
          rintro ⟨k, hinv0⟩
          obtain ⟨hk, ha⟩ : (k ≤ n) ∧ (∀ j, j < k → sumB (List.getD l j 0) = true) := hinv0
          refine AW.es (l := [(27, .e (.c (.d (D.sl (dI .i64 l) n)))), (28, iV ((n : Nat) : Int)), (29, iV ((k : Nat) : Int))]) (g := []) (nx := 0) rfl rfl rfl ?_
          by_cases hx5 : (((k : Nat) : Int) < ((n : Nat) : Int))
          · refine AW.rgs [.b true] [27, 28, 29, 30] [] (P := ((((k : Nat) : Int) < ((n : Nat) : Int)))) (l' := [(27, .e (.c (.d (D.sl (dI .i64 l) n)))), (28, iV ↑n), (29, iV ↑k), (30, .e (.c (.d (D.lit (.bool true)))))]) (g' := []) (nx' := 0) (by kernel_rfl) (by omega) ?_
            refine AW.seq ?_
            refine AW.cond_t (.tmp (Look.of rfl)) ?_
            refine AW.skip ?_
            refine AW.seq ?_
            refine AW.block ?_
            refine AW.rgs [.n k, .d (D.lit (.int .i64 (List.getD l k 0))), .no] [6, 27, 28, 29] [] (P := ((((k : Nat) : Int) : Int) = ((k : Nat) : Int)) ∧ (k < n) ∧ ((List.drop k (dI .i64 l))[0]? = some (D.lit (.int .i64 (List.getD l k 0))))) (l' := [(6, iV (List.getD l k 0)), (27, .e (.c (.d (D.sl (dI .i64 l) n)))), (28, iV ↑n), (29, iV ↑k)]) (g' := []) (nx' := 0) (by kernel_rfl) ⟨rfl, (by omega), (dI_at _ _ _ (by first | omega | (rw [dI_len]; omega) | (simp [dI_len] <;> omega) | rfl))⟩ ?_
            by_cases hx6 : ((List.getD l k 0) < (-1099511627776))
            · refine AW.rgs [.no, .b true, .no, .no] [27, 28, 29, 38] [] (P := (((List.getD l k 0) < (-1099511627776)))) (l' := [(27, .e (.c (.d (D.sl (dI .i64 l) n)))), (28, iV ↑n), (29, iV ↑k), (38, .e (.c (.d (D.lit (.bool true)))))]) (g' := []) (nx' := 0) (by kernel_rfl) (by omega) ?_
              refine AW.cond_t (.tmp (Look.of rfl)) ?_
              refine AW.rgs [.no] [4] [] (P := True) (l' := [(4, .e (.c (.d (D.lit (.bool false)))))]) (g' := []) (nx' := 0) (by kernel_rfl) trivial ?_
              refine AW.ret ?_
              exact EndP.of (.inr rfl) [] (P := ((fitB ch l) = false)) (by kernel_rfl) (by first | exact fitB_t hn (by omega) (by omega) (by omega) (by omega) (fun j hj => ha j (by omega)) | exact fitB_f hn (by omega) | exact fitB_s (k := k) hn (by omega) (by omega))
            · by_cases hx7 : ((1099511627776 : Int) < (List.getD l k 0))
              · refine AW.rgs [.no, .b false, .no, .no, .b true, .no] [27, 28, 29, 38] [] (P := (¬ ((List.getD l k 0) < (-1099511627776))) ∧ (((1099511627776 : Int) < (List.getD l k 0)))) (l' := [(27, .e (.c (.d (D.sl (dI .i64 l) n)))), (28, iV ↑n), (29, iV ↑k), (38, .e (.c (.d (D.lit (.bool true)))))]) (g' := []) (nx' := 0) (by kernel_rfl) ⟨(by omega), (by omega)⟩ ?_
                refine AW.cond_t (.tmp (Look.of rfl)) ?_
                refine AW.rgs [.no] [4] [] (P := True) (l' := [(4, .e (.c (.d (D.lit (.bool false)))))]) (g' := []) (nx' := 0) (by kernel_rfl) trivial ?_
                refine AW.ret ?_
                exact EndP.of (.inr rfl) [] (P := ((fitB ch l) = false)) (by kernel_rfl) (by first | exact fitB_t hn (by omega) (by omega) (by omega) (by omega) (fun j hj => ha j (by omega)) | exact fitB_f hn (by omega) | exact fitB_s (k := k) hn (by omega) (by omega))
              · refine AW.rgs [.no, .b false, .no, .no, .b false, .no] [27, 28, 29, 38] [] (P := (¬ ((List.getD l k 0) < (-1099511627776))) ∧ (¬ ((1099511627776 : Int) < (List.getD l k 0)))) (l' := [(27, .e (.c (.d (D.sl (dI .i64 l) n)))), (28, iV ↑n), (29, iV ↑k), (38, .e (.c (.d (D.lit (.bool false)))))]) (g' := []) (nx' := 0) (by kernel_rfl) ⟨(by omega), (by omega)⟩ ?_
                refine AW.cond_f (.tmp (Look.of rfl)) ?_
                refine AW.skip ?_
                refine AW.rg [.w, .no] [27, 28, 29] [] (P := ((-9223372036854775808) ≤ (((k : Nat) : Int) + 1) ∧ (((k : Nat) : Int) + 1) ≤ 9223372036854775807)) (l' := [(27, .e (.c (.d (D.sl (dI .i64 l) n)))), (28, iV ↑n), (29, iV (↑k + 1))]) (g' := []) (nx' := 0) (by kernel_rfl) ⟨by omega, by omega⟩ ?_
                exact Rd.of ⟨((k + 1) : Nat), (show ((k + 1) ≤ n) ∧ (∀ j, j < (k + 1) → sumB (List.getD l j 0) = true) from ⟨(by first | omega | assumption | simp), (fun j hj => (Nat.lt_succ_iff_lt_or_eq.1 hj).elim (ha j) (fun e9 => by subst e9; exact decide_eq_true (by omega)))⟩)⟩ [] (P := (((dI .i64 l) : List D) = (dI .i64 l)) ∧ ((n : Nat) = n) ∧ ((((n : Nat) : Int) : Int) = ((n : Nat) : Int)) ∧ (((((k + 1) : Nat) : Int) : Int) = (((k : Nat) : Int) + 1))) (by kernel_rfl) ⟨rfl, rfl, rfl, (by first | rfl | omega | assumption | (simp; done) | (simp; omega))⟩ (show n - (k + 1) < n - k from (by first | omega | (show _ < _; simp; omega)))
          · refine AW.rgs [.b false] [27, 28, 29, 30] [] (P := (¬ (((k : Nat) : Int) < ((n : Nat) : Int)))) (l' := [(27, .e (.c (.d (D.sl (dI .i64 l) n)))), (28, iV ↑n), (29, iV ↑k), (30, .e (.c (.d (D.lit (.bool false)))))]) (g' := []) (nx' := 0) (by kernel_rfl) (by omega) ?_
            refine AW.seq ?_
            refine AW.cond_f (.tmp (Look.of rfl)) ?_
            refine AW.exit ?_
            refine AW.rgs [.no] [4] [] (P := True) (l' := [(4, .e (.c (.d (D.lit (.bool true)))))]) (g' := []) (nx' := 0) (by kernel_rfl) trivial ?_
            refine AW.ret ?_
            exact EndP.of (.inr rfl) [] (P := ((fitB ch l) = true)) (by kernel_rfl) (by first | exact fitB_t hn (by omega) (by omega) (by omega) (by omega) (fun j hj => ha j (by omega)) | exact fitB_f hn (by omega) | exact fitB_s (k := k) hn (by omega) (by omega))

set_option maxHeartbeats 4000000 in
set_option maxRecDepth 100000 in
theorem G_peakOf (l : List Int) (n : Nat) (hn : List.length l = n) (hs : sumsB l) (hm : n ≤ 100000000000000) : Fun 103 [.c (.d (D.sl (dI .i64 l) n))] (toG []) 0 (iV (peakV n l)) (toG []) 0 := by
  refine Fun.mk (n := 19) Try.func103 rfl rfl (Nat.le_of_ble_eq_true rfl) ?_
  intro cx hcx
  refine AW.rgs [.no] [0] [] (P := True) (l' := [(0, .e (.c (.d (D.sl (dI .i64 l) n))))]) (g' := []) (nx' := 0) (by kernel_rfl) trivial ?_
  refine AW.rgs [.no] [0, 3] [] (P := True) (l' := [(0, .e (.c (.d (D.sl (dI .i64 l) n)))), (3, iV 0)]) (g' := []) (nx' := 0) (by kernel_rfl) trivial ?_
  refine AW.seq ?_
  refine AW.rgs [.no, .no, .no] [3, 6, 7, 8] [] (P := True) (l' := [(3, iV 0), (6, .e (.c (.d (D.sl (dI .i64 l) n)))), (7, iV ↑n), (8, iV 0)]) (g' := []) (nx' := 0) (by kernel_rfl) trivial ?_
  refine AW.block ?_
  refine AW.loopE 0 hcx (fun (x : {x : Nat // match x with | k => (k ≤ n)}) => match x with | ⟨k, _⟩ => (⟨[(3, iV (peakV k l)), (6, .e (.c (.d (D.sl (dI .i64 l) n)))), (7, iV ((n : Nat) : Int)), (8, iV ((k : Nat) : Int))], [], 0⟩ : ES)) (fun (x : {x : Nat // match x with | k => (k ≤ n)}) => match x with | ⟨k, _⟩ => n - k) ⟨(0 : Nat), (show ((0 : Nat) ≤ n) from (by first | omega | assumption | simp))⟩ [] (P := (((peakV 0 l) : Int) = 0) ∧ (((dI .i64 l) : List D) = (dI .i64 l)) ∧ ((n : Nat) = n) ∧ ((((n : Nat) : Int) : Int) = ((n : Nat) : Int)) ∧ ((0 : Int) = 0)) (by kernel_rfl) ⟨(by first | rfl | omega | assumption | (simp; done) | (simp; omega)), rfl, rfl, rfl, rfl⟩ ?_
  rintro ⟨k, hinv0⟩
  have hk : (k ≤ n) := hinv0
  refine AW.es (l := [(3, iV (peakV k l)), (6, .e (.c (.d (D.sl (dI .i64 l) n)))), (7, iV ((n : Nat) : Int)), (8, iV ((k : Nat) : Int))]) (g := []) (nx := 0) rfl rfl rfl ?_
  have hpk : 0 ≤ peakV k l ∧ peakV k l ≤ 1099511627776 := peakV_in hs k (by omega)
  have hpk1 : peakV (k + 1) l = max (max (peakV k l) (List.getD l k 0)) (0 - List.getD l k 0) := (peakV_1 k l).resolve_right (by omega)
  by_cases hx1 : (((k : Nat) : Int) < ((n : Nat) : Int))
  · refine AW.rgs [.b true] [3, 6, 7, 8, 9] [] (P := ((((k : Nat) : Int) < ((n : Nat) : Int)))) (l' := [(3, iV (peakV k l)), (6, .e (.c (.d (D.sl (dI .i64 l) n)))), (7, iV ↑n), (8, iV ↑k), (9, .e (.c (.d (D.lit (.bool true)))))]) (g' := []) (nx' := 0) (by kernel_rfl) (by omega) ?_
    refine AW.seq ?_
    refine AW.cond_t (.tmp (Look.of rfl)) ?_
    refine AW.skip ?_
    refine AW.seq ?_
    refine AW.block ?_
    have hx2 : -1099511627776 ≤ (List.getD l k 0) ∧ (List.getD l k 0) ≤ 1099511627776 := hs.at k (by omega)
    refine AW.rgs [.n k, .d (D.lit (.int .i64 (List.getD l k 0))), .no] [3, 5, 6, 7, 8] [] (P := ((((k : Nat) : Int) : Int) = ((k : Nat) : Int)) ∧ (k < n) ∧ ((List.drop k (dI .i64 l))[0]? = some (D.lit (.int .i64 (List.getD l k 0))))) (l' := [(3, iV (peakV k l)), (5, iV (List.getD l k 0)), (6, .e (.c (.d (D.sl (dI .i64 l) n)))), (7, iV ↑n), (8, iV ↑k)]) (g' := []) (nx' := 0) (by kernel_rfl) ⟨rfl, (by omega), (dI_at _ _ _ (by first | omega | (rw [dI_len]; omega) | (simp [dI_len] <;> omega) | rfl))⟩ ?_
    refine AW.rg [.no, .no, .no, .w, .no, .no] [3, 6, 7, 8] [] (P := ((-9223372036854775808) ≤ (0 - (List.getD l k 0)) ∧ (0 - (List.getD l k 0)) ≤ 9223372036854775807)) (l' := [(3, iV (max (max (peakV k l) (List.getD l k 0)) (0 - (List.getD l k 0)))), (6, .e (.c (.d (D.sl (dI .i64 l) n)))), (7, iV ↑n), (8, iV ↑k)]) (g' := []) (nx' := 0) (by kernel_rfl) ⟨by omega, by omega⟩ ?_
    refine AW.rg [.w, .no] [3, 6, 7, 8] [] (P := ((-9223372036854775808) ≤ (((k : Nat) : Int) + 1) ∧ (((k : Nat) : Int) + 1) ≤ 9223372036854775807)) (l' := [(3, iV (max (max (peakV k l) (List.getD l k 0)) (0 - (List.getD l k 0)))), (6, .e (.c (.d (D.sl (dI .i64 l) n)))), (7, iV ↑n), (8, iV (↑k + 1))]) (g' := []) (nx' := 0) (by kernel_rfl) ⟨by omega, by omega⟩ ?_
    exact Rd.of ⟨((k + 1) : Nat), (show ((k + 1) ≤ n) from (by first | omega | assumption | simp))⟩ [] (P := (((peakV (k + 1) l) : Int) = (max (max (peakV k l) (List.getD l k 0)) (0 - (List.getD l k 0)))) ∧ (((dI .i64 l) : List D) = (dI .i64 l)) ∧ ((n : Nat) = n) ∧ ((((n : Nat) : Int) : Int) = ((n : Nat) : Int)) ∧ (((((k + 1) : Nat) : Int) : Int) = (((k : Nat) : Int) + 1))) (by kernel_rfl) ⟨(by first | rfl | omega | assumption | (simp; done) | (simp; omega)), rfl, rfl, rfl, (by first | rfl | omega | assumption | (simp; done) | (simp; omega))⟩ (show n - (k + 1) < n - k from (by first | omega | (show _ < _; simp; omega)))
  · refine AW.rgs [.b false] [3, 6, 7, 8, 9] [] (P := (¬ (((k : Nat) : Int) < ((n : Nat) : Int)))) (l' := [(3, iV (peakV k l)), (6, .e (.c (.d (D.sl (dI .i64 l) n)))), (7, iV ↑n), (8, iV ↑k), (9, .e (.c (.d (D.lit (.bool false)))))]) (g' := []) (nx' := 0) (by kernel_rfl) (by omega) ?_
    refine AW.seq ?_
    refine AW.cond_f (.tmp (Look.of rfl)) ?_
    refine AW.exit ?_
    refine AW.rgs [.no, .no] [2] [] (P := True) (l' := [(2, iV (peakV k l))]) (g' := []) (nx' := 0) (by kernel_rfl) trivial ?_
    refine AW.ret ?_
    obtain rfl : n = k := by omega
    exact EndP.of (.inr rfl) [] (P := (((peakV n l) : Int) = (peakV n l))) (by kernel_rfl) rfl

set_option maxHeartbeats 4000000 in
set_option maxRecDepth 100000 in
theorem G_limit (t r g : Int) (n : Nat) (l : List Int) (os : List Int) (q : Nat) (hn : List.length l = n) (hs : sumsB l) (ht : 1 ≤ t ∧ t ≤ 8388607) (hr : 1 ≤ r ∧ r ≤ 65536) (hg : 0 ≤ g ∧ g ≤ 65536) (hc : n ≤ 8) (hq : List.length os = q) (hqb : q ≤ 600000) : Fun 102 [.c (.d (D.sl (dI .i64 l) n)), .c (.ptr 0 0), .c (.ptr 1 0)] (toG [(0, some (46, .ds [iD t, iD r, iD g])), (1, some (24, .cs [.own 2 0 q 1 true])), (2, some (21, .ds (dI .i32 os)))]) 3 (.tup []) (toG [(0, some (46, .ds [iD t, iD r, iD (gainV t r g n l)])), (1, some (24, .cs [.own 3 0 (q + n) 1 true])), (2, none), (3, some (21, .ds (dI .i32 (os ++ (outsV (gainV t r g n l) n l)))))]) 4 := by
  have hpk : 0 ≤ peakV n l ∧ peakV n l ≤ 1099511627776 := peakV_in hs n (by omega)
  have hgv : 0 ≤ gainV t r g n l ∧ gainV t r g n l ≤ 65536 ∧ gainV t r g n l ≤ neededV t (peakV n l) := gainV_in (by omega) (by omega)
  have hgd : min (neededV t (peakV n l)) (g + r) = gainV t r g n l := rfl
  refine Fun.mk (n := 34) Try.func102 rfl rfl (Nat.le_of_ble_eq_true rfl) ?_
  intro cx hcx
  have hx1 : (((0 : Int) ≤ (peakV n l)) ∧ ((peakV n l) ≤ 1099511627776)) := peakV_in ‹_› n (by omega)
  have hx2 : (((0 : Int) ≤ (neededV t (peakV n l))) ∧ ((neededV t (peakV n l)) ≤ 65536)) := needed_in t (peakV n l)
  refine AW.rgs [.no, .no, .no, .call [] (iV (peakV n l)) [] 0 [] none, .call [] (iV (neededV t (peakV n l))) [] 0 [] none, .no, .no, .no, .no, .w, .i (gainV t r g n l), .no, .no] [0, 1, 2] [0, 1, 2] (P := (_) ∧ (_) ∧ ((-9223372036854775808) ≤ (g + r) ∧ (g + r) ≤ 9223372036854775807) ∧ (((min (neededV t (peakV n l)) (g + r)) : Int) = (gainV t r g n l))) (l' := [(0, .e (.c (.d (D.sl (dI .i64 l) n)))), (1, rV 0 0), (2, rV 1 0)]) (g' := [(0, some (46, .ds [iD t, iD r, iD (gainV t r g n l)])), (1, some (24, .cs [.own 2 0 q 1 true])), (2, some (21, .ds (dI .i32 os)))]) (nx' := 3) (by kernel_rfl) ⟨(G_peakOf l n (by omega) (by first | omega | with_reducible assumption | (simp <;> omega) | rfl | assumption) (by omega)), (G_Needed t (peakV n l)), ⟨by omega, by omega⟩, (by omega)⟩ ?_
  refine AW.rgs [.no, .no, .no] [1, 2, 18, 19, 20] [0, 1, 2] (P := True) (l' := [(1, rV 0 0), (2, rV 1 0), (18, .e (.c (.d (D.sl (dI .i64 l) n)))), (19, iV ↑n), (20, iV 0)]) (g' := [(0, some (46, .ds [iD t, iD r, iD (gainV t r g n l)])), (1, some (24, .cs [.own 2 0 q 1 true])), (2, some (21, .ds (dI .i32 os)))]) (nx' := 3) (by kernel_rfl) trivial ?_
  refine AW.block ?_
  refine AW.loopE 3 hcx (fun (x : {x : Nat // match x with | k => (k ≤ n)}) => match x with | ⟨k, _⟩ => (⟨[(1, rV 0 0), (2, rV 1 0), (18, .e (.c (.d (D.sl (dI .i64 l) n)))), (19, iV ((n : Nat) : Int)), (20, iV ((k : Nat) : Int))], [(0, some (46, .ds [iD t, iD r, iD (gainV t r g n l)])), (1, some (24, .cs [.own 3 0 (q + k) 1 true])), (3, some (21, .ds (dI .i32 (os ++ (outsV (gainV t r g n l) k l)))))], 4⟩ : ES)) (fun (x : {x : Nat // match x with | k => (k ≤ n)}) => match x with | ⟨k, _⟩ => n - k) ⟨(0 : Nat), (show ((0 : Nat) ≤ n) from (by first | omega | assumption | simp))⟩ [(3, 2)] (P := ((0 : Nat) = 0) ∧ ((0 : Nat) = 0) ∧ (((dI .i64 l) : List D) = (dI .i64 l)) ∧ ((n : Nat) = n) ∧ ((((n : Nat) : Int) : Int) = ((n : Nat) : Int)) ∧ ((0 : Int) = 0) ∧ (([iD t, iD r, iD (gainV t r g n l)] : List D) = [iD t, iD r, iD (gainV t r g n l)]) ∧ ((0 : Nat) = 0) ∧ (((q + 0) : Nat) = q) ∧ (((dI .i32 (os ++ (outsV (gainV t r g n l) 0 l))) : List D) = (dI .i32 os))) (by kernel_rfl) ⟨rfl, rfl, rfl, rfl, rfl, rfl, rfl, rfl, (by first | rfl | omega | assumption | (simp; done) | (simp; omega)), (by first | rfl | (simp only [outsV, List.append_nil, List.append_assoc]; done) | (simp only [outsV, List.append_nil, List.append_assoc]; rfl))⟩ ?_
  rintro ⟨k, hinv0⟩
  have hk : (k ≤ n) := hinv0
  refine AW.es (l := [(1, rV 0 0), (2, rV 1 0), (18, .e (.c (.d (D.sl (dI .i64 l) n)))), (19, iV ((n : Nat) : Int)), (20, iV ((k : Nat) : Int))]) (g := [(0, some (46, .ds [iD t, iD r, iD (gainV t r g n l)])), (1, some (24, .cs [.own 3 0 (q + k) 1 true])), (3, some (21, .ds (dI .i32 (os ++ (outsV (gainV t r g n l) k l)))))]) (nx := 4) rfl rfl rfl ?_
  have hol : List.length (outsV (gainV t r g n l) k l) = k := outsV_len _ l k
  by_cases hx3 : (((k : Nat) : Int) < ((n : Nat) : Int))
  · have hout : -8388608 ≤ outV (gainV t r g n l) (List.getD l k 0) ∧ outV (gainV t r g n l) (List.getD l k 0) ≤ 8388607 ∧ satI (outV (gainV t r g n l) (List.getD l k 0)) = outV (gainV t r g n l) (List.getD l k 0) ∧ -72057594037927936 ≤ (List.getD l k 0) * (gainV t r g n l) ∧ (List.getD l k 0) * (gainV t r g n l) ≤ 72057594037927936 ∧ Int.tdiv ((List.getD l k 0) * (gainV t r g n l)) 65536 = outV (gainV t r g n l) (List.getD l k 0) := by have h7 := out_in (t := t) (p := peakV n l) ht hpk ⟨hgv.1, hgv.2.2⟩ (peakV_ge (l := l) n k (by omega)); exact ⟨h7.1, h7.2.1, h7.2.2.1, h7.2.2.2.1, h7.2.2.2.2, (outV_eq _ _).resolve_right (by omega)⟩
    refine AW.rgs [.b true] [1, 2, 18, 19, 20, 21] [0, 1, 3] (P := ((((k : Nat) : Int) < ((n : Nat) : Int)))) (l' := [(1, rV 0 0), (2, rV 1 0), (18, .e (.c (.d (D.sl (dI .i64 l) n)))), (19, iV ↑n), (20, iV ↑k), (21, .e (.c (.d (D.lit (.bool true)))))]) (g' := [(0, some (46, .ds [iD t, iD r, iD (gainV t r g n l)])), (1, some (24, .cs [.own 3 0 (q + k) 1 true])), (3, some (21, .ds (dI .i32 (os ++ (outsV (gainV t r g n l) k l)))))]) (nx' := 4) (by kernel_rfl) (by omega) ?_
    refine AW.seq ?_
    refine AW.cond_t (.tmp (Look.of rfl)) ?_
    refine AW.skip ?_
    refine AW.seq ?_
    refine AW.block ?_
    have hout : -8388608 ≤ outV (gainV t r g n l) (List.getD l k 0) ∧ outV (gainV t r g n l) (List.getD l k 0) ≤ 8388607 ∧ satI (outV (gainV t r g n l) (List.getD l k 0)) = outV (gainV t r g n l) (List.getD l k 0) ∧ -72057594037927936 ≤ (List.getD l k 0) * (gainV t r g n l) ∧ (List.getD l k 0) * (gainV t r g n l) ≤ 72057594037927936 ∧ Int.tdiv ((List.getD l k 0) * (gainV t r g n l)) 65536 = outV (gainV t r g n l) (List.getD l k 0) := by have h7 := out_in (t := t) (p := peakV n l) ht hpk ⟨hgv.1, hgv.2.2⟩ (peakV_ge (l := l) n k (by omega)); exact ⟨h7.1, h7.2.1, h7.2.2.1, h7.2.2.2.1, h7.2.2.2.2, (outV_eq _ _).resolve_right (by omega)⟩
    have hx4 : -1099511627776 ≤ (List.getD l k 0) ∧ (List.getD l k 0) ≤ 1099511627776 := hs.at k (by omega)
    refine AW.rgs [.n k, .d (D.lit (.int .i64 (List.getD l k 0))), .no] [1, 2, 5, 18, 19, 20] [0, 1, 3] (P := ((((k : Nat) : Int) : Int) = ((k : Nat) : Int)) ∧ (k < n) ∧ ((List.drop k (dI .i64 l))[0]? = some (D.lit (.int .i64 (List.getD l k 0))))) (l' := [(1, rV 0 0), (2, rV 1 0), (5, iV (List.getD l k 0)), (18, .e (.c (.d (D.sl (dI .i64 l) n)))), (19, iV ↑n), (20, iV ↑k)]) (g' := [(0, some (46, .ds [iD t, iD r, iD (gainV t r g n l)])), (1, some (24, .cs [.own 3 0 (q + k) 1 true])), (3, some (21, .ds (dI .i32 (os ++ (outsV (gainV t r g n l) k l)))))]) (nx' := 4) (by kernel_rfl) ⟨rfl, (by omega), (dI_at _ _ _ (by first | omega | (rw [dI_len]; omega) | (simp [dI_len] <;> omega) | rfl))⟩ ?_
    have hout : -8388608 ≤ outV (gainV t r g n l) (List.getD l k 0) ∧ outV (gainV t r g n l) (List.getD l k 0) ≤ 8388607 ∧ satI (outV (gainV t r g n l) (List.getD l k 0)) = outV (gainV t r g n l) (List.getD l k 0) ∧ -72057594037927936 ≤ (List.getD l k 0) * (gainV t r g n l) ∧ (List.getD l k 0) * (gainV t r g n l) ≤ 72057594037927936 ∧ Int.tdiv ((List.getD l k 0) * (gainV t r g n l)) 65536 = outV (gainV t r g n l) (List.getD l k 0) := by have h7 := out_in (t := t) (p := peakV n l) ht hpk ⟨hgv.1, hgv.2.2⟩ (peakV_ge (l := l) n k (by omega)); exact ⟨h7.1, h7.2.1, h7.2.2.1, h7.2.2.2.1, h7.2.2.2.2, (outV_eq _ _).resolve_right (by omega)⟩
    have hx5 : ((((-8388608) : Int) ≤ (satI (outV (gainV t r g n l) (List.getD l k 0)))) ∧ ((satI (outV (gainV t r g n l) (List.getD l k 0))) ≤ 8388607)) := satI_smp (outV (gainV t r g n l) (List.getD l k 0))
    refine AW.rg [.no, .no, .no, .no, .w, .wi (outV (gainV t r g n l) (List.getD l k 0)), .call [] (.e (.c (.d (D.lit (.int .i32 (outV (gainV t r g n l) (List.getD l k 0))))))) [] 0 [] none, .no, .ap none ((q + k) + 1) (dI .i32 ((os ++ (outsV (gainV t r g n l) k l)) ++ ([(outV (gainV t r g n l) (List.getD l k 0))] : List Int))), .no] [1, 2, 18, 19, 20] [0, 1, 5] (P := ((-9223372036854775808) ≤ ((List.getD l k 0) * (gainV t r g n l)) ∧ ((List.getD l k 0) * (gainV t r g n l)) ≤ 9223372036854775807) ∧ (¬ (65536 : Int) = 0) ∧ ((-9223372036854775808) ≤ (Int.tdiv ((List.getD l k 0) * (gainV t r g n l)) 65536) ∧ (Int.tdiv ((List.getD l k 0) * (gainV t r g n l)) 65536) ≤ 9223372036854775807) ∧ (((Int.tdiv ((List.getD l k 0) * (gainV t r g n l)) 65536) : Int) = (outV (gainV t r g n l) (List.getD l k 0))) ∧ (_) ∧ ([D.lit (.int .i32 (outV (gainV t r g n l) (List.getD l k 0)))].length = 1 * 1) ∧ (((dI .i32 (os ++ (outsV (gainV t r g n l) k l))) : List D).length = (q + k) * 1) ∧ (((q + k) + 1) * 4 ≤ 140737488355328) ∧ ((q + k) + 1 = ((q + k) + 1)) ∧ (((dI .i32 (os ++ (outsV (gainV t r g n l) k l))) : List D) ++ [D.lit (.int .i32 (outV (gainV t r g n l) (List.getD l k 0)))] = (dI .i32 ((os ++ (outsV (gainV t r g n l) k l)) ++ ([(outV (gainV t r g n l) (List.getD l k 0))] : List Int))))) (l' := [(1, rV 0 0), (2, rV 1 0), (18, .e (.c (.d (D.sl (dI .i64 l) n)))), (19, iV ↑n), (20, iV ↑k)]) (g' := [(0, some (46, .ds [iD t, iD r, iD (gainV t r g n l)])), (1, some (24, .cs [.own 5 0 ((q + k) + 1) 1 true])), (5, some (21, .ds (dI .i32 ((os ++ (outsV (gainV t r g n l) k l)) ++ ([(outV (gainV t r g n l) (List.getD l k 0))] : List Int)))))]) (nx' := 6) (by kernel_rfl) ⟨⟨by omega, by omega⟩, (by omega), ⟨by omega, by omega⟩, (by omega), (Fun.y (G_Sat (outV (gainV t r g n l) (List.getD l k 0)) (by first | omega | with_reducible assumption | (simp <;> omega) | rfl | assumption)) (y' := .e (.c (.d (D.lit (.int .i32 (outV (gainV t r g n l) (List.getD l k 0))))))) (by rw [show ((satI (outV (gainV t r g n l) (List.getD l k 0))) : Int) = (outV (gainV t r g n l) (List.getD l k 0)) by omega])), (by first | omega | (rw [dI_len]; omega) | (simp [dI_len] <;> omega) | rfl), (by first | omega | (rw [dI_len]; omega) | (simp [dI_len] <;> omega) | rfl), (by omega), (by omega), (dI_app .i32 (os ++ (outsV (gainV t r g n l) k l)) ([(outV (gainV t r g n l) (List.getD l k 0))] : List Int))⟩ ?_
    have hout : -8388608 ≤ outV (gainV t r g n l) (List.getD l k 0) ∧ outV (gainV t r g n l) (List.getD l k 0) ≤ 8388607 ∧ satI (outV (gainV t r g n l) (List.getD l k 0)) = outV (gainV t r g n l) (List.getD l k 0) ∧ -72057594037927936 ≤ (List.getD l k 0) * (gainV t r g n l) ∧ (List.getD l k 0) * (gainV t r g n l) ≤ 72057594037927936 ∧ Int.tdiv ((List.getD l k 0) * (gainV t r g n l)) 65536 = outV (gainV t r g n l) (List.getD l k 0) := by have h7 := out_in (t := t) (p := peakV n l) ht hpk ⟨hgv.1, hgv.2.2⟩ (peakV_ge (l := l) n k (by omega)); exact ⟨h7.1, h7.2.1, h7.2.2.1, h7.2.2.2.1, h7.2.2.2.2, (outV_eq _ _).resolve_right (by omega)⟩
    refine AW.rg [.w, .no] [1, 2, 18, 19, 20] [0, 1, 5] (P := ((-9223372036854775808) ≤ (((k : Nat) : Int) + 1) ∧ (((k : Nat) : Int) + 1) ≤ 9223372036854775807)) (l' := [(1, rV 0 0), (2, rV 1 0), (18, .e (.c (.d (D.sl (dI .i64 l) n)))), (19, iV ↑n), (20, iV (↑k + 1))]) (g' := [(0, some (46, .ds [iD t, iD r, iD (gainV t r g n l)])), (1, some (24, .cs [.own 5 0 ((q + k) + 1) 1 true])), (5, some (21, .ds (dI .i32 ((os ++ (outsV (gainV t r g n l) k l)) ++ ([(outV (gainV t r g n l) (List.getD l k 0))] : List Int)))))]) (nx' := 6) (by kernel_rfl) ⟨by omega, by omega⟩ ?_
    exact Rd.of ⟨((k + 1) : Nat), (show ((k + 1) ≤ n) from (by first | omega | assumption | simp))⟩ [(3, 5)] (P := ((0 : Nat) = 0) ∧ ((0 : Nat) = 0) ∧ (((dI .i64 l) : List D) = (dI .i64 l)) ∧ ((n : Nat) = n) ∧ ((((n : Nat) : Int) : Int) = ((n : Nat) : Int)) ∧ (((((k + 1) : Nat) : Int) : Int) = (((k : Nat) : Int) + 1)) ∧ (([iD t, iD r, iD (gainV t r g n l)] : List D) = [iD t, iD r, iD (gainV t r g n l)]) ∧ ((0 : Nat) = 0) ∧ (((q + (k + 1)) : Nat) = ((q + k) + 1)) ∧ (((dI .i32 (os ++ (outsV (gainV t r g n l) (k + 1) l))) : List D) = (dI .i32 ((os ++ (outsV (gainV t r g n l) k l)) ++ ([(outV (gainV t r g n l) (List.getD l k 0))] : List Int))))) (by kernel_rfl) ⟨rfl, rfl, rfl, rfl, rfl, (by first | rfl | omega | assumption | (simp; done) | (simp; omega)), rfl, rfl, (by first | rfl | omega | assumption | (simp; done) | (simp; omega)), (by first | rfl | (simp only [outsV, List.append_nil, List.append_assoc]; done) | (simp only [outsV, List.append_nil, List.append_assoc]; rfl))⟩ (show n - (k + 1) < n - k from (by first | omega | (show _ < _; simp; omega)))
  · refine AW.rgs [.b false] [1, 2, 18, 19, 20, 21] [0, 1, 3] (P := (¬ (((k : Nat) : Int) < ((n : Nat) : Int)))) (l' := [(1, rV 0 0), (2, rV 1 0), (18, .e (.c (.d (D.sl (dI .i64 l) n)))), (19, iV ↑n), (20, iV ↑k), (21, .e (.c (.d (D.lit (.bool false)))))]) (g' := [(0, some (46, .ds [iD t, iD r, iD (gainV t r g n l)])), (1, some (24, .cs [.own 3 0 (q + k) 1 true])), (3, some (21, .ds (dI .i32 (os ++ (outsV (gainV t r g n l) k l)))))]) (nx' := 4) (by kernel_rfl) (by omega) ?_
    refine AW.seq ?_
    refine AW.cond_f (.tmp (Look.of rfl)) ?_
    refine AW.exit ?_
    obtain rfl : n = k := by omega
    exact EndP.of (.inl rfl) [] (P := (([iD t, iD r, iD (gainV t r g n l)] : List D) = [iD t, iD r, iD (gainV t r g n l)]) ∧ ((0 : Nat) = 0) ∧ (((q + n) : Nat) = (q + n)) ∧ (((dI .i32 (os ++ (outsV (gainV t r g n l) n l))) : List D) = (dI .i32 (os ++ (outsV (gainV t r g n l) n l))))) (by kernel_rfl) ⟨rfl, rfl, rfl, rfl⟩

set_option maxHeartbeats 4000000 in
set_option maxRecDepth 100000 in
theorem G_LRun (t r g : Int) (ch f : Nat) (l : List Int) (n : Nat) (hn : List.length l = n) (hv : FV ch f l) (hr : limOk t r g = true) : Fun 32 [.agg [iC t, iC r, iC g], iE ((ch : Nat) : Int), .c (.d (D.sl (dI .i64 l) n))] (toG []) 0 (.tup [.agg [iC ((ch : Nat) : Int), .own 0 0 n 1 true], .agg [iC t, iC r, iC (runG t r ch g l f)], iE 0]) (toG [(0, some (21, .ds (dI .i32 (runO t r ch g l f))))]) 1 := by
  have hok : fitB ((ch : Nat) : Int) l = true := hv.ok
  have hrr : 1 ≤ t ∧ t ≤ 8388607 ∧ 1 ≤ r ∧ r ≤ 65536 ∧ 0 ≤ g ∧ g ≤ 65536 := limOk_of hr
  have hc1 : 1 ≤ ch := hv.c1
  have hc8 : ch ≤ 8 := hv.c8
  have hlen : n = f * ch := hn.symm.trans hv.len
  have hbig : f * ch ≤ 524288 := hv.big
  have hq : (n : Int) / (ch : Int) = f := by rw [hlen]; exact hv.quo
  have hqm : (n : Int) % (ch : Int) = 0 := by rw [hlen, Int.natCast_mul]; exact Int.mul_emod_left _ _
  have hfit : f ≤ 65536 := hv.fit
  have hss : sumsB l := hv.sums
  refine Fun.mk (n := 46) Try.func32 rfl rfl (Nat.le_of_ble_eq_true rfl) ?_
  intro cx hcx
  refine AW.rgs [.no, .no, .no, .no] [1, 2, 3, 6, 7] [0, 1, 2] (P := True) (l' := [(1, iV ↑ch), (2, .e (.c (.d (D.sl (dI .i64 l) n)))), (3, rV 0 0), (6, rV 1 0), (7, rV 2 0)]) (g' := [(0, some (46, .ds [iD t, iD r, iD g])), (1, some (26, .ds [iD 0, D.lit (.slice none 0 0)])), (2, some (46, .ds [iD 0, iD 0, iD 0]))]) (nx' := 3) (by kernel_rfl) trivial ?_
  refine AW.seq ?_
  refine AW.rgs [.no, .call [] (.e (.c (.d (D.lit (.bool true))))) [] 0 [] none, .no] [1, 2, 3, 6, 7, 14] [0, 1, 2] (P := (Fun 36 [.agg [iC t, iC r, iC g]] (toG []) 0 (.e (.c (.d (D.lit (.bool true))))) (toG []) 0)) (l' := [(1, iV ↑ch), (2, .e (.c (.d (D.sl (dI .i64 l) n)))), (3, rV 0 0), (6, rV 1 0), (7, rV 2 0), (14, .e (.c (.d (D.lit (.bool false)))))]) (g' := [(0, some (46, .ds [iD t, iD r, iD g])), (1, some (26, .ds [iD 0, D.lit (.slice none 0 0)])), (2, some (46, .ds [iD 0, iD 0, iD 0]))]) (nx' := 3) (by kernel_rfl) (by have h0 := (G_LValid t r g); rw [hr] at h0; exact h0) ?_
  refine AW.cond_f (.tmp (Look.of rfl)) ?_
  refine AW.skip ?_
  refine AW.seq ?_
  refine AW.rgs [.no, .no, .call [] (.e (.c (.d (D.lit (.bool true))))) [] 0 [] none, .no] [1, 2, 3, 6, 7, 20] [0, 1, 2] (P := (Fun 101 [iE ((ch : Nat) : Int), .c (.d (D.sl (dI .i64 l) n))] (toG []) 0 (.e (.c (.d (D.lit (.bool true))))) (toG []) 0)) (l' := [(1, iV ↑ch), (2, .e (.c (.d (D.sl (dI .i64 l) n)))), (3, rV 0 0), (6, rV 1 0), (7, rV 2 0), (20, .e (.c (.d (D.lit (.bool false)))))]) (g' := [(0, some (46, .ds [iD t, iD r, iD g])), (1, some (26, .ds [iD 0, D.lit (.slice none 0 0)])), (2, some (46, .ds [iD 0, iD 0, iD 0]))]) (nx' := 3) (by kernel_rfl) (by have h0 := (G_fits ((ch : Nat) : Int) l n (by omega) (by omega)); rw [hok] at h0; exact h0) ?_
  refine AW.cond_f (.tmp (Look.of rfl)) ?_
  refine AW.skip ?_
  refine AW.rgs [.no, .no, .mk 0 n (dI .i32 (List.replicate 0 0)), .no, .no] [1, 2, 3, 6, 7, 9] [0, 1, 2, 3, 4] (P := ((0 : Int) = 0) ∧ ((((n : Nat) : Int) : Int) = ((n : Nat) : Int)) ∧ (0 ≤ n) ∧ (4 * n ≤ 281474976710656) ∧ (List.replicate 0 (D.lit (.int .i32 0)) = dI .i32 (List.replicate 0 0))) (l' := [(1, iV ↑ch), (2, .e (.c (.d (D.sl (dI .i64 l) n)))), (3, rV 0 0), (6, rV 1 0), (7, rV 2 0), (9, rV 4 0)]) (g' := [(0, some (46, .ds [iD t, iD r, iD g])), (1, some (26, .ds [iD 0, D.lit (.slice none 0 0)])), (2, some (46, .ds [iD 0, iD 0, iD 0])), (3, some (21, .ds (dI .i32 (List.replicate 0 0)))), (4, some (24, .cs [.own 3 0 0 1 true]))]) (nx' := 5) (by kernel_rfl) ⟨rfl, rfl, (by omega), (by omega), (dI_rep _ _ _)⟩ ?_
  refine AW.rgs [.no, .no] [1, 2, 3, 6, 7, 9, 10] [0, 1, 2, 3, 4] (P := True) (l' := [(1, iV ↑ch), (2, .e (.c (.d (D.sl (dI .i64 l) n)))), (3, rV 0 0), (6, rV 1 0), (7, rV 2 0), (9, rV 4 0), (10, .e (.c (.fn 102 [(0, 0), (4, 0)])))]) (g' := [(0, some (46, .ds [iD t, iD r, iD g])), (1, some (26, .ds [iD 0, D.lit (.slice none 0 0)])), (2, some (46, .ds [iD 0, iD 0, iD 0])), (3, some (21, .ds (dI .i32 (List.replicate 0 0)))), (4, some (24, .cs [.own 3 0 0 1 true]))]) (nx' := 5) (by kernel_rfl) trivial ?_
  refine AW.seq ?_
  refine AW.rgs [.no] [1, 2, 3, 6, 7, 9, 10, 11] [0, 1, 2, 3, 4] (P := True) (l' := [(1, iV ↑ch), (2, .e (.c (.d (D.sl (dI .i64 l) n)))), (3, rV 0 0), (6, rV 1 0), (7, rV 2 0), (9, rV 4 0), (10, .e (.c (.fn 102 [(0, 0), (4, 0)]))), (11, iV 0)]) (g' := [(0, some (46, .ds [iD t, iD r, iD g])), (1, some (26, .ds [iD 0, D.lit (.slice none 0 0)])), (2, some (46, .ds [iD 0, iD 0, iD 0])), (3, some (21, .ds (dI .i32 (List.replicate 0 0)))), (4, some (24, .cs [.own 3 0 0 1 true]))]) (nx' := 5) (by kernel_rfl) trivial ?_
  refine AW.block ?_
  refine AW.loopE 0 hcx (fun (x : {x : Nat // match x with | i => (i ≤ f)}) => match x with | ⟨i, _⟩ => (⟨[(1, iV ((ch : Nat) : Int)), (2, .e (.c (.d (D.sl (dI .i64 l) n)))), (3, rV 0 0), (6, rV 1 0), (7, rV 2 0), (9, rV 4 0), (10, .e (.c (.fn 102 [(0, 0), (4, 0)]))), (11, iV (((i : Nat) : Int) * ((ch : Nat) : Int)))], [(0, some (46, .ds [iD t, iD r, iD (runG t r ch g l i)])), (1, some (26, .ds [iD 0, D.lit (.slice none 0 0)])), (2, some (46, .ds [iD 0, iD 0, iD 0])), (3, some (21, .ds (dI .i32 (runO t r ch g l i)))), (4, some (24, .cs [.own 3 0 (i * ch) 1 true]))], 5⟩ : ES)) (fun (x : {x : Nat // match x with | i => (i ≤ f)}) => match x with | ⟨i, _⟩ => f - i) ⟨(0 : Nat), (show ((0 : Nat) ≤ f) from (by first | omega | assumption | simp))⟩ [] (P := ((((ch : Nat) : Int) : Int) = ((ch : Nat) : Int)) ∧ (((dI .i64 l) : List D) = (dI .i64 l)) ∧ ((n : Nat) = n) ∧ ((0 : Nat) = 0) ∧ ((0 : Nat) = 0) ∧ ((0 : Nat) = 0) ∧ ((0 : Nat) = 0) ∧ (((0 * ((ch : Nat) : Int)) : Int) = 0) ∧ (([iD t, iD r, iD (runG t r ch g l 0)] : List D) = [iD t, iD r, iD g]) ∧ (([iD 0, D.lit (.slice none 0 0)] : List D) = [iD 0, D.lit (.slice none 0 0)]) ∧ (([iD 0, iD 0, iD 0] : List D) = [iD 0, iD 0, iD 0]) ∧ (((dI .i32 (runO t r ch g l 0)) : List D) = (dI .i32 (List.replicate 0 0))) ∧ ((0 : Nat) = 0) ∧ (((0 * ch) : Nat) = 0)) (by kernel_rfl) ⟨rfl, rfl, rfl, rfl, rfl, rfl, rfl, (by first | rfl | omega | assumption | (simp; done) | (simp; omega)), (by first | rfl | (rw [Nat.zero_mul]; rfl)), rfl, rfl, (by first | rfl | (rw [Nat.zero_mul]; rfl)), rfl, (by first | rfl | omega | assumption | (simp; done) | (simp; omega))⟩ ?_
  rintro ⟨i, hinv0⟩
  have hi : (i ≤ f) := hinv0
  refine AW.es (l := [(1, iV ((ch : Nat) : Int)), (2, .e (.c (.d (D.sl (dI .i64 l) n)))), (3, rV 0 0), (6, rV 1 0), (7, rV 2 0), (9, rV 4 0), (10, .e (.c (.fn 102 [(0, 0), (4, 0)]))), (11, iV (((i : Nat) : Int) * ((ch : Nat) : Int)))]) (g := [(0, some (46, .ds [iD t, iD r, iD (runG t r ch g l i)])), (1, some (26, .ds [iD 0, D.lit (.slice none 0 0)])), (2, some (46, .ds [iD 0, iD 0, iD 0])), (3, some (21, .ds (dI .i32 (runO t r ch g l i)))), (4, some (24, .cs [.own 3 0 (i * ch) 1 true]))]) (nx := 5) rfl rfl rfl ?_
  have hcase : (i < f ∧ i * ch + ch ≤ n) ∨ (i = f ∧ i * ch = n) := (Nat.lt_or_ge i f).elim (fun h9 => .inl ⟨h9, by have := Nat.mul_le_mul_right ch (show i + 1 ≤ f from h9); rw [Nat.succ_mul] at this; omega⟩) (fun h9 => .inr ((fun h8 : i = f => ⟨h8, by rw [h8]; exact hlen.symm⟩) (by omega)))
  have hsm : (i + 1) * ch = i * ch + ch := Nat.succ_mul i ch
  have hsi : ((i : Int) + 1) * (ch : Int) = (i : Int) * (ch : Int) + (ch : Int) := by rw [Int.add_mul, Int.one_mul]
  have hol : List.length (runO t r ch g l i) = i * ch := runO_len t r ch g l i
  have hgi : 0 ≤ runG t r ch g l i ∧ runG t r ch g l i ≤ 65536 := runG_in (by omega) (by omega) i
  have hsf : sumsB (List.take ch (List.drop (i * ch) l)) := hss.part _ _
  refine AW.seq ?_
  by_cases hx1 : ((((i : Nat) : Int) * ((ch : Nat) : Int)) < ((n : Nat) : Int))
  · refine AW.rgs [.no, .no, .no, .b true] [1, 2, 3, 6, 7, 9, 10, 11, 30] [0, 1, 2, 3, 4] (P := (((((i : Nat) : Int) * ((ch : Nat) : Int)) < ((n : Nat) : Int)))) (l' := [(1, iV ↑ch), (2, .e (.c (.d (D.sl (dI .i64 l) n)))), (3, rV 0 0), (6, rV 1 0), (7, rV 2 0), (9, rV 4 0), (10, .e (.c (.fn 102 [(0, 0), (4, 0)]))), (11, iV (↑i * ↑ch)), (30, .e (.c (.d (D.lit (.bool true)))))]) (g' := [(0, some (46, .ds [iD t, iD r, iD (runG t r ch g l i)])), (1, some (26, .ds [iD 0, D.lit (.slice none 0 0)])), (2, some (46, .ds [iD 0, iD 0, iD 0])), (3, some (21, .ds (dI .i32 (runO t r ch g l i)))), (4, some (24, .cs [.own 3 0 (i * ch) 1 true]))]) (nx' := 5) (by kernel_rfl) (by omega) ?_
    refine AW.cond_t (.tmp (Look.of rfl)) ?_
    refine AW.skip ?_
    refine AW.seq ?_
    refine AW.block ?_
    refine AW.rg [.no, .no, .no, .no, .no, .w, .sls (i * ch) ((i * ch) + ch) ch (dI .i64 (List.take ch (List.drop (i * ch) l))), .call [0, 4, 3] (.tup []) [(0, some (46, .ds [iD t, iD r, iD (gainV t r (runG t r ch g l i) ch (List.take ch (List.drop (i * ch) l)))])), (1, some (24, .cs [.own 3 0 ((i * ch) + ch) 1 true])), (2, none), (3, some (21, .ds (dI .i32 ((runO t r ch g l i) ++ (outsV (gainV t r (runG t r ch g l i) ch (List.take ch (List.drop (i * ch) l))) ch (List.take ch (List.drop (i * ch) l)))))))] 4 [] none] [1, 2, 3, 6, 7, 9, 10, 11] [0, 1, 2, 4, 5] (P := ((-9223372036854775808) ≤ ((((i : Nat) : Int) * ((ch : Nat) : Int)) + ((ch : Nat) : Int)) ∧ ((((i : Nat) : Int) * ((ch : Nat) : Int)) + ((ch : Nat) : Int)) ≤ 9223372036854775807) ∧ (((((i : Nat) : Int) * ((ch : Nat) : Int)) : Int) = (((i * ch) : Nat) : Int)) ∧ ((((((i : Nat) : Int) * ((ch : Nat) : Int)) + ((ch : Nat) : Int)) : Int) = ((((i * ch) + ch) : Nat) : Int)) ∧ ((i * ch) ≤ ((i * ch) + ch)) ∧ (((i * ch) + ch) ≤ n) ∧ (((i * ch) + ch) - (i * ch) = ch) ∧ (List.take (ch * 1) (List.drop ((i * ch) * 1) (dI .i64 l)) = (dI .i64 (List.take ch (List.drop (i * ch) l)))) ∧ (_)) (l' := [(1, iV ↑ch), (2, .e (.c (.d (D.sl (dI .i64 l) n)))), (3, rV 0 0), (6, rV 1 0), (7, rV 2 0), (9, rV 4 0), (10, .e (.c (.fn 102 [(0, 0), (4, 0)]))), (11, iV (↑i * ↑ch))]) (g' := [(0, some (46, .ds [iD t, iD r, iD (gainV t r (runG t r ch g l i) ch (List.take ch (List.drop (i * ch) l)))])), (1, some (26, .ds [iD 0, D.lit (.slice none 0 0)])), (2, some (46, .ds [iD 0, iD 0, iD 0])), (4, some (24, .cs [.own 5 0 ((i * ch) + ch) 1 true])), (5, some (21, .ds (dI .i32 ((runO t r ch g l i) ++ (outsV (gainV t r (runG t r ch g l i) ch (List.take ch (List.drop (i * ch) l))) ch (List.take ch (List.drop (i * ch) l)))))))]) (nx' := 6) (by kernel_rfl) ⟨⟨by omega, by omega⟩, (by first | rfl | omega), (by first | rfl | omega), (by omega), (by omega), (by omega), (by first | rfl | with_reducible assumption | exact dI_app _ _ _ | exact dI_rep _ _ _ | (simp only [dI_take, dI_drop, dI_app, Nat.mul_one, Nat.zero_mul, List.drop_zero, List.nil_append, List.append_nil]; done) | (simp only [dI_take, dI_drop, dI_app, Nat.mul_one, Nat.zero_mul, List.drop_zero, List.nil_append, List.append_nil]; rfl) | (rw [List.take_of_length_le (by simp only [dI_len, List.length_drop, Nat.mul_one]; omega)]; first | rfl | (simp only [dI_drop, Nat.mul_one, Nat.zero_mul, List.drop_zero]; done) | (simp only [dI_drop, Nat.mul_one, Nat.zero_mul, List.drop_zero]; rfl))), (G_limit t r (runG t r ch g l i) ch (List.take ch (List.drop (i * ch) l)) (runO t r ch g l i) (i * ch) (by first | omega | with_reducible assumption | (simp <;> omega) | rfl | assumption) (by first | omega | with_reducible assumption | (simp <;> omega) | rfl | assumption) (by omega) (by omega) (by first | omega | with_reducible assumption | (simp <;> omega) | rfl | assumption) (by omega) (by first | omega | with_reducible assumption | (simp <;> omega) | rfl | assumption) (by omega))⟩ ?_
    refine AW.rg [.no, .no, .w, .no] [1, 2, 3, 6, 7, 9, 10, 11] [0, 1, 2, 4, 5] (P := ((-9223372036854775808) ≤ ((((i : Nat) : Int) * ((ch : Nat) : Int)) + ((ch : Nat) : Int)) ∧ ((((i : Nat) : Int) * ((ch : Nat) : Int)) + ((ch : Nat) : Int)) ≤ 9223372036854775807)) (l' := [(1, iV ↑ch), (2, .e (.c (.d (D.sl (dI .i64 l) n)))), (3, rV 0 0), (6, rV 1 0), (7, rV 2 0), (9, rV 4 0), (10, .e (.c (.fn 102 [(0, 0), (4, 0)]))), (11, iV ((↑i * ↑ch) + ↑ch))]) (g' := [(0, some (46, .ds [iD t, iD r, iD (gainV t r (runG t r ch g l i) ch (List.take ch (List.drop (i * ch) l)))])), (1, some (26, .ds [iD 0, D.lit (.slice none 0 0)])), (2, some (46, .ds [iD 0, iD 0, iD 0])), (4, some (24, .cs [.own 5 0 ((i * ch) + ch) 1 true])), (5, some (21, .ds (dI .i32 ((runO t r ch g l i) ++ (outsV (gainV t r (runG t r ch g l i) ch (List.take ch (List.drop (i * ch) l))) ch (List.take ch (List.drop (i * ch) l)))))))]) (nx' := 6) (by kernel_rfl) ⟨by omega, by omega⟩ ?_
    exact Rd.of ⟨((i + 1) : Nat), (show ((i + 1) ≤ f) from (by first | omega | assumption | simp))⟩ [(3, 5)] (P := ((((ch : Nat) : Int) : Int) = ((ch : Nat) : Int)) ∧ (((dI .i64 l) : List D) = (dI .i64 l)) ∧ ((n : Nat) = n) ∧ ((0 : Nat) = 0) ∧ ((0 : Nat) = 0) ∧ ((0 : Nat) = 0) ∧ ((0 : Nat) = 0) ∧ ((((((i + 1) : Nat) : Int) * ((ch : Nat) : Int)) : Int) = ((((i : Nat) : Int) * ((ch : Nat) : Int)) + ((ch : Nat) : Int))) ∧ (([iD t, iD r, iD (runG t r ch g l (i + 1))] : List D) = [iD t, iD r, iD (gainV t r (runG t r ch g l i) ch (List.take ch (List.drop (i * ch) l)))]) ∧ (([iD 0, D.lit (.slice none 0 0)] : List D) = [iD 0, D.lit (.slice none 0 0)]) ∧ (([iD 0, iD 0, iD 0] : List D) = [iD 0, iD 0, iD 0]) ∧ (((dI .i32 (runO t r ch g l (i + 1))) : List D) = (dI .i32 ((runO t r ch g l i) ++ (outsV (gainV t r (runG t r ch g l i) ch (List.take ch (List.drop (i * ch) l))) ch (List.take ch (List.drop (i * ch) l)))))) ∧ ((0 : Nat) = 0) ∧ ((((i + 1) * ch) : Nat) = ((i * ch) + ch))) (by kernel_rfl) ⟨rfl, rfl, rfl, rfl, rfl, rfl, rfl, (by first | rfl | omega | assumption | (simp; done) | (simp; omega)), (by first | rfl | (rw [Nat.zero_mul]; rfl)), rfl, rfl, (by first | rfl | (rw [Nat.zero_mul]; rfl)), rfl, (by first | rfl | omega | assumption | (simp; done) | (simp; omega))⟩ (show f - (i + 1) < f - i from (by first | omega | (show _ < _; simp; omega)))
  · refine AW.rgs [.no, .no, .no, .b false] [1, 2, 3, 6, 7, 9, 10, 11, 30] [0, 1, 2, 3, 4] (P := (¬ ((((i : Nat) : Int) * ((ch : Nat) : Int)) < ((n : Nat) : Int)))) (l' := [(1, iV ↑ch), (2, .e (.c (.d (D.sl (dI .i64 l) n)))), (3, rV 0 0), (6, rV 1 0), (7, rV 2 0), (9, rV 4 0), (10, .e (.c (.fn 102 [(0, 0), (4, 0)]))), (11, iV (↑i * ↑ch)), (30, .e (.c (.d (D.lit (.bool false)))))]) (g' := [(0, some (46, .ds [iD t, iD r, iD (runG t r ch g l i)])), (1, some (26, .ds [iD 0, D.lit (.slice none 0 0)])), (2, some (46, .ds [iD 0, iD 0, iD 0])), (3, some (21, .ds (dI .i32 (runO t r ch g l i)))), (4, some (24, .cs [.own 3 0 (i * ch) 1 true]))]) (nx' := 5) (by kernel_rfl) (by omega) ?_
    refine AW.cond_f (.tmp (Look.of rfl)) ?_
    refine AW.exit ?_
    refine AW.rgs [.no, .no, .no, .no, .no, .no, .no] [6, 7, 8] [1, 2, 3] (P := True) (l' := [(6, rV 1 0), (7, rV 2 0), (8, iV 0)]) (g' := [(1, some (26, .cs [iC ↑ch, .own 3 0 (i * ch) 1 true])), (2, some (46, .ds [iD t, iD r, iD (runG t r ch g l i)])), (3, some (21, .ds (dI .i32 (runO t r ch g l i))))]) (nx' := 5) (by kernel_rfl) trivial ?_
    refine AW.ret ?_
    obtain rfl : f = i := by omega
    exact EndP.of (.inr rfl) [(0, 3)] (P := ((((ch : Nat) : Int) : Int) = ((ch : Nat) : Int)) ∧ ((0 : Nat) = 0) ∧ ((n : Nat) = (f * ch)) ∧ ((t : Int) = t) ∧ ((r : Int) = r) ∧ (((runG t r ch g l f) : Int) = (runG t r ch g l f)) ∧ ((0 : Int) = 0) ∧ (((dI .i32 (runO t r ch g l f)) : List D) = (dI .i32 (runO t r ch g l f)))) (by kernel_rfl) ⟨rfl, rfl, (by first | omega | rfl), rfl, rfl, rfl, rfl, rfl⟩

set_option maxHeartbeats 4000000 in
set_option maxRecDepth 100000 in
theorem G_mag_n (s : Int) (h : s < 0) (h2 : -1099511627776 ≤ s) : Fun 105 [iE s] (toG []) 0 (iV (0 - s)) (toG []) 0 := by
  refine Fun.mk (n := 8) Try.func105 rfl rfl (Nat.le_of_ble_eq_true rfl) ?_
  intro cx hcx
  refine AW.rgs [.no] [0] [] (P := True) (l' := [(0, iV s)]) (g' := []) (nx' := 0) (by kernel_rfl) trivial ?_
  refine AW.seq ?_
  refine AW.rgs [.no, .b true] [0, 4] [] (P := ((s < 0))) (l' := [(0, iV s), (4, .e (.c (.d (D.lit (.bool true)))))]) (g' := []) (nx' := 0) (by kernel_rfl) (by omega) ?_
  refine AW.cond_t (.tmp (Look.of rfl)) ?_
  refine AW.rgs [.no, .w, .no] [2] [] (P := ((-9223372036854775808) ≤ (0 - s) ∧ (0 - s) ≤ 9223372036854775807)) (l' := [(2, iV (0 - s))]) (g' := []) (nx' := 0) (by kernel_rfl) ⟨by omega, by omega⟩ ?_
  refine AW.ret ?_
  exact EndP.of (.inr rfl) [] (P := (((0 - s) : Int) = (0 - s))) (by kernel_rfl) rfl

set_option maxHeartbeats 4000000 in
set_option maxRecDepth 100000 in
theorem G_mag_p (s : Int) (h : 0 ≤ s) : Fun 105 [iE s] (toG []) 0 (iV s) (toG []) 0 := by
  refine Fun.mk (n := 8) Try.func105 rfl rfl (Nat.le_of_ble_eq_true rfl) ?_
  intro cx hcx
  refine AW.rgs [.no] [0] [] (P := True) (l' := [(0, iV s)]) (g' := []) (nx' := 0) (by kernel_rfl) trivial ?_
  refine AW.seq ?_
  refine AW.rgs [.no, .b false] [0, 4] [] (P := (¬ (s < 0))) (l' := [(0, iV s), (4, .e (.c (.d (D.lit (.bool false)))))]) (g' := []) (nx' := 0) (by kernel_rfl) (by omega) ?_
  refine AW.cond_f (.tmp (Look.of rfl)) ?_
  refine AW.skip ?_
  refine AW.rgs [.no, .no] [2] [] (P := True) (l' := [(2, iV s)]) (g' := []) (nx' := 0) (by kernel_rfl) trivial ?_
  refine AW.ret ?_
  exact EndP.of (.inr rfl) [] (P := ((s : Int) = s)) (by kernel_rfl) rfl

set_option maxHeartbeats 4000000 in
set_option maxRecDepth 100000 in
theorem G_rLRun (t r g : Int) (ch f : Nat) (l : List Int) (n : Nat) (hn : List.length l = n) (hv : FV ch f l) (hr : limOk t r g = true) : Fun 33 [.agg [iC t, iC r, iC g], iE ((ch : Nat) : Int), .c (.d (D.sl (dI .i64 l) n))] (toG []) 0 (.tup [.agg [iC ((ch : Nat) : Int), .own 0 0 n 1 true], .agg [iC t, iC r, iC (runG t r ch g l f)], iE 0]) (toG [(0, some (21, .ds (dI .i32 (runO t r ch g l f))))]) 1 := by
  have hok : fitB ((ch : Nat) : Int) l = true := hv.ok
  have hrr : 1 ≤ t ∧ t ≤ 8388607 ∧ 1 ≤ r ∧ r ≤ 65536 ∧ 0 ≤ g ∧ g ≤ 65536 := limOk_of hr
  have hc1 : 1 ≤ ch := hv.c1
  have hc8 : ch ≤ 8 := hv.c8
  have hlen : n = f * ch := hn.symm.trans hv.len
  have hbig : f * ch ≤ 524288 := hv.big
  have hq : (n : Int) / (ch : Int) = f := by rw [hlen]; exact hv.quo
  have hqm : (n : Int) % (ch : Int) = 0 := by rw [hlen, Int.natCast_mul]; exact Int.mul_emod_left _ _
  have hfit : f ≤ 65536 := hv.fit
  have hss : sumsB l := hv.sums
  refine Fun.mk (n := 128) Try.func33 rfl rfl (Nat.le_of_ble_eq_true rfl) ?_
  intro cx hcx
  refine AW.rgs [.no, .no, .no, .no] [1, 2, 3, 6, 7] [0, 1, 2] (P := True) (l' := [(1, iV ↑ch), (2, .e (.c (.d (D.sl (dI .i64 l) n)))), (3, rV 0 0), (6, rV 1 0), (7, rV 2 0)]) (g' := [(0, some (46, .ds [iD t, iD r, iD g])), (1, some (26, .ds [iD 0, D.lit (.slice none 0 0)])), (2, some (46, .ds [iD 0, iD 0, iD 0]))]) (nx' := 3) (by kernel_rfl) trivial ?_
  refine AW.seq ?_
  refine AW.rgs [.no, .call [] (.e (.c (.d (D.lit (.bool true))))) [] 0 [] none, .no] [1, 2, 3, 6, 7, 21] [0, 1, 2] (P := (Fun 37 [.agg [iC t, iC r, iC g]] (toG []) 0 (.e (.c (.d (D.lit (.bool true))))) (toG []) 0)) (l' := [(1, iV ↑ch), (2, .e (.c (.d (D.sl (dI .i64 l) n)))), (3, rV 0 0), (6, rV 1 0), (7, rV 2 0), (21, .e (.c (.d (D.lit (.bool false)))))]) (g' := [(0, some (46, .ds [iD t, iD r, iD g])), (1, some (26, .ds [iD 0, D.lit (.slice none 0 0)])), (2, some (46, .ds [iD 0, iD 0, iD 0]))]) (nx' := 3) (by kernel_rfl) (by have h0 := (G_rLValid t r g); rw [hr] at h0; exact h0) ?_
  refine AW.cond_f (.tmp (Look.of rfl)) ?_
  refine AW.skip ?_
  refine AW.seq ?_
  refine AW.rgs [.no, .b false, .no, .no, .b false, .no, .no, .no, .no, .no, .ps, .b false, .no, .no, .no, .no, .no, .ps, .b false, .no] [1, 2, 3, 6, 7, 43] [0, 1, 2] (P := (¬ (((ch : Nat) : Int) < 1)) ∧ (¬ ((8 : Int) < ((ch : Nat) : Int))) ∧ ((0 : Int) ≤ (((n : Nat) : Int) : Int)) ∧ ((0 : Int) < (((ch : Nat) : Int) : Int)) ∧ (¬ ((((n : Nat) : Int) % ((ch : Nat) : Int)) ≠ 0)) ∧ ((0 : Int) ≤ (((n : Nat) : Int) : Int)) ∧ ((0 : Int) < (((ch : Nat) : Int) : Int)) ∧ ((-9223372036854775808) ≤ ((n : Nat) : Int) ∧ ((n : Nat) : Int) ≤ 9223372036854775807) ∧ (¬ ((65536 : Int) < (((n : Nat) : Int) / ((ch : Nat) : Int))))) (l' := [(1, iV ↑ch), (2, .e (.c (.d (D.sl (dI .i64 l) n)))), (3, rV 0 0), (6, rV 1 0), (7, rV 2 0), (43, .e (.c (.d (D.lit (.bool false)))))]) (g' := [(0, some (46, .ds [iD t, iD r, iD g])), (1, some (26, .ds [iD 0, D.lit (.slice none 0 0)])), (2, some (46, .ds [iD 0, iD 0, iD 0]))]) (nx' := 3) (by kernel_rfl) ⟨(by omega), (by omega), (by omega), (by omega), (by omega), (by omega), (by omega), ⟨by omega, by omega⟩, (by omega)⟩ ?_
  refine AW.cond_f (.tmp (Look.of rfl)) ?_
  refine AW.skip ?_
  refine AW.seq ?_
  refine AW.rgs [.no, .no, .no] [1, 2, 3, 6, 7, 46, 47, 48] [0, 1, 2] (P := True) (l' := [(1, iV ↑ch), (2, .e (.c (.d (D.sl (dI .i64 l) n)))), (3, rV 0 0), (6, rV 1 0), (7, rV 2 0), (46, .e (.c (.d (D.sl (dI .i64 l) n)))), (47, iV ↑n), (48, iV 0)]) (g' := [(0, some (46, .ds [iD t, iD r, iD g])), (1, some (26, .ds [iD 0, D.lit (.slice none 0 0)])), (2, some (46, .ds [iD 0, iD 0, iD 0]))]) (nx' := 3) (by kernel_rfl) trivial ?_
  refine AW.block ?_
  refine AW.loopE 0 hcx (fun (x : {x : Nat // match x with | kv => (kv ≤ n)}) => match x with | ⟨kv, _⟩ => (⟨[(1, iV ((ch : Nat) : Int)), (2, .e (.c (.d (D.sl (dI .i64 l) n)))), (3, rV 0 0), (6, rV 1 0), (7, rV 2 0), (46, .e (.c (.d (D.sl (dI .i64 l) n)))), (47, iV ((n : Nat) : Int)), (48, iV ((kv : Nat) : Int))], [(0, some (46, .ds [iD t, iD r, iD g])), (1, some (26, .ds [iD 0, D.lit (.slice none 0 0)])), (2, some (46, .ds [iD 0, iD 0, iD 0]))], 3⟩ : ES)) (fun (x : {x : Nat // match x with | kv => (kv ≤ n)}) => match x with | ⟨kv, _⟩ => n - kv) ⟨(0 : Nat), (show ((0 : Nat) ≤ n) from (by first | omega | assumption | simp))⟩ [] (P := ((((ch : Nat) : Int) : Int) = ((ch : Nat) : Int)) ∧ (((dI .i64 l) : List D) = (dI .i64 l)) ∧ ((n : Nat) = n) ∧ ((0 : Nat) = 0) ∧ ((0 : Nat) = 0) ∧ ((0 : Nat) = 0) ∧ (((dI .i64 l) : List D) = (dI .i64 l)) ∧ ((n : Nat) = n) ∧ ((((n : Nat) : Int) : Int) = ((n : Nat) : Int)) ∧ ((0 : Int) = 0) ∧ (([iD t, iD r, iD g] : List D) = [iD t, iD r, iD g]) ∧ (([iD 0, D.lit (.slice none 0 0)] : List D) = [iD 0, D.lit (.slice none 0 0)]) ∧ (([iD 0, iD 0, iD 0] : List D) = [iD 0, iD 0, iD 0])) (by kernel_rfl) ⟨rfl, rfl, rfl, rfl, rfl, rfl, rfl, rfl, rfl, rfl, rfl, rfl, rfl⟩ ?_
  rintro ⟨kv, hinv0⟩
  have hkv : (kv ≤ n) := hinv0
  refine AW.es (l := [(1, iV ((ch : Nat) : Int)), (2, .e (.c (.d (D.sl (dI .i64 l) n)))), (3, rV 0 0), (6, rV 1 0), (7, rV 2 0), (46, .e (.c (.d (D.sl (dI .i64 l) n)))), (47, iV ((n : Nat) : Int)), (48, iV ((kv : Nat) : Int))]) (g := [(0, some (46, .ds [iD t, iD r, iD g])), (1, some (26, .ds [iD 0, D.lit (.slice none 0 0)])), (2, some (46, .ds [iD 0, iD 0, iD 0]))]) (nx := 3) rfl rfl rfl ?_
  by_cases hx1 : (((kv : Nat) : Int) < ((n : Nat) : Int))
  · refine AW.rgs [.b true] [1, 2, 3, 6, 7, 46, 47, 48, 49] [0, 1, 2] (P := ((((kv : Nat) : Int) < ((n : Nat) : Int)))) (l' := [(1, iV ↑ch), (2, .e (.c (.d (D.sl (dI .i64 l) n)))), (3, rV 0 0), (6, rV 1 0), (7, rV 2 0), (46, .e (.c (.d (D.sl (dI .i64 l) n)))), (47, iV ↑n), (48, iV ↑kv), (49, .e (.c (.d (D.lit (.bool true)))))]) (g' := [(0, some (46, .ds [iD t, iD r, iD g])), (1, some (26, .ds [iD 0, D.lit (.slice none 0 0)])), (2, some (46, .ds [iD 0, iD 0, iD 0]))]) (nx' := 3) (by kernel_rfl) (by omega) ?_
    refine AW.seq ?_
    refine AW.cond_t (.tmp (Look.of rfl)) ?_
    refine AW.skip ?_
    refine AW.seq ?_
    refine AW.block ?_
    have hx2 : -1099511627776 ≤ (List.getD l kv 0) ∧ (List.getD l kv 0) ≤ 1099511627776 := hss.at kv (by omega)
    refine AW.rgs [.n kv, .d (D.lit (.int .i64 (List.getD l kv 0))), .no] [1, 2, 3, 6, 7, 10, 46, 47, 48] [0, 1, 2] (P := ((((kv : Nat) : Int) : Int) = ((kv : Nat) : Int)) ∧ (kv < n) ∧ ((List.drop kv (dI .i64 l))[0]? = some (D.lit (.int .i64 (List.getD l kv 0))))) (l' := [(1, iV ↑ch), (2, .e (.c (.d (D.sl (dI .i64 l) n)))), (3, rV 0 0), (6, rV 1 0), (7, rV 2 0), (10, iV (List.getD l kv 0)), (46, .e (.c (.d (D.sl (dI .i64 l) n)))), (47, iV ↑n), (48, iV ↑kv)]) (g' := [(0, some (46, .ds [iD t, iD r, iD g])), (1, some (26, .ds [iD 0, D.lit (.slice none 0 0)])), (2, some (46, .ds [iD 0, iD 0, iD 0]))]) (nx' := 3) (by kernel_rfl) ⟨rfl, (by omega), (dI_at _ _ _ (by first | omega | (rw [dI_len]; omega) | (simp [dI_len] <;> omega) | rfl))⟩ ?_
    refine AW.rgs [.no, .b false, .no, .no, .b false, .no] [1, 2, 3, 6, 7, 46, 47, 48, 57] [0, 1, 2] (P := (¬ ((1099511627776 : Int) < (List.getD l kv 0))) ∧ (¬ ((List.getD l kv 0) < (-1099511627776)))) (l' := [(1, iV ↑ch), (2, .e (.c (.d (D.sl (dI .i64 l) n)))), (3, rV 0 0), (6, rV 1 0), (7, rV 2 0), (46, .e (.c (.d (D.sl (dI .i64 l) n)))), (47, iV ↑n), (48, iV ↑kv), (57, .e (.c (.d (D.lit (.bool false)))))]) (g' := [(0, some (46, .ds [iD t, iD r, iD g])), (1, some (26, .ds [iD 0, D.lit (.slice none 0 0)])), (2, some (46, .ds [iD 0, iD 0, iD 0]))]) (nx' := 3) (by kernel_rfl) ⟨(by omega), (by omega)⟩ ?_
    refine AW.cond_f (.tmp (Look.of rfl)) ?_
    refine AW.skip ?_
    refine AW.rg [.w, .no] [1, 2, 3, 6, 7, 46, 47, 48] [0, 1, 2] (P := ((-9223372036854775808) ≤ (((kv : Nat) : Int) + 1) ∧ (((kv : Nat) : Int) + 1) ≤ 9223372036854775807)) (l' := [(1, iV ↑ch), (2, .e (.c (.d (D.sl (dI .i64 l) n)))), (3, rV 0 0), (6, rV 1 0), (7, rV 2 0), (46, .e (.c (.d (D.sl (dI .i64 l) n)))), (47, iV ↑n), (48, iV (↑kv + 1))]) (g' := [(0, some (46, .ds [iD t, iD r, iD g])), (1, some (26, .ds [iD 0, D.lit (.slice none 0 0)])), (2, some (46, .ds [iD 0, iD 0, iD 0]))]) (nx' := 3) (by kernel_rfl) ⟨by omega, by omega⟩ ?_
    exact Rd.of ⟨((kv + 1) : Nat), (show ((kv + 1) ≤ n) from (by first | omega | assumption | simp))⟩ [] (P := ((((ch : Nat) : Int) : Int) = ((ch : Nat) : Int)) ∧ (((dI .i64 l) : List D) = (dI .i64 l)) ∧ ((n : Nat) = n) ∧ ((0 : Nat) = 0) ∧ ((0 : Nat) = 0) ∧ ((0 : Nat) = 0) ∧ (((dI .i64 l) : List D) = (dI .i64 l)) ∧ ((n : Nat) = n) ∧ ((((n : Nat) : Int) : Int) = ((n : Nat) : Int)) ∧ (((((kv + 1) : Nat) : Int) : Int) = (((kv : Nat) : Int) + 1)) ∧ (([iD t, iD r, iD g] : List D) = [iD t, iD r, iD g]) ∧ (([iD 0, D.lit (.slice none 0 0)] : List D) = [iD 0, D.lit (.slice none 0 0)]) ∧ (([iD 0, iD 0, iD 0] : List D) = [iD 0, iD 0, iD 0])) (by kernel_rfl) ⟨rfl, rfl, rfl, rfl, rfl, rfl, rfl, rfl, rfl, (by first | rfl | omega | assumption | (simp; done) | (simp; omega)), rfl, rfl, rfl⟩ (show n - (kv + 1) < n - kv from (by first | omega | (show _ < _; simp; omega)))
  · refine AW.rgs [.b false] [1, 2, 3, 6, 7, 46, 47, 48, 49] [0, 1, 2] (P := (¬ (((kv : Nat) : Int) < ((n : Nat) : Int)))) (l' := [(1, iV ↑ch), (2, .e (.c (.d (D.sl (dI .i64 l) n)))), (3, rV 0 0), (6, rV 1 0), (7, rV 2 0), (46, .e (.c (.d (D.sl (dI .i64 l) n)))), (47, iV ↑n), (48, iV ↑kv), (49, .e (.c (.d (D.lit (.bool false)))))]) (g' := [(0, some (46, .ds [iD t, iD r, iD g])), (1, some (26, .ds [iD 0, D.lit (.slice none 0 0)])), (2, some (46, .ds [iD 0, iD 0, iD 0]))]) (nx' := 3) (by kernel_rfl) (by omega) ?_
    refine AW.seq ?_
    refine AW.cond_f (.tmp (Look.of rfl)) ?_
    refine AW.exit ?_
    refine AW.rgs [.no, .no, .no, .no] [1, 2, 3, 6, 7, 11] [0, 1, 2, 3] (P := True) (l' := [(1, iV ↑ch), (2, .e (.c (.d (D.sl (dI .i64 l) n)))), (3, rV 0 0), (6, rV 1 0), (7, rV 2 0), (11, rV 3 0)]) (g' := [(0, some (46, .ds [iD t, iD r, iD g])), (1, some (26, .ds [iD 0, D.lit (.slice none 0 0)])), (2, some (46, .ds [iD 0, iD 0, iD 0])), (3, some (26, .ds [iD ↑ch, D.lit (.slice none 0 0)]))]) (nx' := 4) (by kernel_rfl) trivial ?_
    refine AW.seq ?_
    refine AW.rgs [.no] [1, 2, 3, 6, 7, 11, 12] [0, 1, 2, 3] (P := True) (l' := [(1, iV ↑ch), (2, .e (.c (.d (D.sl (dI .i64 l) n)))), (3, rV 0 0), (6, rV 1 0), (7, rV 2 0), (11, rV 3 0), (12, iV 0)]) (g' := [(0, some (46, .ds [iD t, iD r, iD g])), (1, some (26, .ds [iD 0, D.lit (.slice none 0 0)])), (2, some (46, .ds [iD 0, iD 0, iD 0])), (3, some (26, .ds [iD ↑ch, D.lit (.slice none 0 0)]))]) (nx' := 4) (by kernel_rfl) trivial ?_
    refine AW.block ?_
    refine AW.adoptC 3 1 1 21 (cs' := [iC ((ch : Nat) : Int), .own 4 0 0 1 true]) rfl rfl rfl ?_
    refine AW.loopE 0 hcx (fun (x : {x : Nat // match x with | i => (i ≤ f)}) => match x with | ⟨i, _⟩ => (⟨[(1, iV ((ch : Nat) : Int)), (2, .e (.c (.d (D.sl (dI .i64 l) n)))), (3, rV 0 0), (6, rV 1 0), (7, rV 2 0), (11, rV 3 0), (12, iV (((i : Nat) : Int) * ((ch : Nat) : Int)))], [(0, some (46, .ds [iD t, iD r, iD (runG t r ch g l i)])), (1, some (26, .ds [iD 0, D.lit (.slice none 0 0)])), (2, some (46, .ds [iD 0, iD 0, iD 0])), (3, some (26, .cs [iC ((ch : Nat) : Int), .own 4 0 (i * ch) 1 true])), (4, some (21, .ds (dI .i32 (runO t r ch g l i))))], 5⟩ : ES)) (fun (x : {x : Nat // match x with | i => (i ≤ f)}) => match x with | ⟨i, _⟩ => f - i) ⟨(0 : Nat), (show ((0 : Nat) ≤ f) from (by first | omega | assumption | simp))⟩ [] (P := ((((ch : Nat) : Int) : Int) = ((ch : Nat) : Int)) ∧ (((dI .i64 l) : List D) = (dI .i64 l)) ∧ ((n : Nat) = n) ∧ ((0 : Nat) = 0) ∧ ((0 : Nat) = 0) ∧ ((0 : Nat) = 0) ∧ ((0 : Nat) = 0) ∧ (((0 * ((ch : Nat) : Int)) : Int) = 0) ∧ (([iD t, iD r, iD (runG t r ch g l 0)] : List D) = [iD t, iD r, iD g]) ∧ (([iD 0, D.lit (.slice none 0 0)] : List D) = [iD 0, D.lit (.slice none 0 0)]) ∧ (([iD 0, iD 0, iD 0] : List D) = [iD 0, iD 0, iD 0]) ∧ ((((ch : Nat) : Int) : Int) = ((ch : Nat) : Int)) ∧ ((0 : Nat) = 0) ∧ (((0 * ch) : Nat) = 0) ∧ (((dI .i32 (runO t r ch g l 0)) : List D) = [])) (by kernel_rfl) ⟨rfl, rfl, rfl, rfl, rfl, rfl, rfl, (by first | rfl | omega | assumption | (simp; done) | (simp; omega)), (by first | rfl | (rw [Nat.zero_mul]; rfl) | (simp [runO]; done)), rfl, rfl, rfl, rfl, (by first | rfl | omega | assumption | (simp; done) | (simp; omega)), (by first | rfl | (rw [Nat.zero_mul]; rfl) | (simp [runO]; done))⟩ ?_
    rintro ⟨i, hinv1⟩
    have hi : (i ≤ f) := hinv1
    refine AW.es (l := [(1, iV ((ch : Nat) : Int)), (2, .e (.c (.d (D.sl (dI .i64 l) n)))), (3, rV 0 0), (6, rV 1 0), (7, rV 2 0), (11, rV 3 0), (12, iV (((i : Nat) : Int) * ((ch : Nat) : Int)))]) (g := [(0, some (46, .ds [iD t, iD r, iD (runG t r ch g l i)])), (1, some (26, .ds [iD 0, D.lit (.slice none 0 0)])), (2, some (46, .ds [iD 0, iD 0, iD 0])), (3, some (26, .cs [iC ((ch : Nat) : Int), .own 4 0 (i * ch) 1 true])), (4, some (21, .ds (dI .i32 (runO t r ch g l i))))]) (nx := 5) rfl rfl rfl ?_
    have hcase : (i < f ∧ i * ch + ch ≤ n) ∨ (i = f ∧ i * ch = n) := (Nat.lt_or_ge i f).elim (fun h9 => .inl ⟨h9, by have := Nat.mul_le_mul_right ch (show i + 1 ≤ f from h9); rw [Nat.succ_mul] at this; omega⟩) (fun h9 => .inr ((fun h8 : i = f => ⟨h8, by rw [h8]; exact hlen.symm⟩) (by omega)))
    have hsm : (i + 1) * ch = i * ch + ch := Nat.succ_mul i ch
    have hsi : ((i : Int) + 1) * (ch : Int) = (i : Int) * (ch : Int) + (ch : Int) := by rw [Int.add_mul, Int.one_mul]
    have hol : List.length (runO t r ch g l i) = i * ch := runO_len t r ch g l i
    have hgi : 0 ≤ runG t r ch g l i ∧ runG t r ch g l i ≤ 65536 := runG_in (by omega) (by omega) i
    have hsf : sumsB (List.take ch (List.drop (i * ch) l)) := hss.part _ _
    have hpkn : 0 ≤ peakV ch (List.take ch (List.drop (i * ch) l)) ∧ peakV ch (List.take ch (List.drop (i * ch) l)) ≤ 1099511627776 ∨ ¬ i < f := (Nat.lt_or_ge i f).elim (fun h9 => .inl (peakV_in hsf ch (by rw [List.length_take, List.length_drop]; omega))) (fun h9 => .inr (by omega))
    have hgd : min (neededV t (peakV ch (List.take ch (List.drop (i * ch) l)))) (runG t r ch g l i + r) = gainV t r (runG t r ch g l i) ch (List.take ch (List.drop (i * ch) l)) := rfl
    refine AW.seq ?_
    by_cases hx3 : ((((i : Nat) : Int) * ((ch : Nat) : Int)) < ((n : Nat) : Int))
    · refine AW.rgs [.no, .no, .no, .b true] [1, 2, 3, 6, 7, 11, 12, 66] [0, 1, 2, 3, 4] (P := (((((i : Nat) : Int) * ((ch : Nat) : Int)) < ((n : Nat) : Int)))) (l' := [(1, iV ↑ch), (2, .e (.c (.d (D.sl (dI .i64 l) n)))), (3, rV 0 0), (6, rV 1 0), (7, rV 2 0), (11, rV 3 0), (12, iV (↑i * ↑ch)), (66, .e (.c (.d (D.lit (.bool true)))))]) (g' := [(0, some (46, .ds [iD t, iD r, iD (runG t r ch g l i)])), (1, some (26, .ds [iD 0, D.lit (.slice none 0 0)])), (2, some (46, .ds [iD 0, iD 0, iD 0])), (3, some (26, .cs [iC ↑ch, .own 4 0 (i * ch) 1 true])), (4, some (21, .ds (dI .i32 (runO t r ch g l i))))]) (nx' := 5) (by kernel_rfl) (by omega) ?_
      refine AW.cond_t (.tmp (Look.of rfl)) ?_
      refine AW.skip ?_
      refine AW.seq ?_
      refine AW.block ?_
      refine AW.rgs [.no] [1, 2, 3, 6, 7, 11, 12, 13] [0, 1, 2, 3, 4] (P := True) (l' := [(1, iV ↑ch), (2, .e (.c (.d (D.sl (dI .i64 l) n)))), (3, rV 0 0), (6, rV 1 0), (7, rV 2 0), (11, rV 3 0), (12, iV (↑i * ↑ch)), (13, iV 0)]) (g' := [(0, some (46, .ds [iD t, iD r, iD (runG t r ch g l i)])), (1, some (26, .ds [iD 0, D.lit (.slice none 0 0)])), (2, some (46, .ds [iD 0, iD 0, iD 0])), (3, some (26, .cs [iC ↑ch, .own 4 0 (i * ch) 1 true])), (4, some (21, .ds (dI .i32 (runO t r ch g l i))))]) (nx' := 5) (by kernel_rfl) trivial ?_
      refine AW.seq ?_
      refine AW.rgs [.no, .no, .no, .no, .w, .sls (i * ch) ((i * ch) + ch) ch (dI .i64 (List.take ch (List.drop (i * ch) l))), .no, .no] [1, 2, 3, 6, 7, 11, 12, 13, 75, 76, 77] [0, 1, 2, 3, 4] (P := ((-9223372036854775808) ≤ ((((i : Nat) : Int) * ((ch : Nat) : Int)) + ((ch : Nat) : Int)) ∧ ((((i : Nat) : Int) * ((ch : Nat) : Int)) + ((ch : Nat) : Int)) ≤ 9223372036854775807) ∧ (((((i : Nat) : Int) * ((ch : Nat) : Int)) : Int) = (((i * ch) : Nat) : Int)) ∧ ((((((i : Nat) : Int) * ((ch : Nat) : Int)) + ((ch : Nat) : Int)) : Int) = ((((i * ch) + ch) : Nat) : Int)) ∧ ((i * ch) ≤ ((i * ch) + ch)) ∧ (((i * ch) + ch) ≤ n) ∧ (((i * ch) + ch) - (i * ch) = ch) ∧ (List.take (ch * 1) (List.drop ((i * ch) * 1) (dI .i64 l)) = (dI .i64 (List.take ch (List.drop (i * ch) l))))) (l' := [(1, iV ↑ch), (2, .e (.c (.d (D.sl (dI .i64 l) n)))), (3, rV 0 0), (6, rV 1 0), (7, rV 2 0), (11, rV 3 0), (12, iV (↑i * ↑ch)), (13, iV 0), (75, .e (.c (.d (D.sl (dI .i64 (List.take ch (List.drop (i * ch) l))) ch)))), (76, iV ↑ch), (77, iV 0)]) (g' := [(0, some (46, .ds [iD t, iD r, iD (runG t r ch g l i)])), (1, some (26, .ds [iD 0, D.lit (.slice none 0 0)])), (2, some (46, .ds [iD 0, iD 0, iD 0])), (3, some (26, .cs [iC ↑ch, .own 4 0 (i * ch) 1 true])), (4, some (21, .ds (dI .i32 (runO t r ch g l i))))]) (nx' := 5) (by kernel_rfl) ⟨⟨by omega, by omega⟩, (by first | rfl | omega), (by first | rfl | omega), (by omega), (by omega), (by omega), (by first | rfl | with_reducible assumption | exact dI_app _ _ _ | exact dI_rep _ _ _ | (simp only [dI_take, dI_drop, dI_app, Nat.mul_one, Nat.zero_mul, List.drop_zero, List.nil_append, List.append_nil]; done) | (simp only [dI_take, dI_drop, dI_app, Nat.mul_one, Nat.zero_mul, List.drop_zero, List.nil_append, List.append_nil]; rfl) | (rw [List.take_of_length_le (by simp only [dI_len, List.length_drop, Nat.mul_one]; omega)]; first | rfl | (simp only [dI_drop, Nat.mul_one, Nat.zero_mul, List.drop_zero]; done) | (simp only [dI_drop, Nat.mul_one, Nat.zero_mul, List.drop_zero]; rfl)))⟩ ?_
      refine AW.block ?_
      refine AW.loopE 0 hcx (fun (x : {x : Nat // match x with | kp => (kp ≤ ch)}) => match x with | ⟨kp, _⟩ => (⟨[(1, iV ((ch : Nat) : Int)), (2, .e (.c (.d (D.sl (dI .i64 l) n)))), (3, rV 0 0), (6, rV 1 0), (7, rV 2 0), (11, rV 3 0), (12, iV (((i : Nat) : Int) * ((ch : Nat) : Int))), (13, iV (peakV kp (List.take ch (List.drop (i * ch) l)))), (75, .e (.c (.d (D.sl (dI .i64 (List.take ch (List.drop (i * ch) l))) ch)))), (76, iV ((ch : Nat) : Int)), (77, iV ((kp : Nat) : Int))], [(0, some (46, .ds [iD t, iD r, iD (runG t r ch g l i)])), (1, some (26, .ds [iD 0, D.lit (.slice none 0 0)])), (2, some (46, .ds [iD 0, iD 0, iD 0])), (3, some (26, .cs [iC ((ch : Nat) : Int), .own 4 0 (i * ch) 1 true])), (4, some (21, .ds (dI .i32 (runO t r ch g l i))))], 5⟩ : ES)) (fun (x : {x : Nat // match x with | kp => (kp ≤ ch)}) => match x with | ⟨kp, _⟩ => ch - kp) ⟨(0 : Nat), (show ((0 : Nat) ≤ ch) from (by first | omega | assumption | simp))⟩ [] (P := ((((ch : Nat) : Int) : Int) = ((ch : Nat) : Int)) ∧ (((dI .i64 l) : List D) = (dI .i64 l)) ∧ ((n : Nat) = n) ∧ ((0 : Nat) = 0) ∧ ((0 : Nat) = 0) ∧ ((0 : Nat) = 0) ∧ ((0 : Nat) = 0) ∧ (((((i : Nat) : Int) * ((ch : Nat) : Int)) : Int) = (((i : Nat) : Int) * ((ch : Nat) : Int))) ∧ (((peakV 0 (List.take ch (List.drop (i * ch) l))) : Int) = 0) ∧ (((dI .i64 (List.take ch (List.drop (i * ch) l))) : List D) = (dI .i64 (List.take ch (List.drop (i * ch) l)))) ∧ ((ch : Nat) = ch) ∧ ((((ch : Nat) : Int) : Int) = ((ch : Nat) : Int)) ∧ ((0 : Int) = 0) ∧ (([iD t, iD r, iD (runG t r ch g l i)] : List D) = [iD t, iD r, iD (runG t r ch g l i)]) ∧ (([iD 0, D.lit (.slice none 0 0)] : List D) = [iD 0, D.lit (.slice none 0 0)]) ∧ (([iD 0, iD 0, iD 0] : List D) = [iD 0, iD 0, iD 0]) ∧ ((((ch : Nat) : Int) : Int) = ((ch : Nat) : Int)) ∧ ((0 : Nat) = 0) ∧ (((i * ch) : Nat) = (i * ch)) ∧ (((dI .i32 (runO t r ch g l i)) : List D) = (dI .i32 (runO t r ch g l i)))) (by kernel_rfl) ⟨rfl, rfl, rfl, rfl, rfl, rfl, rfl, rfl, (by first | rfl | omega | assumption | (simp; done) | (simp; omega)), rfl, rfl, rfl, rfl, rfl, rfl, rfl, rfl, rfl, rfl, rfl⟩ ?_
      rintro ⟨kp, hinv2⟩
      have hkp : (kp ≤ ch) := hinv2
      refine AW.es (l := [(1, iV ((ch : Nat) : Int)), (2, .e (.c (.d (D.sl (dI .i64 l) n)))), (3, rV 0 0), (6, rV 1 0), (7, rV 2 0), (11, rV 3 0), (12, iV (((i : Nat) : Int) * ((ch : Nat) : Int))), (13, iV (peakV kp (List.take ch (List.drop (i * ch) l)))), (75, .e (.c (.d (D.sl (dI .i64 (List.take ch (List.drop (i * ch) l))) ch)))), (76, iV ((ch : Nat) : Int)), (77, iV ((kp : Nat) : Int))]) (g := [(0, some (46, .ds [iD t, iD r, iD (runG t r ch g l i)])), (1, some (26, .ds [iD 0, D.lit (.slice none 0 0)])), (2, some (46, .ds [iD 0, iD 0, iD 0])), (3, some (26, .cs [iC ((ch : Nat) : Int), .own 4 0 (i * ch) 1 true])), (4, some (21, .ds (dI .i32 (runO t r ch g l i))))]) (nx := 5) rfl rfl rfl ?_
      have hpk : 0 ≤ peakV kp (List.take ch (List.drop (i * ch) l)) ∧ peakV kp (List.take ch (List.drop (i * ch) l)) ≤ 1099511627776 := peakV_in hsf kp (by rw [List.length_take, List.length_drop]; omega)
      have hpk1 : (¬ (List.getD (List.take ch (List.drop (i * ch) l)) kp 0) < 0 ∨ peakV (kp + 1) (List.take ch (List.drop (i * ch) l)) = max (peakV kp (List.take ch (List.drop (i * ch) l))) (0 - (List.getD (List.take ch (List.drop (i * ch) l)) kp 0))) ∧ ((List.getD (List.take ch (List.drop (i * ch) l)) kp 0) < 0 ∨ peakV (kp + 1) (List.take ch (List.drop (i * ch) l)) = max (peakV kp (List.take ch (List.drop (i * ch) l))) (List.getD (List.take ch (List.drop (i * ch) l)) kp 0)) := peakV_2 kp _
      by_cases hx4 : (((kp : Nat) : Int) < ((ch : Nat) : Int))
      · refine AW.rgs [.b true] [1, 2, 3, 6, 7, 11, 12, 13, 75, 76, 77, 78] [0, 1, 2, 3, 4] (P := ((((kp : Nat) : Int) < ((ch : Nat) : Int)))) (l' := [(1, iV ↑ch), (2, .e (.c (.d (D.sl (dI .i64 l) n)))), (3, rV 0 0), (6, rV 1 0), (7, rV 2 0), (11, rV 3 0), (12, iV (↑i * ↑ch)), (13, iV (peakV kp (List.take ch (List.drop (i * ch) l)))), (75, .e (.c (.d (D.sl (dI .i64 (List.take ch (List.drop (i * ch) l))) ch)))), (76, iV ↑ch), (77, iV ↑kp), (78, .e (.c (.d (D.lit (.bool true)))))]) (g' := [(0, some (46, .ds [iD t, iD r, iD (runG t r ch g l i)])), (1, some (26, .ds [iD 0, D.lit (.slice none 0 0)])), (2, some (46, .ds [iD 0, iD 0, iD 0])), (3, some (26, .cs [iC ↑ch, .own 4 0 (i * ch) 1 true])), (4, some (21, .ds (dI .i32 (runO t r ch g l i))))]) (nx' := 5) (by kernel_rfl) (by omega) ?_
        refine AW.seq ?_
        refine AW.cond_t (.tmp (Look.of rfl)) ?_
        refine AW.skip ?_
        refine AW.seq ?_
        refine AW.block ?_
        have hx5 : -1099511627776 ≤ (List.getD (List.take ch (List.drop (i * ch) l)) kp 0) ∧ (List.getD (List.take ch (List.drop (i * ch) l)) kp 0) ≤ 1099511627776 := hsf.at kp (by rw [List.length_take, List.length_drop]; omega)
        refine AW.rgs [.n kp, .d (D.lit (.int .i64 (List.getD (List.take ch (List.drop (i * ch) l)) kp 0))), .no] [1, 2, 3, 6, 7, 11, 12, 13, 15, 75, 76, 77] [0, 1, 2, 3, 4] (P := ((((kp : Nat) : Int) : Int) = ((kp : Nat) : Int)) ∧ (kp < ch) ∧ ((List.drop kp (dI .i64 (List.take ch (List.drop (i * ch) l))))[0]? = some (D.lit (.int .i64 (List.getD (List.take ch (List.drop (i * ch) l)) kp 0))))) (l' := [(1, iV ↑ch), (2, .e (.c (.d (D.sl (dI .i64 l) n)))), (3, rV 0 0), (6, rV 1 0), (7, rV 2 0), (11, rV 3 0), (12, iV (↑i * ↑ch)), (13, iV (peakV kp (List.take ch (List.drop (i * ch) l)))), (15, iV (List.getD (List.take ch (List.drop (i * ch) l)) kp 0)), (75, .e (.c (.d (D.sl (dI .i64 (List.take ch (List.drop (i * ch) l))) ch)))), (76, iV ↑ch), (77, iV ↑kp)]) (g' := [(0, some (46, .ds [iD t, iD r, iD (runG t r ch g l i)])), (1, some (26, .ds [iD 0, D.lit (.slice none 0 0)])), (2, some (46, .ds [iD 0, iD 0, iD 0])), (3, some (26, .cs [iC ↑ch, .own 4 0 (i * ch) 1 true])), (4, some (21, .ds (dI .i32 (runO t r ch g l i))))]) (nx' := 5) (by kernel_rfl) ⟨rfl, (by omega), (dI_at _ _ _ (by first | omega | (rw [dI_len]; omega) | (simp [dI_len] <;> omega) | rfl))⟩ ?_
        by_cases hx6 : ((List.getD (List.take ch (List.drop (i * ch) l)) kp 0) < 0)
        · refine AW.rg [.no, .no, .call [] (iV (0 - (List.getD (List.take ch (List.drop (i * ch) l)) kp 0))) [] 0 [] none, .i (peakV (kp + 1) (List.take ch (List.drop (i * ch) l))), .no] [1, 2, 3, 6, 7, 11, 12, 13, 75, 76, 77] [0, 1, 2, 3, 4] (P := (_) ∧ (((max (peakV kp (List.take ch (List.drop (i * ch) l))) (0 - (List.getD (List.take ch (List.drop (i * ch) l)) kp 0))) : Int) = (peakV (kp + 1) (List.take ch (List.drop (i * ch) l))))) (l' := [(1, iV ↑ch), (2, .e (.c (.d (D.sl (dI .i64 l) n)))), (3, rV 0 0), (6, rV 1 0), (7, rV 2 0), (11, rV 3 0), (12, iV (↑i * ↑ch)), (13, iV (peakV (kp + 1) (List.take ch (List.drop (i * ch) l)))), (75, .e (.c (.d (D.sl (dI .i64 (List.take ch (List.drop (i * ch) l))) ch)))), (76, iV ↑ch), (77, iV ↑kp)]) (g' := [(0, some (46, .ds [iD t, iD r, iD (runG t r ch g l i)])), (1, some (26, .ds [iD 0, D.lit (.slice none 0 0)])), (2, some (46, .ds [iD 0, iD 0, iD 0])), (3, some (26, .cs [iC ↑ch, .own 4 0 (i * ch) 1 true])), (4, some (21, .ds (dI .i32 (runO t r ch g l i))))]) (nx' := 5) (by kernel_rfl) ⟨(G_mag_n (List.getD (List.take ch (List.drop (i * ch) l)) kp 0) (by first | omega | with_reducible assumption | (simp <;> omega) | rfl | assumption) (by first | omega | with_reducible assumption | (simp <;> omega) | rfl | assumption)), (by omega)⟩ ?_
          refine AW.rg [.w, .no] [1, 2, 3, 6, 7, 11, 12, 13, 75, 76, 77] [0, 1, 2, 3, 4] (P := ((-9223372036854775808) ≤ (((kp : Nat) : Int) + 1) ∧ (((kp : Nat) : Int) + 1) ≤ 9223372036854775807)) (l' := [(1, iV ↑ch), (2, .e (.c (.d (D.sl (dI .i64 l) n)))), (3, rV 0 0), (6, rV 1 0), (7, rV 2 0), (11, rV 3 0), (12, iV (↑i * ↑ch)), (13, iV (peakV (kp + 1) (List.take ch (List.drop (i * ch) l)))), (75, .e (.c (.d (D.sl (dI .i64 (List.take ch (List.drop (i * ch) l))) ch)))), (76, iV ↑ch), (77, iV (↑kp + 1))]) (g' := [(0, some (46, .ds [iD t, iD r, iD (runG t r ch g l i)])), (1, some (26, .ds [iD 0, D.lit (.slice none 0 0)])), (2, some (46, .ds [iD 0, iD 0, iD 0])), (3, some (26, .cs [iC ↑ch, .own 4 0 (i * ch) 1 true])), (4, some (21, .ds (dI .i32 (runO t r ch g l i))))]) (nx' := 5) (by kernel_rfl) ⟨by omega, by omega⟩ ?_
          exact Rd.of ⟨((kp + 1) : Nat), (show ((kp + 1) ≤ ch) from (by first | omega | assumption | simp))⟩ [] (P := ((((ch : Nat) : Int) : Int) = ((ch : Nat) : Int)) ∧ (((dI .i64 l) : List D) = (dI .i64 l)) ∧ ((n : Nat) = n) ∧ ((0 : Nat) = 0) ∧ ((0 : Nat) = 0) ∧ ((0 : Nat) = 0) ∧ ((0 : Nat) = 0) ∧ (((((i : Nat) : Int) * ((ch : Nat) : Int)) : Int) = (((i : Nat) : Int) * ((ch : Nat) : Int))) ∧ (((peakV (kp + 1) (List.take ch (List.drop (i * ch) l))) : Int) = (peakV (kp + 1) (List.take ch (List.drop (i * ch) l)))) ∧ (((dI .i64 (List.take ch (List.drop (i * ch) l))) : List D) = (dI .i64 (List.take ch (List.drop (i * ch) l)))) ∧ ((ch : Nat) = ch) ∧ ((((ch : Nat) : Int) : Int) = ((ch : Nat) : Int)) ∧ (((((kp + 1) : Nat) : Int) : Int) = (((kp : Nat) : Int) + 1)) ∧ (([iD t, iD r, iD (runG t r ch g l i)] : List D) = [iD t, iD r, iD (runG t r ch g l i)]) ∧ (([iD 0, D.lit (.slice none 0 0)] : List D) = [iD 0, D.lit (.slice none 0 0)]) ∧ (([iD 0, iD 0, iD 0] : List D) = [iD 0, iD 0, iD 0]) ∧ ((((ch : Nat) : Int) : Int) = ((ch : Nat) : Int)) ∧ ((0 : Nat) = 0) ∧ (((i * ch) : Nat) = (i * ch)) ∧ (((dI .i32 (runO t r ch g l i)) : List D) = (dI .i32 (runO t r ch g l i)))) (by kernel_rfl) ⟨rfl, rfl, rfl, rfl, rfl, rfl, rfl, rfl, rfl, rfl, rfl, rfl, (by first | rfl | omega | assumption | (simp; done) | (simp; omega)), rfl, rfl, rfl, rfl, rfl, rfl, rfl⟩ (show ch - (kp + 1) < ch - kp from (by first | omega | (show _ < _; simp; omega)))
        · refine AW.rg [.no, .no, .call [] (iV (List.getD (List.take ch (List.drop (i * ch) l)) kp 0)) [] 0 [] none, .i (peakV (kp + 1) (List.take ch (List.drop (i * ch) l))), .no] [1, 2, 3, 6, 7, 11, 12, 13, 75, 76, 77] [0, 1, 2, 3, 4] (P := (_) ∧ (((max (peakV kp (List.take ch (List.drop (i * ch) l))) (List.getD (List.take ch (List.drop (i * ch) l)) kp 0)) : Int) = (peakV (kp + 1) (List.take ch (List.drop (i * ch) l))))) (l' := [(1, iV ↑ch), (2, .e (.c (.d (D.sl (dI .i64 l) n)))), (3, rV 0 0), (6, rV 1 0), (7, rV 2 0), (11, rV 3 0), (12, iV (↑i * ↑ch)), (13, iV (peakV (kp + 1) (List.take ch (List.drop (i * ch) l)))), (75, .e (.c (.d (D.sl (dI .i64 (List.take ch (List.drop (i * ch) l))) ch)))), (76, iV ↑ch), (77, iV ↑kp)]) (g' := [(0, some (46, .ds [iD t, iD r, iD (runG t r ch g l i)])), (1, some (26, .ds [iD 0, D.lit (.slice none 0 0)])), (2, some (46, .ds [iD 0, iD 0, iD 0])), (3, some (26, .cs [iC ↑ch, .own 4 0 (i * ch) 1 true])), (4, some (21, .ds (dI .i32 (runO t r ch g l i))))]) (nx' := 5) (by kernel_rfl) ⟨(G_mag_p (List.getD (List.take ch (List.drop (i * ch) l)) kp 0) (by first | omega | with_reducible assumption | (simp <;> omega) | rfl | assumption)), (by omega)⟩ ?_
          refine AW.rg [.w, .no] [1, 2, 3, 6, 7, 11, 12, 13, 75, 76, 77] [0, 1, 2, 3, 4] (P := ((-9223372036854775808) ≤ (((kp : Nat) : Int) + 1) ∧ (((kp : Nat) : Int) + 1) ≤ 9223372036854775807)) (l' := [(1, iV ↑ch), (2, .e (.c (.d (D.sl (dI .i64 l) n)))), (3, rV 0 0), (6, rV 1 0), (7, rV 2 0), (11, rV 3 0), (12, iV (↑i * ↑ch)), (13, iV (peakV (kp + 1) (List.take ch (List.drop (i * ch) l)))), (75, .e (.c (.d (D.sl (dI .i64 (List.take ch (List.drop (i * ch) l))) ch)))), (76, iV ↑ch), (77, iV (↑kp + 1))]) (g' := [(0, some (46, .ds [iD t, iD r, iD (runG t r ch g l i)])), (1, some (26, .ds [iD 0, D.lit (.slice none 0 0)])), (2, some (46, .ds [iD 0, iD 0, iD 0])), (3, some (26, .cs [iC ↑ch, .own 4 0 (i * ch) 1 true])), (4, some (21, .ds (dI .i32 (runO t r ch g l i))))]) (nx' := 5) (by kernel_rfl) ⟨by omega, by omega⟩ ?_
          exact Rd.of ⟨((kp + 1) : Nat), (show ((kp + 1) ≤ ch) from (by first | omega | assumption | simp))⟩ [] (P := ((((ch : Nat) : Int) : Int) = ((ch : Nat) : Int)) ∧ (((dI .i64 l) : List D) = (dI .i64 l)) ∧ ((n : Nat) = n) ∧ ((0 : Nat) = 0) ∧ ((0 : Nat) = 0) ∧ ((0 : Nat) = 0) ∧ ((0 : Nat) = 0) ∧ (((((i : Nat) : Int) * ((ch : Nat) : Int)) : Int) = (((i : Nat) : Int) * ((ch : Nat) : Int))) ∧ (((peakV (kp + 1) (List.take ch (List.drop (i * ch) l))) : Int) = (peakV (kp + 1) (List.take ch (List.drop (i * ch) l)))) ∧ (((dI .i64 (List.take ch (List.drop (i * ch) l))) : List D) = (dI .i64 (List.take ch (List.drop (i * ch) l)))) ∧ ((ch : Nat) = ch) ∧ ((((ch : Nat) : Int) : Int) = ((ch : Nat) : Int)) ∧ (((((kp + 1) : Nat) : Int) : Int) = (((kp : Nat) : Int) + 1)) ∧ (([iD t, iD r, iD (runG t r ch g l i)] : List D) = [iD t, iD r, iD (runG t r ch g l i)]) ∧ (([iD 0, D.lit (.slice none 0 0)] : List D) = [iD 0, D.lit (.slice none 0 0)]) ∧ (([iD 0, iD 0, iD 0] : List D) = [iD 0, iD 0, iD 0]) ∧ ((((ch : Nat) : Int) : Int) = ((ch : Nat) : Int)) ∧ ((0 : Nat) = 0) ∧ (((i * ch) : Nat) = (i * ch)) ∧ (((dI .i32 (runO t r ch g l i)) : List D) = (dI .i32 (runO t r ch g l i)))) (by kernel_rfl) ⟨rfl, rfl, rfl, rfl, rfl, rfl, rfl, rfl, rfl, rfl, rfl, rfl, (by first | rfl | omega | assumption | (simp; done) | (simp; omega)), rfl, rfl, rfl, rfl, rfl, rfl, rfl⟩ (show ch - (kp + 1) < ch - kp from (by first | omega | (show _ < _; simp; omega)))
      · obtain rfl : ch = kp := by omega
        refine AW.rgs [.b false] [1, 2, 3, 6, 7, 11, 12, 13, 75, 76, 77, 78] [0, 1, 2, 3, 4] (P := (¬ (((ch : Nat) : Int) < ((ch : Nat) : Int)))) (l' := [(1, iV ↑ch), (2, .e (.c (.d (D.sl (dI .i64 l) n)))), (3, rV 0 0), (6, rV 1 0), (7, rV 2 0), (11, rV 3 0), (12, iV (↑i * ↑ch)), (13, iV (peakV ch (List.take ch (List.drop (i * ch) l)))), (75, .e (.c (.d (D.sl (dI .i64 (List.take ch (List.drop (i * ch) l))) ch)))), (76, iV ↑ch), (77, iV ↑ch), (78, .e (.c (.d (D.lit (.bool false)))))]) (g' := [(0, some (46, .ds [iD t, iD r, iD (runG t r ch g l i)])), (1, some (26, .ds [iD 0, D.lit (.slice none 0 0)])), (2, some (46, .ds [iD 0, iD 0, iD 0])), (3, some (26, .cs [iC ↑ch, .own 4 0 (i * ch) 1 true])), (4, some (21, .ds (dI .i32 (runO t r ch g l i))))]) (nx' := 5) (by kernel_rfl) (by omega) ?_
        refine AW.seq ?_
        refine AW.cond_f (.tmp (Look.of rfl)) ?_
        refine AW.exit ?_
        have hx7 : (((0 : Int) ≤ (neededV t (peakV ch (List.take ch (List.drop (i * ch) l))))) ∧ ((neededV t (peakV ch (List.take ch (List.drop (i * ch) l)))) ≤ 65536)) := needed_in t (peakV ch (List.take ch (List.drop (i * ch) l)))
        refine AW.rgs [.no, .no, .no, .call [] (iV (neededV t (peakV ch (List.take ch (List.drop (i * ch) l))))) [] 0 [] none, .no, .no, .no, .no, .w, .i (gainV t r (runG t r ch g l i) ch (List.take ch (List.drop (i * ch) l))), .no, .no] [1, 2, 3, 6, 7, 11, 12] [0, 1, 2, 3, 4] (P := (_) ∧ ((-9223372036854775808) ≤ ((runG t r ch g l i) + r) ∧ ((runG t r ch g l i) + r) ≤ 9223372036854775807) ∧ (((min (neededV t (peakV ch (List.take ch (List.drop (i * ch) l)))) ((runG t r ch g l i) + r)) : Int) = (gainV t r (runG t r ch g l i) ch (List.take ch (List.drop (i * ch) l))))) (l' := [(1, iV ↑ch), (2, .e (.c (.d (D.sl (dI .i64 l) n)))), (3, rV 0 0), (6, rV 1 0), (7, rV 2 0), (11, rV 3 0), (12, iV (↑i * ↑ch))]) (g' := [(0, some (46, .ds [iD t, iD r, iD (gainV t r (runG t r ch g l i) ch (List.take ch (List.drop (i * ch) l)))])), (1, some (26, .ds [iD 0, D.lit (.slice none 0 0)])), (2, some (46, .ds [iD 0, iD 0, iD 0])), (3, some (26, .cs [iC ↑ch, .own 4 0 (i * ch) 1 true])), (4, some (21, .ds (dI .i32 (runO t r ch g l i))))]) (nx' := 5) (by kernel_rfl) ⟨(G_rNeeded t (peakV ch (List.take ch (List.drop (i * ch) l)))), ⟨by omega, by omega⟩, (by omega)⟩ ?_
        refine AW.rgs [.no, .no, .no, .no, .w, .sls (i * ch) ((i * ch) + ch) ch (dI .i64 (List.take ch (List.drop (i * ch) l))), .no, .no] [1, 2, 3, 6, 7, 11, 12, 102, 103, 104] [0, 1, 2, 3, 4] (P := ((-9223372036854775808) ≤ ((((i : Nat) : Int) * ((ch : Nat) : Int)) + ((ch : Nat) : Int)) ∧ ((((i : Nat) : Int) * ((ch : Nat) : Int)) + ((ch : Nat) : Int)) ≤ 9223372036854775807) ∧ (((((i : Nat) : Int) * ((ch : Nat) : Int)) : Int) = (((i * ch) : Nat) : Int)) ∧ ((((((i : Nat) : Int) * ((ch : Nat) : Int)) + ((ch : Nat) : Int)) : Int) = ((((i * ch) + ch) : Nat) : Int)) ∧ ((i * ch) ≤ ((i * ch) + ch)) ∧ (((i * ch) + ch) ≤ n) ∧ (((i * ch) + ch) - (i * ch) = ch) ∧ (List.take (ch * 1) (List.drop ((i * ch) * 1) (dI .i64 l)) = (dI .i64 (List.take ch (List.drop (i * ch) l))))) (l' := [(1, iV ↑ch), (2, .e (.c (.d (D.sl (dI .i64 l) n)))), (3, rV 0 0), (6, rV 1 0), (7, rV 2 0), (11, rV 3 0), (12, iV (↑i * ↑ch)), (102, .e (.c (.d (D.sl (dI .i64 (List.take ch (List.drop (i * ch) l))) ch)))), (103, iV ↑ch), (104, iV 0)]) (g' := [(0, some (46, .ds [iD t, iD r, iD (gainV t r (runG t r ch g l i) ch (List.take ch (List.drop (i * ch) l)))])), (1, some (26, .ds [iD 0, D.lit (.slice none 0 0)])), (2, some (46, .ds [iD 0, iD 0, iD 0])), (3, some (26, .cs [iC ↑ch, .own 4 0 (i * ch) 1 true])), (4, some (21, .ds (dI .i32 (runO t r ch g l i))))]) (nx' := 5) (by kernel_rfl) ⟨⟨by omega, by omega⟩, (by first | rfl | omega), (by first | rfl | omega), (by omega), (by omega), (by omega), (by first | rfl | with_reducible assumption | exact dI_app _ _ _ | exact dI_rep _ _ _ | (simp only [dI_take, dI_drop, dI_app, Nat.mul_one, Nat.zero_mul, List.drop_zero, List.nil_append, List.append_nil]; done) | (simp only [dI_take, dI_drop, dI_app, Nat.mul_one, Nat.zero_mul, List.drop_zero, List.nil_append, List.append_nil]; rfl) | (rw [List.take_of_length_le (by simp only [dI_len, List.length_drop, Nat.mul_one]; omega)]; first | rfl | (simp only [dI_drop, Nat.mul_one, Nat.zero_mul, List.drop_zero]; done) | (simp only [dI_drop, Nat.mul_one, Nat.zero_mul, List.drop_zero]; rfl)))⟩ ?_
        refine AW.block ?_
        refine AW.loopE 0 hcx (fun (x : {x : Nat // match x with | j => (j ≤ ch)}) => match x with | ⟨j, _⟩ => (⟨[(1, iV ((ch : Nat) : Int)), (2, .e (.c (.d (D.sl (dI .i64 l) n)))), (3, rV 0 0), (6, rV 1 0), (7, rV 2 0), (11, rV 3 0), (12, iV (((i : Nat) : Int) * ((ch : Nat) : Int))), (102, .e (.c (.d (D.sl (dI .i64 (List.take ch (List.drop (i * ch) l))) ch)))), (103, iV ((ch : Nat) : Int)), (104, iV ((j : Nat) : Int))], [(0, some (46, .ds [iD t, iD r, iD (gainV t r (runG t r ch g l i) ch (List.take ch (List.drop (i * ch) l)))])), (1, some (26, .ds [iD 0, D.lit (.slice none 0 0)])), (2, some (46, .ds [iD 0, iD 0, iD 0])), (3, some (26, .cs [iC ((ch : Nat) : Int), .own 4 0 ((i * ch) + j) 1 true])), (4, some (21, .ds (dI .i32 ((runO t r ch g l i) ++ (outsV (gainV t r (runG t r ch g l i) ch (List.take ch (List.drop (i * ch) l))) j (List.take ch (List.drop (i * ch) l)))))))], 5⟩ : ES)) (fun (x : {x : Nat // match x with | j => (j ≤ ch)}) => match x with | ⟨j, _⟩ => ch - j) ⟨(0 : Nat), (show ((0 : Nat) ≤ ch) from (by first | omega | assumption | simp))⟩ [] (P := ((((ch : Nat) : Int) : Int) = ((ch : Nat) : Int)) ∧ (((dI .i64 l) : List D) = (dI .i64 l)) ∧ ((n : Nat) = n) ∧ ((0 : Nat) = 0) ∧ ((0 : Nat) = 0) ∧ ((0 : Nat) = 0) ∧ ((0 : Nat) = 0) ∧ (((((i : Nat) : Int) * ((ch : Nat) : Int)) : Int) = (((i : Nat) : Int) * ((ch : Nat) : Int))) ∧ (((dI .i64 (List.take ch (List.drop (i * ch) l))) : List D) = (dI .i64 (List.take ch (List.drop (i * ch) l)))) ∧ ((ch : Nat) = ch) ∧ ((((ch : Nat) : Int) : Int) = ((ch : Nat) : Int)) ∧ ((0 : Int) = 0) ∧ (([iD t, iD r, iD (gainV t r (runG t r ch g l i) ch (List.take ch (List.drop (i * ch) l)))] : List D) = [iD t, iD r, iD (gainV t r (runG t r ch g l i) ch (List.take ch (List.drop (i * ch) l)))]) ∧ (([iD 0, D.lit (.slice none 0 0)] : List D) = [iD 0, D.lit (.slice none 0 0)]) ∧ (([iD 0, iD 0, iD 0] : List D) = [iD 0, iD 0, iD 0]) ∧ ((((ch : Nat) : Int) : Int) = ((ch : Nat) : Int)) ∧ ((0 : Nat) = 0) ∧ ((((i * ch) + 0) : Nat) = (i * ch)) ∧ (((dI .i32 ((runO t r ch g l i) ++ (outsV (gainV t r (runG t r ch g l i) ch (List.take ch (List.drop (i * ch) l))) 0 (List.take ch (List.drop (i * ch) l))))) : List D) = (dI .i32 (runO t r ch g l i)))) (by kernel_rfl) ⟨rfl, rfl, rfl, rfl, rfl, rfl, rfl, rfl, rfl, rfl, rfl, rfl, rfl, rfl, rfl, rfl, rfl, (by first | rfl | omega | assumption | (simp; done) | (simp; omega)), (by first | rfl | exact outsV_next (by omega) | (simp only [outsV, List.append_nil, List.append_assoc]; done) | (simp only [outsV, List.append_nil, List.append_assoc]; rfl))⟩ ?_
        rintro ⟨j, hinv3⟩
        have hj : (j ≤ ch) := hinv3
        refine AW.es (l := [(1, iV ((ch : Nat) : Int)), (2, .e (.c (.d (D.sl (dI .i64 l) n)))), (3, rV 0 0), (6, rV 1 0), (7, rV 2 0), (11, rV 3 0), (12, iV (((i : Nat) : Int) * ((ch : Nat) : Int))), (102, .e (.c (.d (D.sl (dI .i64 (List.take ch (List.drop (i * ch) l))) ch)))), (103, iV ((ch : Nat) : Int)), (104, iV ((j : Nat) : Int))]) (g := [(0, some (46, .ds [iD t, iD r, iD (gainV t r (runG t r ch g l i) ch (List.take ch (List.drop (i * ch) l)))])), (1, some (26, .ds [iD 0, D.lit (.slice none 0 0)])), (2, some (46, .ds [iD 0, iD 0, iD 0])), (3, some (26, .cs [iC ((ch : Nat) : Int), .own 4 0 ((i * ch) + j) 1 true])), (4, some (21, .ds (dI .i32 ((runO t r ch g l i) ++ (outsV (gainV t r (runG t r ch g l i) ch (List.take ch (List.drop (i * ch) l))) j (List.take ch (List.drop (i * ch) l)))))))]) (nx := 5) rfl rfl rfl ?_
        have hol2 : List.length (outsV (gainV t r (runG t r ch g l i) ch (List.take ch (List.drop (i * ch) l))) j (List.take ch (List.drop (i * ch) l))) = j := outsV_len _ _ j
        have hgv : 0 ≤ (gainV t r (runG t r ch g l i) ch (List.take ch (List.drop (i * ch) l))) ∧ (gainV t r (runG t r ch g l i) ch (List.take ch (List.drop (i * ch) l))) ≤ 65536 ∧ (gainV t r (runG t r ch g l i) ch (List.take ch (List.drop (i * ch) l))) ≤ neededV t (peakV ch (List.take ch (List.drop (i * ch) l))) := gainV_in (by omega) (by omega)
        by_cases hx8 : (((j : Nat) : Int) < ((ch : Nat) : Int))
        · have hout : (¬ (List.getD (List.take ch (List.drop (i * ch) l)) j 0) < 0 ∨ outV (gainV t r (runG t r ch g l i) ch (List.take ch (List.drop (i * ch) l))) (List.getD (List.take ch (List.drop (i * ch) l)) j 0) = 0 - (0 - (List.getD (List.take ch (List.drop (i * ch) l)) j 0)) * (gainV t r (runG t r ch g l i) ch (List.take ch (List.drop (i * ch) l))) / 65536) ∧ ((List.getD (List.take ch (List.drop (i * ch) l)) j 0) < 0 ∨ outV (gainV t r (runG t r ch g l i) ch (List.take ch (List.drop (i * ch) l))) (List.getD (List.take ch (List.drop (i * ch) l)) j 0) = (List.getD (List.take ch (List.drop (i * ch) l)) j 0) * (gainV t r (runG t r ch g l i) ch (List.take ch (List.drop (i * ch) l))) / 65536) ∧ (-8388608 ≤ outV (gainV t r (runG t r ch g l i) ch (List.take ch (List.drop (i * ch) l))) (List.getD (List.take ch (List.drop (i * ch) l)) j 0) ∧ outV (gainV t r (runG t r ch g l i) ch (List.take ch (List.drop (i * ch) l))) (List.getD (List.take ch (List.drop (i * ch) l)) j 0) ≤ 8388607) ∧ -72057594037927936 ≤ (List.getD (List.take ch (List.drop (i * ch) l)) j 0) * (gainV t r (runG t r ch g l i) ch (List.take ch (List.drop (i * ch) l))) ∧ (List.getD (List.take ch (List.drop (i * ch) l)) j 0) * (gainV t r (runG t r ch g l i) ch (List.take ch (List.drop (i * ch) l))) ≤ 72057594037927936 ∧ (0 - (List.getD (List.take ch (List.drop (i * ch) l)) j 0)) * (gainV t r (runG t r ch g l i) ch (List.take ch (List.drop (i * ch) l))) = 0 - (List.getD (List.take ch (List.drop (i * ch) l)) j 0) * (gainV t r (runG t r ch g l i) ch (List.take ch (List.drop (i * ch) l))) ∧ ((List.getD (List.take ch (List.drop (i * ch) l)) j 0) < 0 ∨ 0 ≤ (List.getD (List.take ch (List.drop (i * ch) l)) j 0) * (gainV t r (runG t r ch g l i) ch (List.take ch (List.drop (i * ch) l)))) ∧ (¬ (List.getD (List.take ch (List.drop (i * ch) l)) j 0) < 0 ∨ (List.getD (List.take ch (List.drop (i * ch) l)) j 0) * (gainV t r (runG t r ch g l i) ch (List.take ch (List.drop (i * ch) l))) ≤ 0) := outR (by omega) (by omega) ⟨hgv.1, hgv.2.2⟩ (peakV_ge (l := (List.take ch (List.drop (i * ch) l))) ch j (by omega))
          refine AW.rgs [.b true] [1, 2, 3, 6, 7, 11, 12, 102, 103, 104, 105] [0, 1, 2, 3, 4] (P := ((((j : Nat) : Int) < ((ch : Nat) : Int)))) (l' := [(1, iV ↑ch), (2, .e (.c (.d (D.sl (dI .i64 l) n)))), (3, rV 0 0), (6, rV 1 0), (7, rV 2 0), (11, rV 3 0), (12, iV (↑i * ↑ch)), (102, .e (.c (.d (D.sl (dI .i64 (List.take ch (List.drop (i * ch) l))) ch)))), (103, iV ↑ch), (104, iV ↑j), (105, .e (.c (.d (D.lit (.bool true)))))]) (g' := [(0, some (46, .ds [iD t, iD r, iD (gainV t r (runG t r ch g l i) ch (List.take ch (List.drop (i * ch) l)))])), (1, some (26, .ds [iD 0, D.lit (.slice none 0 0)])), (2, some (46, .ds [iD 0, iD 0, iD 0])), (3, some (26, .cs [iC ↑ch, .own 4 0 ((i * ch) + j) 1 true])), (4, some (21, .ds (dI .i32 ((runO t r ch g l i) ++ (outsV (gainV t r (runG t r ch g l i) ch (List.take ch (List.drop (i * ch) l))) j (List.take ch (List.drop (i * ch) l)))))))]) (nx' := 5) (by kernel_rfl) (by omega) ?_
          refine AW.seq ?_
          refine AW.cond_t (.tmp (Look.of rfl)) ?_
          refine AW.skip ?_
          refine AW.seq ?_
          refine AW.block ?_
          have hx9 : -1099511627776 ≤ (List.getD (List.take ch (List.drop (i * ch) l)) j 0) ∧ (List.getD (List.take ch (List.drop (i * ch) l)) j 0) ≤ 1099511627776 := hsf.at j (by rw [List.length_take, List.length_drop]; omega)
          refine AW.rgs [.n j, .d (D.lit (.int .i64 (List.getD (List.take ch (List.drop (i * ch) l)) j 0))), .no] [1, 2, 3, 6, 7, 11, 12, 17, 102, 103, 104] [0, 1, 2, 3, 4] (P := ((((j : Nat) : Int) : Int) = ((j : Nat) : Int)) ∧ (j < ch) ∧ ((List.drop j (dI .i64 (List.take ch (List.drop (i * ch) l))))[0]? = some (D.lit (.int .i64 (List.getD (List.take ch (List.drop (i * ch) l)) j 0))))) (l' := [(1, iV ↑ch), (2, .e (.c (.d (D.sl (dI .i64 l) n)))), (3, rV 0 0), (6, rV 1 0), (7, rV 2 0), (11, rV 3 0), (12, iV (↑i * ↑ch)), (17, iV (List.getD (List.take ch (List.drop (i * ch) l)) j 0)), (102, .e (.c (.d (D.sl (dI .i64 (List.take ch (List.drop (i * ch) l))) ch)))), (103, iV ↑ch), (104, iV ↑j)]) (g' := [(0, some (46, .ds [iD t, iD r, iD (gainV t r (runG t r ch g l i) ch (List.take ch (List.drop (i * ch) l)))])), (1, some (26, .ds [iD 0, D.lit (.slice none 0 0)])), (2, some (46, .ds [iD 0, iD 0, iD 0])), (3, some (26, .cs [iC ↑ch, .own 4 0 ((i * ch) + j) 1 true])), (4, some (21, .ds (dI .i32 ((runO t r ch g l i) ++ (outsV (gainV t r (runG t r ch g l i) ch (List.take ch (List.drop (i * ch) l))) j (List.take ch (List.drop (i * ch) l)))))))]) (nx' := 5) (by kernel_rfl) ⟨rfl, (by omega), (dI_at _ _ _ (by first | omega | (rw [dI_len]; omega) | (simp [dI_len] <;> omega) | rfl))⟩ ?_
          by_cases hx10 : ((List.getD (List.take ch (List.drop (i * ch) l)) j 0) < 0)
          · refine AW.rgs [.no, .call [] (iV (0 - (List.getD (List.take ch (List.drop (i * ch) l)) j 0))) [] 0 [] none, .no, .no, .w, .ps, .no] [1, 2, 3, 6, 7, 11, 12, 17, 18, 102, 103, 104] [0, 1, 2, 3, 4] (P := (_) ∧ ((-9223372036854775808) ≤ ((0 - (List.getD (List.take ch (List.drop (i * ch) l)) j 0)) * (gainV t r (runG t r ch g l i) ch (List.take ch (List.drop (i * ch) l)))) ∧ ((0 - (List.getD (List.take ch (List.drop (i * ch) l)) j 0)) * (gainV t r (runG t r ch g l i) ch (List.take ch (List.drop (i * ch) l)))) ≤ 9223372036854775807) ∧ ((0 : Int) ≤ (((0 - (List.getD (List.take ch (List.drop (i * ch) l)) j 0)) * (gainV t r (runG t r ch g l i) ch (List.take ch (List.drop (i * ch) l)))) : Int)) ∧ ((0 : Int) < (65536 : Int)) ∧ ((-9223372036854775808) ≤ ((0 - (List.getD (List.take ch (List.drop (i * ch) l)) j 0)) * (gainV t r (runG t r ch g l i) ch (List.take ch (List.drop (i * ch) l)))) ∧ ((0 - (List.getD (List.take ch (List.drop (i * ch) l)) j 0)) * (gainV t r (runG t r ch g l i) ch (List.take ch (List.drop (i * ch) l)))) ≤ 9223372036854775807)) (l' := [(1, iV ↑ch), (2, .e (.c (.d (D.sl (dI .i64 l) n)))), (3, rV 0 0), (6, rV 1 0), (7, rV 2 0), (11, rV 3 0), (12, iV (↑i * ↑ch)), (17, iV (List.getD (List.take ch (List.drop (i * ch) l)) j 0)), (18, iV (((0 - (List.getD (List.take ch (List.drop (i * ch) l)) j 0)) * (gainV t r (runG t r ch g l i) ch (List.take ch (List.drop (i * ch) l)))) / 65536)), (102, .e (.c (.d (D.sl (dI .i64 (List.take ch (List.drop (i * ch) l))) ch)))), (103, iV ↑ch), (104, iV ↑j)]) (g' := [(0, some (46, .ds [iD t, iD r, iD (gainV t r (runG t r ch g l i) ch (List.take ch (List.drop (i * ch) l)))])), (1, some (26, .ds [iD 0, D.lit (.slice none 0 0)])), (2, some (46, .ds [iD 0, iD 0, iD 0])), (3, some (26, .cs [iC ↑ch, .own 4 0 ((i * ch) + j) 1 true])), (4, some (21, .ds (dI .i32 ((runO t r ch g l i) ++ (outsV (gainV t r (runG t r ch g l i) ch (List.take ch (List.drop (i * ch) l))) j (List.take ch (List.drop (i * ch) l)))))))]) (nx' := 5) (by kernel_rfl) ⟨(G_mag_n (List.getD (List.take ch (List.drop (i * ch) l)) j 0) (by first | omega | with_reducible assumption | (simp <;> omega) | rfl | assumption) (by first | omega | with_reducible assumption | (simp <;> omega) | rfl | assumption)), ⟨by omega, by omega⟩, (by omega), (by omega), ⟨by omega, by omega⟩⟩ ?_
            refine AW.seq ?_
            refine AW.rgs [.no, .b true] [1, 2, 3, 6, 7, 11, 12, 18, 102, 103, 104, 115] [0, 1, 2, 3, 4] (P := (((List.getD (List.take ch (List.drop (i * ch) l)) j 0) < 0))) (l' := [(1, iV ↑ch), (2, .e (.c (.d (D.sl (dI .i64 l) n)))), (3, rV 0 0), (6, rV 1 0), (7, rV 2 0), (11, rV 3 0), (12, iV (↑i * ↑ch)), (18, iV (((0 - (List.getD (List.take ch (List.drop (i * ch) l)) j 0)) * (gainV t r (runG t r ch g l i) ch (List.take ch (List.drop (i * ch) l)))) / 65536)), (102, .e (.c (.d (D.sl (dI .i64 (List.take ch (List.drop (i * ch) l))) ch)))), (103, iV ↑ch), (104, iV ↑j), (115, .e (.c (.d (D.lit (.bool true)))))]) (g' := [(0, some (46, .ds [iD t, iD r, iD (gainV t r (runG t r ch g l i) ch (List.take ch (List.drop (i * ch) l)))])), (1, some (26, .ds [iD 0, D.lit (.slice none 0 0)])), (2, some (46, .ds [iD 0, iD 0, iD 0])), (3, some (26, .cs [iC ↑ch, .own 4 0 ((i * ch) + j) 1 true])), (4, some (21, .ds (dI .i32 ((runO t r ch g l i) ++ (outsV (gainV t r (runG t r ch g l i) ch (List.take ch (List.drop (i * ch) l))) j (List.take ch (List.drop (i * ch) l)))))))]) (nx' := 5) (by kernel_rfl) (by omega) ?_
            refine AW.cond_t (.tmp (Look.of rfl)) ?_
            refine AW.rg [.no, .wi (outV (gainV t r (runG t r ch g l i) ch (List.take ch (List.drop (i * ch) l))) (List.getD (List.take ch (List.drop (i * ch) l)) j 0)), .no] [1, 2, 3, 6, 7, 11, 12, 18, 102, 103, 104] [0, 1, 2, 3, 4] (P := ((-9223372036854775808) ≤ (0 - (((0 - (List.getD (List.take ch (List.drop (i * ch) l)) j 0)) * (gainV t r (runG t r ch g l i) ch (List.take ch (List.drop (i * ch) l)))) / 65536)) ∧ (0 - (((0 - (List.getD (List.take ch (List.drop (i * ch) l)) j 0)) * (gainV t r (runG t r ch g l i) ch (List.take ch (List.drop (i * ch) l)))) / 65536)) ≤ 9223372036854775807) ∧ (((0 - (((0 - (List.getD (List.take ch (List.drop (i * ch) l)) j 0)) * (gainV t r (runG t r ch g l i) ch (List.take ch (List.drop (i * ch) l)))) / 65536)) : Int) = (outV (gainV t r (runG t r ch g l i) ch (List.take ch (List.drop (i * ch) l))) (List.getD (List.take ch (List.drop (i * ch) l)) j 0)))) (l' := [(1, iV ↑ch), (2, .e (.c (.d (D.sl (dI .i64 l) n)))), (3, rV 0 0), (6, rV 1 0), (7, rV 2 0), (11, rV 3 0), (12, iV (↑i * ↑ch)), (18, iV (outV (gainV t r (runG t r ch g l i) ch (List.take ch (List.drop (i * ch) l))) (List.getD (List.take ch (List.drop (i * ch) l)) j 0))), (102, .e (.c (.d (D.sl (dI .i64 (List.take ch (List.drop (i * ch) l))) ch)))), (103, iV ↑ch), (104, iV ↑j)]) (g' := [(0, some (46, .ds [iD t, iD r, iD (gainV t r (runG t r ch g l i) ch (List.take ch (List.drop (i * ch) l)))])), (1, some (26, .ds [iD 0, D.lit (.slice none 0 0)])), (2, some (46, .ds [iD 0, iD 0, iD 0])), (3, some (26, .cs [iC ↑ch, .own 4 0 ((i * ch) + j) 1 true])), (4, some (21, .ds (dI .i32 ((runO t r ch g l i) ++ (outsV (gainV t r (runG t r ch g l i) ch (List.take ch (List.drop (i * ch) l))) j (List.take ch (List.drop (i * ch) l)))))))]) (nx' := 5) (by kernel_rfl) ⟨⟨by omega, by omega⟩, (by omega)⟩ ?_
            refine AW.rg [.no, .no, .no, .w, .no, .ap none (((i * ch) + j) + 1) (dI .i32 (((runO t r ch g l i) ++ (outsV (gainV t r (runG t r ch g l i) ch (List.take ch (List.drop (i * ch) l))) j (List.take ch (List.drop (i * ch) l)))) ++ ([(outV (gainV t r (runG t r ch g l i) ch (List.take ch (List.drop (i * ch) l))) (List.getD (List.take ch (List.drop (i * ch) l)) j 0))] : List Int))), .no, .no] [1, 2, 3, 6, 7, 11, 12, 102, 103, 104] [0, 1, 2, 3, 6] (P := ((-2147483648) ≤ (outV (gainV t r (runG t r ch g l i) ch (List.take ch (List.drop (i * ch) l))) (List.getD (List.take ch (List.drop (i * ch) l)) j 0)) ∧ (outV (gainV t r (runG t r ch g l i) ch (List.take ch (List.drop (i * ch) l))) (List.getD (List.take ch (List.drop (i * ch) l)) j 0)) ≤ 2147483647) ∧ ([D.lit (.int .i32 (outV (gainV t r (runG t r ch g l i) ch (List.take ch (List.drop (i * ch) l))) (List.getD (List.take ch (List.drop (i * ch) l)) j 0)))].length = 1 * 1) ∧ (((dI .i32 ((runO t r ch g l i) ++ (outsV (gainV t r (runG t r ch g l i) ch (List.take ch (List.drop (i * ch) l))) j (List.take ch (List.drop (i * ch) l))))) : List D).length = ((i * ch) + j) * 1) ∧ ((((i * ch) + j) + 1) * 4 ≤ 140737488355328) ∧ (((i * ch) + j) + 1 = (((i * ch) + j) + 1)) ∧ (((dI .i32 ((runO t r ch g l i) ++ (outsV (gainV t r (runG t r ch g l i) ch (List.take ch (List.drop (i * ch) l))) j (List.take ch (List.drop (i * ch) l))))) : List D) ++ [D.lit (.int .i32 (outV (gainV t r (runG t r ch g l i) ch (List.take ch (List.drop (i * ch) l))) (List.getD (List.take ch (List.drop (i * ch) l)) j 0)))] = (dI .i32 (((runO t r ch g l i) ++ (outsV (gainV t r (runG t r ch g l i) ch (List.take ch (List.drop (i * ch) l))) j (List.take ch (List.drop (i * ch) l)))) ++ ([(outV (gainV t r (runG t r ch g l i) ch (List.take ch (List.drop (i * ch) l))) (List.getD (List.take ch (List.drop (i * ch) l)) j 0))] : List Int))))) (l' := [(1, iV ↑ch), (2, .e (.c (.d (D.sl (dI .i64 l) n)))), (3, rV 0 0), (6, rV 1 0), (7, rV 2 0), (11, rV 3 0), (12, iV (↑i * ↑ch)), (102, .e (.c (.d (D.sl (dI .i64 (List.take ch (List.drop (i * ch) l))) ch)))), (103, iV ↑ch), (104, iV ↑j)]) (g' := [(0, some (46, .ds [iD t, iD r, iD (gainV t r (runG t r ch g l i) ch (List.take ch (List.drop (i * ch) l)))])), (1, some (26, .ds [iD 0, D.lit (.slice none 0 0)])), (2, some (46, .ds [iD 0, iD 0, iD 0])), (3, some (26, .cs [iC ↑ch, .own 6 0 (((i * ch) + j) + 1) 1 true])), (6, some (21, .ds (dI .i32 (((runO t r ch g l i) ++ (outsV (gainV t r (runG t r ch g l i) ch (List.take ch (List.drop (i * ch) l))) j (List.take ch (List.drop (i * ch) l)))) ++ ([(outV (gainV t r (runG t r ch g l i) ch (List.take ch (List.drop (i * ch) l))) (List.getD (List.take ch (List.drop (i * ch) l)) j 0))] : List Int)))))]) (nx' := 7) (by kernel_rfl) ⟨⟨by omega, by omega⟩, (by first | omega | (rw [dI_len]; omega) | (simp [dI_len] <;> omega) | rfl), (by first | omega | (rw [dI_len]; omega) | (simp [dI_len] <;> omega) | rfl), (by omega), (by omega), (dI_app .i32 ((runO t r ch g l i) ++ (outsV (gainV t r (runG t r ch g l i) ch (List.take ch (List.drop (i * ch) l))) j (List.take ch (List.drop (i * ch) l)))) ([(outV (gainV t r (runG t r ch g l i) ch (List.take ch (List.drop (i * ch) l))) (List.getD (List.take ch (List.drop (i * ch) l)) j 0))] : List Int))⟩ ?_
            refine AW.rg [.w, .no] [1, 2, 3, 6, 7, 11, 12, 102, 103, 104] [0, 1, 2, 3, 6] (P := ((-9223372036854775808) ≤ (((j : Nat) : Int) + 1) ∧ (((j : Nat) : Int) + 1) ≤ 9223372036854775807)) (l' := [(1, iV ↑ch), (2, .e (.c (.d (D.sl (dI .i64 l) n)))), (3, rV 0 0), (6, rV 1 0), (7, rV 2 0), (11, rV 3 0), (12, iV (↑i * ↑ch)), (102, .e (.c (.d (D.sl (dI .i64 (List.take ch (List.drop (i * ch) l))) ch)))), (103, iV ↑ch), (104, iV (↑j + 1))]) (g' := [(0, some (46, .ds [iD t, iD r, iD (gainV t r (runG t r ch g l i) ch (List.take ch (List.drop (i * ch) l)))])), (1, some (26, .ds [iD 0, D.lit (.slice none 0 0)])), (2, some (46, .ds [iD 0, iD 0, iD 0])), (3, some (26, .cs [iC ↑ch, .own 6 0 (((i * ch) + j) + 1) 1 true])), (6, some (21, .ds (dI .i32 (((runO t r ch g l i) ++ (outsV (gainV t r (runG t r ch g l i) ch (List.take ch (List.drop (i * ch) l))) j (List.take ch (List.drop (i * ch) l)))) ++ ([(outV (gainV t r (runG t r ch g l i) ch (List.take ch (List.drop (i * ch) l))) (List.getD (List.take ch (List.drop (i * ch) l)) j 0))] : List Int)))))]) (nx' := 7) (by kernel_rfl) ⟨by omega, by omega⟩ ?_
            exact Rd.of ⟨((j + 1) : Nat), (show ((j + 1) ≤ ch) from (by first | omega | assumption | simp))⟩ [(4, 6)] (P := ((((ch : Nat) : Int) : Int) = ((ch : Nat) : Int)) ∧ (((dI .i64 l) : List D) = (dI .i64 l)) ∧ ((n : Nat) = n) ∧ ((0 : Nat) = 0) ∧ ((0 : Nat) = 0) ∧ ((0 : Nat) = 0) ∧ ((0 : Nat) = 0) ∧ (((((i : Nat) : Int) * ((ch : Nat) : Int)) : Int) = (((i : Nat) : Int) * ((ch : Nat) : Int))) ∧ (((dI .i64 (List.take ch (List.drop (i * ch) l))) : List D) = (dI .i64 (List.take ch (List.drop (i * ch) l)))) ∧ ((ch : Nat) = ch) ∧ ((((ch : Nat) : Int) : Int) = ((ch : Nat) : Int)) ∧ (((((j + 1) : Nat) : Int) : Int) = (((j : Nat) : Int) + 1)) ∧ (([iD t, iD r, iD (gainV t r (runG t r ch g l i) ch (List.take ch (List.drop (i * ch) l)))] : List D) = [iD t, iD r, iD (gainV t r (runG t r ch g l i) ch (List.take ch (List.drop (i * ch) l)))]) ∧ (([iD 0, D.lit (.slice none 0 0)] : List D) = [iD 0, D.lit (.slice none 0 0)]) ∧ (([iD 0, iD 0, iD 0] : List D) = [iD 0, iD 0, iD 0]) ∧ ((((ch : Nat) : Int) : Int) = ((ch : Nat) : Int)) ∧ ((0 : Nat) = 0) ∧ ((((i * ch) + (j + 1)) : Nat) = (((i * ch) + j) + 1)) ∧ (((dI .i32 ((runO t r ch g l i) ++ (outsV (gainV t r (runG t r ch g l i) ch (List.take ch (List.drop (i * ch) l))) (j + 1) (List.take ch (List.drop (i * ch) l))))) : List D) = (dI .i32 (((runO t r ch g l i) ++ (outsV (gainV t r (runG t r ch g l i) ch (List.take ch (List.drop (i * ch) l))) j (List.take ch (List.drop (i * ch) l)))) ++ ([(outV (gainV t r (runG t r ch g l i) ch (List.take ch (List.drop (i * ch) l))) (List.getD (List.take ch (List.drop (i * ch) l)) j 0))] : List Int))))) (by kernel_rfl) ⟨rfl, rfl, rfl, rfl, rfl, rfl, rfl, rfl, rfl, rfl, rfl, (by first | rfl | omega | assumption | (simp; done) | (simp; omega)), rfl, rfl, rfl, rfl, rfl, (by first | rfl | omega | assumption | (simp; done) | (simp; omega)), (by first | rfl | exact outsV_next (by omega) | (simp only [outsV, List.append_nil, List.append_assoc]; done) | (simp only [outsV, List.append_nil, List.append_assoc]; rfl))⟩ (show ch - (j + 1) < ch - j from (by first | omega | (show _ < _; simp; omega)))
          · refine AW.rgs [.no, .call [] (iV (List.getD (List.take ch (List.drop (i * ch) l)) j 0)) [] 0 [] none, .no, .no, .w, .ps, .no] [1, 2, 3, 6, 7, 11, 12, 17, 18, 102, 103, 104] [0, 1, 2, 3, 4] (P := (_) ∧ ((-9223372036854775808) ≤ ((List.getD (List.take ch (List.drop (i * ch) l)) j 0) * (gainV t r (runG t r ch g l i) ch (List.take ch (List.drop (i * ch) l)))) ∧ ((List.getD (List.take ch (List.drop (i * ch) l)) j 0) * (gainV t r (runG t r ch g l i) ch (List.take ch (List.drop (i * ch) l)))) ≤ 9223372036854775807) ∧ ((0 : Int) ≤ (((List.getD (List.take ch (List.drop (i * ch) l)) j 0) * (gainV t r (runG t r ch g l i) ch (List.take ch (List.drop (i * ch) l)))) : Int)) ∧ ((0 : Int) < (65536 : Int)) ∧ ((-9223372036854775808) ≤ ((List.getD (List.take ch (List.drop (i * ch) l)) j 0) * (gainV t r (runG t r ch g l i) ch (List.take ch (List.drop (i * ch) l)))) ∧ ((List.getD (List.take ch (List.drop (i * ch) l)) j 0) * (gainV t r (runG t r ch g l i) ch (List.take ch (List.drop (i * ch) l)))) ≤ 9223372036854775807)) (l' := [(1, iV ↑ch), (2, .e (.c (.d (D.sl (dI .i64 l) n)))), (3, rV 0 0), (6, rV 1 0), (7, rV 2 0), (11, rV 3 0), (12, iV (↑i * ↑ch)), (17, iV (List.getD (List.take ch (List.drop (i * ch) l)) j 0)), (18, iV (((List.getD (List.take ch (List.drop (i * ch) l)) j 0) * (gainV t r (runG t r ch g l i) ch (List.take ch (List.drop (i * ch) l)))) / 65536)), (102, .e (.c (.d (D.sl (dI .i64 (List.take ch (List.drop (i * ch) l))) ch)))), (103, iV ↑ch), (104, iV ↑j)]) (g' := [(0, some (46, .ds [iD t, iD r, iD (gainV t r (runG t r ch g l i) ch (List.take ch (List.drop (i * ch) l)))])), (1, some (26, .ds [iD 0, D.lit (.slice none 0 0)])), (2, some (46, .ds [iD 0, iD 0, iD 0])), (3, some (26, .cs [iC ↑ch, .own 4 0 ((i * ch) + j) 1 true])), (4, some (21, .ds (dI .i32 ((runO t r ch g l i) ++ (outsV (gainV t r (runG t r ch g l i) ch (List.take ch (List.drop (i * ch) l))) j (List.take ch (List.drop (i * ch) l)))))))]) (nx' := 5) (by kernel_rfl) ⟨(G_mag_p (List.getD (List.take ch (List.drop (i * ch) l)) j 0) (by first | omega | with_reducible assumption | (simp <;> omega) | rfl | assumption)), ⟨by omega, by omega⟩, (by omega), (by omega), ⟨by omega, by omega⟩⟩ ?_
            refine AW.seq ?_
            refine AW.rgs [.no, .b false] [1, 2, 3, 6, 7, 11, 12, 18, 102, 103, 104, 115] [0, 1, 2, 3, 4] (P := (¬ ((List.getD (List.take ch (List.drop (i * ch) l)) j 0) < 0))) (l' := [(1, iV ↑ch), (2, .e (.c (.d (D.sl (dI .i64 l) n)))), (3, rV 0 0), (6, rV 1 0), (7, rV 2 0), (11, rV 3 0), (12, iV (↑i * ↑ch)), (18, iV (((List.getD (List.take ch (List.drop (i * ch) l)) j 0) * (gainV t r (runG t r ch g l i) ch (List.take ch (List.drop (i * ch) l)))) / 65536)), (102, .e (.c (.d (D.sl (dI .i64 (List.take ch (List.drop (i * ch) l))) ch)))), (103, iV ↑ch), (104, iV ↑j), (115, .e (.c (.d (D.lit (.bool false)))))]) (g' := [(0, some (46, .ds [iD t, iD r, iD (gainV t r (runG t r ch g l i) ch (List.take ch (List.drop (i * ch) l)))])), (1, some (26, .ds [iD 0, D.lit (.slice none 0 0)])), (2, some (46, .ds [iD 0, iD 0, iD 0])), (3, some (26, .cs [iC ↑ch, .own 4 0 ((i * ch) + j) 1 true])), (4, some (21, .ds (dI .i32 ((runO t r ch g l i) ++ (outsV (gainV t r (runG t r ch g l i) ch (List.take ch (List.drop (i * ch) l))) j (List.take ch (List.drop (i * ch) l)))))))]) (nx' := 5) (by kernel_rfl) (by omega) ?_
            refine AW.cond_f (.tmp (Look.of rfl)) ?_
            refine AW.skip ?_
            refine AW.rg [.no, .no, .no, .w, .no, .ap none (((i * ch) + j) + 1) (dI .i32 (((runO t r ch g l i) ++ (outsV (gainV t r (runG t r ch g l i) ch (List.take ch (List.drop (i * ch) l))) j (List.take ch (List.drop (i * ch) l)))) ++ ([(((List.getD (List.take ch (List.drop (i * ch) l)) j 0) * (gainV t r (runG t r ch g l i) ch (List.take ch (List.drop (i * ch) l)))) / 65536)] : List Int))), .no, .no] [1, 2, 3, 6, 7, 11, 12, 102, 103, 104] [0, 1, 2, 3, 6] (P := ((-2147483648) ≤ (((List.getD (List.take ch (List.drop (i * ch) l)) j 0) * (gainV t r (runG t r ch g l i) ch (List.take ch (List.drop (i * ch) l)))) / 65536) ∧ (((List.getD (List.take ch (List.drop (i * ch) l)) j 0) * (gainV t r (runG t r ch g l i) ch (List.take ch (List.drop (i * ch) l)))) / 65536) ≤ 2147483647) ∧ ([D.lit (.int .i32 (((List.getD (List.take ch (List.drop (i * ch) l)) j 0) * (gainV t r (runG t r ch g l i) ch (List.take ch (List.drop (i * ch) l)))) / 65536))].length = 1 * 1) ∧ (((dI .i32 ((runO t r ch g l i) ++ (outsV (gainV t r (runG t r ch g l i) ch (List.take ch (List.drop (i * ch) l))) j (List.take ch (List.drop (i * ch) l))))) : List D).length = ((i * ch) + j) * 1) ∧ ((((i * ch) + j) + 1) * 4 ≤ 140737488355328) ∧ (((i * ch) + j) + 1 = (((i * ch) + j) + 1)) ∧ (((dI .i32 ((runO t r ch g l i) ++ (outsV (gainV t r (runG t r ch g l i) ch (List.take ch (List.drop (i * ch) l))) j (List.take ch (List.drop (i * ch) l))))) : List D) ++ [D.lit (.int .i32 (((List.getD (List.take ch (List.drop (i * ch) l)) j 0) * (gainV t r (runG t r ch g l i) ch (List.take ch (List.drop (i * ch) l)))) / 65536))] = (dI .i32 (((runO t r ch g l i) ++ (outsV (gainV t r (runG t r ch g l i) ch (List.take ch (List.drop (i * ch) l))) j (List.take ch (List.drop (i * ch) l)))) ++ ([(((List.getD (List.take ch (List.drop (i * ch) l)) j 0) * (gainV t r (runG t r ch g l i) ch (List.take ch (List.drop (i * ch) l)))) / 65536)] : List Int))))) (l' := [(1, iV ↑ch), (2, .e (.c (.d (D.sl (dI .i64 l) n)))), (3, rV 0 0), (6, rV 1 0), (7, rV 2 0), (11, rV 3 0), (12, iV (↑i * ↑ch)), (102, .e (.c (.d (D.sl (dI .i64 (List.take ch (List.drop (i * ch) l))) ch)))), (103, iV ↑ch), (104, iV ↑j)]) (g' := [(0, some (46, .ds [iD t, iD r, iD (gainV t r (runG t r ch g l i) ch (List.take ch (List.drop (i * ch) l)))])), (1, some (26, .ds [iD 0, D.lit (.slice none 0 0)])), (2, some (46, .ds [iD 0, iD 0, iD 0])), (3, some (26, .cs [iC ↑ch, .own 6 0 (((i * ch) + j) + 1) 1 true])), (6, some (21, .ds (dI .i32 (((runO t r ch g l i) ++ (outsV (gainV t r (runG t r ch g l i) ch (List.take ch (List.drop (i * ch) l))) j (List.take ch (List.drop (i * ch) l)))) ++ ([(((List.getD (List.take ch (List.drop (i * ch) l)) j 0) * (gainV t r (runG t r ch g l i) ch (List.take ch (List.drop (i * ch) l)))) / 65536)] : List Int)))))]) (nx' := 7) (by kernel_rfl) ⟨⟨by omega, by omega⟩, (by first | omega | (rw [dI_len]; omega) | (simp [dI_len] <;> omega) | rfl), (by first | omega | (rw [dI_len]; omega) | (simp [dI_len] <;> omega) | rfl), (by omega), (by omega), (dI_app .i32 ((runO t r ch g l i) ++ (outsV (gainV t r (runG t r ch g l i) ch (List.take ch (List.drop (i * ch) l))) j (List.take ch (List.drop (i * ch) l)))) ([(((List.getD (List.take ch (List.drop (i * ch) l)) j 0) * (gainV t r (runG t r ch g l i) ch (List.take ch (List.drop (i * ch) l)))) / 65536)] : List Int))⟩ ?_
            refine AW.rg [.w, .no] [1, 2, 3, 6, 7, 11, 12, 102, 103, 104] [0, 1, 2, 3, 6] (P := ((-9223372036854775808) ≤ (((j : Nat) : Int) + 1) ∧ (((j : Nat) : Int) + 1) ≤ 9223372036854775807)) (l' := [(1, iV ↑ch), (2, .e (.c (.d (D.sl (dI .i64 l) n)))), (3, rV 0 0), (6, rV 1 0), (7, rV 2 0), (11, rV 3 0), (12, iV (↑i * ↑ch)), (102, .e (.c (.d (D.sl (dI .i64 (List.take ch (List.drop (i * ch) l))) ch)))), (103, iV ↑ch), (104, iV (↑j + 1))]) (g' := [(0, some (46, .ds [iD t, iD r, iD (gainV t r (runG t r ch g l i) ch (List.take ch (List.drop (i * ch) l)))])), (1, some (26, .ds [iD 0, D.lit (.slice none 0 0)])), (2, some (46, .ds [iD 0, iD 0, iD 0])), (3, some (26, .cs [iC ↑ch, .own 6 0 (((i * ch) + j) + 1) 1 true])), (6, some (21, .ds (dI .i32 (((runO t r ch g l i) ++ (outsV (gainV t r (runG t r ch g l i) ch (List.take ch (List.drop (i * ch) l))) j (List.take ch (List.drop (i * ch) l)))) ++ ([(((List.getD (List.take ch (List.drop (i * ch) l)) j 0) * (gainV t r (runG t r ch g l i) ch (List.take ch (List.drop (i * ch) l)))) / 65536)] : List Int)))))]) (nx' := 7) (by kernel_rfl) ⟨by omega, by omega⟩ ?_
            exact Rd.of ⟨((j + 1) : Nat), (show ((j + 1) ≤ ch) from (by first | omega | assumption | simp))⟩ [(4, 6)] (P := ((((ch : Nat) : Int) : Int) = ((ch : Nat) : Int)) ∧ (((dI .i64 l) : List D) = (dI .i64 l)) ∧ ((n : Nat) = n) ∧ ((0 : Nat) = 0) ∧ ((0 : Nat) = 0) ∧ ((0 : Nat) = 0) ∧ ((0 : Nat) = 0) ∧ (((((i : Nat) : Int) * ((ch : Nat) : Int)) : Int) = (((i : Nat) : Int) * ((ch : Nat) : Int))) ∧ (((dI .i64 (List.take ch (List.drop (i * ch) l))) : List D) = (dI .i64 (List.take ch (List.drop (i * ch) l)))) ∧ ((ch : Nat) = ch) ∧ ((((ch : Nat) : Int) : Int) = ((ch : Nat) : Int)) ∧ (((((j + 1) : Nat) : Int) : Int) = (((j : Nat) : Int) + 1)) ∧ (([iD t, iD r, iD (gainV t r (runG t r ch g l i) ch (List.take ch (List.drop (i * ch) l)))] : List D) = [iD t, iD r, iD (gainV t r (runG t r ch g l i) ch (List.take ch (List.drop (i * ch) l)))]) ∧ (([iD 0, D.lit (.slice none 0 0)] : List D) = [iD 0, D.lit (.slice none 0 0)]) ∧ (([iD 0, iD 0, iD 0] : List D) = [iD 0, iD 0, iD 0]) ∧ ((((ch : Nat) : Int) : Int) = ((ch : Nat) : Int)) ∧ ((0 : Nat) = 0) ∧ ((((i * ch) + (j + 1)) : Nat) = (((i * ch) + j) + 1)) ∧ (((dI .i32 ((runO t r ch g l i) ++ (outsV (gainV t r (runG t r ch g l i) ch (List.take ch (List.drop (i * ch) l))) (j + 1) (List.take ch (List.drop (i * ch) l))))) : List D) = (dI .i32 (((runO t r ch g l i) ++ (outsV (gainV t r (runG t r ch g l i) ch (List.take ch (List.drop (i * ch) l))) j (List.take ch (List.drop (i * ch) l)))) ++ ([(((List.getD (List.take ch (List.drop (i * ch) l)) j 0) * (gainV t r (runG t r ch g l i) ch (List.take ch (List.drop (i * ch) l)))) / 65536)] : List Int))))) (by kernel_rfl) ⟨rfl, rfl, rfl, rfl, rfl, rfl, rfl, rfl, rfl, rfl, rfl, (by first | rfl | omega | assumption | (simp; done) | (simp; omega)), rfl, rfl, rfl, rfl, rfl, (by first | rfl | omega | assumption | (simp; done) | (simp; omega)), (by first | rfl | exact outsV_next (by omega) | (simp only [outsV, List.append_nil, List.append_assoc]; done) | (simp only [outsV, List.append_nil, List.append_assoc]; rfl))⟩ (show ch - (j + 1) < ch - j from (by first | omega | (show _ < _; simp; omega)))
        · refine AW.rgs [.b false] [1, 2, 3, 6, 7, 11, 12, 102, 103, 104, 105] [0, 1, 2, 3, 4] (P := (¬ (((j : Nat) : Int) < ((ch : Nat) : Int)))) (l' := [(1, iV ↑ch), (2, .e (.c (.d (D.sl (dI .i64 l) n)))), (3, rV 0 0), (6, rV 1 0), (7, rV 2 0), (11, rV 3 0), (12, iV (↑i * ↑ch)), (102, .e (.c (.d (D.sl (dI .i64 (List.take ch (List.drop (i * ch) l))) ch)))), (103, iV ↑ch), (104, iV ↑j), (105, .e (.c (.d (D.lit (.bool false)))))]) (g' := [(0, some (46, .ds [iD t, iD r, iD (gainV t r (runG t r ch g l i) ch (List.take ch (List.drop (i * ch) l)))])), (1, some (26, .ds [iD 0, D.lit (.slice none 0 0)])), (2, some (46, .ds [iD 0, iD 0, iD 0])), (3, some (26, .cs [iC ↑ch, .own 4 0 ((i * ch) + j) 1 true])), (4, some (21, .ds (dI .i32 ((runO t r ch g l i) ++ (outsV (gainV t r (runG t r ch g l i) ch (List.take ch (List.drop (i * ch) l))) j (List.take ch (List.drop (i * ch) l)))))))]) (nx' := 5) (by kernel_rfl) (by omega) ?_
          refine AW.seq ?_
          refine AW.cond_f (.tmp (Look.of rfl)) ?_
          refine AW.exit ?_
          refine AW.rg [.no, .no, .w, .no] [1, 2, 3, 6, 7, 11, 12] [0, 1, 2, 3, 4] (P := ((-9223372036854775808) ≤ ((((i : Nat) : Int) * ((ch : Nat) : Int)) + ((ch : Nat) : Int)) ∧ ((((i : Nat) : Int) * ((ch : Nat) : Int)) + ((ch : Nat) : Int)) ≤ 9223372036854775807)) (l' := [(1, iV ↑ch), (2, .e (.c (.d (D.sl (dI .i64 l) n)))), (3, rV 0 0), (6, rV 1 0), (7, rV 2 0), (11, rV 3 0), (12, iV ((↑i * ↑ch) + ↑ch))]) (g' := [(0, some (46, .ds [iD t, iD r, iD (gainV t r (runG t r ch g l i) ch (List.take ch (List.drop (i * ch) l)))])), (1, some (26, .ds [iD 0, D.lit (.slice none 0 0)])), (2, some (46, .ds [iD 0, iD 0, iD 0])), (3, some (26, .cs [iC ↑ch, .own 4 0 ((i * ch) + j) 1 true])), (4, some (21, .ds (dI .i32 ((runO t r ch g l i) ++ (outsV (gainV t r (runG t r ch g l i) ch (List.take ch (List.drop (i * ch) l))) j (List.take ch (List.drop (i * ch) l)))))))]) (nx' := 5) (by kernel_rfl) ⟨by omega, by omega⟩ ?_
          obtain rfl : ch = j := by omega
          exact Rd.of ⟨((i + 1) : Nat), (show ((i + 1) ≤ f) from (by first | omega | assumption | simp))⟩ [] (P := ((((ch : Nat) : Int) : Int) = ((ch : Nat) : Int)) ∧ (((dI .i64 l) : List D) = (dI .i64 l)) ∧ ((n : Nat) = n) ∧ ((0 : Nat) = 0) ∧ ((0 : Nat) = 0) ∧ ((0 : Nat) = 0) ∧ ((0 : Nat) = 0) ∧ ((((((i + 1) : Nat) : Int) * ((ch : Nat) : Int)) : Int) = ((((i : Nat) : Int) * ((ch : Nat) : Int)) + ((ch : Nat) : Int))) ∧ (([iD t, iD r, iD (runG t r ch g l (i + 1))] : List D) = [iD t, iD r, iD (gainV t r (runG t r ch g l i) ch (List.take ch (List.drop (i * ch) l)))]) ∧ (([iD 0, D.lit (.slice none 0 0)] : List D) = [iD 0, D.lit (.slice none 0 0)]) ∧ (([iD 0, iD 0, iD 0] : List D) = [iD 0, iD 0, iD 0]) ∧ ((((ch : Nat) : Int) : Int) = ((ch : Nat) : Int)) ∧ ((0 : Nat) = 0) ∧ ((((i + 1) * ch) : Nat) = ((i * ch) + ch)) ∧ (((dI .i32 (runO t r ch g l (i + 1))) : List D) = (dI .i32 ((runO t r ch g l i) ++ (outsV (gainV t r (runG t r ch g l i) ch (List.take ch (List.drop (i * ch) l))) ch (List.take ch (List.drop (i * ch) l))))))) (by kernel_rfl) ⟨rfl, rfl, rfl, rfl, rfl, rfl, rfl, (by first | rfl | omega | assumption | (simp; done) | (simp; omega)), (by first | rfl | (rw [Nat.zero_mul]; rfl) | (simp [runO]; done)), rfl, rfl, rfl, rfl, (by first | rfl | omega | assumption | (simp; done) | (simp; omega)), (by first | rfl | (rw [Nat.zero_mul]; rfl) | (simp [runO]; done))⟩ (show f - (i + 1) < f - i from (by first | omega | (show _ < _; simp; omega)))
    · refine AW.rgs [.no, .no, .no, .b false] [1, 2, 3, 6, 7, 11, 12, 66] [0, 1, 2, 3, 4] (P := (¬ ((((i : Nat) : Int) * ((ch : Nat) : Int)) < ((n : Nat) : Int)))) (l' := [(1, iV ↑ch), (2, .e (.c (.d (D.sl (dI .i64 l) n)))), (3, rV 0 0), (6, rV 1 0), (7, rV 2 0), (11, rV 3 0), (12, iV (↑i * ↑ch)), (66, .e (.c (.d (D.lit (.bool false)))))]) (g' := [(0, some (46, .ds [iD t, iD r, iD (runG t r ch g l i)])), (1, some (26, .ds [iD 0, D.lit (.slice none 0 0)])), (2, some (46, .ds [iD 0, iD 0, iD 0])), (3, some (26, .cs [iC ↑ch, .own 4 0 (i * ch) 1 true])), (4, some (21, .ds (dI .i32 (runO t r ch g l i))))]) (nx' := 5) (by kernel_rfl) (by omega) ?_
      refine AW.cond_f (.tmp (Look.of rfl)) ?_
      refine AW.exit ?_
      refine AW.rgs [.no, .no, .no, .no, .no] [6, 7, 8] [1, 2, 4] (P := True) (l' := [(6, rV 1 0), (7, rV 2 0), (8, iV 0)]) (g' := [(1, some (26, .cs [iC ↑ch, .own 4 0 (i * ch) 1 true])), (2, some (46, .ds [iD t, iD r, iD (runG t r ch g l i)])), (4, some (21, .ds (dI .i32 (runO t r ch g l i))))]) (nx' := 5) (by kernel_rfl) trivial ?_
      refine AW.ret ?_
      obtain rfl : f = i := by omega
      exact EndP.of (.inr rfl) [(0, 4)] (P := ((((ch : Nat) : Int) : Int) = ((ch : Nat) : Int)) ∧ ((0 : Nat) = 0) ∧ ((n : Nat) = (f * ch)) ∧ ((t : Int) = t) ∧ ((r : Int) = r) ∧ (((runG t r ch g l f) : Int) = (runG t r ch g l f)) ∧ ((0 : Int) = 0) ∧ (((dI .i32 (runO t r ch g l f)) : List D) = (dI .i32 (runO t r ch g l f)))) (by kernel_rfl) ⟨rfl, rfl, (by first | omega | rfl), rfl, rfl, rfl, rfl, rfl⟩

set_option maxHeartbeats 4000000 in
set_option maxRecDepth 100000 in
theorem G_LRun_n1 (t r g c : Int) (l : List Int) (n : Nat) (hr : limOk t r g = false) : Fun 32 [.agg [iC t, iC r, iC g], iE c, .c (.d (D.sl (dI .i64 l) n))] (toG []) 0 (.tup [.agg [iC 0, .d (D.lit (.slice none 0 0))], .agg [iC 0, iC 0, iC 0], iE 1]) (toG []) 0 := by
  refine Fun.mk (n := 46) Try.func32 rfl rfl (Nat.le_of_ble_eq_true rfl) ?_
  intro cx hcx
  refine AW.rgs [.no, .no, .no, .no] [1, 2, 3, 6, 7] [0, 1, 2] (P := True) (l' := [(1, iV c), (2, .e (.c (.d (D.sl (dI .i64 l) n)))), (3, rV 0 0), (6, rV 1 0), (7, rV 2 0)]) (g' := [(0, some (46, .ds [iD t, iD r, iD g])), (1, some (26, .ds [iD 0, D.lit (.slice none 0 0)])), (2, some (46, .ds [iD 0, iD 0, iD 0]))]) (nx' := 3) (by kernel_rfl) trivial ?_
  refine AW.seq ?_
  refine AW.rgs [.no, .call [] (.e (.c (.d (D.lit (.bool false))))) [] 0 [] none, .no] [1, 2, 3, 6, 7, 14] [0, 1, 2] (P := (Fun 36 [.agg [iC t, iC r, iC g]] (toG []) 0 (.e (.c (.d (D.lit (.bool false))))) (toG []) 0)) (l' := [(1, iV c), (2, .e (.c (.d (D.sl (dI .i64 l) n)))), (3, rV 0 0), (6, rV 1 0), (7, rV 2 0), (14, .e (.c (.d (D.lit (.bool true)))))]) (g' := [(0, some (46, .ds [iD t, iD r, iD g])), (1, some (26, .ds [iD 0, D.lit (.slice none 0 0)])), (2, some (46, .ds [iD 0, iD 0, iD 0]))]) (nx' := 3) (by kernel_rfl) (by have h0 := (G_LValid t r g); rw [hr] at h0; exact h0) ?_
  refine AW.cond_t (.tmp (Look.of rfl)) ?_
  refine AW.rgs [.no, .no, .no, .no, .no] [6, 7, 8] [1, 2] (P := True) (l' := [(6, rV 1 0), (7, rV 2 0), (8, iV 1)]) (g' := [(1, some (26, .ds [iD 0, D.lit (.slice none 0 0)])), (2, some (46, .ds [iD 0, iD 0, iD 0]))]) (nx' := 3) (by kernel_rfl) trivial ?_
  refine AW.ret ?_
  exact EndP.of (.inr rfl) [] (P := ((0 : Int) = 0) ∧ ((.slice none 0 0 : Value) = .slice none 0 0) ∧ ((0 : Int) = 0) ∧ ((0 : Int) = 0) ∧ ((0 : Int) = 0) ∧ ((1 : Int) = 1)) (by kernel_rfl) ⟨rfl, rfl, rfl, rfl, rfl, rfl⟩

set_option maxHeartbeats 4000000 in
set_option maxRecDepth 100000 in
theorem G_rLRun_n1 (t r g c : Int) (l : List Int) (n : Nat) (hr : limOk t r g = false) : Fun 33 [.agg [iC t, iC r, iC g], iE c, .c (.d (D.sl (dI .i64 l) n))] (toG []) 0 (.tup [.agg [iC 0, .d (D.lit (.slice none 0 0))], .agg [iC 0, iC 0, iC 0], iE 1]) (toG []) 0 := by
  refine Fun.mk (n := 128) Try.func33 rfl rfl (Nat.le_of_ble_eq_true rfl) ?_
  intro cx hcx
  refine AW.rgs [.no, .no, .no, .no] [1, 2, 3, 6, 7] [0, 1, 2] (P := True) (l' := [(1, iV c), (2, .e (.c (.d (D.sl (dI .i64 l) n)))), (3, rV 0 0), (6, rV 1 0), (7, rV 2 0)]) (g' := [(0, some (46, .ds [iD t, iD r, iD g])), (1, some (26, .ds [iD 0, D.lit (.slice none 0 0)])), (2, some (46, .ds [iD 0, iD 0, iD 0]))]) (nx' := 3) (by kernel_rfl) trivial ?_
  refine AW.seq ?_
  refine AW.rgs [.no, .call [] (.e (.c (.d (D.lit (.bool false))))) [] 0 [] none, .no] [1, 2, 3, 6, 7, 21] [0, 1, 2] (P := (Fun 37 [.agg [iC t, iC r, iC g]] (toG []) 0 (.e (.c (.d (D.lit (.bool false))))) (toG []) 0)) (l' := [(1, iV c), (2, .e (.c (.d (D.sl (dI .i64 l) n)))), (3, rV 0 0), (6, rV 1 0), (7, rV 2 0), (21, .e (.c (.d (D.lit (.bool true)))))]) (g' := [(0, some (46, .ds [iD t, iD r, iD g])), (1, some (26, .ds [iD 0, D.lit (.slice none 0 0)])), (2, some (46, .ds [iD 0, iD 0, iD 0]))]) (nx' := 3) (by kernel_rfl) (by have h0 := (G_rLValid t r g); rw [hr] at h0; exact h0) ?_
  refine AW.cond_t (.tmp (Look.of rfl)) ?_
  refine AW.rgs [.no, .no, .no, .no, .no] [6, 7, 8] [1, 2] (P := True) (l' := [(6, rV 1 0), (7, rV 2 0), (8, iV 1)]) (g' := [(1, some (26, .ds [iD 0, D.lit (.slice none 0 0)])), (2, some (46, .ds [iD 0, iD 0, iD 0]))]) (nx' := 3) (by kernel_rfl) trivial ?_
  refine AW.ret ?_
  exact EndP.of (.inr rfl) [] (P := ((0 : Int) = 0) ∧ ((.slice none 0 0 : Value) = .slice none 0 0) ∧ ((0 : Int) = 0) ∧ ((0 : Int) = 0) ∧ ((0 : Int) = 0) ∧ ((1 : Int) = 1)) (by kernel_rfl) ⟨rfl, rfl, rfl, rfl, rfl, rfl⟩

set_option maxHeartbeats 4000000 in
set_option maxRecDepth 100000 in
theorem G_LRun_n2 (t r g c : Int) (l : List Int) (n : Nat) (hn : List.length l = n) (hm : n ≤ 100000000000000) (hr : limOk t r g = true) (hb : fitB c l = false) : Fun 32 [.agg [iC t, iC r, iC g], iE c, .c (.d (D.sl (dI .i64 l) n))] (toG []) 0 (.tup [.agg [iC 0, .d (D.lit (.slice none 0 0))], .agg [iC 0, iC 0, iC 0], iE 2]) (toG []) 0 := by
  refine Fun.mk (n := 46) Try.func32 rfl rfl (Nat.le_of_ble_eq_true rfl) ?_
  intro cx hcx
  refine AW.rgs [.no, .no, .no, .no] [1, 2, 3, 6, 7] [0, 1, 2] (P := True) (l' := [(1, iV c), (2, .e (.c (.d (D.sl (dI .i64 l) n)))), (3, rV 0 0), (6, rV 1 0), (7, rV 2 0)]) (g' := [(0, some (46, .ds [iD t, iD r, iD g])), (1, some (26, .ds [iD 0, D.lit (.slice none 0 0)])), (2, some (46, .ds [iD 0, iD 0, iD 0]))]) (nx' := 3) (by kernel_rfl) trivial ?_
  refine AW.seq ?_
  refine AW.rgs [.no, .call [] (.e (.c (.d (D.lit (.bool true))))) [] 0 [] none, .no] [1, 2, 3, 6, 7, 14] [0, 1, 2] (P := (Fun 36 [.agg [iC t, iC r, iC g]] (toG []) 0 (.e (.c (.d (D.lit (.bool true))))) (toG []) 0)) (l' := [(1, iV c), (2, .e (.c (.d (D.sl (dI .i64 l) n)))), (3, rV 0 0), (6, rV 1 0), (7, rV 2 0), (14, .e (.c (.d (D.lit (.bool false)))))]) (g' := [(0, some (46, .ds [iD t, iD r, iD g])), (1, some (26, .ds [iD 0, D.lit (.slice none 0 0)])), (2, some (46, .ds [iD 0, iD 0, iD 0]))]) (nx' := 3) (by kernel_rfl) (by have h0 := (G_LValid t r g); rw [hr] at h0; exact h0) ?_
  refine AW.cond_f (.tmp (Look.of rfl)) ?_
  refine AW.skip ?_
  refine AW.seq ?_
  refine AW.rgs [.no, .no, .call [] (.e (.c (.d (D.lit (.bool false))))) [] 0 [] none, .no] [1, 2, 3, 6, 7, 20] [0, 1, 2] (P := (Fun 101 [iE c, .c (.d (D.sl (dI .i64 l) n))] (toG []) 0 (.e (.c (.d (D.lit (.bool false))))) (toG []) 0)) (l' := [(1, iV c), (2, .e (.c (.d (D.sl (dI .i64 l) n)))), (3, rV 0 0), (6, rV 1 0), (7, rV 2 0), (20, .e (.c (.d (D.lit (.bool true)))))]) (g' := [(0, some (46, .ds [iD t, iD r, iD g])), (1, some (26, .ds [iD 0, D.lit (.slice none 0 0)])), (2, some (46, .ds [iD 0, iD 0, iD 0]))]) (nx' := 3) (by kernel_rfl) (by have h0 := (G_fits c l n (by omega) (by omega)); rw [hb] at h0; exact h0) ?_
  refine AW.cond_t (.tmp (Look.of rfl)) ?_
  refine AW.rgs [.no, .no, .no, .no, .no] [6, 7, 8] [1, 2] (P := True) (l' := [(6, rV 1 0), (7, rV 2 0), (8, iV 2)]) (g' := [(1, some (26, .ds [iD 0, D.lit (.slice none 0 0)])), (2, some (46, .ds [iD 0, iD 0, iD 0]))]) (nx' := 3) (by kernel_rfl) trivial ?_
  refine AW.ret ?_
  exact EndP.of (.inr rfl) [] (P := ((0 : Int) = 0) ∧ ((.slice none 0 0 : Value) = .slice none 0 0) ∧ ((0 : Int) = 0) ∧ ((0 : Int) = 0) ∧ ((0 : Int) = 0) ∧ ((2 : Int) = 2)) (by kernel_rfl) ⟨rfl, rfl, rfl, rfl, rfl, rfl⟩

set_option maxHeartbeats 4000000 in
set_option maxRecDepth 100000 in
theorem G_rLRun_na (t r g c : Int) (l : List Int) (n : Nat) (hn : List.length l = n) (hm : n ≤ 100000000000000) (hr : limOk t r g = true) (hb : ¬ (1 ≤ c ∧ c ≤ 8 ∧ (n : Int) % c = 0 ∧ (n : Int) / c ≤ 65536)) : Fun 33 [.agg [iC t, iC r, iC g], iE c, .c (.d (D.sl (dI .i64 l) n))] (toG []) 0 (.tup [.agg [iC 0, .d (D.lit (.slice none 0 0))], .agg [iC 0, iC 0, iC 0], iE 2]) (toG []) 0 := by
  refine Fun.mk (n := 128) Try.func33 rfl rfl (Nat.le_of_ble_eq_true rfl) ?_
  intro cx hcx
  refine AW.rgs [.no, .no, .no, .no] [1, 2, 3, 6, 7] [0, 1, 2] (P := True) (l' := [(1, iV c), (2, .e (.c (.d (D.sl (dI .i64 l) n)))), (3, rV 0 0), (6, rV 1 0), (7, rV 2 0)]) (g' := [(0, some (46, .ds [iD t, iD r, iD g])), (1, some (26, .ds [iD 0, D.lit (.slice none 0 0)])), (2, some (46, .ds [iD 0, iD 0, iD 0]))]) (nx' := 3) (by kernel_rfl) trivial ?_
  refine AW.seq ?_
  refine AW.rgs [.no, .call [] (.e (.c (.d (D.lit (.bool true))))) [] 0 [] none, .no] [1, 2, 3, 6, 7, 21] [0, 1, 2] (P := (Fun 37 [.agg [iC t, iC r, iC g]] (toG []) 0 (.e (.c (.d (D.lit (.bool true))))) (toG []) 0)) (l' := [(1, iV c), (2, .e (.c (.d (D.sl (dI .i64 l) n)))), (3, rV 0 0), (6, rV 1 0), (7, rV 2 0), (21, .e (.c (.d (D.lit (.bool false)))))]) (g' := [(0, some (46, .ds [iD t, iD r, iD g])), (1, some (26, .ds [iD 0, D.lit (.slice none 0 0)])), (2, some (46, .ds [iD 0, iD 0, iD 0]))]) (nx' := 3) (by kernel_rfl) (by have h0 := (G_rLValid t r g); rw [hr] at h0; exact h0) ?_
  refine AW.cond_f (.tmp (Look.of rfl)) ?_
  refine AW.skip ?_
  refine AW.seq ?_
  by_cases hx1 : (c < 1)
  · refine AW.rgs [.no, .b true, .no, .no, .no, .no, .no, .no] [1, 2, 3, 6, 7, 43] [0, 1, 2] (P := ((c < 1))) (l' := [(1, iV c), (2, .e (.c (.d (D.sl (dI .i64 l) n)))), (3, rV 0 0), (6, rV 1 0), (7, rV 2 0), (43, .e (.c (.d (D.lit (.bool true)))))]) (g' := [(0, some (46, .ds [iD t, iD r, iD g])), (1, some (26, .ds [iD 0, D.lit (.slice none 0 0)])), (2, some (46, .ds [iD 0, iD 0, iD 0]))]) (nx' := 3) (by kernel_rfl) (by omega) ?_
    refine AW.cond_t (.tmp (Look.of rfl)) ?_
    refine AW.rgs [.no, .no, .no, .no, .no] [6, 7, 8] [1, 2] (P := True) (l' := [(6, rV 1 0), (7, rV 2 0), (8, iV 2)]) (g' := [(1, some (26, .ds [iD 0, D.lit (.slice none 0 0)])), (2, some (46, .ds [iD 0, iD 0, iD 0]))]) (nx' := 3) (by kernel_rfl) trivial ?_
    refine AW.ret ?_
    exact EndP.of (.inr rfl) [] (P := ((0 : Int) = 0) ∧ ((.slice none 0 0 : Value) = .slice none 0 0) ∧ ((0 : Int) = 0) ∧ ((0 : Int) = 0) ∧ ((0 : Int) = 0) ∧ ((2 : Int) = 2)) (by kernel_rfl) ⟨rfl, rfl, rfl, rfl, rfl, rfl⟩
  · by_cases hx2 : ((8 : Int) < c)
    · refine AW.rgs [.no, .b false, .no, .no, .b true, .no, .no, .no, .no, .no] [1, 2, 3, 6, 7, 43] [0, 1, 2] (P := (¬ (c < 1)) ∧ (((8 : Int) < c))) (l' := [(1, iV c), (2, .e (.c (.d (D.sl (dI .i64 l) n)))), (3, rV 0 0), (6, rV 1 0), (7, rV 2 0), (43, .e (.c (.d (D.lit (.bool true)))))]) (g' := [(0, some (46, .ds [iD t, iD r, iD g])), (1, some (26, .ds [iD 0, D.lit (.slice none 0 0)])), (2, some (46, .ds [iD 0, iD 0, iD 0]))]) (nx' := 3) (by kernel_rfl) ⟨(by omega), (by omega)⟩ ?_
      refine AW.cond_t (.tmp (Look.of rfl)) ?_
      refine AW.rgs [.no, .no, .no, .no, .no] [6, 7, 8] [1, 2] (P := True) (l' := [(6, rV 1 0), (7, rV 2 0), (8, iV 2)]) (g' := [(1, some (26, .ds [iD 0, D.lit (.slice none 0 0)])), (2, some (46, .ds [iD 0, iD 0, iD 0]))]) (nx' := 3) (by kernel_rfl) trivial ?_
      refine AW.ret ?_
      exact EndP.of (.inr rfl) [] (P := ((0 : Int) = 0) ∧ ((.slice none 0 0 : Value) = .slice none 0 0) ∧ ((0 : Int) = 0) ∧ ((0 : Int) = 0) ∧ ((0 : Int) = 0) ∧ ((2 : Int) = 2)) (by kernel_rfl) ⟨rfl, rfl, rfl, rfl, rfl, rfl⟩
    · by_cases hx3 : ((((n : Nat) : Int) % c) ≠ 0)
      · refine AW.rgs [.no, .b false, .no, .no, .b false, .no, .no, .no, .no, .no, .ps, .b true, .no, .no, .no] [1, 2, 3, 6, 7, 43] [0, 1, 2] (P := (¬ (c < 1)) ∧ (¬ ((8 : Int) < c)) ∧ ((0 : Int) ≤ (((n : Nat) : Int) : Int)) ∧ ((0 : Int) < (c : Int)) ∧ (((((n : Nat) : Int) % c) ≠ 0))) (l' := [(1, iV c), (2, .e (.c (.d (D.sl (dI .i64 l) n)))), (3, rV 0 0), (6, rV 1 0), (7, rV 2 0), (43, .e (.c (.d (D.lit (.bool true)))))]) (g' := [(0, some (46, .ds [iD t, iD r, iD g])), (1, some (26, .ds [iD 0, D.lit (.slice none 0 0)])), (2, some (46, .ds [iD 0, iD 0, iD 0]))]) (nx' := 3) (by kernel_rfl) ⟨(by omega), (by omega), (by omega), (by omega), (by omega)⟩ ?_
        refine AW.cond_t (.tmp (Look.of rfl)) ?_
        refine AW.rgs [.no, .no, .no, .no, .no] [6, 7, 8] [1, 2] (P := True) (l' := [(6, rV 1 0), (7, rV 2 0), (8, iV 2)]) (g' := [(1, some (26, .ds [iD 0, D.lit (.slice none 0 0)])), (2, some (46, .ds [iD 0, iD 0, iD 0]))]) (nx' := 3) (by kernel_rfl) trivial ?_
        refine AW.ret ?_
        exact EndP.of (.inr rfl) [] (P := ((0 : Int) = 0) ∧ ((.slice none 0 0 : Value) = .slice none 0 0) ∧ ((0 : Int) = 0) ∧ ((0 : Int) = 0) ∧ ((0 : Int) = 0) ∧ ((2 : Int) = 2)) (by kernel_rfl) ⟨rfl, rfl, rfl, rfl, rfl, rfl⟩
      · refine AW.rgs [.no, .b false, .no, .no, .b false, .no, .no, .no, .no, .no, .ps, .b false, .no, .no, .no, .no, .no, .ps, .b true, .no] [1, 2, 3, 6, 7, 43] [0, 1, 2] (P := (¬ (c < 1)) ∧ (¬ ((8 : Int) < c)) ∧ ((0 : Int) ≤ (((n : Nat) : Int) : Int)) ∧ ((0 : Int) < (c : Int)) ∧ (¬ ((((n : Nat) : Int) % c) ≠ 0)) ∧ ((0 : Int) ≤ (((n : Nat) : Int) : Int)) ∧ ((0 : Int) < (c : Int)) ∧ ((-9223372036854775808) ≤ ((n : Nat) : Int) ∧ ((n : Nat) : Int) ≤ 9223372036854775807) ∧ (((65536 : Int) < (((n : Nat) : Int) / c)))) (l' := [(1, iV c), (2, .e (.c (.d (D.sl (dI .i64 l) n)))), (3, rV 0 0), (6, rV 1 0), (7, rV 2 0), (43, .e (.c (.d (D.lit (.bool true)))))]) (g' := [(0, some (46, .ds [iD t, iD r, iD g])), (1, some (26, .ds [iD 0, D.lit (.slice none 0 0)])), (2, some (46, .ds [iD 0, iD 0, iD 0]))]) (nx' := 3) (by kernel_rfl) ⟨(by omega), (by omega), (by omega), (by omega), (by omega), (by omega), (by omega), ⟨by omega, by omega⟩, (by omega)⟩ ?_
        refine AW.cond_t (.tmp (Look.of rfl)) ?_
        refine AW.rgs [.no, .no, .no, .no, .no] [6, 7, 8] [1, 2] (P := True) (l' := [(6, rV 1 0), (7, rV 2 0), (8, iV 2)]) (g' := [(1, some (26, .ds [iD 0, D.lit (.slice none 0 0)])), (2, some (46, .ds [iD 0, iD 0, iD 0]))]) (nx' := 3) (by kernel_rfl) trivial ?_
        refine AW.ret ?_
        exact EndP.of (.inr rfl) [] (P := ((0 : Int) = 0) ∧ ((.slice none 0 0 : Value) = .slice none 0 0) ∧ ((0 : Int) = 0) ∧ ((0 : Int) = 0) ∧ ((0 : Int) = 0) ∧ ((2 : Int) = 2)) (by kernel_rfl) ⟨rfl, rfl, rfl, rfl, rfl, rfl⟩

set_option maxHeartbeats 4000000 in
set_option maxRecDepth 100000 in
theorem G_rLRun_nb (t r g c : Int) (l : List Int) (n : Nat) (k0 : Nat) (hn : List.length l = n) (hm : n ≤ 100000000000000) (hr : limOk t r g = true) (hb : 1 ≤ c ∧ c ≤ 8 ∧ (n : Int) % c = 0 ∧ (n : Int) / c ≤ 65536) (hk0 : k0 < n) (hx0 : ¬ (-1099511627776 ≤ List.getD l k0 0 ∧ List.getD l k0 0 ≤ 1099511627776)) : Fun 33 [.agg [iC t, iC r, iC g], iE c, .c (.d (D.sl (dI .i64 l) n))] (toG []) 0 (.tup [.agg [iC 0, .d (D.lit (.slice none 0 0))], .agg [iC 0, iC 0, iC 0], iE 2]) (toG []) 0 := by
  refine Fun.mk (n := 128) Try.func33 rfl rfl (Nat.le_of_ble_eq_true rfl) ?_
  intro cx hcx
  refine AW.rgs [.no, .no, .no, .no] [1, 2, 3, 6, 7] [0, 1, 2] (P := True) (l' := [(1, iV c), (2, .e (.c (.d (D.sl (dI .i64 l) n)))), (3, rV 0 0), (6, rV 1 0), (7, rV 2 0)]) (g' := [(0, some (46, .ds [iD t, iD r, iD g])), (1, some (26, .ds [iD 0, D.lit (.slice none 0 0)])), (2, some (46, .ds [iD 0, iD 0, iD 0]))]) (nx' := 3) (by kernel_rfl) trivial ?_
  refine AW.seq ?_
  refine AW.rgs [.no, .call [] (.e (.c (.d (D.lit (.bool true))))) [] 0 [] none, .no] [1, 2, 3, 6, 7, 21] [0, 1, 2] (P := (Fun 37 [.agg [iC t, iC r, iC g]] (toG []) 0 (.e (.c (.d (D.lit (.bool true))))) (toG []) 0)) (l' := [(1, iV c), (2, .e (.c (.d (D.sl (dI .i64 l) n)))), (3, rV 0 0), (6, rV 1 0), (7, rV 2 0), (21, .e (.c (.d (D.lit (.bool false)))))]) (g' := [(0, some (46, .ds [iD t, iD r, iD g])), (1, some (26, .ds [iD 0, D.lit (.slice none 0 0)])), (2, some (46, .ds [iD 0, iD 0, iD 0]))]) (nx' := 3) (by kernel_rfl) (by have h0 := (G_rLValid t r g); rw [hr] at h0; exact h0) ?_
  refine AW.cond_f (.tmp (Look.of rfl)) ?_
  refine AW.skip ?_
  refine AW.seq ?_
  refine AW.rgs [.no, .b false, .no, .no, .b false, .no, .no, .no, .no, .no, .ps, .b false, .no, .no, .no, .no, .no, .ps, .b false, .no] [1, 2, 3, 6, 7, 43] [0, 1, 2] (P := (¬ (c < 1)) ∧ (¬ ((8 : Int) < c)) ∧ ((0 : Int) ≤ (((n : Nat) : Int) : Int)) ∧ ((0 : Int) < (c : Int)) ∧ (¬ ((((n : Nat) : Int) % c) ≠ 0)) ∧ ((0 : Int) ≤ (((n : Nat) : Int) : Int)) ∧ ((0 : Int) < (c : Int)) ∧ ((-9223372036854775808) ≤ ((n : Nat) : Int) ∧ ((n : Nat) : Int) ≤ 9223372036854775807) ∧ (¬ ((65536 : Int) < (((n : Nat) : Int) / c)))) (l' := [(1, iV c), (2, .e (.c (.d (D.sl (dI .i64 l) n)))), (3, rV 0 0), (6, rV 1 0), (7, rV 2 0), (43, .e (.c (.d (D.lit (.bool false)))))]) (g' := [(0, some (46, .ds [iD t, iD r, iD g])), (1, some (26, .ds [iD 0, D.lit (.slice none 0 0)])), (2, some (46, .ds [iD 0, iD 0, iD 0]))]) (nx' := 3) (by kernel_rfl) ⟨(by omega), (by omega), (by omega), (by omega), (by omega), (by omega), (by omega), ⟨by omega, by omega⟩, (by omega)⟩ ?_
  refine AW.cond_f (.tmp (Look.of rfl)) ?_
  refine AW.skip ?_
  refine AW.seq ?_
  refine AW.rgs [.no, .no, .no] [1, 2, 3, 6, 7, 46, 47, 48] [0, 1, 2] (P := True) (l' := [(1, iV c), (2, .e (.c (.d (D.sl (dI .i64 l) n)))), (3, rV 0 0), (6, rV 1 0), (7, rV 2 0), (46, .e (.c (.d (D.sl (dI .i64 l) n)))), (47, iV ↑n), (48, iV 0)]) (g' := [(0, some (46, .ds [iD t, iD r, iD g])), (1, some (26, .ds [iD 0, D.lit (.slice none 0 0)])), (2, some (46, .ds [iD 0, iD 0, iD 0]))]) (nx' := 3) (by kernel_rfl) trivial ?_
  refine AW.block ?_
  refine AW.loopE 0 hcx (fun (x : {x : Nat // match x with | k => (k ≤ k0)}) => match x with | ⟨k, _⟩ => (⟨[(1, iV c), (2, .e (.c (.d (D.sl (dI .i64 l) n)))), (3, rV 0 0), (6, rV 1 0), (7, rV 2 0), (46, .e (.c (.d (D.sl (dI .i64 l) n)))), (47, iV ((n : Nat) : Int)), (48, iV ((k : Nat) : Int))], [(0, some (46, .ds [iD t, iD r, iD g])), (1, some (26, .ds [iD 0, D.lit (.slice none 0 0)])), (2, some (46, .ds [iD 0, iD 0, iD 0]))], 3⟩ : ES)) (fun (x : {x : Nat // match x with | k => (k ≤ k0)}) => match x with | ⟨k, _⟩ => n - k) ⟨(0 : Nat), (show ((0 : Nat) ≤ k0) from (by first | omega | assumption | simp))⟩ [] (P := ((c : Int) = c) ∧ (((dI .i64 l) : List D) = (dI .i64 l)) ∧ ((n : Nat) = n) ∧ ((0 : Nat) = 0) ∧ ((0 : Nat) = 0) ∧ ((0 : Nat) = 0) ∧ (((dI .i64 l) : List D) = (dI .i64 l)) ∧ ((n : Nat) = n) ∧ ((((n : Nat) : Int) : Int) = ((n : Nat) : Int)) ∧ ((0 : Int) = 0) ∧ (([iD t, iD r, iD g] : List D) = [iD t, iD r, iD g]) ∧ (([iD 0, D.lit (.slice none 0 0)] : List D) = [iD 0, D.lit (.slice none 0 0)]) ∧ (([iD 0, iD 0, iD 0] : List D) = [iD 0, iD 0, iD 0])) (by kernel_rfl) ⟨rfl, rfl, rfl, rfl, rfl, rfl, rfl, rfl, rfl, rfl, rfl, rfl, rfl⟩ ?_
  rintro ⟨k, hinv0⟩
  have hk : (k ≤ k0) := hinv0
  refine AW.es (l := [(1, iV c), (2, .e (.c (.d (D.sl (dI .i64 l) n)))), (3, rV 0 0), (6, rV 1 0), (7, rV 2 0), (46, .e (.c (.d (D.sl (dI .i64 l) n)))), (47, iV ((n : Nat) : Int)), (48, iV ((k : Nat) : Int))]) (g := [(0, some (46, .ds [iD t, iD r, iD g])), (1, some (26, .ds [iD 0, D.lit (.slice none 0 0)])), (2, some (46, .ds [iD 0, iD 0, iD 0]))]) (nx := 3) rfl rfl rfl ?_
  refine AW.rgs [.b true] [1, 2, 3, 6, 7, 46, 47, 48, 49] [0, 1, 2] (P := ((((k : Nat) : Int) < ((n : Nat) : Int)))) (l' := [(1, iV c), (2, .e (.c (.d (D.sl (dI .i64 l) n)))), (3, rV 0 0), (6, rV 1 0), (7, rV 2 0), (46, .e (.c (.d (D.sl (dI .i64 l) n)))), (47, iV ↑n), (48, iV ↑k), (49, .e (.c (.d (D.lit (.bool true)))))]) (g' := [(0, some (46, .ds [iD t, iD r, iD g])), (1, some (26, .ds [iD 0, D.lit (.slice none 0 0)])), (2, some (46, .ds [iD 0, iD 0, iD 0]))]) (nx' := 3) (by kernel_rfl) (by omega) ?_
  refine AW.seq ?_
  refine AW.cond_t (.tmp (Look.of rfl)) ?_
  refine AW.skip ?_
  refine AW.seq ?_
  refine AW.block ?_
  have hx1 : ¬ k = k0 ∨ ¬ (-1099511627776 ≤ (List.getD l k 0) ∧ (List.getD l k 0) ≤ 1099511627776) := ((Classical.em ((k : Nat) = k0)).elim (fun h9 => .inr (by rw [h9]; exact hx0)) (fun h9 => .inl h9))
  refine AW.rgs [.n k, .d (D.lit (.int .i64 (List.getD l k 0))), .no] [1, 2, 3, 6, 7, 10, 46, 47, 48] [0, 1, 2] (P := ((((k : Nat) : Int) : Int) = ((k : Nat) : Int)) ∧ (k < n) ∧ ((List.drop k (dI .i64 l))[0]? = some (D.lit (.int .i64 (List.getD l k 0))))) (l' := [(1, iV c), (2, .e (.c (.d (D.sl (dI .i64 l) n)))), (3, rV 0 0), (6, rV 1 0), (7, rV 2 0), (10, iV (List.getD l k 0)), (46, .e (.c (.d (D.sl (dI .i64 l) n)))), (47, iV ↑n), (48, iV ↑k)]) (g' := [(0, some (46, .ds [iD t, iD r, iD g])), (1, some (26, .ds [iD 0, D.lit (.slice none 0 0)])), (2, some (46, .ds [iD 0, iD 0, iD 0]))]) (nx' := 3) (by kernel_rfl) ⟨rfl, (by omega), (dI_at _ _ _ (by first | omega | (rw [dI_len]; omega) | (simp [dI_len] <;> omega) | rfl))⟩ ?_
  by_cases hx2 : ((1099511627776 : Int) < (List.getD l k 0))
  · refine AW.rgs [.no, .b true, .no, .no] [1, 2, 3, 6, 7, 46, 47, 48, 57] [0, 1, 2] (P := (((1099511627776 : Int) < (List.getD l k 0)))) (l' := [(1, iV c), (2, .e (.c (.d (D.sl (dI .i64 l) n)))), (3, rV 0 0), (6, rV 1 0), (7, rV 2 0), (46, .e (.c (.d (D.sl (dI .i64 l) n)))), (47, iV ↑n), (48, iV ↑k), (57, .e (.c (.d (D.lit (.bool true)))))]) (g' := [(0, some (46, .ds [iD t, iD r, iD g])), (1, some (26, .ds [iD 0, D.lit (.slice none 0 0)])), (2, some (46, .ds [iD 0, iD 0, iD 0]))]) (nx' := 3) (by kernel_rfl) (by omega) ?_
    refine AW.cond_t (.tmp (Look.of rfl)) ?_
    refine AW.rgs [.no, .no, .no, .no, .no] [6, 7, 8] [1, 2] (P := True) (l' := [(6, rV 1 0), (7, rV 2 0), (8, iV 2)]) (g' := [(1, some (26, .ds [iD 0, D.lit (.slice none 0 0)])), (2, some (46, .ds [iD 0, iD 0, iD 0]))]) (nx' := 3) (by kernel_rfl) trivial ?_
    refine AW.ret ?_
    exact EndP.of (.inr rfl) [] (P := ((0 : Int) = 0) ∧ ((.slice none 0 0 : Value) = .slice none 0 0) ∧ ((0 : Int) = 0) ∧ ((0 : Int) = 0) ∧ ((0 : Int) = 0) ∧ ((2 : Int) = 2)) (by kernel_rfl) ⟨rfl, rfl, rfl, rfl, rfl, rfl⟩
  · by_cases hx3 : ((List.getD l k 0) < (-1099511627776))
    · refine AW.rgs [.no, .b false, .no, .no, .b true, .no] [1, 2, 3, 6, 7, 46, 47, 48, 57] [0, 1, 2] (P := (¬ ((1099511627776 : Int) < (List.getD l k 0))) ∧ (((List.getD l k 0) < (-1099511627776)))) (l' := [(1, iV c), (2, .e (.c (.d (D.sl (dI .i64 l) n)))), (3, rV 0 0), (6, rV 1 0), (7, rV 2 0), (46, .e (.c (.d (D.sl (dI .i64 l) n)))), (47, iV ↑n), (48, iV ↑k), (57, .e (.c (.d (D.lit (.bool true)))))]) (g' := [(0, some (46, .ds [iD t, iD r, iD g])), (1, some (26, .ds [iD 0, D.lit (.slice none 0 0)])), (2, some (46, .ds [iD 0, iD 0, iD 0]))]) (nx' := 3) (by kernel_rfl) ⟨(by omega), (by omega)⟩ ?_
      refine AW.cond_t (.tmp (Look.of rfl)) ?_
      refine AW.rgs [.no, .no, .no, .no, .no] [6, 7, 8] [1, 2] (P := True) (l' := [(6, rV 1 0), (7, rV 2 0), (8, iV 2)]) (g' := [(1, some (26, .ds [iD 0, D.lit (.slice none 0 0)])), (2, some (46, .ds [iD 0, iD 0, iD 0]))]) (nx' := 3) (by kernel_rfl) trivial ?_
      refine AW.ret ?_
      exact EndP.of (.inr rfl) [] (P := ((0 : Int) = 0) ∧ ((.slice none 0 0 : Value) = .slice none 0 0) ∧ ((0 : Int) = 0) ∧ ((0 : Int) = 0) ∧ ((0 : Int) = 0) ∧ ((2 : Int) = 2)) (by kernel_rfl) ⟨rfl, rfl, rfl, rfl, rfl, rfl⟩
    · refine AW.rgs [.no, .b false, .no, .no, .b false, .no] [1, 2, 3, 6, 7, 46, 47, 48, 57] [0, 1, 2] (P := (¬ ((1099511627776 : Int) < (List.getD l k 0))) ∧ (¬ ((List.getD l k 0) < (-1099511627776)))) (l' := [(1, iV c), (2, .e (.c (.d (D.sl (dI .i64 l) n)))), (3, rV 0 0), (6, rV 1 0), (7, rV 2 0), (46, .e (.c (.d (D.sl (dI .i64 l) n)))), (47, iV ↑n), (48, iV ↑k), (57, .e (.c (.d (D.lit (.bool false)))))]) (g' := [(0, some (46, .ds [iD t, iD r, iD g])), (1, some (26, .ds [iD 0, D.lit (.slice none 0 0)])), (2, some (46, .ds [iD 0, iD 0, iD 0]))]) (nx' := 3) (by kernel_rfl) ⟨(by omega), (by omega)⟩ ?_
      refine AW.cond_f (.tmp (Look.of rfl)) ?_
      refine AW.skip ?_
      refine AW.rg [.w, .no] [1, 2, 3, 6, 7, 46, 47, 48] [0, 1, 2] (P := ((-9223372036854775808) ≤ (((k : Nat) : Int) + 1) ∧ (((k : Nat) : Int) + 1) ≤ 9223372036854775807)) (l' := [(1, iV c), (2, .e (.c (.d (D.sl (dI .i64 l) n)))), (3, rV 0 0), (6, rV 1 0), (7, rV 2 0), (46, .e (.c (.d (D.sl (dI .i64 l) n)))), (47, iV ↑n), (48, iV (↑k + 1))]) (g' := [(0, some (46, .ds [iD t, iD r, iD g])), (1, some (26, .ds [iD 0, D.lit (.slice none 0 0)])), (2, some (46, .ds [iD 0, iD 0, iD 0]))]) (nx' := 3) (by kernel_rfl) ⟨by omega, by omega⟩ ?_
      exact Rd.of ⟨((k + 1) : Nat), (show ((k + 1) ≤ k0) from (by first | omega | assumption | simp))⟩ [] (P := ((c : Int) = c) ∧ (((dI .i64 l) : List D) = (dI .i64 l)) ∧ ((n : Nat) = n) ∧ ((0 : Nat) = 0) ∧ ((0 : Nat) = 0) ∧ ((0 : Nat) = 0) ∧ (((dI .i64 l) : List D) = (dI .i64 l)) ∧ ((n : Nat) = n) ∧ ((((n : Nat) : Int) : Int) = ((n : Nat) : Int)) ∧ (((((k + 1) : Nat) : Int) : Int) = (((k : Nat) : Int) + 1)) ∧ (([iD t, iD r, iD g] : List D) = [iD t, iD r, iD g]) ∧ (([iD 0, D.lit (.slice none 0 0)] : List D) = [iD 0, D.lit (.slice none 0 0)]) ∧ (([iD 0, iD 0, iD 0] : List D) = [iD 0, iD 0, iD 0])) (by kernel_rfl) ⟨rfl, rfl, rfl, rfl, rfl, rfl, rfl, rfl, rfl, (by first | rfl | omega | assumption | (simp; done) | (simp; omega)), rfl, rfl, rfl⟩ (show n - (k + 1) < n - k from (by first | omega | (show _ < _; simp; omega)))

theorem G_rLRun_n2 (t r g c : Int) (l : List Int) (n : Nat) (hn : List.length l = n) (hm : n ≤ 100000000000000) (hr : limOk t r g = true) (hb : fitB c l = false) : Fun 33 [.agg [iC t, iC r, iC g], iE c, .c (.d (D.sl (dI .i64 l) n))] (toG []) 0 (.tup [.agg [iC 0, .d (D.lit (.slice none 0 0))], .agg [iC 0, iC 0, iC 0], iE 2]) (toG []) 0 := by
  rcases fitB_no hb with h | ⟨h, k0, h1, h2⟩
  · exact G_rLRun_na t r g c l n hn hm hr (by rw [hn] at h; exact h)
  · exact G_rLRun_nb t r g c l n k0 hn hm hr (by rw [hn] at h; exact h) (by omega) h2
end Go.Proofs.Ytnmenoocpbdekaa
