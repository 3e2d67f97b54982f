/- Laws of conversion. No statement is proved here. -/
import Derived.Test.YtigiolfloefjnaaDoorZL16M
namespace Go.Proofs.YtigiolfloefjnaaDoor
open Go.ChangeShapes Go.WideShapes Go.ChangeAt Go.RowKit
set_option linter.unusedVariables false
set_option linter.unusedSimpArgs false
set_option maxHeartbeats 4000000
set_option maxRecDepth 100000
def pcL (ch : Nat) (l : List Int) (f t : Nat) : List Int := List.take (t * ch - f * ch) (List.drop (f * ch) l)
theorem mv_add (f s : Int) (k j : Nat) : mvV f s (k + j) = mvV f s k + ((j : Nat) : Int) * s := by
 unfold mvV; rw [Int.natCast_add, Int.add_mul]; omega
theorem mv_sh {f s P : Int} (hP : 0 < P) (k j : Nat) : mvV f s (k + j) = mvV f s k / P * P + mvV (mvV f s k % P) s j := by
 have h := Int.mul_ediv_add_emod (mvV f s k) P
 rw [Int.mul_comm] at h
 rw [mv_add]
 show _ = _ + (mvV f s k % P + ((j : Nat) : Int) * s)
 omega
theorem mv_q {f s P : Int} (hP : 0 < P) (k j : Nat) : mvV f s (k + j) / P = mvV f s k / P + mvV (mvV f s k % P) s j / P ∧ mvV f s (k + j) % P = mvV (mvV f s k % P) s j % P := by
 rw [mv_sh hP k j]
 refine ⟨?_, ?_⟩
 ·rw [Int.add_comm, Int.add_mul_ediv_right _ _ (by omega), Int.add_comm]
 ·rw [Int.add_comm, Int.add_mul_emod_self_right]
theorem need_sh {f s P : Int} (hP : 0 < P) (k : Nat) {j : Nat} (hj : ¬ j = 0) : needV f s P (k + j) = mvV f s k / P + needV (mvV f s k % P) s P j := by
 rw [needV_s _ _ _ (show ¬ k + j = 0 by omega), needV_s _ _ _ hj, show k + j - 1 = k + (j - 1) by omega, (mv_q hP k (j - 1)).1, (mv_q hP k j).1]
 omega
theorem k_small {n d a p f : Int} (h : PhV n d a p f) (hd : d ≤ 50 * n) {k : Nat} {x : Int} (hx : x ≤ 100) (hk : k = 0 ∨ needV f (stp n a) (d * 65536) k ≤ x) : k ≤ 5500 := by
 have hb := h.b
 have hs1 : n * 61440 ≤ stp n a := by
  unfold stp
  exact Int.mul_le_mul_of_nonneg_left (by omega) (by omega)
 apply Nat.le_of_not_lt
 intro hk9
 rcases hk with hk | hk
 ·omega
 ·rw [needV_s _ _ _ (by omega)] at hk
  have h1 : mvV f (stp n a) (k - 1) / (d * 65536) < 99 := by omega
  rw [Int.ediv_lt_iff_lt_mul (by omega)] at h1
  have h2 : 5500 * stp n a ≤ ((k - 1 : Nat) : Int) * stp n a := Int.mul_le_mul_of_nonneg_right (by omega) (by omega)
  unfold mvV at h1
  omega
theorem mv_need {f s P : Int} (hf : 0 ≤ f ∧ f < P) (hs : 0 ≤ s) {k x : Nat} (hk : k = 0 ∨ needV f s P k ≤ ((x : Nat) : Int)) : 0 ≤ mvV f s k / P ∧ mvV f s k / P ≤ ((x : Nat) : Int) := by
 refine ⟨Int.ediv_nonneg (by unfold mvV; have := Int.mul_nonneg (show (0 : Int) ≤ ((k : Nat) : Int) by omega) hs; omega) zo, ?_⟩
 rcases hk with hk | hk
 ·subst hk
  rw [mv_0, Int.ediv_eq_zero_of_lt hf.1 hf.2]; omega
 ·have := cv_pos hf hs k
  omega
theorem fr_dt {ch L W' G i : Nat} {l : List Int} (h : G + i + 1 ≤ L) (hW : W' = L - G) : frV ch W' (List.drop (G * ch) (List.take (L * ch) l)) i = List.take ch (List.drop ((G + i) * ch) l) := by
 unfold frV
 have e1 : (G + i + 1) * ch ≤ L * ch := Nat.mul_le_mul_right _ h
 rw [show min i (W' - 1) = i by omega, List.drop_drop, ← Nat.add_mul, List.drop_take, List.take_take]
 rw [Nat.succ_mul] at e1
 rw [Nat.min_eq_left (by omega)]
theorem pr_sh {f s P : Int} (hf : 0 ≤ f ∧ f < P) (hs : 0 ≤ s) {ch L M W' G : Nat} {l : List Int} (hM : M ≤ L) {k : Nat} (hG : mvV f s k / P = ((G : Nat) : Int)) (hW : W' = M - G) : ∀ j, (j = 0 ∨ needV (mvV f s k % P) s P j ≤ ((W' : Nat) : Int)) → prV ch L l f s P (k + j) = prV ch L l f s P k ++ prV ch W' (List.drop (G * ch) (List.take (M * ch) l)) (mvV f s k % P) s P j
 | 0, _ => by show prV ch L l f s P k = prV ch L l f s P k ++ []; rw [List.append_nil]
 | j + 1, h => by
  have hP : 0 < P := by omega
  have hm : 0 ≤ mvV f s k % P ∧ mvV f s k % P < P := ⟨Int.emod_nonneg _ (by omega), Int.emod_lt_of_pos _ hP⟩
  have h0 : needV (mvV f s k % P) s P (j + 1) ≤ ((W' : Nat) : Int) := by rcases h with h | h; omega; exact h
  have h1 : needV (mvV f s k % P) s P j ≤ ((W' : Nat) : Int) := Int.le_trans (needV_mono hm.1 hs hP (Nat.le_succ j)) h0
  rw [needV_s _ _ _ (by omega), show j + 1 - 1 = j by omega] at h0
  have hq := mv_q (f := f) (s := s) hP k j
  have h2 : 0 ≤ mvV (mvV f s k % P) s j / P := (mv_need hm hs (x := W') (.inr h1)).1
  have e1 : iqV f s P (k + j) = G + iqV (mvV f s k % P) s P j := by unfold iqV; rw [hq.1, hG]; omega
  have e2 : iqV (mvV f s k % P) s P j + 2 ≤ W' := by unfold iqV; omega
  show prV ch L l f s P (k + j) ++ rwV (frV ch L l (iqV f s P (k + j))) (frV ch L l (iqV f s P (k + j) + 1)) (mvV f s (k + j) % P) P ch = _ ++ (prV ch W' _ (mvV f s k % P) s P j ++ rwV (frV ch W' _ (iqV (mvV f s k % P) s P j)) (frV ch W' _ (iqV (mvV f s k % P) s P j + 1)) (mvV (mvV f s k % P) s j % P) P ch)
  rw [pr_sh hf hs hM hG hW j (.inr h1), hq.2, fr_dt (by omega) hW, fr_dt (by omega) hW, e1, List.append_assoc]
  congr 3
  ·unfold frV; rw [show min (G + iqV (mvV f s k % P) s P j) (L - 1) = G + iqV (mvV f s k % P) s P j by omega]
  ·unfold frV; rw [show min (G + iqV (mvV f s k % P) s P j + 1) (L - 1) = G + (iqV (mvV f s k % P) s P j + 1) by omega]
structure RSt (n d a p f : Int) (ch W F : Nat) (l w : List Int) (i t : Nat) (o r : List Int) (k : Nat) (pp ff : Int) : Prop where
 tE : t ≤ F
 kn : k = 0 ∨ needV f (stp n a) (d * 65536) k ≤ ((W + t : Nat) : Int)
 km : i = 0 ∨ k = mkF f (stp n a) (d * 65536) ((W + t : Nat) : Int)
 oE : o = prV ch (W + F) (l ++ w) f (stp n a) (d * 65536) k
 rE : r = List.drop ((mvV f (stp n a) k / (d * 65536)).toNat * ch) (List.take ((W + t) * ch) (l ++ w))
 pE : pp = p + mvV f (stp n a) k / (d * 65536)
 fE : ff = mvV f (stp n a) k % (d * 65536)
theorem RSt.z {n d a p f : Int} {ch W F : Nat} {l w : List Int} (hp : PhV n d a p f) (hv : BV ch W l) (hw : BV ch F w) : RSt n d a p f ch W F l w 0 0 [] l 0 p f where
 tE := Nat.zero_le _
 kn := .inl rfl
 km := .inl rfl
 oE := rfl
 rE := by
  have hb := hp.b
  have hl := hv.len
  rw [mv_0, Int.ediv_eq_zero_of_lt hb.2.2.2.2.1 hb.2.2.2.2.2]
  rw [show Int.toNat 0 * ch = 0 from Nat.zero_mul _, List.drop_zero, Nat.add_zero, ← hl, List.take_left]
 pE := by
  have hb := hp.b
  rw [mv_0, Int.ediv_eq_zero_of_lt hb.2.2.2.2.1 hb.2.2.2.2.2, Int.add_zero]
 fE := by
  have hb := hp.b
  rw [mv_0, Int.emod_eq_of_lt hb.2.2.2.2.1 hb.2.2.2.2.2]
theorem RSt.out {n d a p f : Int} {ch W F : Nat} {l w : List Int} {i t : Nat} {o r : List Int} {k : Nat} {pp ff : Int} (h : RSt n d a p f ch W F l w i t o r k pp ff) (hp : PhV n d a p f) (hv : BV ch W l) (hw : BV ch F w) (hs : p + ((W : Nat) : Int) ≤ 40 ∧ F ≤ 40) : ∃ Wr : Nat, BV ch Wr r ∧ PhV n d a pp ff ∧ pp + ((Wr : Nat) : Int) = p + ((W + t : Nat) : Int) ∧ List.length o = k * ch ∧ List.length r = Wr * ch := by
 have hb := hp.b
 have hst := stp_in hb.1 hb.2.2.1
 have hq := mv_need hb.2.2.2.2 (by omega) h.kn
 have ht := h.tE
 have hB := drop_BV (k := (mvV f (stp n a) k / (d * 65536)).toNat) (show BV ch (W + t) (List.take ((W + t) * ch) (l ++ w)) from by
  have h1 := app_BV hv hw (by omega)
  have e1 : (W + t) * ch ≤ (W + F) * ch := Nat.mul_le_mul_right _ (by omega)
  have hl := h1.len
  refine ⟨h1.c1, h1.c8, by rw [List.length_take]; omega, by omega, fun j hj => ?_⟩
  rw [List.length_take] at hj
  rw [getD_take (by omega)]
  exact h1.smp j (by omega)) (by omega)
 rw [← h.rE] at hB
 refine ⟨_, hB, ?_, ?_, ?_, hB.len⟩
 ·rw [h.pE, h.fE]
  exact hp.mk' (by omega) ⟨Int.emod_nonneg _ (by omega), Int.emod_lt_of_pos _ (by omega)⟩
 ·rw [h.pE]; omega
 ·rw [h.oE, prV_len]
theorem mkV_max {f s P h : Int} : ∀ n, mkV f s P h n < n → h < needV f s P (mkV f s P h n + 1)
 | 0, h0 => absurd h0 (Nat.not_lt_zero _)
 | n + 1, h0 => by
  replace h0 : (if needV f s P (n + 1) ≤ h then n + 1 else mkV f s P h n) < n + 1 := h0
  show h < needV f s P ((if needV f s P (n + 1) ≤ h then n + 1 else mkV f s P h n) + 1)
  by_cases h9 : needV f s P (n + 1) ≤ h
  ·rw [if_pos h9] at h0; omega
  ·rw [if_neg h9]
   by_cases h8 : mkV f s P h n = n
   ·rw [h8]; omega
   ·exact mkV_max n (by have := mkV_le f s P h n; omega)
theorem mkF_max {f s P h : Int} (hk : mkF f s P h < 65536) : h < needV f s P (mkF f s P h + 1) := mkV_max 65536 hk
theorem drop_ge {l w : List Int} {x : Nat} : List.drop (List.length l + x) (l ++ w) = List.drop x w := by rw [← List.drop_drop, List.drop_left]
theorem RSt.step {n d a p f : Int} {ch W F : Nat} {l w : List Int} {i t t' : Nat} {o r : List Int} {k Wr : Nat} {pp ff : Int} (h : RSt n d a p f ch W F l w i t o r k pp ff) (hp : PhV n d a p f) (hv : BV ch W l) (hw : BV ch F w) (hs : p + ((W : Nat) : Int) ≤ 40 ∧ F ≤ 40) (hd : d ≤ 50 * n) (ht : t ≤ t') (ht' : t' ≤ F) (hr : BV ch Wr r) {o2 l2 : List Int} {k2 W2 : Nat} {p2 f2 : Int} (cv : CV n d a pp ff ch (Wr + (t' - t)) (r ++ pcL ch w t t') o2 l2 k2 W2 p2 f2) : RSt n d a p f ch W F l w (i + 1) t' (o ++ o2) l2 (k + k2) p2 f2 := by
 have hb := hp.b
 have hst := stp_in hb.1 hb.2.2.1
 have hP : 0 < d * 65536 := by omega
 have hq := mv_need hb.2.2.2.2 (by omega) h.kn
 have hv1 := hv.len
 have hw1 := hw.len
 have e1 : (W + t) * ch ≤ (W + F) * ch := Nat.mul_le_mul_right _ (by omega)
 have e2 : (W + t') * ch ≤ (W + F) * ch := Nat.mul_le_mul_right _ (by omega)
 have e3 : (W + F) * ch = W * ch + F * ch := Nat.add_mul _ _ _
 have e4 : (W + t) * ch = W * ch + t * ch := Nat.add_mul _ _ _
 have e5 : (W + t') * ch = W * ch + t' * ch := Nat.add_mul _ _ _
 have e6 : t * ch ≤ t' * ch := Nat.mul_le_mul_right _ ht
 have hff : 0 ≤ ff ∧ ff < d * 65536 := by rw [h.fE]; exact ⟨Int.emod_nonneg _ (by omega), Int.emod_lt_of_pos _ hP⟩
 obtain ⟨G, hG⟩ : ∃ G : Nat, mvV f (stp n a) k / (d * 65536) = ((G : Nat) : Int) := ⟨(mvV f (stp n a) k / (d * 65536)).toNat, by omega⟩
 have hr2 := h.rE
 rw [hG, Int.toNat_natCast] at hr2
 have hGc : G * ch ≤ (W + t) * ch := Nat.mul_le_mul_right _ (by omega)
 have hWr : Wr = W + t - G := by
  have h1 := hr.len
  have h2 : List.length r = (W + t - G) * ch := by
   rw [hr2, List.length_drop, List.length_take, List.length_append, hv1, hw1, Nat.sub_mul]; omega
  exact Nat.eq_of_mul_eq_mul_right hr.c1 (h1.symm.trans h2)
 have hL : r ++ pcL ch w t t' = List.drop (G * ch) (List.take ((W + t') * ch) (l ++ w)) := by
  have e7 : List.take ((W + t') * ch) (l ++ w) = List.take ((W + t) * ch) (l ++ w) ++ pcL ch w t t' := by
   rw [show (W + t') * ch = (W + t) * ch + (t' * ch - t * ch) by omega, List.take_add]
   unfold pcL
   rw [show (W + t) * ch = List.length l + t * ch by omega, drop_ge]
  rw [e7, List.drop_append_of_le_length (by rw [List.length_take, List.length_append, hv1, hw1]; omega), ← hr2]
 have hM : Wr + (t' - t) = W + t' - G := by omega
 rw [hL, hM] at cv
 have hk2 := mkF_need (f := ff) (s := stp n a) (P := d * 65536) (h := ((W + t' - G : Nat) : Int)) (by omega)
 rw [← cv.kE] at hk2
 have hn2 : k + k2 = 0 ∨ needV f (stp n a) (d * 65536) (k + k2) ≤ ((W + t' : Nat) : Int) := by
  by_cases h2 : k2 = 0
  ·rcases h.kn with h1 | h1
   ·exact .inl (by omega)
   ·right; rw [h2, Nat.add_zero]; omega
  ·right
   rw [need_sh hP k h2, hG, ← h.fE]; omega
 have hsm := k_small hp hd (x := ((W + t' : Nat) : Int)) (by omega) hn2
 have hmx : ((W + t' : Nat) : Int) < needV f (stp n a) (d * 65536) (k + k2 + 1) := by
  rw [Nat.add_assoc, need_sh hP k (by omega), hG, ← h.fE]
  have h9 := mkF_max (f := ff) (s := stp n a) (P := d * 65536) (h := ((W + t' - G : Nat) : Int)) (by rw [← cv.kE]; omega)
  rw [← cv.kE] at h9
  omega
 have hqq := mv_q (f := f) (s := stp n a) hP k k2
 rw [hG, ← h.fE] at hqq
 refine ⟨ht', hn2, .inr ?_, ?_, ?_, ?_, ?_⟩
 ·have := mkF_eq (f := f) (s := stp n a) (P := d * 65536) (h := ((W + t' : Nat) : Int)) (k := k + k2) hb.2.2.2.2.1 (by omega) hP (by omega) hn2 (.inr hmx)
  omega
 ·rw [pr_sh (M := W + t') hb.2.2.2.2 (by omega) (by omega) hG rfl k2 (.inr (by rw [← h.fE]; exact hk2.1)), ← h.oE, ← h.fE, cv.oE]
 ·have hq2 := mv_need (k := k2) hff (show 0 ≤ stp n a by omega) (.inr hk2.1)
  rw [cv.lE, List.drop_drop, ← Nat.add_mul, hqq.1]
  congr 2
  unfold goneV iqV
  omega
 ·rw [cv.pE, h.pE, hqq.1, hG]; omega
 ·rw [cv.fE, hqq.2]
theorem RSt.fin {n d a p f : Int} {ch W F : Nat} {l w : List Int} {i : Nat} {o r : List Int} {k : Nat} {pp ff : Int} (h : RSt n d a p f ch W F l w i F o r k pp ff) (hp : PhV n d a p f) (hv : BV ch W l) (hw : BV ch F w) (hi : 1 ≤ i) {o2 l2 : List Int} {k2 W2 : Nat} {p2 f2 : Int} (cv : CV n d a p f ch (W + F) (l ++ w) o2 l2 k2 W2 p2 f2) : o = o2 ∧ r = l2 ∧ pp = p2 ∧ ff = f2 := by
 have hb := hp.b
 have hst := stp_in hb.1 hb.2.2.1
 have hk : k2 = k := by
  rcases h.km with h9 | h9
  ·omega
  ·rw [cv.kE, h9]
 subst hk
 have hq := mv_need hb.2.2.2.2 (by omega) h.kn
 have hv1 := hv.len
 have hw1 := hw.len
 refine ⟨by rw [h.oE, cv.oE], ?_, by rw [h.pE, cv.pE], by rw [h.fE, cv.fE]⟩
 rw [h.rE, cv.lE, List.take_of_length_le (by rw [List.length_append, hv1, hw1, Nat.add_mul]; exact Nat.le_refl _)]
 congr 2
 unfold goneV iqV
 omega
theorem encL_add {g : Int → List Int} {a b : List Int} {x : Nat} (hx : List.length a = x) : ∀ y, encL g (a ++ b) (x + y) = encL g a x ++ encL g b y
 | 0 => by
  rw [Nat.add_zero]
  show encL g (a ++ b) x = encL g a x ++ []
  rw [List.append_nil]
  exact encL_congr x (fun j hj => by rw [getD_app_l (by omega)])
 | y + 1 => by
  show encL g (a ++ b) (x + y) ++ g (List.getD (a ++ b) (x + y) 0) = _ ++ (encL g b y ++ g (List.getD b y 0))
  rw [encL_add hx y, getD_app_r (by omega), hx, show x + y - x = y by omega, List.append_assoc]
theorem encA_app {k : Int} {a b : List Int} {x : Nat} (hx : List.length a = x) (y : Nat) : encA k (a ++ b) (x + y) = encA k a x ++ encA k b y := encL_add hx y
theorem take_part {s j X Y : Nat} {bs : List Int} (h : j * s + s ≤ X) : List.take s (List.drop (j * s) (List.take X (List.drop Y bs))) = List.take s (List.drop (Y + j * s) bs) := by
 rw [List.drop_take, List.take_take, List.drop_drop, Nat.min_eq_left (by omega)]
theorem dec_part {f : List Int → Int} {s n a c F : Nat} {bs : List Int} (h : a + c ≤ F) : decL f s (List.take (c * (s * n)) (List.drop (a * (s * n)) bs)) (c * n) = List.take (c * n) (List.drop (a * n) (decL f s bs (F * n))) := by
 have h1 : (a + c) * n ≤ F * n := Nat.mul_le_mul_right _ h
 rw [Nat.add_mul] at h1
 refine ext_getD (by rw [decL_len, List.length_take, List.length_drop, decL_len]; omega) fun j hj => ?_
 rw [decL_len] at hj
 rw [decL_at _ j hj, getD_take hj, getD_drop, decL_at _ (a * n + j) (by omega)]
 have h2 : (j + 1) * s ≤ c * n * s := Nat.mul_le_mul_right _ hj
 rw [Nat.succ_mul] at h2
 rw [take_part (by rw [nsz]; exact h2), nsz (F := a), Nat.add_mul]
theorem dot_part {l da : List Int} {i a c f A : Nat} (h : f < c) : ∀ k, k ≤ i → dotV l (List.take (c * i) (List.drop (a * i) da)) A (f * i) k = dotV l da A ((a + f) * i) k
 | 0, _ => rfl
 | k + 1, hk => by
  have h1 : (f + 1) * i ≤ c * i := Nat.mul_le_mul_right _ h
  rw [Nat.succ_mul] at h1
  show dotV l _ A (f * i) k + List.getD l (A + k) 0 * List.getD _ (f * i + k) 0 = dotV l da A ((a + f) * i) k + List.getD l (A + k) 0 * List.getD da ((a + f) * i + k) 0
  rw [dot_part h k (by omega), getD_take (by omega), getD_drop, Nat.add_mul, Nat.add_assoc]
theorem ap_part {l da : List Int} {i o a c F : Nat} (ho : 1 ≤ o) (h : a + c ≤ F) : apA l (List.take (c * i) (List.drop (a * i) da)) i o (c * o) = List.take (c * o) (List.drop (a * o) (apA l da i o (F * o))) := by
 have h1 : (a + c) * o ≤ F * o := Nat.mul_le_mul_right _ h
 rw [Nat.add_mul] at h1
 refine ext_getD (by rw [apA_len, List.length_take, List.length_drop, apA_len]; omega) fun j hj => ?_
 rw [apA_len] at hj
 rw [getD_take hj, getD_drop]
 unfold apA
 rw [map_getD hj, map_getD (by omega)]
 have e1 : (a * o + j) % o = j % o := by rw [Nat.mul_comm, Nat.mul_add_mod]
 have e2 : (a * o + j) / o = a + j / o := by rw [Nat.mul_comm, Nat.mul_add_div (by omega)]
 have hq : j / o < c := by rw [Nat.div_lt_iff_lt_mul (by omega)]; exact hj
 rw [e1, e2]
 unfold apE
 rw [dot_part hq i (Nat.le_refl _)]
theorem piece_eq {k : Int} {cf bs : List Int} {na nb g g' F : Nat} (hb : 1 ≤ nb) (h : g ≤ g') (h2 : g' ≤ F) : apA cf (decA k (List.take ((g' - g) * (szN k * na)) (List.drop (g * (szN k * na)) bs)) ((g' - g) * na)) na nb ((g' - g) * nb) = pcL nb (apA cf (decA k bs (F * na)) na nb (F * nb)) g g' := by
 unfold decA
 rw [dec_part (F := F) (by omega), ap_part (F := F) hb (by omega)]
 unfold pcL
 rw [Nat.sub_mul]
theorem step_to {fq g ag S m : Nat} (hm : m = fq * S) (hg : g ≤ fq) : ∃ g2 : Nat, g ≤ g2 ∧ g2 ≤ fq ∧ ((g2 * S : Nat) : Int) = min ((m : Nat) : Int) (((g * S : Nat) : Int) + ((ag * S : Nat) : Int)) ∧ g * S ≤ g2 * S ∧ g2 * S ≤ m ∧ (g2 - g) * S = g2 * S - g * S := by
 refine ⟨min fq (g + ag), by omega, by omega, ?_, Nat.mul_le_mul_right _ zo, ?_, Nat.sub_mul _ _ _⟩
 ·by_cases h : fq ≤ g + ag
  ·have h2 := Nat.mul_le_mul_right S h
   rw [Nat.add_mul] at h2
   rw [Nat.min_eq_left h, ← hm]; omega
  ·have h2 := Nat.mul_le_mul_right S (show g + ag ≤ fq by omega)
   rw [Nat.add_mul] at h2
   rw [Nat.min_eq_right (by omega), Nat.add_mul]; omega
 ·rw [hm]; exact Nat.mul_le_mul_right _ (by omega)
theorem step_end {fq g S m : Nat} (hm : m = fq * S) (hg : g ≤ fq) : g * S ≤ fq * S ∧ fq * S ≤ m ∧ (fq - g) * S = fq * S - g * S ∧ ((fq * S : Nat) : Int) = ((m : Nat) : Int) := by
 exact ⟨Nat.mul_le_mul_right _ hg, by omega, Nat.sub_mul _ _ _, by rw [hm]⟩
theorem zlcp1 {p : Prop} (h : p := by first | omega | with_reducible assumption | (simp only [prV_len, rwV_len, List.length_append, List.length_cons, List.length_nil, List.length_take, List.length_drop, List.length_replicate, List.length_set] <;> omega) | rfl | assumption) : p := h
theorem zlcp0 {p : Prop} (h : p := by first | omega | (simp only [prV_len, rwV_len, dI_len, List.length_append, List.length_cons, List.length_nil, List.length_take, List.length_drop, List.length_replicate, List.length_set, List.length_map, List.length_reverse, Nat.mul_one] <;> omega) | rfl) : p := h
theorem zlcp2 {p : Prop} (h : p := by first | rfl | omega | assumption | (simp; done) | (simp; omega)) : p := h
theorem V_ConvertPieces (sd : List Int) (m : Nat) (al : List Int) (q : Nat) (nn : Int) (hm : List.length sd = m) (hn : List.length al = q) (hb : m ≤ 9223372036854775807) (hb2 : q ≤ 9223372036854775807) (hy : Byt sd) (hy2 : Byt al) (ht : 0 ≤ nn ∧ nn ≤ 255) : Fun 3 [.c (.d (D.sl (dI .u8 sd) m)), .c (.d (D.sl (dI .u8 al) q)), .c (.d (D.lit (.int .u8 nn)))] (toG []) 0 (bV true) (toG []) 0 := by
 refine Fun.mk (n := 148) Tryd.func3 rfl rfl (Nat.le_of_ble_eq_true rfl) ?_
 intro cx hcx
 refine AW.rgs [.no] [0, 1, 2] [] (P := True) (l' := [(0, sV .u8 sd m), (1, sV .u8 al q), (2, .e (.c (.d (D.lit (.int .u8 nn)))))]) (g' := []) (nx' := 0) zk trivial ?_
 refine AW.seq ?_
 refine AW.rgs [.call [] (bV true) [] 0 [] none, .no] [0, 1, 2, 29] [] (P := (_)) (l' := [(0, sV .u8 sd m), (1, sV .u8 al q), (2, .e (.c (.d (D.lit (.int .u8 nn))))), (29, bV false)]) (g' := []) (nx' := 0) zk (V_sane) ?_
 refine AW.cond_f (.tmp (Look.of rfl)) ?_
 refine AW.skip ?_
 refine AW.seq ?_
 by_cases hx1 : ((8 : Int) < ((q : Nat) : Int))
 ·refine AW.rgs [.no, .no, .b true] [0, 1, 2, 32] [] (P := (((8 : Int) < ((q : Nat) : Int)))) (l' := [(0, sV .u8 sd m), (1, sV .u8 al q), (2, .e (.c (.d (D.lit (.int .u8 nn))))), (32, bV true)]) (g' := []) (nx' := 0) zk zo ?_
  refine AW.cond_t (.tmp (Look.of rfl)) ?_
  refine AW.rgs [.no] [6] [] (P := True) (l' := [(6, bV true)]) (g' := []) (nx' := 0) zk trivial ?_
  refine AW.ret ?_
  exact EndP.of (.inr rfl) [] (P := (true = true)) zk rfl
 ·refine AW.rgs [.no, .no, .b false] [0, 1, 2, 32] [] (P := (¬ ((8 : Int) < ((q : Nat) : Int)))) (l' := [(0, sV .u8 sd m), (1, sV .u8 al q), (2, .e (.c (.d (D.lit (.int .u8 nn))))), (32, bV false)]) (g' := []) (nx' := 0) zk zo ?_
  refine AW.cond_f (.tmp (Look.of rfl)) ?_
  refine AW.skip ?_
  obtain ⟨d1, hx2, hx3, hF1⟩ := (X_New sd m zo zo zlcp1)
  refine AW.rgs [.no, .call [] (rV 0 0) [(0, some (59, .ds [D.sl (dI .u8 d1) (List.length d1)]))] 1 [] none, .no] [1, 2, 7] [0] (P := (_)) (l' := [(1, sV .u8 al q), (2, .e (.c (.d (D.lit (.int .u8 nn))))), (7, rV 0 0)]) (g' := [(0, some (59, .ds [D.sl (dI .u8 d1) (List.length d1)]))]) (nx' := 1) zk hF1 ?_
  obtain ⟨ka2, ra3, la4, na5, kb6, rb7, lb8, nb9, z10, hx4, hx5, hx6, hx7, hx8, hx9, hx10, hx11, hx12, hx13, hx14, hx15, hx16, hF10⟩ := (X_formats d1 zlcp1)
  refine AW.rgs [.no, .call [0] (.tup [.agg [iC ka2, iC ((ra3 : Nat) : Int), .d (D.sl (dI .i64 la4) na5)], .agg [iC kb6, iC ((rb7 : Nat) : Int), .d (D.sl (dI .i64 lb8) nb9)]]) [(0, some (59, .ds [D.sl (dI .u8 z10) (List.length z10)]))] 1 [] none, .no, .no, .no, .no, .no, .no, .no] [1, 2, 7, 8, 9] [0, 1, 2] (P := (_)) (l' := [(1, sV .u8 al q), (2, .e (.c (.d (D.lit (.int .u8 nn))))), (7, rV 0 0), (8, rV 1 0), (9, rV 2 0)]) (g' := [(0, some (59, .ds [D.sl (dI .u8 z10) (List.length z10)])), (1, some (28, .ds [iD ka2, iD ↑ra3, D.sl (dI .i64 la4) na5])), (2, some (28, .ds [iD kb6, iD ↑rb7, D.sl (dI .i64 lb8) nb9]))]) (nx' := 3) zk hF10 ?_
  obtain ⟨fq, hfq⟩ : ∃ fq : Nat, nn % 20 = ((fq : Nat) : Int) ∧ fq ≤ 19 := ⟨(nn % 20).toNat, by omega, by omega⟩
  have hx17 : PhV ((bsN ra3 rb7 : Nat) : Int) ((bdN ra3 rb7 : Nat) : Int) 0 0 0 := PhV.bd zo zo
  have hx18 : BV nb9 0 ([] : List Int) := BV.nil zo zo
  have hx19 : 0 * nb9 ≤ 524288 := BV.big (show (BV nb9 0 ([] : List Int)) by with_reducible assumption)
  have hx20 : 0 ≤ 65536 := BV.fit (show (BV nb9 0 ([] : List Int)) by with_reducible assumption)
  refine AW.rgs [.no, .no, .call [] (.tup [.agg [iC ka2, iC ((ra3 : Nat) : Int), .d (D.sl (dI .i64 la4) na5), iC kb6, iC ((rb7 : Nat) : Int), .d (D.sl (dI .i64 lb8) nb9), iC ((na5 : Nat) : Int), iC ((nb9 : Nat) : Int), .d (D.sl (dI .i64 (dfL la4 lb8 na5 nb9 na5)) (na5 * nb9)), iC ((nb9 : Nat) : Int), iC (((bsN ra3 rb7) : Nat) : Int), iC (((bdN ra3 rb7) : Nat) : Int), iC 0, iC 0, iC 0, .d (D.sl ([] : List D) 0)], iE 0]) [] 0 [] none, .no, .no, .no, .no, .no, .no] [1, 2, 7, 8, 10, 11] [0, 1, 3] (P := (_)) (l' := [(1, sV .u8 al q), (2, .e (.c (.d (D.lit (.int .u8 nn))))), (7, rV 0 0), (8, rV 1 0), (10, rV 3 0), (11, iV 0)]) (g' := [(0, some (59, .ds [D.sl (dI .u8 z10) (List.length z10)])), (1, some (28, .ds [iD ka2, iD ↑ra3, D.sl (dI .i64 la4) na5])), (3, some (41, .ds [iD ka2, iD ↑ra3, D.sl (dI .i64 la4) na5, iD kb6, iD ↑rb7, D.sl (dI .i64 lb8) nb9, iD ↑na5, iD ↑nb9, D.sl (dI .i64 (dfL la4 lb8 na5 nb9 na5)) (na5 * nb9), iD ↑nb9, iD (((bsN ra3 rb7) : Nat) : Int), iD (((bdN ra3 rb7) : Nat) : Int), iD 0, iD 0, iD 0, D.sl ([] : List D) 0]))]) (nx' := 4) zk (V_New ka2 ra3 la4 na5 kb6 rb7 lb8 nb9 zo zo hx6 zo zo zo hx12 zo) ?_
  obtain ⟨bs11, z12, m13, hx21, hx22, hx23, hx24, hF13⟩ := (X_bytes z10 ka2 ra3 la4 na5 fq zlcp1 zo zo hx6 zo zo)
  refine AW.rgs [.no, .no, .no, .i ((fq : Nat) : Int), .w, .call [0] (oV 1 0 m13 1) [(0, some (59, .ds [D.sl (dI .u8 z12) (List.length z12)])), (1, some (5, .ds (dI .u8 bs11)))] 2 [] none, .no] [1, 8, 10, 11, 12] [1, 3, 4] (P := (¬ (20 : Int) = 0) ∧ (((Int.tmod nn 20) : Int) = ((fq : Nat) : Int)) ∧ ((-9223372036854775808) ≤ ((fq : Nat) : Int) ∧ ((fq : Nat) : Int) ≤ 9223372036854775807) ∧ (_)) (l' := [(1, sV .u8 al q), (8, rV 1 0), (10, rV 3 0), (11, iV 0), (12, oV 4 0 m13 1)]) (g' := [(1, some (28, .ds [iD ka2, iD ↑ra3, D.sl (dI .i64 la4) na5])), (3, some (41, .ds [iD ka2, iD ↑ra3, D.sl (dI .i64 la4) na5, iD kb6, iD ↑rb7, D.sl (dI .i64 lb8) nb9, iD ↑na5, iD ↑nb9, D.sl (dI .i64 (dfL la4 lb8 na5 nb9 na5)) (na5 * nb9), iD ↑nb9, iD (((bsN ra3 rb7) : Nat) : Int), iD (((bdN ra3 rb7) : Nat) : Int), iD 0, iD 0, iD 0, D.sl ([] : List D) 0])), (4, some (5, .ds (dI .u8 bs11)))]) (nx' := 5) zk ⟨zo, (by rw [Int.tmod_eq_emod_of_nonneg (by omega)]; omega), ⟨by omega, by omega⟩, hF13⟩ ?_
  refine AW.freeze 4 (l' := [(1, sV .u8 al q), (8, rV 1 0), (10, rV 3 0), (11, iV 0), (12, sV .u8 bs11 m13)]) (g' := [(1, some (28, .ds [iD ka2, iD ((ra3 : Nat) : Int), D.sl (dI .i64 la4) na5])), (3, some (41, .ds [iD ka2, iD ((ra3 : Nat) : Int), D.sl (dI .i64 la4) na5, iD kb6, iD ((rb7 : Nat) : Int), D.sl (dI .i64 lb8) nb9, iD ((na5 : Nat) : Int), iD ((nb9 : Nat) : Int), D.sl (dI .i64 (dfL la4 lb8 na5 nb9 na5)) (na5 * nb9), iD ((nb9 : Nat) : Int), iD (((bsN ra3 rb7) : Nat) : Int), iD (((bdN ra3 rb7) : Nat) : Int), iD 0, iD 0, iD 0, D.sl ([] : List D) 0]))]) rfl (FzS.cons rfl (.same _) (FzS.cons rfl (.same _) (FzS.cons rfl (.same _) (FzS.cons rfl (.same _) (FzS.cons rfl (.e (.c (@FzC.own 4 ((dI .u8 bs11) : List D) 0 m13 1 true ((dI .u8 bs11) : List D) (by rw [List.drop_zero, Nat.mul_one, List.take_of_length_le (by first | omega | (simp only [prV_len, rwV_len, dI_len, List.length_append, List.length_cons, List.length_nil, List.length_take, List.length_drop, List.length_replicate, List.length_set, List.length_map, List.length_reverse, Nat.mul_one] <;> omega))]) zlcp0))) FzS.nil))))) (FzG.keep rfl rfl (FzG.keep rfl rfl FzG.nil)) ?_
  obtain ⟨o214, l215, k216, W217, r218, p219, f220, hx25, hx26, hx27, hx28, hx29, hx30, hx31, hx32, hF20⟩ := (V_Run ka2 ra3 la4 na5 kb6 rb7 lb8 nb9 0 0 0 ([] : List Int) 0 bs11 m13 fq zo zo hx6 zo zo zo hx12 zo zlcp1 zlcp1 zlcp1 zo zlcp1 zlcp1 zo zo)
  refine AW.rgs [.no, .no, .call [] (.tup [.c (.d (D.sl (dI .u8 (encA kb6 o214 (k216 * nb9))) ((k216 * nb9) * (szN kb6)))), .agg [iC ka2, iC ((ra3 : Nat) : Int), .d (D.sl (dI .i64 la4) na5), iC kb6, iC ((rb7 : Nat) : Int), .d (D.sl (dI .i64 lb8) nb9), iC ((na5 : Nat) : Int), iC ((nb9 : Nat) : Int), .d (D.sl (dI .i64 (dfL la4 lb8 na5 nb9 na5)) (na5 * nb9)), iC ((nb9 : Nat) : Int), iC (((bsN ra3 rb7) : Nat) : Int), iC (((bdN ra3 rb7) : Nat) : Int), iC 0, iC p219, iC f220, .d (D.sl (dI .i32 l215) r218)], iE 0]) [] 0 [] none, .no, .no, .no, .no, .no, .no, .no, .no] [1, 8, 10, 11, 12, 13, 14, 15] [1, 3, 5] (P := (_)) (l' := [(1, sV .u8 al q), (8, rV 1 0), (10, rV 3 0), (11, iV 0), (12, sV .u8 bs11 m13), (13, sV .u8 (encA kb6 o214 (k216 * nb9)) ((k216 * nb9) * (szN kb6))), (14, rV 5 0), (15, iV 0)]) (g' := [(1, some (28, .ds [iD ka2, iD ↑ra3, D.sl (dI .i64 la4) na5])), (3, some (41, .ds [iD ka2, iD ↑ra3, D.sl (dI .i64 la4) na5, iD kb6, iD ↑rb7, D.sl (dI .i64 lb8) nb9, iD ↑na5, iD ↑nb9, D.sl (dI .i64 (dfL la4 lb8 na5 nb9 na5)) (na5 * nb9), iD ↑nb9, iD (((bsN ra3 rb7) : Nat) : Int), iD (((bdN ra3 rb7) : Nat) : Int), iD 0, iD 0, iD 0, D.sl ([] : List D) 0])), (5, some (41, .ds [iD ka2, iD ↑ra3, D.sl (dI .i64 la4) na5, iD kb6, iD ↑rb7, D.sl (dI .i64 lb8) nb9, iD ↑na5, iD ↑nb9, D.sl (dI .i64 (dfL la4 lb8 na5 nb9 na5)) (na5 * nb9), iD ↑nb9, iD (((bsN ra3 rb7) : Nat) : Int), iD (((bdN ra3 rb7) : Nat) : Int), iD 0, iD p219, iD f220, D.sl (dI .i32 l215) r218]))]) (nx' := 6) zk hF20 ?_
  have hx33 : W217 * nb9 ≤ 524288 := BV.big (show (BV nb9 W217 l215) by with_reducible assumption)
  have hx34 : List.length l215 ≤ 524288 := Nat.le_trans (Nat.le_of_eq (BV.len (show (BV nb9 W217 l215) by with_reducible assumption))) (BV.big (show (BV nb9 W217 l215) by with_reducible assumption))
  have hx35 : W217 ≤ 65536 := BV.fit (show (BV nb9 W217 l215) by with_reducible assumption)
  have hx36 : k216 * nb9 ≤ 524288 := BV.big (show (BV nb9 k216 o214) by with_reducible assumption)
  have hx37 : List.length o214 ≤ 524288 := Nat.le_trans (Nat.le_of_eq (BV.len (show (BV nb9 k216 o214) by with_reducible assumption))) (BV.big (show (BV nb9 k216 o214) by with_reducible assumption))
  have hx38 : k216 ≤ 65536 := BV.fit (show (BV nb9 k216 o214) by with_reducible assumption)
  have hx39 : List.length (encA kb6 o214 (k216 * nb9)) = (k216 * nb9) * szN kb6 := encA_len zo _ _
  have hx40 : List.length (encA kb6 o214 (k216 * nb9)) ≤ 2097152 := by rw [encA_len (by omega)]; exact Nat.mul_le_mul (show (k216 * nb9) ≤ 524288 by omega) (szN_in _).2
  have hx41 : (((1 : Nat) ≤ ((szN ka2) * na5)) ∧ (((szN ka2) * na5) ≤ 32)) := ⟨Nat.mul_le_mul (szN_in ka2).1 (show 1 ≤ na5 by omega), Nat.mul_le_mul (szN_in ka2).2 (show na5 ≤ 8 by omega)⟩
  refine AW.rgs [.no, .call [] (iV ((((szN ka2) * na5) : Nat) : Int)) [] 0 [] none, .no] [1, 10, 11, 12, 13, 14, 15, 16] [3, 5] (P := (_)) (l' := [(1, sV .u8 al q), (10, rV 3 0), (11, iV 0), (12, sV .u8 bs11 m13), (13, sV .u8 (encA kb6 o214 (k216 * nb9)) ((k216 * nb9) * (szN kb6))), (14, rV 5 0), (15, iV 0), (16, iV ((((szN ka2) * na5) : Nat) : Int))]) (g' := [(3, some (41, .ds [iD ka2, iD ↑ra3, D.sl (dI .i64 la4) na5, iD kb6, iD ↑rb7, D.sl (dI .i64 lb8) nb9, iD ↑na5, iD ↑nb9, D.sl (dI .i64 (dfL la4 lb8 na5 nb9 na5)) (na5 * nb9), iD ↑nb9, iD (((bsN ra3 rb7) : Nat) : Int), iD (((bdN ra3 rb7) : Nat) : Int), iD 0, iD 0, iD 0, D.sl ([] : List D) 0])), (5, some (41, .ds [iD ka2, iD ↑ra3, D.sl (dI .i64 la4) na5, iD kb6, iD ↑rb7, D.sl (dI .i64 lb8) nb9, iD ↑na5, iD ↑nb9, D.sl (dI .i64 (dfL la4 lb8 na5 nb9 na5)) (na5 * nb9), iD ↑nb9, iD (((bsN ra3 rb7) : Nat) : Int), iD (((bdN ra3 rb7) : Nat) : Int), iD 0, iD p219, iD f220, D.sl (dI .i32 l215) r218]))]) (nx' := 6) zk (V_FS ka2 ra3 la4 na5 zo zo hx6 zo) ?_
  refine AW.seq ?_
  refine AW.rgs [.no, .b false, .no, .no, .b false, .no, .no, .no, .b false, .no] [1, 10, 12, 13, 14, 16, 70] [3, 5] (P := (¬ ((0 : Int) ≠ 0)) ∧ (¬ ((0 : Int) ≠ 0)) ∧ (¬ (((((szN ka2) * na5) : Nat) : Int) = 0))) (l' := [(1, sV .u8 al q), (10, rV 3 0), (12, sV .u8 bs11 m13), (13, sV .u8 (encA kb6 o214 (k216 * nb9)) ((k216 * nb9) * (szN kb6))), (14, rV 5 0), (16, iV ((((szN ka2) * na5) : Nat) : Int)), (70, bV false)]) (g' := [(3, some (41, .ds [iD ka2, iD ↑ra3, D.sl (dI .i64 la4) na5, iD kb6, iD ↑rb7, D.sl (dI .i64 lb8) nb9, iD ↑na5, iD ↑nb9, D.sl (dI .i64 (dfL la4 lb8 na5 nb9 na5)) (na5 * nb9), iD ↑nb9, iD (((bsN ra3 rb7) : Nat) : Int), iD (((bdN ra3 rb7) : Nat) : Int), iD 0, iD 0, iD 0, D.sl ([] : List D) 0])), (5, some (41, .ds [iD ka2, iD ↑ra3, D.sl (dI .i64 la4) na5, iD kb6, iD ↑rb7, D.sl (dI .i64 lb8) nb9, iD ↑na5, iD ↑nb9, D.sl (dI .i64 (dfL la4 lb8 na5 nb9 na5)) (na5 * nb9), iD ↑nb9, iD (((bsN ra3 rb7) : Nat) : Int), iD (((bdN ra3 rb7) : Nat) : Int), iD 0, iD p219, iD f220, D.sl (dI .i32 l215) r218]))]) (nx' := 6) zk ⟨zo, zo, zo⟩ ?_
  refine AW.cond_f (.tmp (Look.of rfl)) ?_
  refine AW.skip ?_
  refine AW.rgs [.no] [1, 10, 12, 13, 14, 16, 17] [3, 5] (P := True) (l' := [(1, sV .u8 al q), (10, rV 3 0), (12, sV .u8 bs11 m13), (13, sV .u8 (encA kb6 o214 (k216 * nb9)) ((k216 * nb9) * (szN kb6))), (14, rV 5 0), (16, iV ((((szN ka2) * na5) : Nat) : Int)), (17, nV)]) (g' := [(3, some (41, .ds [iD ka2, iD ↑ra3, D.sl (dI .i64 la4) na5, iD kb6, iD ↑rb7, D.sl (dI .i64 lb8) nb9, iD ↑na5, iD ↑nb9, D.sl (dI .i64 (dfL la4 lb8 na5 nb9 na5)) (na5 * nb9), iD ↑nb9, iD (((bsN ra3 rb7) : Nat) : Int), iD (((bdN ra3 rb7) : Nat) : Int), iD 0, iD 0, iD 0, D.sl ([] : List D) 0])), (5, some (41, .ds [iD ka2, iD ↑ra3, D.sl (dI .i64 la4) na5, iD kb6, iD ↑rb7, D.sl (dI .i64 lb8) nb9, iD ↑na5, iD ↑nb9, D.sl (dI .i64 (dfL la4 lb8 na5 nb9 na5)) (na5 * nb9), iD ↑nb9, iD (((bsN ra3 rb7) : Nat) : Int), iD (((bdN ra3 rb7) : Nat) : Int), iD 0, iD p219, iD f220, D.sl (dI .i32 l215) r218]))]) (nx' := 6) zk trivial ?_
  refine AW.rgs [.no] [1, 10, 12, 13, 14, 16, 17, 18] [3, 5] (P := True) (l' := [(1, sV .u8 al q), (10, rV 3 0), (12, sV .u8 bs11 m13), (13, sV .u8 (encA kb6 o214 (k216 * nb9)) ((k216 * nb9) * (szN kb6))), (14, rV 5 0), (16, iV ((((szN ka2) * na5) : Nat) : Int)), (17, nV), (18, iV 0)]) (g' := [(3, some (41, .ds [iD ka2, iD ↑ra3, D.sl (dI .i64 la4) na5, iD kb6, iD ↑rb7, D.sl (dI .i64 lb8) nb9, iD ↑na5, iD ↑nb9, D.sl (dI .i64 (dfL la4 lb8 na5 nb9 na5)) (na5 * nb9), iD ↑nb9, iD (((bsN ra3 rb7) : Nat) : Int), iD (((bdN ra3 rb7) : Nat) : Int), iD 0, iD 0, iD 0, D.sl ([] : List D) 0])), (5, some (41, .ds [iD ka2, iD ↑ra3, D.sl (dI .i64 la4) na5, iD kb6, iD ↑rb7, D.sl (dI .i64 lb8) nb9, iD ↑na5, iD ↑nb9, D.sl (dI .i64 (dfL la4 lb8 na5 nb9 na5)) (na5 * nb9), iD ↑nb9, iD (((bsN ra3 rb7) : Nat) : Int), iD (((bdN ra3 rb7) : Nat) : Int), iD 0, iD p219, iD f220, D.sl (dI .i32 l215) r218]))]) (nx' := 6) zk trivial ?_
  refine AW.seq ?_
  refine AW.rgs [.no] [1, 10, 12, 13, 14, 16, 17, 18, 19] [3, 5] (P := True) (l' := [(1, sV .u8 al q), (10, rV 3 0), (12, sV .u8 bs11 m13), (13, sV .u8 (encA kb6 o214 (k216 * nb9)) ((k216 * nb9) * (szN kb6))), (14, rV 5 0), (16, iV ((((szN ka2) * na5) : Nat) : Int)), (17, nV), (18, iV 0), (19, iV 0)]) (g' := [(3, some (41, .ds [iD ka2, iD ↑ra3, D.sl (dI .i64 la4) na5, iD kb6, iD ↑rb7, D.sl (dI .i64 lb8) nb9, iD ↑na5, iD ↑nb9, D.sl (dI .i64 (dfL la4 lb8 na5 nb9 na5)) (na5 * nb9), iD ↑nb9, iD (((bsN ra3 rb7) : Nat) : Int), iD (((bdN ra3 rb7) : Nat) : Int), iD 0, iD 0, iD 0, D.sl ([] : List D) 0])), (5, some (41, .ds [iD ka2, iD ↑ra3, D.sl (dI .i64 la4) na5, iD kb6, iD ↑rb7, D.sl (dI .i64 lb8) nb9, iD ↑na5, iD ↑nb9, D.sl (dI .i64 (dfL la4 lb8 na5 nb9 na5)) (na5 * nb9), iD ↑nb9, iD (((bsN ra3 rb7) : Nat) : Int), iD (((bdN ra3 rb7) : Nat) : Int), iD 0, iD p219, iD f220, D.sl (dI .i32 l215) r218]))]) (nx' := 6) zk trivial ?_
  refine AW.block ?_
  have hp9 : PhV ((bsN ra3 rb7 : Nat) : Int) ((bdN ra3 rb7 : Nat) : Int) 0 0 0 := by with_reducible assumption
  have hv9 : BV nb9 0 ([] : List Int) := by with_reducible assumption
  have hw9 : BV nb9 fq (apA (dfL la4 lb8 na5 nb9 na5) (decA ka2 bs11 (fq * na5)) na5 nb9 (fq * nb9)) := apA_BV (by omega) (by omega) (by omega)
  have hrt : ((bdN ra3 rb7 : Nat) : Int) ≤ 50 * ((bsN ra3 rb7 : Nat) : Int) := bd_rat (by omega) (by omega)
  have hmf : m13 = fq * (szN ka2 * na5) := by with_reducible assumption
  have hS0 : RSt ((bsN ra3 rb7 : Nat) : Int) ((bdN ra3 rb7 : Nat) : Int) 0 0 0 nb9 0 fq [] (apA (dfL la4 lb8 na5 nb9 na5) (decA ka2 bs11 (fq * na5)) na5 nb9 (fq * nb9)) 0 0 [] [] 0 0 0 := RSt.z hp9 hv9 hw9
  have hdl9 : List.length (dfL la4 lb8 na5 nb9 na5) = na5 * nb9 := dfL_len _ _ _ _ _
  have hnn9 : na5 * nb9 ≤ 64 := Nat.mul_le_mul (show na5 ≤ 8 by omega) (show nb9 ≤ 8 by omega)
  refine AW.adoptS 17 1 5 rfl ?_
  refine AW.loopE 0 hcx (fun (x : {x : Nat × Nat × Nat × Nat × List Int × List Int × Int × Int // match x with | (i, g, N, Q, os, rs, pp, ff) => (i ≤ q + 1) ∧ (g ≤ fq) ∧ (i ≤ q ∨ g = fq) ∧ (List.length os = N) ∧ (List.length rs = Q) ∧ (∃ kk : Nat, RSt ((bsN ra3 rb7 : Nat) : Int) ((bdN ra3 rb7 : Nat) : Int) 0 0 0 nb9 0 fq [] (apA (dfL la4 lb8 na5 nb9 na5) (decA ka2 bs11 (fq * na5)) na5 nb9 (fq * nb9)) i g os rs kk pp ff)}) => match x with | ⟨(i, g, N, Q, os, rs, pp, ff), _⟩ => (⟨[(1, sV .u8 al q), (10, rV 3 0), (12, sV .u8 bs11 m13), (13, sV .u8 (encA kb6 o214 (k216 * nb9)) ((k216 * nb9) * (szN kb6))), (14, rV 5 0), (16, iV ((((szN ka2) * na5) : Nat) : Int)), (17, oV 6 0 (N * (szN kb6)) 1), (18, iV (((g * ((szN ka2) * na5)) : Nat) : Int)), (19, iV ((i : Nat) : Int))], [(3, some (41, .ds [iD ka2, iD ((ra3 : Nat) : Int), D.sl (dI .i64 la4) na5, iD kb6, iD ((rb7 : Nat) : Int), D.sl (dI .i64 lb8) nb9, iD ((na5 : Nat) : Int), iD ((nb9 : Nat) : Int), D.sl (dI .i64 (dfL la4 lb8 na5 nb9 na5)) (na5 * nb9), iD ((nb9 : Nat) : Int), iD (((bsN ra3 rb7) : Nat) : Int), iD (((bdN ra3 rb7) : Nat) : Int), iD 0, iD pp, iD ff, D.sl (dI .i32 rs) Q])), (5, some (41, .ds [iD ka2, iD ((ra3 : Nat) : Int), D.sl (dI .i64 la4) na5, iD kb6, iD ((rb7 : Nat) : Int), D.sl (dI .i64 lb8) nb9, iD ((na5 : Nat) : Int), iD ((nb9 : Nat) : Int), D.sl (dI .i64 (dfL la4 lb8 na5 nb9 na5)) (na5 * nb9), iD ((nb9 : Nat) : Int), iD (((bsN ra3 rb7) : Nat) : Int), iD (((bdN ra3 rb7) : Nat) : Int), iD 0, iD p219, iD f220, D.sl (dI .i32 l215) r218])), (6, some (5, .ds (dI .u8 (encA kb6 os N))))], 7⟩ : ES)) (fun (x : {x : Nat × Nat × Nat × Nat × List Int × List Int × Int × Int // match x with | (i, g, N, Q, os, rs, pp, ff) => (i ≤ q + 1) ∧ (g ≤ fq) ∧ (i ≤ q ∨ g = fq) ∧ (List.length os = N) ∧ (List.length rs = Q) ∧ (∃ kk : Nat, RSt ((bsN ra3 rb7 : Nat) : Int) ((bdN ra3 rb7 : Nat) : Int) 0 0 0 nb9 0 fq [] (apA (dfL la4 lb8 na5 nb9 na5) (decA ka2 bs11 (fq * na5)) na5 nb9 (fq * nb9)) i g os rs kk pp ff)}) => match x with | ⟨(i, g, N, Q, os, rs, pp, ff), _⟩ => q + 1 - i) ⟨((0 : Nat), (0 : Nat), (0 : Nat), (0 : Nat), (([] : List Int) : List Int), (([] : List Int) : List Int), (0 : Int), (0 : Int)), (show ((0 : Nat) ≤ q + 1) ∧ ((0 : Nat) ≤ fq) ∧ ((0 : Nat) ≤ q ∨ (0 : Nat) = fq) ∧ (List.length ([] : List Int) = (0 : Nat)) ∧ (List.length ([] : List Int) = (0 : Nat)) ∧ (∃ kk : Nat, RSt ((bsN ra3 rb7 : Nat) : Int) ((bdN ra3 rb7 : Nat) : Int) 0 0 0 nb9 0 fq [] (apA (dfL la4 lb8 na5 nb9 na5) (decA ka2 bs11 (fq * na5)) na5 nb9 (fq * nb9)) (0 : Nat) (0 : Nat) ([] : List Int) ([] : List Int) kk (0 : Int) (0 : Int)) from ⟨(by first | omega | assumption | simp), (Nat.zero_le _), (.inl (Nat.zero_le _)), rfl, rfl, ⟨0, hS0⟩⟩)⟩ [] (P := (((dI .u8 al) : List D) = (dI .u8 al)) ∧ ((q : Nat) = q) ∧ ((0 : Nat) = 0) ∧ (((dI .u8 bs11) : List D) = (dI .u8 bs11)) ∧ ((m13 : Nat) = m13) ∧ (((dI .u8 (encA kb6 o214 (k216 * nb9))) : List D) = (dI .u8 (encA kb6 o214 (k216 * nb9)))) ∧ ((((k216 * nb9) * (szN kb6)) : Nat) = ((k216 * nb9) * (szN kb6))) ∧ ((0 : Nat) = 0) ∧ ((((((szN ka2) * na5) : Nat) : Int) : Int) = ((((szN ka2) * na5) : Nat) : Int)) ∧ ((0 : Nat) = 0) ∧ (((0 * (szN kb6)) : Nat) = 0) ∧ (((((0 * ((szN ka2) * na5)) : Nat) : Int) : Int) = 0) ∧ ((0 : Int) = 0) ∧ (([iD ka2, iD ((ra3 : Nat) : Int), D.sl (dI .i64 la4) na5, iD kb6, iD ((rb7 : Nat) : Int), D.sl (dI .i64 lb8) nb9, iD ((na5 : Nat) : Int), iD ((nb9 : Nat) : Int), D.sl (dI .i64 (dfL la4 lb8 na5 nb9 na5)) (na5 * nb9), iD ((nb9 : Nat) : Int), iD (((bsN ra3 rb7) : Nat) : Int), iD (((bdN ra3 rb7) : Nat) : Int), iD 0, iD 0, iD 0, D.sl (dI .i32 ([] : List Int)) 0] : List D) = [iD ka2, iD ((ra3 : Nat) : Int), D.sl (dI .i64 la4) na5, iD kb6, iD ((rb7 : Nat) : Int), D.sl (dI .i64 lb8) nb9, iD ((na5 : Nat) : Int), iD ((nb9 : Nat) : Int), D.sl (dI .i64 (dfL la4 lb8 na5 nb9 na5)) (na5 * nb9), iD ((nb9 : Nat) : Int), iD (((bsN ra3 rb7) : Nat) : Int), iD (((bdN ra3 rb7) : Nat) : Int), iD 0, iD 0, iD 0, D.sl ([] : List D) 0]) ∧ (([iD ka2, iD ((ra3 : Nat) : Int), D.sl (dI .i64 la4) na5, iD kb6, iD ((rb7 : Nat) : Int), D.sl (dI .i64 lb8) nb9, iD ((na5 : Nat) : Int), iD ((nb9 : Nat) : Int), D.sl (dI .i64 (dfL la4 lb8 na5 nb9 na5)) (na5 * nb9), iD ((nb9 : Nat) : Int), iD (((bsN ra3 rb7) : Nat) : Int), iD (((bdN ra3 rb7) : Nat) : Int), iD 0, iD p219, iD f220, D.sl (dI .i32 l215) r218] : List D) = [iD ka2, iD ((ra3 : Nat) : Int), D.sl (dI .i64 la4) na5, iD kb6, iD ((rb7 : Nat) : Int), D.sl (dI .i64 lb8) nb9, iD ((na5 : Nat) : Int), iD ((nb9 : Nat) : Int), D.sl (dI .i64 (dfL la4 lb8 na5 nb9 na5)) (na5 * nb9), iD ((nb9 : Nat) : Int), iD (((bsN ra3 rb7) : Nat) : Int), iD (((bdN ra3 rb7) : Nat) : Int), iD 0, iD p219, iD f220, D.sl (dI .i32 l215) r218]) ∧ (((dI .u8 (encA kb6 ([] : List Int) 0)) : List D) = ([] : List D))) zk ⟨rfl, rfl, rfl, rfl, rfl, rfl, rfl, rfl, rfl, rfl, zlcp2, zlcp2, rfl, (by first | rfl | exact congrArg (dI .u8) (encA_app (by with_reducible assumption) _)), rfl, (by first | rfl | exact congrArg (dI .u8) (encA_app (by with_reducible assumption) _))⟩ ?_
  rintro ⟨⟨i, g, N, Q, os, rs, pp, ff⟩, hinv0⟩
  obtain ⟨hi, hg, he, hN, hQ, hS⟩ : (i ≤ q + 1) ∧ (g ≤ fq) ∧ (i ≤ q ∨ g = fq) ∧ (List.length os = N) ∧ (List.length rs = Q) ∧ (∃ kk : Nat, RSt ((bsN ra3 rb7 : Nat) : Int) ((bdN ra3 rb7 : Nat) : Int) 0 0 0 nb9 0 fq [] (apA (dfL la4 lb8 na5 nb9 na5) (decA ka2 bs11 (fq * na5)) na5 nb9 (fq * nb9)) i g os rs kk pp ff) := hinv0
  refine AW.es (l := [(1, sV .u8 al q), (10, rV 3 0), (12, sV .u8 bs11 m13), (13, sV .u8 (encA kb6 o214 (k216 * nb9)) ((k216 * nb9) * (szN kb6))), (14, rV 5 0), (16, iV ((((szN ka2) * na5) : Nat) : Int)), (17, oV 6 0 (N * (szN kb6)) 1), (18, iV (((g * ((szN ka2) * na5)) : Nat) : Int)), (19, iV ((i : Nat) : Int))]) (g := [(3, some (41, .ds [iD ka2, iD ((ra3 : Nat) : Int), D.sl (dI .i64 la4) na5, iD kb6, iD ((rb7 : Nat) : Int), D.sl (dI .i64 lb8) nb9, iD ((na5 : Nat) : Int), iD ((nb9 : Nat) : Int), D.sl (dI .i64 (dfL la4 lb8 na5 nb9 na5)) (na5 * nb9), iD ((nb9 : Nat) : Int), iD (((bsN ra3 rb7) : Nat) : Int), iD (((bdN ra3 rb7) : Nat) : Int), iD 0, iD pp, iD ff, D.sl (dI .i32 rs) Q])), (5, some (41, .ds [iD ka2, iD ((ra3 : Nat) : Int), D.sl (dI .i64 la4) na5, iD kb6, iD ((rb7 : Nat) : Int), D.sl (dI .i64 lb8) nb9, iD ((na5 : Nat) : Int), iD ((nb9 : Nat) : Int), D.sl (dI .i64 (dfL la4 lb8 na5 nb9 na5)) (na5 * nb9), iD ((nb9 : Nat) : Int), iD (((bsN ra3 rb7) : Nat) : Int), iD (((bdN ra3 rb7) : Nat) : Int), iD 0, iD p219, iD f220, D.sl (dI .i32 l215) r218])), (6, some (5, .ds (dI .u8 (encA kb6 os N))))]) (nx := 7) rfl rfl rfl ?_
  obtain ⟨kk, hS1⟩ := hS
  obtain ⟨Wr, hr1, hr2, hr3, hr4, hr5⟩ := hS1.out hp9 hv9 hw9 ⟨by omega, by omega⟩
  have hr3 : pp + ((Wr : Nat) : Int) = ((g : Nat) : Int) := by omega
  have hpp0 : 0 ≤ pp := hr2.b.2.2.2.1.1
  have hN9 : N ≤ 100000 := by have h9 := k_small hp9 hrt (x := ((0 + g : Nat) : Int)) (by omega) hS1.kn; have h8 : kk * nb9 ≤ 5500 * 8 := Nat.mul_le_mul h9 (by omega); omega
  have hel9 : List.length (encA kb6 os N) = N * szN kb6 ∧ N * szN kb6 ≤ 100000 * 4 := ⟨encA_len (by omega) _ _, Nat.mul_le_mul hN9 (szN_in _).2⟩
  have hgm : g * (szN ka2 * na5) ≤ m13 ∧ m13 ≤ 640 := ⟨by rw [hmf]; exact Nat.mul_le_mul_right _ hg, by rw [hmf]; exact Nat.mul_le_mul (show fq ≤ 20 by omega) (show (szN ka2 * na5) ≤ 32 by omega)⟩
  refine AW.seq ?_
  by_cases hx45 : (((i : Nat) : Int) ≤ ((q : Nat) : Int))
  ·have hx46 : Wr * nb9 ≤ 524288 := BV.big (show (BV nb9 Wr rs) by with_reducible assumption)
   have hx47 : List.length rs ≤ 524288 := Nat.le_trans (Nat.le_of_eq (BV.len (show (BV nb9 Wr rs) by with_reducible assumption))) (BV.big (show (BV nb9 Wr rs) by with_reducible assumption))
   have hx48 : Wr ≤ 65536 := BV.fit (show (BV nb9 Wr rs) by with_reducible assumption)
   refine AW.rgs [.no, .no, .no, .b true] [1, 10, 12, 13, 14, 16, 17, 18, 19, 74] [3, 5, 6] (P := ((((i : Nat) : Int) ≤ ((q : Nat) : Int)))) (l' := [(1, sV .u8 al q), (10, rV 3 0), (12, sV .u8 bs11 m13), (13, sV .u8 (encA kb6 o214 (k216 * nb9)) ((k216 * nb9) * (szN kb6))), (14, rV 5 0), (16, iV ((((szN ka2) * na5) : Nat) : Int)), (17, oV 6 0 (N * (szN kb6)) 1), (18, iV (((g * ((szN ka2) * na5)) : Nat) : Int)), (19, iV ↑i), (74, bV true)]) (g' := [(3, some (41, .ds [iD ka2, iD ↑ra3, D.sl (dI .i64 la4) na5, iD kb6, iD ↑rb7, D.sl (dI .i64 lb8) nb9, iD ↑na5, iD ↑nb9, D.sl (dI .i64 (dfL la4 lb8 na5 nb9 na5)) (na5 * nb9), iD ↑nb9, iD (((bsN ra3 rb7) : Nat) : Int), iD (((bdN ra3 rb7) : Nat) : Int), iD 0, iD pp, iD ff, D.sl (dI .i32 rs) Q])), (5, some (41, .ds [iD ka2, iD ↑ra3, D.sl (dI .i64 la4) na5, iD kb6, iD ↑rb7, D.sl (dI .i64 lb8) nb9, iD ↑na5, iD ↑nb9, D.sl (dI .i64 (dfL la4 lb8 na5 nb9 na5)) (na5 * nb9), iD ↑nb9, iD (((bsN ra3 rb7) : Nat) : Int), iD (((bdN ra3 rb7) : Nat) : Int), iD 0, iD p219, iD f220, D.sl (dI .i32 l215) r218])), (6, some (5, .ds (dI .u8 (encA kb6 os N))))]) (nx' := 7) zk zo ?_
   refine AW.cond_t (.tmp (Look.of rfl)) ?_
   refine AW.skip ?_
   refine AW.seq ?_
   refine AW.block ?_
   refine AW.rgs [.no, .no, .no] [1, 10, 12, 13, 14, 16, 17, 18, 19, 20] [3, 5, 6] (P := True) (l' := [(1, sV .u8 al q), (10, rV 3 0), (12, sV .u8 bs11 m13), (13, sV .u8 (encA kb6 o214 (k216 * nb9)) ((k216 * nb9) * (szN kb6))), (14, rV 5 0), (16, iV ((((szN ka2) * na5) : Nat) : Int)), (17, oV 6 0 (N * (szN kb6)) 1), (18, iV (((g * ((szN ka2) * na5)) : Nat) : Int)), (19, iV ↑i), (20, iV ↑m13)]) (g' := [(3, some (41, .ds [iD ka2, iD ↑ra3, D.sl (dI .i64 la4) na5, iD kb6, iD ↑rb7, D.sl (dI .i64 lb8) nb9, iD ↑na5, iD ↑nb9, D.sl (dI .i64 (dfL la4 lb8 na5 nb9 na5)) (na5 * nb9), iD ↑nb9, iD (((bsN ra3 rb7) : Nat) : Int), iD (((bdN ra3 rb7) : Nat) : Int), iD 0, iD pp, iD ff, D.sl (dI .i32 rs) Q])), (5, some (41, .ds [iD ka2, iD ↑ra3, D.sl (dI .i64 la4) na5, iD kb6, iD ↑rb7, D.sl (dI .i64 lb8) nb9, iD ↑na5, iD ↑nb9, D.sl (dI .i64 (dfL la4 lb8 na5 nb9 na5)) (na5 * nb9), iD ↑nb9, iD (((bsN ra3 rb7) : Nat) : Int), iD (((bdN ra3 rb7) : Nat) : Int), iD 0, iD p219, iD f220, D.sl (dI .i32 l215) r218])), (6, some (5, .ds (dI .u8 (encA kb6 os N))))]) (nx' := 7) zk trivial ?_
   refine AW.seq ?_
   by_cases hx49 : (((i : Nat) : Int) < ((q : Nat) : Int))
   ·refine AW.rgs [.no, .no, .no, .b true] [1, 10, 12, 13, 14, 16, 17, 18, 19, 20, 82] [3, 5, 6] (P := ((((i : Nat) : Int) < ((q : Nat) : Int)))) (l' := [(1, sV .u8 al q), (10, rV 3 0), (12, sV .u8 bs11 m13), (13, sV .u8 (encA kb6 o214 (k216 * nb9)) ((k216 * nb9) * (szN kb6))), (14, rV 5 0), (16, iV ((((szN ka2) * na5) : Nat) : Int)), (17, oV 6 0 (N * (szN kb6)) 1), (18, iV (((g * ((szN ka2) * na5)) : Nat) : Int)), (19, iV ↑i), (20, iV ↑m13), (82, bV true)]) (g' := [(3, some (41, .ds [iD ka2, iD ↑ra3, D.sl (dI .i64 la4) na5, iD kb6, iD ↑rb7, D.sl (dI .i64 lb8) nb9, iD ↑na5, iD ↑nb9, D.sl (dI .i64 (dfL la4 lb8 na5 nb9 na5)) (na5 * nb9), iD ↑nb9, iD (((bsN ra3 rb7) : Nat) : Int), iD (((bdN ra3 rb7) : Nat) : Int), iD 0, iD pp, iD ff, D.sl (dI .i32 rs) Q])), (5, some (41, .ds [iD ka2, iD ↑ra3, D.sl (dI .i64 la4) na5, iD kb6, iD ↑rb7, D.sl (dI .i64 lb8) nb9, iD ↑na5, iD ↑nb9, D.sl (dI .i64 (dfL la4 lb8 na5 nb9 na5)) (na5 * nb9), iD ↑nb9, iD (((bsN ra3 rb7) : Nat) : Int), iD (((bdN ra3 rb7) : Nat) : Int), iD 0, iD p219, iD f220, D.sl (dI .i32 l215) r218])), (6, some (5, .ds (dI .u8 (encA kb6 os N))))]) (nx' := 7) zk zo ?_
    refine AW.cond_t (.tmp (Look.of rfl)) ?_
    have hai := hy2.at i (by omega)
    obtain ⟨ag, hag⟩ : ∃ ag : Nat, List.getD al i 0 % 6 = ((ag : Nat) : Int) ∧ ag ≤ 5 := ⟨(List.getD al i 0 % 6).toNat, by omega, by omega⟩
    have hai2 : ((ag : Nat) : Int) * (((szN ka2 * na5) : Nat) : Int) = ((ag * (szN ka2 * na5) : Nat) : Int) := (Int.natCast_mul _ _).symm
    have hai3 : ag * (szN ka2 * na5) ≤ 5 * 32 := Nat.mul_le_mul hag.2 (show (szN ka2 * na5) ≤ 32 by omega)
    have hx50 : 0 ≤ (List.getD al i 0) ∧ (List.getD al i 0) ≤ 255 := hy2.at i zo
    refine AW.rg [.no, .no, .no, .no, .no, .n i, .d (D.lit (.int .u8 (List.getD al i 0))), .i ((ag : Nat) : Int), .w, .no, .wi (((ag * ((szN ka2) * na5)) : Nat) : Int), .w, .no, .no] [1, 10, 12, 13, 14, 16, 17, 18, 19, 20] [3, 5, 6] (P := ((((i : Nat) : Int) : Int) = ((i : Nat) : Int)) ∧ (i < q) ∧ ((List.drop i (dI .u8 al))[0]? = some (D.lit (.int .u8 (List.getD al i 0)))) ∧ (¬ (6 : Int) = 0) ∧ (((Int.tmod (List.getD al i 0) 6) : Int) = ((ag : Nat) : Int)) ∧ ((-9223372036854775808) ≤ ((ag : Nat) : Int) ∧ ((ag : Nat) : Int) ≤ 9223372036854775807) ∧ ((-9223372036854775808) ≤ (((ag : Nat) : Int) * ((((szN ka2) * na5) : Nat) : Int)) ∧ (((ag : Nat) : Int) * ((((szN ka2) * na5) : Nat) : Int)) ≤ 9223372036854775807) ∧ (((((ag : Nat) : Int) * ((((szN ka2) * na5) : Nat) : Int)) : Int) = (((ag * ((szN ka2) * na5)) : Nat) : Int)) ∧ ((-9223372036854775808) ≤ ((((g * ((szN ka2) * na5)) : Nat) : Int) + (((ag * ((szN ka2) * na5)) : Nat) : Int)) ∧ ((((g * ((szN ka2) * na5)) : Nat) : Int) + (((ag * ((szN ka2) * na5)) : Nat) : Int)) ≤ 9223372036854775807)) (l' := [(1, sV .u8 al q), (10, rV 3 0), (12, sV .u8 bs11 m13), (13, sV .u8 (encA kb6 o214 (k216 * nb9)) ((k216 * nb9) * (szN kb6))), (14, rV 5 0), (16, iV ((((szN ka2) * na5) : Nat) : Int)), (17, oV 6 0 (N * (szN kb6)) 1), (18, iV (((g * ((szN ka2) * na5)) : Nat) : Int)), (19, iV ↑i), (20, iV (min ↑m13 ((((g * ((szN ka2) * na5)) : Nat) : Int) + (((ag * ((szN ka2) * na5)) : Nat) : Int))))]) (g' := [(3, some (41, .ds [iD ka2, iD ↑ra3, D.sl (dI .i64 la4) na5, iD kb6, iD ↑rb7, D.sl (dI .i64 lb8) nb9, iD ↑na5, iD ↑nb9, D.sl (dI .i64 (dfL la4 lb8 na5 nb9 na5)) (na5 * nb9), iD ↑nb9, iD (((bsN ra3 rb7) : Nat) : Int), iD (((bdN ra3 rb7) : Nat) : Int), iD 0, iD pp, iD ff, D.sl (dI .i32 rs) Q])), (5, some (41, .ds [iD ka2, iD ↑ra3, D.sl (dI .i64 la4) na5, iD kb6, iD ↑rb7, D.sl (dI .i64 lb8) nb9, iD ↑na5, iD ↑nb9, D.sl (dI .i64 (dfL la4 lb8 na5 nb9 na5)) (na5 * nb9), iD ↑nb9, iD (((bsN ra3 rb7) : Nat) : Int), iD (((bdN ra3 rb7) : Nat) : Int), iD 0, iD p219, iD f220, D.sl (dI .i32 l215) r218])), (6, some (5, .ds (dI .u8 (encA kb6 os N))))]) (nx' := 7) zk ⟨rfl, zo, (dI_at _ _ _ zlcp0), zo, (by rw [Int.tmod_eq_emod_of_nonneg (by omega)]; omega), ⟨by omega, by omega⟩, ⟨by omega, by omega⟩, zo, ⟨by omega, by omega⟩⟩ ?_
    obtain ⟨g2, hs1, hs2, hs3, hs4, hs5, hs6⟩ := step_to (ag := ag) hmf hg
    have hbp : Byt (List.take ((g2 - g) * (szN ka2 * na5)) (List.drop (g * (szN ka2 * na5)) bs11)) := ((show Byt bs11 by with_reducible assumption).drop _).take _
    rw [show (min ((m13 : Nat) : Int) ((((g * ((szN ka2) * na5)) : Nat) : Int) + (((ag * ((szN ka2) * na5)) : Nat) : Int))) = (((g2 * ((szN ka2) * na5)) : Nat) : Int) from hs3.symm]
    obtain ⟨o221, l222, k223, W224, r225, p226, f227, hx51, hx52, hx53, hx54, hx55, hx56, hx57, hx58, hF27⟩ := (V_Run ka2 ra3 la4 na5 kb6 rb7 lb8 nb9 pp ff Wr rs Q (List.take ((g2 - g) * ((szN ka2) * na5)) (List.drop (g * ((szN ka2) * na5)) bs11)) ((g2 - g) * ((szN ka2) * na5)) (g2 - g) zo zo hx6 zo zo zo hx12 zo zlcp1 zlcp1 zo zlcp1 rfl zlcp1 zo zo)
    refine AW.rgs [.no, .no, .no, .no, .sls (g * ((szN ka2) * na5)) (g2 * ((szN ka2) * na5)) ((g2 - g) * ((szN ka2) * na5)) (dI .u8 (List.take ((g2 - g) * ((szN ka2) * na5)) (List.drop (g * ((szN ka2) * na5)) bs11))), .call [] (.tup [.c (.d (D.sl (dI .u8 (encA kb6 o221 (k223 * nb9))) ((k223 * nb9) * (szN kb6)))), .agg [iC ka2, iC ((ra3 : Nat) : Int), .d (D.sl (dI .i64 la4) na5), iC kb6, iC ((rb7 : Nat) : Int), .d (D.sl (dI .i64 lb8) nb9), iC ((na5 : Nat) : Int), iC ((nb9 : Nat) : Int), .d (D.sl (dI .i64 (dfL la4 lb8 na5 nb9 na5)) (na5 * nb9)), iC ((nb9 : Nat) : Int), iC (((bsN ra3 rb7) : Nat) : Int), iC (((bdN ra3 rb7) : Nat) : Int), iC 0, iC p226, iC f227, .d (D.sl (dI .i32 l222) r225)], iE 0]) [] 0 [] none, .no, .no, .no, .no, .no, .no, .no, .no] [1, 10, 12, 13, 14, 16, 17, 19, 20, 21, 22, 23] [3, 5, 6, 7] (P := (((((g * ((szN ka2) * na5)) : Nat) : Int) : Int) = (((g * ((szN ka2) * na5)) : Nat) : Int)) ∧ (((((g2 * ((szN ka2) * na5)) : Nat) : Int) : Int) = (((g2 * ((szN ka2) * na5)) : Nat) : Int)) ∧ ((g * ((szN ka2) * na5)) ≤ (g2 * ((szN ka2) * na5))) ∧ ((g2 * ((szN ka2) * na5)) ≤ m13) ∧ ((g2 * ((szN ka2) * na5)) - (g * ((szN ka2) * na5)) = ((g2 - g) * ((szN ka2) * na5))) ∧ (List.take (((g2 - g) * ((szN ka2) * na5)) * 1) (List.drop ((g * ((szN ka2) * na5)) * 1) (dI .u8 bs11)) = (dI .u8 (List.take ((g2 - g) * ((szN ka2) * na5)) (List.drop (g * ((szN ka2) * na5)) bs11)))) ∧ (_)) (l' := [(1, sV .u8 al q), (10, rV 3 0), (12, sV .u8 bs11 m13), (13, sV .u8 (encA kb6 o214 (k216 * nb9)) ((k216 * nb9) * (szN kb6))), (14, rV 5 0), (16, iV ((((szN ka2) * na5) : Nat) : Int)), (17, oV 6 0 (N * (szN kb6)) 1), (19, iV ↑i), (20, iV (((g2 * ((szN ka2) * na5)) : Nat) : Int)), (21, sV .u8 (encA kb6 o221 (k223 * nb9)) ((k223 * nb9) * (szN kb6))), (22, rV 7 0), (23, iV 0)]) (g' := [(3, some (41, .ds [iD ka2, iD ↑ra3, D.sl (dI .i64 la4) na5, iD kb6, iD ↑rb7, D.sl (dI .i64 lb8) nb9, iD ↑na5, iD ↑nb9, D.sl (dI .i64 (dfL la4 lb8 na5 nb9 na5)) (na5 * nb9), iD ↑nb9, iD (((bsN ra3 rb7) : Nat) : Int), iD (((bdN ra3 rb7) : Nat) : Int), iD 0, iD pp, iD ff, D.sl (dI .i32 rs) Q])), (5, some (41, .ds [iD ka2, iD ↑ra3, D.sl (dI .i64 la4) na5, iD kb6, iD ↑rb7, D.sl (dI .i64 lb8) nb9, iD ↑na5, iD ↑nb9, D.sl (dI .i64 (dfL la4 lb8 na5 nb9 na5)) (na5 * nb9), iD ↑nb9, iD (((bsN ra3 rb7) : Nat) : Int), iD (((bdN ra3 rb7) : Nat) : Int), iD 0, iD p219, iD f220, D.sl (dI .i32 l215) r218])), (6, some (5, .ds (dI .u8 (encA kb6 os N)))), (7, some (41, .ds [iD ka2, iD ↑ra3, D.sl (dI .i64 la4) na5, iD kb6, iD ↑rb7, D.sl (dI .i64 lb8) nb9, iD ↑na5, iD ↑nb9, D.sl (dI .i64 (dfL la4 lb8 na5 nb9 na5)) (na5 * nb9), iD ↑nb9, iD (((bsN ra3 rb7) : Nat) : Int), iD (((bdN ra3 rb7) : Nat) : Int), iD 0, iD p226, iD f227, D.sl (dI .i32 l222) r225]))]) (nx' := 8) zk ⟨rfl, rfl, zo, zo, zo, (by first | rfl | with_reducible assumption | exact dI_app _ _ _ | exact dI_rep _ _ _ | (simp only [dI_take, dI_drop, dI_app, Nat.mul_one, Nat.zero_mul, List.drop_zero, List.nil_append, List.append_nil]; done) | (simp only [dI_take, dI_drop, dI_app, Nat.mul_one, Nat.zero_mul, List.drop_zero, List.nil_append, List.append_nil]; rfl) | (rw [List.take_of_length_le (by simp only [prV_len, rwV_len, dI_len, List.length_drop, List.length_replicate, Nat.mul_one] <;> omega)]; first | rfl | (simp only [dI_drop, Nat.mul_one, Nat.zero_mul, List.drop_zero]; done) | (simp only [dI_drop, Nat.mul_one, Nat.zero_mul, List.drop_zero]; rfl))), hF27⟩ ?_
    refine AW.seq ?_
    have hx59 : W224 * nb9 ≤ 524288 := BV.big (show (BV nb9 W224 l222) by with_reducible assumption)
    have hx60 : List.length l222 ≤ 524288 := Nat.le_trans (Nat.le_of_eq (BV.len (show (BV nb9 W224 l222) by with_reducible assumption))) (BV.big (show (BV nb9 W224 l222) by with_reducible assumption))
    have hx61 : W224 ≤ 65536 := BV.fit (show (BV nb9 W224 l222) by with_reducible assumption)
    have hx62 : k223 * nb9 ≤ 524288 := BV.big (show (BV nb9 k223 o221) by with_reducible assumption)
    have hx63 : List.length o221 ≤ 524288 := Nat.le_trans (Nat.le_of_eq (BV.len (show (BV nb9 k223 o221) by with_reducible assumption))) (BV.big (show (BV nb9 k223 o221) by with_reducible assumption))
    have hx64 : k223 ≤ 65536 := BV.fit (show (BV nb9 k223 o221) by with_reducible assumption)
    have hx65 : List.length (encA kb6 o221 (k223 * nb9)) = (k223 * nb9) * szN kb6 := encA_len zo _ _
    have hx66 : List.length (encA kb6 o221 (k223 * nb9)) ≤ 2097152 := by rw [encA_len (by omega)]; exact Nat.mul_le_mul (show (k223 * nb9) ≤ 524288 by omega) (szN_in _).2
    have hcv8 : CV ((bsN ra3 rb7 : Nat) : Int) ((bdN ra3 rb7 : Nat) : Int) 0 pp ff nb9 (Wr + (g2 - g)) (rs ++ pcL nb9 (apA (dfL la4 lb8 na5 nb9 na5) (decA ka2 bs11 (fq * na5)) na5 nb9 (fq * nb9)) g g2) o221 l222 k223 W224 p226 f227 := by rw [← piece_eq (by omega) hs1 hs2]; exact (show (CV (((bsN ra3 rb7) : Nat) : Int) (((bdN ra3 rb7) : Nat) : Int) 0 pp ff nb9 (Wr + (g2 - g)) (rs ++ (apA (dfL la4 lb8 na5 nb9 na5) (decA ka2 (List.take ((g2 - g) * ((szN ka2) * na5)) (List.drop (g * ((szN ka2) * na5)) bs11)) ((g2 - g) * na5)) na5 nb9 ((g2 - g) * nb9))) o221 l222 k223 W224 p226 f227) by with_reducible assumption)
    have hnx : (N + k223 * nb9) * szN kb6 = N * szN kb6 + k223 * nb9 * szN kb6 := Nat.add_mul _ _ _
    refine AW.rgs [.no, .b false] [1, 10, 12, 13, 14, 16, 17, 19, 20, 21, 22, 107] [3, 5, 6, 7] (P := (¬ ((0 : Int) ≠ 0))) (l' := [(1, sV .u8 al q), (10, rV 3 0), (12, sV .u8 bs11 m13), (13, sV .u8 (encA kb6 o214 (k216 * nb9)) ((k216 * nb9) * (szN kb6))), (14, rV 5 0), (16, iV ((((szN ka2) * na5) : Nat) : Int)), (17, oV 6 0 (N * (szN kb6)) 1), (19, iV ↑i), (20, iV (((g2 * ((szN ka2) * na5)) : Nat) : Int)), (21, sV .u8 (encA kb6 o221 (k223 * nb9)) ((k223 * nb9) * (szN kb6))), (22, rV 7 0), (107, bV false)]) (g' := [(3, some (41, .ds [iD ka2, iD ↑ra3, D.sl (dI .i64 la4) na5, iD kb6, iD ↑rb7, D.sl (dI .i64 lb8) nb9, iD ↑na5, iD ↑nb9, D.sl (dI .i64 (dfL la4 lb8 na5 nb9 na5)) (na5 * nb9), iD ↑nb9, iD (((bsN ra3 rb7) : Nat) : Int), iD (((bdN ra3 rb7) : Nat) : Int), iD 0, iD pp, iD ff, D.sl (dI .i32 rs) Q])), (5, some (41, .ds [iD ka2, iD ↑ra3, D.sl (dI .i64 la4) na5, iD kb6, iD ↑rb7, D.sl (dI .i64 lb8) nb9, iD ↑na5, iD ↑nb9, D.sl (dI .i64 (dfL la4 lb8 na5 nb9 na5)) (na5 * nb9), iD ↑nb9, iD (((bsN ra3 rb7) : Nat) : Int), iD (((bdN ra3 rb7) : Nat) : Int), iD 0, iD p219, iD f220, D.sl (dI .i32 l215) r218])), (6, some (5, .ds (dI .u8 (encA kb6 os N)))), (7, some (41, .ds [iD ka2, iD ↑ra3, D.sl (dI .i64 la4) na5, iD kb6, iD ↑rb7, D.sl (dI .i64 lb8) nb9, iD ↑na5, iD ↑nb9, D.sl (dI .i64 (dfL la4 lb8 na5 nb9 na5)) (na5 * nb9), iD ↑nb9, iD (((bsN ra3 rb7) : Nat) : Int), iD (((bdN ra3 rb7) : Nat) : Int), iD 0, iD p226, iD f227, D.sl (dI .i32 l222) r225]))]) (nx' := 8) zk zo ?_
    refine AW.cond_f (.tmp (Look.of rfl)) ?_
    refine AW.skip ?_
    refine AW.rg [.no, .no, .ap none ((N * (szN kb6)) + ((k223 * nb9) * (szN kb6))) (dI .u8 ((encA kb6 os N) ++ (encA kb6 o221 (k223 * nb9)))), .no, .no, .no, .no, .no] [1, 10, 12, 13, 14, 16, 17, 18, 19] [3, 5, 8] (P := ((dI .u8 (encA kb6 o221 (k223 * nb9))).length = ((k223 * nb9) * (szN kb6)) * 1) ∧ (((dI .u8 (encA kb6 os N)) : List D).length = (N * (szN kb6)) * 1) ∧ (((N * (szN kb6)) + ((k223 * nb9) * (szN kb6))) * 1 ≤ 140737488355328) ∧ ((N * (szN kb6)) + ((k223 * nb9) * (szN kb6)) = ((N * (szN kb6)) + ((k223 * nb9) * (szN kb6)))) ∧ (((dI .u8 (encA kb6 os N)) : List D) ++ (dI .u8 (encA kb6 o221 (k223 * nb9))) = (dI .u8 ((encA kb6 os N) ++ (encA kb6 o221 (k223 * nb9)))))) (l' := [(1, sV .u8 al q), (10, rV 3 0), (12, sV .u8 bs11 m13), (13, sV .u8 (encA kb6 o214 (k216 * nb9)) ((k216 * nb9) * (szN kb6))), (14, rV 5 0), (16, iV ((((szN ka2) * na5) : Nat) : Int)), (17, oV 8 0 ((N * (szN kb6)) + ((k223 * nb9) * (szN kb6))) 1), (18, iV (((g2 * ((szN ka2) * na5)) : Nat) : Int)), (19, iV ↑i)]) (g' := [(3, some (41, .ds [iD ka2, iD ↑ra3, D.sl (dI .i64 la4) na5, iD kb6, iD ↑rb7, D.sl (dI .i64 lb8) nb9, iD ↑na5, iD ↑nb9, D.sl (dI .i64 (dfL la4 lb8 na5 nb9 na5)) (na5 * nb9), iD ↑nb9, iD (((bsN ra3 rb7) : Nat) : Int), iD (((bdN ra3 rb7) : Nat) : Int), iD 0, iD p226, iD f227, D.sl (dI .i32 l222) r225])), (5, some (41, .ds [iD ka2, iD ↑ra3, D.sl (dI .i64 la4) na5, iD kb6, iD ↑rb7, D.sl (dI .i64 lb8) nb9, iD ↑na5, iD ↑nb9, D.sl (dI .i64 (dfL la4 lb8 na5 nb9 na5)) (na5 * nb9), iD ↑nb9, iD (((bsN ra3 rb7) : Nat) : Int), iD (((bdN ra3 rb7) : Nat) : Int), iD 0, iD p219, iD f220, D.sl (dI .i32 l215) r218])), (8, some (5, .ds (dI .u8 ((encA kb6 os N) ++ (encA kb6 o221 (k223 * nb9))))))]) (nx' := 9) zk ⟨zlcp0, zlcp0, zo, zo, (dI_app .u8 (encA kb6 os N) (encA kb6 o221 (k223 * nb9)))⟩ ?_
    refine AW.rg [.no, .w, .no] [1, 10, 12, 13, 14, 16, 17, 18, 19] [3, 5, 8] (P := ((-9223372036854775808) ≤ (((i : Nat) : Int) + 1) ∧ (((i : Nat) : Int) + 1) ≤ 9223372036854775807)) (l' := [(1, sV .u8 al q), (10, rV 3 0), (12, sV .u8 bs11 m13), (13, sV .u8 (encA kb6 o214 (k216 * nb9)) ((k216 * nb9) * (szN kb6))), (14, rV 5 0), (16, iV ((((szN ka2) * na5) : Nat) : Int)), (17, oV 8 0 ((N * (szN kb6)) + ((k223 * nb9) * (szN kb6))) 1), (18, iV (((g2 * ((szN ka2) * na5)) : Nat) : Int)), (19, iV (↑i + 1))]) (g' := [(3, some (41, .ds [iD ka2, iD ↑ra3, D.sl (dI .i64 la4) na5, iD kb6, iD ↑rb7, D.sl (dI .i64 lb8) nb9, iD ↑na5, iD ↑nb9, D.sl (dI .i64 (dfL la4 lb8 na5 nb9 na5)) (na5 * nb9), iD ↑nb9, iD (((bsN ra3 rb7) : Nat) : Int), iD (((bdN ra3 rb7) : Nat) : Int), iD 0, iD p226, iD f227, D.sl (dI .i32 l222) r225])), (5, some (41, .ds [iD ka2, iD ↑ra3, D.sl (dI .i64 la4) na5, iD kb6, iD ↑rb7, D.sl (dI .i64 lb8) nb9, iD ↑na5, iD ↑nb9, D.sl (dI .i64 (dfL la4 lb8 na5 nb9 na5)) (na5 * nb9), iD ↑nb9, iD (((bsN ra3 rb7) : Nat) : Int), iD (((bdN ra3 rb7) : Nat) : Int), iD 0, iD p219, iD f220, D.sl (dI .i32 l215) r218])), (8, some (5, .ds (dI .u8 ((encA kb6 os N) ++ (encA kb6 o221 (k223 * nb9))))))]) (nx' := 9) zk ⟨by omega, by omega⟩ ?_
    exact Rd.of ⟨(((i + 1) : Nat), (g2 : Nat), ((N + (k223 * nb9)) : Nat), (r225 : Nat), ((os ++ o221) : List Int), (l222 : List Int), (p226 : Int), (f227 : Int)), (show ((i + 1) ≤ q + 1) ∧ (g2 ≤ fq) ∧ ((i + 1) ≤ q ∨ g2 = fq) ∧ (List.length (os ++ o221) = (N + (k223 * nb9))) ∧ (List.length l222 = r225) ∧ (∃ kk : Nat, RSt ((bsN ra3 rb7 : Nat) : Int) ((bdN ra3 rb7 : Nat) : Int) 0 0 0 nb9 0 fq [] (apA (dfL la4 lb8 na5 nb9 na5) (decA ka2 bs11 (fq * na5)) na5 nb9 (fq * nb9)) (i + 1) g2 (os ++ o221) l222 kk p226 f227) from ⟨(by first | omega | assumption | simp), zo, zo, (by rw [List.length_append]; omega), (by assumption), ⟨_, RSt.step hS1 hp9 hv9 hw9 ⟨by omega, by omega⟩ hrt hs1 hs2 hr1 hcv8⟩⟩)⟩ [(6, 8)] (P := (((dI .u8 al) : List D) = (dI .u8 al)) ∧ ((q : Nat) = q) ∧ ((0 : Nat) = 0) ∧ (((dI .u8 bs11) : List D) = (dI .u8 bs11)) ∧ ((m13 : Nat) = m13) ∧ (((dI .u8 (encA kb6 o214 (k216 * nb9))) : List D) = (dI .u8 (encA kb6 o214 (k216 * nb9)))) ∧ ((((k216 * nb9) * (szN kb6)) : Nat) = ((k216 * nb9) * (szN kb6))) ∧ ((0 : Nat) = 0) ∧ ((((((szN ka2) * na5) : Nat) : Int) : Int) = ((((szN ka2) * na5) : Nat) : Int)) ∧ ((0 : Nat) = 0) ∧ ((((N + (k223 * nb9)) * (szN kb6)) : Nat) = ((N * (szN kb6)) + ((k223 * nb9) * (szN kb6)))) ∧ (((((g2 * ((szN ka2) * na5)) : Nat) : Int) : Int) = (((g2 * ((szN ka2) * na5)) : Nat) : Int)) ∧ (((((i + 1) : Nat) : Int) : Int) = (((i : Nat) : Int) + 1)) ∧ (([iD ka2, iD ((ra3 : Nat) : Int), D.sl (dI .i64 la4) na5, iD kb6, iD ((rb7 : Nat) : Int), D.sl (dI .i64 lb8) nb9, iD ((na5 : Nat) : Int), iD ((nb9 : Nat) : Int), D.sl (dI .i64 (dfL la4 lb8 na5 nb9 na5)) (na5 * nb9), iD ((nb9 : Nat) : Int), iD (((bsN ra3 rb7) : Nat) : Int), iD (((bdN ra3 rb7) : Nat) : Int), iD 0, iD p226, iD f227, D.sl (dI .i32 l222) r225] : List D) = [iD ka2, iD ((ra3 : Nat) : Int), D.sl (dI .i64 la4) na5, iD kb6, iD ((rb7 : Nat) : Int), D.sl (dI .i64 lb8) nb9, iD ((na5 : Nat) : Int), iD ((nb9 : Nat) : Int), D.sl (dI .i64 (dfL la4 lb8 na5 nb9 na5)) (na5 * nb9), iD ((nb9 : Nat) : Int), iD (((bsN ra3 rb7) : Nat) : Int), iD (((bdN ra3 rb7) : Nat) : Int), iD 0, iD p226, iD f227, D.sl (dI .i32 l222) r225]) ∧ (([iD ka2, iD ((ra3 : Nat) : Int), D.sl (dI .i64 la4) na5, iD kb6, iD ((rb7 : Nat) : Int), D.sl (dI .i64 lb8) nb9, iD ((na5 : Nat) : Int), iD ((nb9 : Nat) : Int), D.sl (dI .i64 (dfL la4 lb8 na5 nb9 na5)) (na5 * nb9), iD ((nb9 : Nat) : Int), iD (((bsN ra3 rb7) : Nat) : Int), iD (((bdN ra3 rb7) : Nat) : Int), iD 0, iD p219, iD f220, D.sl (dI .i32 l215) r218] : List D) = [iD ka2, iD ((ra3 : Nat) : Int), D.sl (dI .i64 la4) na5, iD kb6, iD ((rb7 : Nat) : Int), D.sl (dI .i64 lb8) nb9, iD ((na5 : Nat) : Int), iD ((nb9 : Nat) : Int), D.sl (dI .i64 (dfL la4 lb8 na5 nb9 na5)) (na5 * nb9), iD ((nb9 : Nat) : Int), iD (((bsN ra3 rb7) : Nat) : Int), iD (((bdN ra3 rb7) : Nat) : Int), iD 0, iD p219, iD f220, D.sl (dI .i32 l215) r218]) ∧ (((dI .u8 (encA kb6 (os ++ o221) (N + (k223 * nb9)))) : List D) = (dI .u8 ((encA kb6 os N) ++ (encA kb6 o221 (k223 * nb9)))))) zk ⟨rfl, rfl, rfl, rfl, rfl, rfl, rfl, rfl, rfl, rfl, zlcp2, rfl, zlcp2, rfl, rfl, (by first | rfl | exact congrArg (dI .u8) (encA_app (by with_reducible assumption) _))⟩ (show q + 1 - (i + 1) < q + 1 - i from (by first | omega | (show _ < _; simp; omega)))
   ·refine AW.rgs [.no, .no, .no, .b false] [1, 10, 12, 13, 14, 16, 17, 18, 19, 20, 82] [3, 5, 6] (P := (¬ (((i : Nat) : Int) < ((q : Nat) : Int)))) (l' := [(1, sV .u8 al q), (10, rV 3 0), (12, sV .u8 bs11 m13), (13, sV .u8 (encA kb6 o214 (k216 * nb9)) ((k216 * nb9) * (szN kb6))), (14, rV 5 0), (16, iV ((((szN ka2) * na5) : Nat) : Int)), (17, oV 6 0 (N * (szN kb6)) 1), (18, iV (((g * ((szN ka2) * na5)) : Nat) : Int)), (19, iV ↑i), (20, iV ↑m13), (82, bV false)]) (g' := [(3, some (41, .ds [iD ka2, iD ↑ra3, D.sl (dI .i64 la4) na5, iD kb6, iD ↑rb7, D.sl (dI .i64 lb8) nb9, iD ↑na5, iD ↑nb9, D.sl (dI .i64 (dfL la4 lb8 na5 nb9 na5)) (na5 * nb9), iD ↑nb9, iD (((bsN ra3 rb7) : Nat) : Int), iD (((bdN ra3 rb7) : Nat) : Int), iD 0, iD pp, iD ff, D.sl (dI .i32 rs) Q])), (5, some (41, .ds [iD ka2, iD ↑ra3, D.sl (dI .i64 la4) na5, iD kb6, iD ↑rb7, D.sl (dI .i64 lb8) nb9, iD ↑na5, iD ↑nb9, D.sl (dI .i64 (dfL la4 lb8 na5 nb9 na5)) (na5 * nb9), iD ↑nb9, iD (((bsN ra3 rb7) : Nat) : Int), iD (((bdN ra3 rb7) : Nat) : Int), iD 0, iD p219, iD f220, D.sl (dI .i32 l215) r218])), (6, some (5, .ds (dI .u8 (encA kb6 os N))))]) (nx' := 7) zk zo ?_
    refine AW.cond_f (.tmp (Look.of rfl)) ?_
    refine AW.skip ?_
    obtain ⟨g2, hge⟩ : ∃ g2, g2 = fq := ⟨_, rfl⟩
    have hse := step_end hmf hg
    rw [← hge] at hse
    have hs1 : g ≤ g2 := by omega
    have hs2 : g2 ≤ fq := by omega
    have hs4 := hse.1
    have hs5 := hse.2.1
    have hs6 := hse.2.2.1
    obtain ⟨hs3, _⟩ : ((g2 * (szN ka2 * na5) : Nat) : Int) = ((m13 : Nat) : Int) ∧ True := ⟨hse.2.2.2, trivial⟩
    have hbp : Byt (List.take ((g2 - g) * (szN ka2 * na5)) (List.drop (g * (szN ka2 * na5)) bs11)) := ((show Byt bs11 by with_reducible assumption).drop _).take _
    rw [show ((m13 : Nat) : Int) = (((g2 * ((szN ka2) * na5)) : Nat) : Int) from hs3.symm]
    obtain ⟨o228, l229, k230, W231, r232, p233, f234, hx67, hx68, hx69, hx70, hx71, hx72, hx73, hx74, hF34⟩ := (V_Run ka2 ra3 la4 na5 kb6 rb7 lb8 nb9 pp ff Wr rs Q (List.take ((g2 - g) * ((szN ka2) * na5)) (List.drop (g * ((szN ka2) * na5)) bs11)) ((g2 - g) * ((szN ka2) * na5)) (g2 - g) zo zo hx6 zo zo zo hx12 zo zlcp1 zlcp1 zo zlcp1 rfl zlcp1 zo zo)
    refine AW.rgs [.no, .no, .no, .no, .sls (g * ((szN ka2) * na5)) (g2 * ((szN ka2) * na5)) ((g2 - g) * ((szN ka2) * na5)) (dI .u8 (List.take ((g2 - g) * ((szN ka2) * na5)) (List.drop (g * ((szN ka2) * na5)) bs11))), .call [] (.tup [.c (.d (D.sl (dI .u8 (encA kb6 o228 (k230 * nb9))) ((k230 * nb9) * (szN kb6)))), .agg [iC ka2, iC ((ra3 : Nat) : Int), .d (D.sl (dI .i64 la4) na5), iC kb6, iC ((rb7 : Nat) : Int), .d (D.sl (dI .i64 lb8) nb9), iC ((na5 : Nat) : Int), iC ((nb9 : Nat) : Int), .d (D.sl (dI .i64 (dfL la4 lb8 na5 nb9 na5)) (na5 * nb9)), iC ((nb9 : Nat) : Int), iC (((bsN ra3 rb7) : Nat) : Int), iC (((bdN ra3 rb7) : Nat) : Int), iC 0, iC p233, iC f234, .d (D.sl (dI .i32 l229) r232)], iE 0]) [] 0 [] none, .no, .no, .no, .no, .no, .no, .no, .no] [1, 10, 12, 13, 14, 16, 17, 19, 20, 21, 22, 23] [3, 5, 6, 7] (P := (((((g * ((szN ka2) * na5)) : Nat) : Int) : Int) = (((g * ((szN ka2) * na5)) : Nat) : Int)) ∧ (((((g2 * ((szN ka2) * na5)) : Nat) : Int) : Int) = (((g2 * ((szN ka2) * na5)) : Nat) : Int)) ∧ ((g * ((szN ka2) * na5)) ≤ (g2 * ((szN ka2) * na5))) ∧ ((g2 * ((szN ka2) * na5)) ≤ m13) ∧ ((g2 * ((szN ka2) * na5)) - (g * ((szN ka2) * na5)) = ((g2 - g) * ((szN ka2) * na5))) ∧ (List.take (((g2 - g) * ((szN ka2) * na5)) * 1) (List.drop ((g * ((szN ka2) * na5)) * 1) (dI .u8 bs11)) = (dI .u8 (List.take ((g2 - g) * ((szN ka2) * na5)) (List.drop (g * ((szN ka2) * na5)) bs11)))) ∧ (_)) (l' := [(1, sV .u8 al q), (10, rV 3 0), (12, sV .u8 bs11 m13), (13, sV .u8 (encA kb6 o214 (k216 * nb9)) ((k216 * nb9) * (szN kb6))), (14, rV 5 0), (16, iV ((((szN ka2) * na5) : Nat) : Int)), (17, oV 6 0 (N * (szN kb6)) 1), (19, iV ↑i), (20, iV (((g2 * ((szN ka2) * na5)) : Nat) : Int)), (21, sV .u8 (encA kb6 o228 (k230 * nb9)) ((k230 * nb9) * (szN kb6))), (22, rV 7 0), (23, iV 0)]) (g' := [(3, some (41, .ds [iD ka2, iD ↑ra3, D.sl (dI .i64 la4) na5, iD kb6, iD ↑rb7, D.sl (dI .i64 lb8) nb9, iD ↑na5, iD ↑nb9, D.sl (dI .i64 (dfL la4 lb8 na5 nb9 na5)) (na5 * nb9), iD ↑nb9, iD (((bsN ra3 rb7) : Nat) : Int), iD (((bdN ra3 rb7) : Nat) : Int), iD 0, iD pp, iD ff, D.sl (dI .i32 rs) Q])), (5, some (41, .ds [iD ka2, iD ↑ra3, D.sl (dI .i64 la4) na5, iD kb6, iD ↑rb7, D.sl (dI .i64 lb8) nb9, iD ↑na5, iD ↑nb9, D.sl (dI .i64 (dfL la4 lb8 na5 nb9 na5)) (na5 * nb9), iD ↑nb9, iD (((bsN ra3 rb7) : Nat) : Int), iD (((bdN ra3 rb7) : Nat) : Int), iD 0, iD p219, iD f220, D.sl (dI .i32 l215) r218])), (6, some (5, .ds (dI .u8 (encA kb6 os N)))), (7, some (41, .ds [iD ka2, iD ↑ra3, D.sl (dI .i64 la4) na5, iD kb6, iD ↑rb7, D.sl (dI .i64 lb8) nb9, iD ↑na5, iD ↑nb9, D.sl (dI .i64 (dfL la4 lb8 na5 nb9 na5)) (na5 * nb9), iD ↑nb9, iD (((bsN ra3 rb7) : Nat) : Int), iD (((bdN ra3 rb7) : Nat) : Int), iD 0, iD p233, iD f234, D.sl (dI .i32 l229) r232]))]) (nx' := 8) zk ⟨rfl, rfl, zo, zo, zo, (by first | rfl | with_reducible assumption | exact dI_app _ _ _ | exact dI_rep _ _ _ | (simp only [dI_take, dI_drop, dI_app, Nat.mul_one, Nat.zero_mul, List.drop_zero, List.nil_append, List.append_nil]; done) | (simp only [dI_take, dI_drop, dI_app, Nat.mul_one, Nat.zero_mul, List.drop_zero, List.nil_append, List.append_nil]; rfl) | (rw [List.take_of_length_le (by simp only [prV_len, rwV_len, dI_len, List.length_drop, List.length_replicate, Nat.mul_one] <;> omega)]; first | rfl | (simp only [dI_drop, Nat.mul_one, Nat.zero_mul, List.drop_zero]; done) | (simp only [dI_drop, Nat.mul_one, Nat.zero_mul, List.drop_zero]; rfl))), hF34⟩ ?_
    refine AW.seq ?_
    have hx75 : W231 * nb9 ≤ 524288 := BV.big (show (BV nb9 W231 l229) by with_reducible assumption)
    have hx76 : List.length l229 ≤ 524288 := Nat.le_trans (Nat.le_of_eq (BV.len (show (BV nb9 W231 l229) by with_reducible assumption))) (BV.big (show (BV nb9 W231 l229) by with_reducible assumption))
    have hx77 : W231 ≤ 65536 := BV.fit (show (BV nb9 W231 l229) by with_reducible assumption)
    have hx78 : k230 * nb9 ≤ 524288 := BV.big (show (BV nb9 k230 o228) by with_reducible assumption)
    have hx79 : List.length o228 ≤ 524288 := Nat.le_trans (Nat.le_of_eq (BV.len (show (BV nb9 k230 o228) by with_reducible assumption))) (BV.big (show (BV nb9 k230 o228) by with_reducible assumption))
    have hx80 : k230 ≤ 65536 := BV.fit (show (BV nb9 k230 o228) by with_reducible assumption)
    have hx81 : List.length (encA kb6 o228 (k230 * nb9)) = (k230 * nb9) * szN kb6 := encA_len zo _ _
    have hx82 : List.length (encA kb6 o228 (k230 * nb9)) ≤ 2097152 := by rw [encA_len (by omega)]; exact Nat.mul_le_mul (show (k230 * nb9) ≤ 524288 by omega) (szN_in _).2
    have hcv8 : CV ((bsN ra3 rb7 : Nat) : Int) ((bdN ra3 rb7 : Nat) : Int) 0 pp ff nb9 (Wr + (g2 - g)) (rs ++ pcL nb9 (apA (dfL la4 lb8 na5 nb9 na5) (decA ka2 bs11 (fq * na5)) na5 nb9 (fq * nb9)) g g2) o228 l229 k230 W231 p233 f234 := by rw [← piece_eq (by omega) hs1 hs2]; exact (show (CV (((bsN ra3 rb7) : Nat) : Int) (((bdN ra3 rb7) : Nat) : Int) 0 pp ff nb9 (Wr + (g2 - g)) (rs ++ (apA (dfL la4 lb8 na5 nb9 na5) (decA ka2 (List.take ((g2 - g) * ((szN ka2) * na5)) (List.drop (g * ((szN ka2) * na5)) bs11)) ((g2 - g) * na5)) na5 nb9 ((g2 - g) * nb9))) o228 l229 k230 W231 p233 f234) by with_reducible assumption)
    have hnx : (N + k230 * nb9) * szN kb6 = N * szN kb6 + k230 * nb9 * szN kb6 := Nat.add_mul _ _ _
    refine AW.rgs [.no, .b false] [1, 10, 12, 13, 14, 16, 17, 19, 20, 21, 22, 107] [3, 5, 6, 7] (P := (¬ ((0 : Int) ≠ 0))) (l' := [(1, sV .u8 al q), (10, rV 3 0), (12, sV .u8 bs11 m13), (13, sV .u8 (encA kb6 o214 (k216 * nb9)) ((k216 * nb9) * (szN kb6))), (14, rV 5 0), (16, iV ((((szN ka2) * na5) : Nat) : Int)), (17, oV 6 0 (N * (szN kb6)) 1), (19, iV ↑i), (20, iV (((g2 * ((szN ka2) * na5)) : Nat) : Int)), (21, sV .u8 (encA kb6 o228 (k230 * nb9)) ((k230 * nb9) * (szN kb6))), (22, rV 7 0), (107, bV false)]) (g' := [(3, some (41, .ds [iD ka2, iD ↑ra3, D.sl (dI .i64 la4) na5, iD kb6, iD ↑rb7, D.sl (dI .i64 lb8) nb9, iD ↑na5, iD ↑nb9, D.sl (dI .i64 (dfL la4 lb8 na5 nb9 na5)) (na5 * nb9), iD ↑nb9, iD (((bsN ra3 rb7) : Nat) : Int), iD (((bdN ra3 rb7) : Nat) : Int), iD 0, iD pp, iD ff, D.sl (dI .i32 rs) Q])), (5, some (41, .ds [iD ka2, iD ↑ra3, D.sl (dI .i64 la4) na5, iD kb6, iD ↑rb7, D.sl (dI .i64 lb8) nb9, iD ↑na5, iD ↑nb9, D.sl (dI .i64 (dfL la4 lb8 na5 nb9 na5)) (na5 * nb9), iD ↑nb9, iD (((bsN ra3 rb7) : Nat) : Int), iD (((bdN ra3 rb7) : Nat) : Int), iD 0, iD p219, iD f220, D.sl (dI .i32 l215) r218])), (6, some (5, .ds (dI .u8 (encA kb6 os N)))), (7, some (41, .ds [iD ka2, iD ↑ra3, D.sl (dI .i64 la4) na5, iD kb6, iD ↑rb7, D.sl (dI .i64 lb8) nb9, iD ↑na5, iD ↑nb9, D.sl (dI .i64 (dfL la4 lb8 na5 nb9 na5)) (na5 * nb9), iD ↑nb9, iD (((bsN ra3 rb7) : Nat) : Int), iD (((bdN ra3 rb7) : Nat) : Int), iD 0, iD p233, iD f234, D.sl (dI .i32 l229) r232]))]) (nx' := 8) zk zo ?_
    refine AW.cond_f (.tmp (Look.of rfl)) ?_
    refine AW.skip ?_
    refine AW.rg [.no, .no, .ap none ((N * (szN kb6)) + ((k230 * nb9) * (szN kb6))) (dI .u8 ((encA kb6 os N) ++ (encA kb6 o228 (k230 * nb9)))), .no, .no, .no, .no, .no] [1, 10, 12, 13, 14, 16, 17, 18, 19] [3, 5, 8] (P := ((dI .u8 (encA kb6 o228 (k230 * nb9))).length = ((k230 * nb9) * (szN kb6)) * 1) ∧ (((dI .u8 (encA kb6 os N)) : List D).length = (N * (szN kb6)) * 1) ∧ (((N * (szN kb6)) + ((k230 * nb9) * (szN kb6))) * 1 ≤ 140737488355328) ∧ ((N * (szN kb6)) + ((k230 * nb9) * (szN kb6)) = ((N * (szN kb6)) + ((k230 * nb9) * (szN kb6)))) ∧ (((dI .u8 (encA kb6 os N)) : List D) ++ (dI .u8 (encA kb6 o228 (k230 * nb9))) = (dI .u8 ((encA kb6 os N) ++ (encA kb6 o228 (k230 * nb9)))))) (l' := [(1, sV .u8 al q), (10, rV 3 0), (12, sV .u8 bs11 m13), (13, sV .u8 (encA kb6 o214 (k216 * nb9)) ((k216 * nb9) * (szN kb6))), (14, rV 5 0), (16, iV ((((szN ka2) * na5) : Nat) : Int)), (17, oV 8 0 ((N * (szN kb6)) + ((k230 * nb9) * (szN kb6))) 1), (18, iV (((g2 * ((szN ka2) * na5)) : Nat) : Int)), (19, iV ↑i)]) (g' := [(3, some (41, .ds [iD ka2, iD ↑ra3, D.sl (dI .i64 la4) na5, iD kb6, iD ↑rb7, D.sl (dI .i64 lb8) nb9, iD ↑na5, iD ↑nb9, D.sl (dI .i64 (dfL la4 lb8 na5 nb9 na5)) (na5 * nb9), iD ↑nb9, iD (((bsN ra3 rb7) : Nat) : Int), iD (((bdN ra3 rb7) : Nat) : Int), iD 0, iD p233, iD f234, D.sl (dI .i32 l229) r232])), (5, some (41, .ds [iD ka2, iD ↑ra3, D.sl (dI .i64 la4) na5, iD kb6, iD ↑rb7, D.sl (dI .i64 lb8) nb9, iD ↑na5, iD ↑nb9, D.sl (dI .i64 (dfL la4 lb8 na5 nb9 na5)) (na5 * nb9), iD ↑nb9, iD (((bsN ra3 rb7) : Nat) : Int), iD (((bdN ra3 rb7) : Nat) : Int), iD 0, iD p219, iD f220, D.sl (dI .i32 l215) r218])), (8, some (5, .ds (dI .u8 ((encA kb6 os N) ++ (encA kb6 o228 (k230 * nb9))))))]) (nx' := 9) zk ⟨zlcp0, zlcp0, zo, zo, (dI_app .u8 (encA kb6 os N) (encA kb6 o228 (k230 * nb9)))⟩ ?_
    refine AW.rg [.no, .w, .no] [1, 10, 12, 13, 14, 16, 17, 18, 19] [3, 5, 8] (P := ((-9223372036854775808) ≤ (((i : Nat) : Int) + 1) ∧ (((i : Nat) : Int) + 1) ≤ 9223372036854775807)) (l' := [(1, sV .u8 al q), (10, rV 3 0), (12, sV .u8 bs11 m13), (13, sV .u8 (encA kb6 o214 (k216 * nb9)) ((k216 * nb9) * (szN kb6))), (14, rV 5 0), (16, iV ((((szN ka2) * na5) : Nat) : Int)), (17, oV 8 0 ((N * (szN kb6)) + ((k230 * nb9) * (szN kb6))) 1), (18, iV (((g2 * ((szN ka2) * na5)) : Nat) : Int)), (19, iV (↑i + 1))]) (g' := [(3, some (41, .ds [iD ka2, iD ↑ra3, D.sl (dI .i64 la4) na5, iD kb6, iD ↑rb7, D.sl (dI .i64 lb8) nb9, iD ↑na5, iD ↑nb9, D.sl (dI .i64 (dfL la4 lb8 na5 nb9 na5)) (na5 * nb9), iD ↑nb9, iD (((bsN ra3 rb7) : Nat) : Int), iD (((bdN ra3 rb7) : Nat) : Int), iD 0, iD p233, iD f234, D.sl (dI .i32 l229) r232])), (5, some (41, .ds [iD ka2, iD ↑ra3, D.sl (dI .i64 la4) na5, iD kb6, iD ↑rb7, D.sl (dI .i64 lb8) nb9, iD ↑na5, iD ↑nb9, D.sl (dI .i64 (dfL la4 lb8 na5 nb9 na5)) (na5 * nb9), iD ↑nb9, iD (((bsN ra3 rb7) : Nat) : Int), iD (((bdN ra3 rb7) : Nat) : Int), iD 0, iD p219, iD f220, D.sl (dI .i32 l215) r218])), (8, some (5, .ds (dI .u8 ((encA kb6 os N) ++ (encA kb6 o228 (k230 * nb9))))))]) (nx' := 9) zk ⟨by omega, by omega⟩ ?_
    exact Rd.of ⟨(((i + 1) : Nat), (g2 : Nat), ((N + (k230 * nb9)) : Nat), (r232 : Nat), ((os ++ o228) : List Int), (l229 : List Int), (p233 : Int), (f234 : Int)), (show ((i + 1) ≤ q + 1) ∧ (g2 ≤ fq) ∧ ((i + 1) ≤ q ∨ g2 = fq) ∧ (List.length (os ++ o228) = (N + (k230 * nb9))) ∧ (List.length l229 = r232) ∧ (∃ kk : Nat, RSt ((bsN ra3 rb7 : Nat) : Int) ((bdN ra3 rb7 : Nat) : Int) 0 0 0 nb9 0 fq [] (apA (dfL la4 lb8 na5 nb9 na5) (decA ka2 bs11 (fq * na5)) na5 nb9 (fq * nb9)) (i + 1) g2 (os ++ o228) l229 kk p233 f234) from ⟨(by first | omega | assumption | simp), zo, zo, (by rw [List.length_append]; omega), (by assumption), ⟨_, RSt.step hS1 hp9 hv9 hw9 ⟨by omega, by omega⟩ hrt hs1 hs2 hr1 hcv8⟩⟩)⟩ [(6, 8)] (P := (((dI .u8 al) : List D) = (dI .u8 al)) ∧ ((q : Nat) = q) ∧ ((0 : Nat) = 0) ∧ (((dI .u8 bs11) : List D) = (dI .u8 bs11)) ∧ ((m13 : Nat) = m13) ∧ (((dI .u8 (encA kb6 o214 (k216 * nb9))) : List D) = (dI .u8 (encA kb6 o214 (k216 * nb9)))) ∧ ((((k216 * nb9) * (szN kb6)) : Nat) = ((k216 * nb9) * (szN kb6))) ∧ ((0 : Nat) = 0) ∧ ((((((szN ka2) * na5) : Nat) : Int) : Int) = ((((szN ka2) * na5) : Nat) : Int)) ∧ ((0 : Nat) = 0) ∧ ((((N + (k230 * nb9)) * (szN kb6)) : Nat) = ((N * (szN kb6)) + ((k230 * nb9) * (szN kb6)))) ∧ (((((g2 * ((szN ka2) * na5)) : Nat) : Int) : Int) = (((g2 * ((szN ka2) * na5)) : Nat) : Int)) ∧ (((((i + 1) : Nat) : Int) : Int) = (((i : Nat) : Int) + 1)) ∧ (([iD ka2, iD ((ra3 : Nat) : Int), D.sl (dI .i64 la4) na5, iD kb6, iD ((rb7 : Nat) : Int), D.sl (dI .i64 lb8) nb9, iD ((na5 : Nat) : Int), iD ((nb9 : Nat) : Int), D.sl (dI .i64 (dfL la4 lb8 na5 nb9 na5)) (na5 * nb9), iD ((nb9 : Nat) : Int), iD (((bsN ra3 rb7) : Nat) : Int), iD (((bdN ra3 rb7) : Nat) : Int), iD 0, iD p233, iD f234, D.sl (dI .i32 l229) r232] : List D) = [iD ka2, iD ((ra3 : Nat) : Int), D.sl (dI .i64 la4) na5, iD kb6, iD ((rb7 : Nat) : Int), D.sl (dI .i64 lb8) nb9, iD ((na5 : Nat) : Int), iD ((nb9 : Nat) : Int), D.sl (dI .i64 (dfL la4 lb8 na5 nb9 na5)) (na5 * nb9), iD ((nb9 : Nat) : Int), iD (((bsN ra3 rb7) : Nat) : Int), iD (((bdN ra3 rb7) : Nat) : Int), iD 0, iD p233, iD f234, D.sl (dI .i32 l229) r232]) ∧ (([iD ka2, iD ((ra3 : Nat) : Int), D.sl (dI .i64 la4) na5, iD kb6, iD ((rb7 : Nat) : Int), D.sl (dI .i64 lb8) nb9, iD ((na5 : Nat) : Int), iD ((nb9 : Nat) : Int), D.sl (dI .i64 (dfL la4 lb8 na5 nb9 na5)) (na5 * nb9), iD ((nb9 : Nat) : Int), iD (((bsN ra3 rb7) : Nat) : Int), iD (((bdN ra3 rb7) : Nat) : Int), iD 0, iD p219, iD f220, D.sl (dI .i32 l215) r218] : List D) = [iD ka2, iD ((ra3 : Nat) : Int), D.sl (dI .i64 la4) na5, iD kb6, iD ((rb7 : Nat) : Int), D.sl (dI .i64 lb8) nb9, iD ((na5 : Nat) : Int), iD ((nb9 : Nat) : Int), D.sl (dI .i64 (dfL la4 lb8 na5 nb9 na5)) (na5 * nb9), iD ((nb9 : Nat) : Int), iD (((bsN ra3 rb7) : Nat) : Int), iD (((bdN ra3 rb7) : Nat) : Int), iD 0, iD p219, iD f220, D.sl (dI .i32 l215) r218]) ∧ (((dI .u8 (encA kb6 (os ++ o228) (N + (k230 * nb9)))) : List D) = (dI .u8 ((encA kb6 os N) ++ (encA kb6 o228 (k230 * nb9)))))) zk ⟨rfl, rfl, rfl, rfl, rfl, rfl, rfl, rfl, rfl, rfl, zlcp2, rfl, zlcp2, rfl, rfl, (by first | rfl | exact congrArg (dI .u8) (encA_app (by with_reducible assumption) _))⟩ (show q + 1 - (i + 1) < q + 1 - i from (by first | omega | (show _ < _; simp; omega)))
  ·have hx83 : Wr * nb9 ≤ 524288 := BV.big (show (BV nb9 Wr rs) by with_reducible assumption)
   have hx84 : List.length rs ≤ 524288 := Nat.le_trans (Nat.le_of_eq (BV.len (show (BV nb9 Wr rs) by with_reducible assumption))) (BV.big (show (BV nb9 Wr rs) by with_reducible assumption))
   have hx85 : Wr ≤ 65536 := BV.fit (show (BV nb9 Wr rs) by with_reducible assumption)
   refine AW.rgs [.no, .no, .no, .b false] [1, 10, 12, 13, 14, 16, 17, 18, 19, 74] [3, 5, 6] (P := (¬ (((i : Nat) : Int) ≤ ((q : Nat) : Int)))) (l' := [(1, sV .u8 al q), (10, rV 3 0), (12, sV .u8 bs11 m13), (13, sV .u8 (encA kb6 o214 (k216 * nb9)) ((k216 * nb9) * (szN kb6))), (14, rV 5 0), (16, iV ((((szN ka2) * na5) : Nat) : Int)), (17, oV 6 0 (N * (szN kb6)) 1), (18, iV (((g * ((szN ka2) * na5)) : Nat) : Int)), (19, iV ↑i), (74, bV false)]) (g' := [(3, some (41, .ds [iD ka2, iD ↑ra3, D.sl (dI .i64 la4) na5, iD kb6, iD ↑rb7, D.sl (dI .i64 lb8) nb9, iD ↑na5, iD ↑nb9, D.sl (dI .i64 (dfL la4 lb8 na5 nb9 na5)) (na5 * nb9), iD ↑nb9, iD (((bsN ra3 rb7) : Nat) : Int), iD (((bdN ra3 rb7) : Nat) : Int), iD 0, iD pp, iD ff, D.sl (dI .i32 rs) Q])), (5, some (41, .ds [iD ka2, iD ↑ra3, D.sl (dI .i64 la4) na5, iD kb6, iD ↑rb7, D.sl (dI .i64 lb8) nb9, iD ↑na5, iD ↑nb9, D.sl (dI .i64 (dfL la4 lb8 na5 nb9 na5)) (na5 * nb9), iD ↑nb9, iD (((bsN ra3 rb7) : Nat) : Int), iD (((bdN ra3 rb7) : Nat) : Int), iD 0, iD p219, iD f220, D.sl (dI .i32 l215) r218])), (6, some (5, .ds (dI .u8 (encA kb6 os N))))]) (nx' := 7) zk zo ?_
   refine AW.cond_f (.tmp (Look.of rfl)) ?_
   refine AW.exit ?_
   obtain rfl : fq = g := by omega
   have hcv9 : (CV (((bsN ra3 rb7) : Nat) : Int) (((bdN ra3 rb7) : Nat) : Int) 0 0 0 nb9 (0 + fq) (([] : List Int) ++ (apA (dfL la4 lb8 na5 nb9 na5) (decA ka2 bs11 (fq * na5)) na5 nb9 (fq * nb9))) o214 l215 k216 W217 p219 f220) := by with_reducible assumption
   have hfin := hS1.fin hp9 hv9 hw9 (by omega) hcv9
   obtain rfl : o214 = os := hfin.1.symm
   obtain rfl : l215 = rs := hfin.2.1.symm
   obtain rfl : p219 = pp := hfin.2.2.1.symm
   obtain rfl : f220 = ff := hfin.2.2.2.symm
   obtain rfl : r218 = Q := by omega
   obtain rfl : N = (k216 * nb9) := by omega
   obtain ⟨o35, j36, hx86, hx87, hx88, hx89, hF36⟩ := (V_Fin ka2 ra3 la4 na5 kb6 rb7 lb8 nb9 p219 f220 W217 l215 r218 zo zo hx6 zo zo zo hx12 zo zlcp1 zlcp1 zo zo)
   refine AW.rgs [.no, .call [] (.tup [.c (.d (D.sl (dI .u8 (encA kb6 o35 (j36 * nb9))) ((j36 * nb9) * (szN kb6)))), iE 0]) [] 0 [] none, .no, .no, .no, .no, .no] [10, 13, 14, 17, 24, 25] [3, 5, 6] (P := (_)) (l' := [(10, rV 3 0), (13, sV .u8 (encA kb6 o214 (k216 * nb9)) ((k216 * nb9) * (szN kb6))), (14, rV 5 0), (17, oV 6 0 ((k216 * nb9) * (szN kb6)) 1), (24, sV .u8 (encA kb6 o35 (j36 * nb9)) ((j36 * nb9) * (szN kb6))), (25, iV 0)]) (g' := [(3, some (41, .ds [iD ka2, iD ↑ra3, D.sl (dI .i64 la4) na5, iD kb6, iD ↑rb7, D.sl (dI .i64 lb8) nb9, iD ↑na5, iD ↑nb9, D.sl (dI .i64 (dfL la4 lb8 na5 nb9 na5)) (na5 * nb9), iD ↑nb9, iD (((bsN ra3 rb7) : Nat) : Int), iD (((bdN ra3 rb7) : Nat) : Int), iD 0, iD p219, iD f220, D.sl (dI .i32 l215) r218])), (5, some (41, .ds [iD ka2, iD ↑ra3, D.sl (dI .i64 la4) na5, iD kb6, iD ↑rb7, D.sl (dI .i64 lb8) nb9, iD ↑na5, iD ↑nb9, D.sl (dI .i64 (dfL la4 lb8 na5 nb9 na5)) (na5 * nb9), iD ↑nb9, iD (((bsN ra3 rb7) : Nat) : Int), iD (((bdN ra3 rb7) : Nat) : Int), iD 0, iD p219, iD f220, D.sl (dI .i32 l215) r218])), (6, some (5, .ds (dI .u8 (encA kb6 o214 (k216 * nb9)))))]) (nx' := 7) zk hF36 ?_
   have hx90 : j36 * nb9 ≤ 524288 := BV.big (show (BV nb9 j36 o35) by with_reducible assumption)
   have hx91 : List.length o35 ≤ 524288 := Nat.le_trans (Nat.le_of_eq (BV.len (show (BV nb9 j36 o35) by with_reducible assumption))) (BV.big (show (BV nb9 j36 o35) by with_reducible assumption))
   have hx92 : j36 ≤ 65536 := BV.fit (show (BV nb9 j36 o35) by with_reducible assumption)
   have hx93 : List.length (encA kb6 o35 (j36 * nb9)) = (j36 * nb9) * szN kb6 := encA_len zo _ _
   have hx94 : List.length (encA kb6 o35 (j36 * nb9)) ≤ 2097152 := by rw [encA_len (by omega)]; exact Nat.mul_le_mul (show (j36 * nb9) ≤ 524288 by omega) (szN_in _).2
   obtain ⟨o37, j38, hx95, hx96, hx97, hx98, hF38⟩ := (V_Fin ka2 ra3 la4 na5 kb6 rb7 lb8 nb9 p219 f220 W217 l215 r218 zo zo hx6 zo zo zo hx12 zo zlcp1 zlcp1 zo zo)
   refine AW.rgs [.no, .call [] (.tup [.c (.d (D.sl (dI .u8 (encA kb6 o37 (j38 * nb9))) ((j38 * nb9) * (szN kb6)))), iE 0]) [] 0 [] none, .no, .no, .no, .no, .no] [10, 13, 14, 17, 24, 25, 26, 27] [3, 5, 6] (P := (_)) (l' := [(10, rV 3 0), (13, sV .u8 (encA kb6 o214 (k216 * nb9)) ((k216 * nb9) * (szN kb6))), (14, rV 5 0), (17, oV 6 0 ((k216 * nb9) * (szN kb6)) 1), (24, sV .u8 (encA kb6 o35 (j36 * nb9)) ((j36 * nb9) * (szN kb6))), (25, iV 0), (26, sV .u8 (encA kb6 o37 (j38 * nb9)) ((j38 * nb9) * (szN kb6))), (27, iV 0)]) (g' := [(3, some (41, .ds [iD ka2, iD ↑ra3, D.sl (dI .i64 la4) na5, iD kb6, iD ↑rb7, D.sl (dI .i64 lb8) nb9, iD ↑na5, iD ↑nb9, D.sl (dI .i64 (dfL la4 lb8 na5 nb9 na5)) (na5 * nb9), iD ↑nb9, iD (((bsN ra3 rb7) : Nat) : Int), iD (((bdN ra3 rb7) : Nat) : Int), iD 0, iD p219, iD f220, D.sl (dI .i32 l215) r218])), (5, some (41, .ds [iD ka2, iD ↑ra3, D.sl (dI .i64 la4) na5, iD kb6, iD ↑rb7, D.sl (dI .i64 lb8) nb9, iD ↑na5, iD ↑nb9, D.sl (dI .i64 (dfL la4 lb8 na5 nb9 na5)) (na5 * nb9), iD ↑nb9, iD (((bsN ra3 rb7) : Nat) : Int), iD (((bdN ra3 rb7) : Nat) : Int), iD 0, iD p219, iD f220, D.sl (dI .i32 l215) r218])), (6, some (5, .ds (dI .u8 (encA kb6 o214 (k216 * nb9)))))]) (nx' := 7) zk hF38 ?_
   have hx99 : j38 * nb9 ≤ 524288 := BV.big (show (BV nb9 j38 o37) by with_reducible assumption)
   have hx100 : List.length o37 ≤ 524288 := Nat.le_trans (Nat.le_of_eq (BV.len (show (BV nb9 j38 o37) by with_reducible assumption))) (BV.big (show (BV nb9 j38 o37) by with_reducible assumption))
   have hx101 : j38 ≤ 65536 := BV.fit (show (BV nb9 j38 o37) by with_reducible assumption)
   have hx102 : List.length (encA kb6 o37 (j38 * nb9)) = (j38 * nb9) * szN kb6 := encA_len zo _ _
   have hx103 : List.length (encA kb6 o37 (j38 * nb9)) ≤ 2097152 := by rw [encA_len (by omega)]; exact Nat.mul_le_mul (show (j38 * nb9) ≤ 524288 by omega) (szN_in _).2
   have hfs := FN.same (show (FN (((bsN ra3 rb7) : Nat) : Int) (((bdN ra3 rb7) : Nat) : Int) f220 nb9 W217 l215 o35 j36) by with_reducible assumption) (show (FN (((bsN ra3 rb7) : Nat) : Int) (((bdN ra3 rb7) : Nat) : Int) f220 nb9 W217 l215 o37 j38) by with_reducible assumption)
   obtain rfl : j36 = j38 := hfs.1
   obtain rfl : o35 = o37 := hfs.2
   refine AW.rgs [.no, .st none (encA kb6 o214 (k216 * nb9)), .no, .st none (encA kb6 o214 (k216 * nb9)), .b true, .no, .no, .no, .call [] (bV true) [] 0 [] none, .no, .no, .no, .b true, .no, .no, .no, .b true, .no, .no, .no, .st none (encA kb6 o35 (j36 * nb9)), .no, .st none (encA kb6 o35 (j36 * nb9)), .b true, .no, .no] [6] [] (P := ((dI .u8 (encA kb6 o214 (k216 * nb9))).length = ((k216 * nb9) * (szN kb6)) * 1) ∧ (((dI .u8 (encA kb6 o214 (k216 * nb9))) : List D) = dI .u8 (encA kb6 o214 (k216 * nb9))) ∧ ((dI .u8 (encA kb6 o214 (k216 * nb9))).length = ((k216 * nb9) * (szN kb6)) * 1) ∧ (((dI .u8 (encA kb6 o214 (k216 * nb9))) : List D) = dI .u8 (encA kb6 o214 (k216 * nb9))) ∧ ((ByteArray.toList (strOfNums (encA kb6 o214 (k216 * nb9))) == ByteArray.toList (strOfNums (encA kb6 o214 (k216 * nb9)))) = true) ∧ (_) ∧ (((0 : Int) = 0)) ∧ (((0 : Int) = 0)) ∧ ((dI .u8 (encA kb6 o35 (j36 * nb9))).length = ((j36 * nb9) * (szN kb6)) * 1) ∧ (((dI .u8 (encA kb6 o35 (j36 * nb9))) : List D) = dI .u8 (encA kb6 o35 (j36 * nb9))) ∧ ((dI .u8 (encA kb6 o35 (j36 * nb9))).length = ((j36 * nb9) * (szN kb6)) * 1) ∧ (((dI .u8 (encA kb6 o35 (j36 * nb9))) : List D) = dI .u8 (encA kb6 o35 (j36 * nb9))) ∧ ((ByteArray.toList (strOfNums (encA kb6 o35 (j36 * nb9))) == ByteArray.toList (strOfNums (encA kb6 o35 (j36 * nb9)))) = true)) (l' := [(6, bV true)]) (g' := []) (nx' := 7) zk ⟨zlcp0, rfl, zlcp0, rfl, (by simp), (V_Same ka2 ((ra3 : Nat) : Int) la4 na5 kb6 ((rb7 : Nat) : Int) lb8 nb9 ((na5 : Nat) : Int) ((nb9 : Nat) : Int) (dfL la4 lb8 na5 nb9 na5) (na5 * nb9) ((nb9 : Nat) : Int) (((bsN ra3 rb7) : Nat) : Int) (((bdN ra3 rb7) : Nat) : Int) 0 p219 f220 l215 r218 zo zo zlcp1 zo zo zo zo zo), zo, zo, zlcp0, rfl, zlcp0, rfl, (by simp)⟩ ?_
   refine AW.ret ?_
   exact EndP.of (.inr rfl) [] (P := (true = true)) zk rfl
theorem convertPieces_walk {w : World} {nn : Int} {xa0 : Option Addr} {xl0 xc0 : Nat} {sd : List Int} (hs0 : Sl .u8 w xa0 xl0 xc0 sd) {xa1 : Option Addr} {xl1 xc1 : Nat} {al : List Int} (hs1 : Sl .u8 w xa1 xl1 xc1 al) (hi_nn : 0 ≤ nn ∧ nn ≤ 255) (hgl : GlOK (fun k => k < w.heap.size) w) : Calls Tryd.prog 3 #[.slice xa0 xl0 xc0, .slice xa1 xl1 xc1, .int .u8 nn] w fun e w' => e = .returned (.bool true) ∧ Below w.heap.size w w' :=
 (V_ConvertPieces sd (List.length sd) al (List.length al) nn rfl rfl hs0.max hs1.max (Byt.of fun x hx => bounds_u8 (hs0.wf x hx)) (Byt.of fun x hx => bounds_u8 (hs1.wf x hx)) hi_nn).walk ⟨repE_sl hs0, repE_sl hs1, repE_lit rfl, trivial⟩ hgl
end Go.Proofs.YtigiolfloefjnaaDoor
