/- Laws of rate conversion. No statement is proved here. -/
import Derived.Test.YtpikmjikoifjeaaL15M
import Derived.Test.YtpikmjikoifjeaaLCut
namespace Go.Proofs.Ytpikmjikoifjeaa
open Go.ChangeShapes Go.WideShapes Go.ChangeAt Go.RowKit
set_option linter.unusedVariables false
set_option linter.unusedSimpArgs false

theorem mv_add (f s : Int) (k j : Nat) : mvV f s (k + j) = mvV f s k + ((j : Nat) : Int) * s := by
  unfold mvV; rw [Int.natCast_add, Int.add_mul]; omega
theorem mv_sh {f s P : Int} (hP : 0 < P) (k j : Nat) : mvV f s (k + j) = mvV f s k / P * P + mvV (mvV f s k % P) s j := by
  have h := Int.mul_ediv_add_emod (mvV f s k) P
  rw [Int.mul_comm] at h
  rw [mv_add]
  show _ = _ + (mvV f s k % P + ((j : Nat) : Int) * s)
  omega
theorem mv_q {f s P : Int} (hP : 0 < P) (k j : Nat) : mvV f s (k + j) / P = mvV f s k / P + mvV (mvV f s k % P) s j / P ∧ mvV f s (k + j) % P = mvV (mvV f s k % P) s j % P := by
  rw [mv_sh hP k j]
  refine ⟨?_, ?_⟩
  · rw [Int.add_comm, Int.add_mul_ediv_right _ _ (by omega), Int.add_comm]
  · rw [Int.add_comm, Int.add_mul_emod_self_right]
theorem need_sh {f s P : Int} (hP : 0 < P) (k : Nat) {j : Nat} (hj : ¬ j = 0) : needV f s P (k + j) = mvV f s k / P + needV (mvV f s k % P) s P j := by
  rw [needV_s _ _ _ (show ¬ k + j = 0 by omega), needV_s _ _ _ hj, show k + j - 1 = k + (j - 1) by omega, (mv_q hP k (j - 1)).1, (mv_q hP k j).1]
  omega
theorem k_small {n d a p f : Int} (h : PhV n d a p f) (hd : d ≤ 50 * n) {k : Nat} {x : Int} (hx : x ≤ 100) (hk : k = 0 ∨ needV f (stp n a) (d * 65536) k ≤ x) : k ≤ 5500 := by
  have hb := h.b
  have hs1 : n * 61440 ≤ stp n a := by
    unfold stp
    exact Int.mul_le_mul_of_nonneg_left (by omega) (by omega)
  apply Nat.le_of_not_lt
  intro hk9
  rcases hk with hk | hk
  · omega
  · rw [needV_s _ _ _ (by omega)] at hk
    have h1 : mvV f (stp n a) (k - 1) / (d * 65536) < 99 := by omega
    rw [Int.ediv_lt_iff_lt_mul (by omega)] at h1
    have h2 : 5500 * stp n a ≤ ((k - 1 : Nat) : Int) * stp n a := Int.mul_le_mul_of_nonneg_right (by omega) (by omega)
    unfold mvV at h1
    omega
theorem mv_need {f s P : Int} (hf : 0 ≤ f ∧ f < P) (hs : 0 ≤ s) {k x : Nat} (hk : k = 0 ∨ needV f s P k ≤ ((x : Nat) : Int)) : 0 ≤ mvV f s k / P ∧ mvV f s k / P ≤ ((x : Nat) : Int) := by
  refine ⟨Int.ediv_nonneg (by unfold mvV; have := Int.mul_nonneg (show (0 : Int) ≤ ((k : Nat) : Int) by omega) hs; omega) (by omega), ?_⟩
  rcases hk with hk | hk
  · subst hk
    rw [mv_0, Int.ediv_eq_zero_of_lt hf.1 hf.2]; omega
  · have := cv_pos hf hs k
    omega
theorem fr_dt {ch L W' G i : Nat} {l : List Int} (h : G + i + 1 ≤ L) (hW : W' = L - G) : frV ch W' (List.drop (G * ch) (List.take (L * ch) l)) i = List.take ch (List.drop ((G + i) * ch) l) := by
  unfold frV
  have e1 : (G + i + 1) * ch ≤ L * ch := Nat.mul_le_mul_right _ h
  rw [show min i (W' - 1) = i by omega, List.drop_drop, ← Nat.add_mul, List.drop_take, List.take_take]
  rw [Nat.succ_mul] at e1
  rw [Nat.min_eq_left (by omega)]
theorem pr_sh {f s P : Int} (hf : 0 ≤ f ∧ f < P) (hs : 0 ≤ s) {ch L M W' G : Nat} {l : List Int} (hM : M ≤ L) {k : Nat} (hG : mvV f s k / P = ((G : Nat) : Int)) (hW : W' = M - G) : ∀ j, (j = 0 ∨ needV (mvV f s k % P) s P j ≤ ((W' : Nat) : Int)) → prV ch L l f s P (k + j) = prV ch L l f s P k ++ prV ch W' (List.drop (G * ch) (List.take (M * ch) l)) (mvV f s k % P) s P j
  | 0, _ => by show prV ch L l f s P k = prV ch L l f s P k ++ []; rw [List.append_nil]
  | j + 1, h => by
    have hP : 0 < P := by omega
    have hm : 0 ≤ mvV f s k % P ∧ mvV f s k % P < P := ⟨Int.emod_nonneg _ (by omega), Int.emod_lt_of_pos _ hP⟩
    have h0 : needV (mvV f s k % P) s P (j + 1) ≤ ((W' : Nat) : Int) := by rcases h with h | h; omega; exact h
    have h1 : needV (mvV f s k % P) s P j ≤ ((W' : Nat) : Int) := Int.le_trans (needV_mono hm.1 hs hP (Nat.le_succ j)) h0
    rw [needV_s _ _ _ (by omega), show j + 1 - 1 = j by omega] at h0
    have hq := mv_q (f := f) (s := s) hP k j
    have h2 : 0 ≤ mvV (mvV f s k % P) s j / P := (mv_need hm hs (x := W') (.inr h1)).1
    have e1 : iqV f s P (k + j) = G + iqV (mvV f s k % P) s P j := by unfold iqV; rw [hq.1, hG]; omega
    have e2 : iqV (mvV f s k % P) s P j + 2 ≤ W' := by unfold iqV; omega
    show prV ch L l f s P (k + j) ++ rwV (frV ch L l (iqV f s P (k + j))) (frV ch L l (iqV f s P (k + j) + 1)) (mvV f s (k + j) % P) P ch = _ ++ (prV ch W' _ (mvV f s k % P) s P j ++ rwV (frV ch W' _ (iqV (mvV f s k % P) s P j)) (frV ch W' _ (iqV (mvV f s k % P) s P j + 1)) (mvV (mvV f s k % P) s j % P) P ch)
    rw [pr_sh hf hs hM hG hW j (.inr h1), hq.2, fr_dt (by omega) hW, fr_dt (by omega) hW, e1, List.append_assoc]
    congr 3
    · unfold frV; rw [show min (G + iqV (mvV f s k % P) s P j) (L - 1) = G + iqV (mvV f s k % P) s P j by omega]
    · unfold frV; rw [show min (G + iqV (mvV f s k % P) s P j + 1) (L - 1) = G + (iqV (mvV f s k % P) s P j + 1) by omega]
/-- a conversion -/
structure CV (n d a p f : Int) (ch W : Nat) (l o2 l2 : List Int) (k2 W2 : Nat) (p2 f2 : Int) : Prop where
  kE : k2 = mkF f (stp n a) (d * 65536) ((W : Nat) : Int)
  oE : o2 = prV ch W l f (stp n a) (d * 65536) k2
  lE : l2 = List.drop (goneV W f (stp n a) (d * 65536) k2 * ch) l
  wE : W2 = W - goneV W f (stp n a) (d * 65536) k2
  pE : p2 = p + mvV f (stp n a) k2 / (d * 65536)
  fE : f2 = mvV f (stp n a) k2 % (d * 65536)
/-- the state after some pieces -/
structure RSt (n d a p f : Int) (ch W F : Nat) (l w : List Int) (i t : Nat) (o r : List Int) (k : Nat) (pp ff : Int) : Prop where
  tE : t ≤ F
  kn : k = 0 ∨ needV f (stp n a) (d * 65536) k ≤ ((W + t : Nat) : Int)
  km : i = 0 ∨ k = mkF f (stp n a) (d * 65536) ((W + t : Nat) : Int)
  oE : o = prV ch (W + F) (l ++ w) f (stp n a) (d * 65536) k
  rE : r = List.drop ((mvV f (stp n a) k / (d * 65536)).toNat * ch) (List.take ((W + t) * ch) (l ++ w))
  pE : pp = p + mvV f (stp n a) k / (d * 65536)
  fE : ff = mvV f (stp n a) k % (d * 65536)
theorem RSt.z {n d a p f : Int} {ch W F : Nat} {l w : List Int} (hp : PhV n d a p f) (hv : BV ch W l) (hw : BV ch F w) : RSt n d a p f ch W F l w 0 0 [] l 0 p f where
  tE := Nat.zero_le _
  kn := .inl rfl
  km := .inl rfl
  oE := rfl
  rE := by
    have hb := hp.b
    have hl := hv.len
    rw [mv_0, Int.ediv_eq_zero_of_lt hb.2.2.2.2.1 hb.2.2.2.2.2]
    rw [show Int.toNat 0 * ch = 0 from Nat.zero_mul _, List.drop_zero, Nat.add_zero, ← hl, List.take_left]
  pE := by
    have hb := hp.b
    rw [mv_0, Int.ediv_eq_zero_of_lt hb.2.2.2.2.1 hb.2.2.2.2.2, Int.add_zero]
  fE := by
    have hb := hp.b
    rw [mv_0, Int.emod_eq_of_lt hb.2.2.2.2.1 hb.2.2.2.2.2]
theorem RSt.out {n d a p f : Int} {ch W F : Nat} {l w : List Int} {i t : Nat} {o r : List Int} {k : Nat} {pp ff : Int} (h : RSt n d a p f ch W F l w i t o r k pp ff) (hp : PhV n d a p f) (hv : BV ch W l) (hw : BV ch F w) (hs : p + ((W : Nat) : Int) ≤ 40 ∧ F ≤ 40) : ∃ Wr : Nat, BV ch Wr r ∧ PhV n d a pp ff ∧ pp + ((Wr : Nat) : Int) = p + ((W + t : Nat) : Int) ∧ List.length o = k * ch ∧ List.length r = Wr * ch := by
  have hb := hp.b
  have hst := stp_in hb.1 hb.2.2.1
  have hq := mv_need hb.2.2.2.2 (by omega) h.kn
  have ht := h.tE
  have hB := drop_BV (k := (mvV f (stp n a) k / (d * 65536)).toNat) (show BV ch (W + t) (List.take ((W + t) * ch) (l ++ w)) from by
    have h1 := app_BV hv hw (by omega)
    have e1 : (W + t) * ch ≤ (W + F) * ch := Nat.mul_le_mul_right _ (by omega)
    have hl := h1.len
    refine ⟨h1.c1, h1.c8, by rw [List.length_take]; omega, by omega, fun j hj => ?_⟩
    rw [List.length_take] at hj
    rw [getD_take (by omega)]
    exact h1.smp j (by omega)) (by omega)
  rw [← h.rE] at hB
  refine ⟨_, hB, ?_, ?_, ?_, hB.len⟩
  · rw [h.pE, h.fE]
    exact hp.mk' (by omega) ⟨Int.emod_nonneg _ (by omega), Int.emod_lt_of_pos _ (by omega)⟩
  · rw [h.pE]; omega
  · rw [h.oE, prV_len]
theorem mkV_max {f s P h : Int} : ∀ n, mkV f s P h n < n → h < needV f s P (mkV f s P h n + 1)
  | 0, h0 => absurd h0 (Nat.not_lt_zero _)
  | n + 1, h0 => by
    replace h0 : (if needV f s P (n + 1) ≤ h then n + 1 else mkV f s P h n) < n + 1 := h0
    show h < needV f s P ((if needV f s P (n + 1) ≤ h then n + 1 else mkV f s P h n) + 1)
    by_cases h9 : needV f s P (n + 1) ≤ h
    · rw [if_pos h9] at h0; omega
    · rw [if_neg h9]
      by_cases h8 : mkV f s P h n = n
      · rw [h8]; omega
      · exact mkV_max n (by have := mkV_le f s P h n; omega)
theorem mkF_max {f s P h : Int} (hk : mkF f s P h < 65536) : h < needV f s P (mkF f s P h + 1) := mkV_max 65536 hk
theorem drop_ge {l w : List Int} {x : Nat} : List.drop (List.length l + x) (l ++ w) = List.drop x w := by rw [← List.drop_drop, List.drop_left]
theorem RSt.step {n d a p f : Int} {ch W F : Nat} {l w : List Int} {i t t' : Nat} {o r : List Int} {k Wr : Nat} {pp ff : Int} (h : RSt n d a p f ch W F l w i t o r k pp ff) (hp : PhV n d a p f) (hv : BV ch W l) (hw : BV ch F w) (hs : p + ((W : Nat) : Int) ≤ 40 ∧ F ≤ 40) (hd : d ≤ 50 * n) (ht : t ≤ t') (ht' : t' ≤ F) (hr : BV ch Wr r) {o2 l2 : List Int} {k2 W2 : Nat} {p2 f2 : Int} (cv : CV n d a pp ff ch (Wr + (t' - t)) (r ++ pcL ch w t t') o2 l2 k2 W2 p2 f2) : RSt n d a p f ch W F l w (i + 1) t' (o ++ o2) l2 (k + k2) p2 f2 := by
  have hb := hp.b
  have hst := stp_in hb.1 hb.2.2.1
  have hP : 0 < d * 65536 := by omega
  have hq := mv_need hb.2.2.2.2 (by omega) h.kn
  have hv1 := hv.len
  have hw1 := hw.len
  have e1 : (W + t) * ch ≤ (W + F) * ch := Nat.mul_le_mul_right _ (by omega)
  have e2 : (W + t') * ch ≤ (W + F) * ch := Nat.mul_le_mul_right _ (by omega)
  have e3 : (W + F) * ch = W * ch + F * ch := Nat.add_mul _ _ _
  have e4 : (W + t) * ch = W * ch + t * ch := Nat.add_mul _ _ _
  have e5 : (W + t') * ch = W * ch + t' * ch := Nat.add_mul _ _ _
  have e6 : t * ch ≤ t' * ch := Nat.mul_le_mul_right _ ht
  have hff : 0 ≤ ff ∧ ff < d * 65536 := by rw [h.fE]; exact ⟨Int.emod_nonneg _ (by omega), Int.emod_lt_of_pos _ hP⟩
  obtain ⟨G, hG⟩ : ∃ G : Nat, mvV f (stp n a) k / (d * 65536) = ((G : Nat) : Int) := ⟨(mvV f (stp n a) k / (d * 65536)).toNat, by omega⟩
  have hr2 := h.rE
  rw [hG, Int.toNat_natCast] at hr2
  have hGc : G * ch ≤ (W + t) * ch := Nat.mul_le_mul_right _ (by omega)
  have hWr : Wr = W + t - G := by
    have h1 := hr.len
    have h2 : List.length r = (W + t - G) * ch := by
      rw [hr2, List.length_drop, List.length_take, List.length_append, hv1, hw1, Nat.sub_mul]; omega
    exact Nat.eq_of_mul_eq_mul_right hr.c1 (h1.symm.trans h2)
  have hL : r ++ pcL ch w t t' = List.drop (G * ch) (List.take ((W + t') * ch) (l ++ w)) := by
    have e7 : List.take ((W + t') * ch) (l ++ w) = List.take ((W + t) * ch) (l ++ w) ++ pcL ch w t t' := by
      rw [show (W + t') * ch = (W + t) * ch + (t' * ch - t * ch) by omega, List.take_add]
      unfold pcL
      rw [show (W + t) * ch = List.length l + t * ch by omega, drop_ge]
    rw [e7, List.drop_append_of_le_length (by rw [List.length_take, List.length_append, hv1, hw1]; omega), ← hr2]
  have hM : Wr + (t' - t) = W + t' - G := by omega
  rw [hL, hM] at cv
  have hk2 := mkF_need (f := ff) (s := stp n a) (P := d * 65536) (h := ((W + t' - G : Nat) : Int)) (by omega)
  rw [← cv.kE] at hk2
  have hn2 : k + k2 = 0 ∨ needV f (stp n a) (d * 65536) (k + k2) ≤ ((W + t' : Nat) : Int) := by
    by_cases h2 : k2 = 0
    · rcases h.kn with h1 | h1
      · exact .inl (by omega)
      · right; rw [h2, Nat.add_zero]; omega
    · right
      rw [need_sh hP k h2, hG, ← h.fE]; omega
  have hsm := k_small hp hd (x := ((W + t' : Nat) : Int)) (by omega) hn2
  have hmx : ((W + t' : Nat) : Int) < needV f (stp n a) (d * 65536) (k + k2 + 1) := by
    rw [Nat.add_assoc, need_sh hP k (by omega), hG, ← h.fE]
    have h9 := mkF_max (f := ff) (s := stp n a) (P := d * 65536) (h := ((W + t' - G : Nat) : Int)) (by rw [← cv.kE]; omega)
    rw [← cv.kE] at h9
    omega
  have hqq := mv_q (f := f) (s := stp n a) hP k k2
  rw [hG, ← h.fE] at hqq
  refine ⟨ht', hn2, .inr ?_, ?_, ?_, ?_, ?_⟩
  · have := mkF_eq (f := f) (s := stp n a) (P := d * 65536) (h := ((W + t' : Nat) : Int)) (k := k + k2) hb.2.2.2.2.1 (by omega) hP (by omega) hn2 (.inr hmx)
    omega
  · rw [pr_sh (M := W + t') hb.2.2.2.2 (by omega) (by omega) hG rfl k2 (.inr (by rw [← h.fE]; exact hk2.1)), ← h.oE, ← h.fE, cv.oE]
  · have hq2 := mv_need (k := k2) hff (show 0 ≤ stp n a by omega) (.inr hk2.1)
    rw [cv.lE, List.drop_drop, ← Nat.add_mul, hqq.1]
    congr 2
    unfold goneV iqV
    omega
  · rw [cv.pE, h.pE, hqq.1, hG]; omega
  · rw [cv.fE, hqq.2]
theorem RSt.fin {n d a p f : Int} {ch W F : Nat} {l w : List Int} {i : Nat} {o r : List Int} {k : Nat} {pp ff : Int} (h : RSt n d a p f ch W F l w i F o r k pp ff) (hp : PhV n d a p f) (hv : BV ch W l) (hw : BV ch F w) (hi : 1 ≤ i) {o2 l2 : List Int} {k2 W2 : Nat} {p2 f2 : Int} (cv : CV n d a p f ch (W + F) (l ++ w) o2 l2 k2 W2 p2 f2) : o = o2 ∧ r = l2 ∧ pp = p2 ∧ ff = f2 := by
  have hb := hp.b
  have hst := stp_in hb.1 hb.2.2.1
  have hk : k2 = k := by
    rcases h.km with h9 | h9
    · omega
    · rw [cv.kE, h9]
  subst hk
  have hq := mv_need hb.2.2.2.2 (by omega) h.kn
  have hv1 := hv.len
  have hw1 := hw.len
  refine ⟨by rw [h.oE, cv.oE], ?_, by rw [h.pE, cv.pE], by rw [h.fE, cv.fE]⟩
  rw [h.rE, cv.lE, List.take_of_length_le (by rw [List.length_append, hv1, hw1, Nat.add_mul]; exact Nat.le_refl _)]
  congr 2
  unfold goneV iqV
  omega

theorem X_Convert5 (ch W F : Nat) (n d a p f : Int) (l : List Int) (q : Nat) (m : List Int) (z : Nat) (hq : List.length l = q) (hv : BV ch W l) (hp : PhV n d a p f) (hz : List.length m = z) (hw : BV ch F m) (hWF : W + F ≤ 65536) (hs : p + (W : Int) + (F : Int) ≤ 1000000) : ∃ (o2 : List Int) (l2 : List Int) (k2 : Nat) (W2 : Nat) (r2 : Nat) (p2 : Int) (f2 : Int), (PhV n d a p2 f2) ∧ (BV ch W2 l2) ∧ (List.length l2 = r2) ∧ (k2 ≤ 65536) ∧ (List.length o2 = k2 * ch) ∧ (CV n d a p f ch (W + F) (l ++ m) o2 l2 k2 W2 p2 f2) ∧ (Fun 30 [.agg [iC ((ch : Nat) : Int), iC n, iC d, iC a, iC p, iC f, .d (D.sl (dI .i32 l) q)], .agg [iC ((ch : Nat) : Int), .d (D.sl (dI .i32 m) z)]] (toG []) 0 (.tup [.agg [iC ((ch : Nat) : Int), .own 0 0 (k2 * ch) 1 true], .agg [iC ((ch : Nat) : Int), iC n, iC d, iC a, iC p2, iC f2, .own 1 0 r2 1 true], iE 0]) (toG [(0, some (21, .ds (dI .i32 o2))), (1, some (21, .ds (dI .i32 l2)))]) 2) := ⟨(prV ch (W + F) (l ++ m) f (stp n a) (d * 65536) (mkF f (stp n a) (d * 65536) (((W + F) : Nat) : Int))), (List.drop ((goneV (W + F) f (stp n a) (d * 65536) (mkF f (stp n a) (d * 65536) (((W + F) : Nat) : Int))) * ch) (l ++ m)), (mkF f (stp n a) (d * 65536) (((W + F) : Nat) : Int)), ((W + F) - (goneV (W + F) f (stp n a) (d * 65536) (mkF f (stp n a) (d * 65536) (((W + F) : Nat) : Int)))), ((q + z) - ((goneV (W + F) f (stp n a) (d * 65536) (mkF f (stp n a) (d * 65536) (((W + F) : Nat) : Int))) * ch)), (p + ((mvV f (stp n a) (mkF f (stp n a) (d * 65536) (((W + F) : Nat) : Int))) / (d * 65536))), ((mvV f (stp n a) (mkF f (stp n a) (d * 65536) (((W + F) : Nat) : Int))) % (d * 65536)), (by have h9 := cv_all hp hs; have h8 := hp.b; exact hp.mk' (by omega) (by omega)), drop_BV (app_BV hv hw hWF) (by unfold goneV; omega), (by rw [List.length_drop, List.length_append, hq, hz]), (mkF_need (by omega)).2, prV_len _ _ _ _ _ _ _, ⟨rfl, rfl, rfl, rfl, rfl, rfl⟩, Q_Convert_s ch W F n d a p f l q m z hq hv hp hz hw hWF hs⟩

set_option maxHeartbeats 4000000 in
set_option maxRecDepth 100000 in
theorem Q_same15 (ch n d a p f : Int) (l : List Int) (q : Nat) (hl : List.length l = q) (hq : q ≤ 10000000) : Fun 18 [.agg [iC ch, iC n, iC d, iC a, iC p, iC f, .d (D.sl (dI .i32 l) q)], .agg [iC ch, iC n, iC d, iC a, iC p, iC f, .d (D.sl (dI .i32 l) q)]] (toG []) 0 (bV true) (toG []) 0 := by
  refine Fun.mk (n := 24) Try.func18 rfl rfl (Nat.le_of_ble_eq_true rfl) ?_
  intro cx hcx
  refine AW.rgs [.no, .no, .no] [2, 3] [0, 1] (P := True) (l' := [(2, rV 0 0), (3, rV 1 0)]) (g' := [(0, some (28, .ds [iD ch, iD n, iD d, iD a, iD p, iD f, D.sl (dI .i32 l) q])), (1, some (28, .ds [iD ch, iD n, iD d, iD a, iD p, iD f, D.sl (dI .i32 l) q]))]) (nx' := 2) (by kernel_rfl) trivial ?_
  refine AW.rgs [.no, .no, .no, .no, .b true, .no, .no, .no, .no, .no, .b true, .no, .no, .no, .no, .no, .no, .call [] (bV true) [] 0 [] none, .no, .no] [4] [] (P := ((ch = ch)) ∧ (((n = n) ∧ ((d = d) ∧ ((a = a) ∧ ((p = p) ∧ (f = f)))))) ∧ (_)) (l' := [(4, bV true)]) (g' := []) (nx' := 2) (by kernel_rfl) ⟨(by omega), ⟨(by omega), (by omega), (by omega), (by omega), (by omega)⟩, (Fun.y (G_SameData l l q q (by omega) (by omega) (by omega) (by omega)) (y' := bV true) (by simp [sameL_rfl]))⟩ ?_
  refine AW.ret ?_
  exact EndP.of (.inr rfl) [] (P := (true = true)) (by kernel_rfl) rfl

set_option maxHeartbeats 4000000 in
set_option maxRecDepth 100000 in
theorem Q_ResamplePieces (sd : List Int) (m : Nat) (al : List Int) (q : Nat) (nn : Int) (hm : List.length sd = m) (hn : List.length al = q) (hb : m ≤ 9223372036854775807) (hb2 : q ≤ 9223372036854775807) (hy : Byt sd) (hy2 : Byt al) (ht : 0 ≤ nn ∧ nn ≤ 255) : Fun 5 [.c (.d (D.sl (dI .u8 sd) m)), .c (.d (D.sl (dI .u8 al) q)), .c (.d (D.lit (.int .u8 nn)))] (toG []) 0 (bV true) (toG []) 0 := by
  refine Fun.mk (n := 90) Try.func5 rfl rfl (Nat.le_of_ble_eq_true rfl) ?_
  intro cx hcx
  refine AW.rgs [.no] [0, 1, 2] [] (P := True) (l' := [(0, sV .u8 sd m), (1, sV .u8 al q), (2, .e (.c (.d (D.lit (.int .u8 nn)))))]) (g' := []) (nx' := 0) (by kernel_rfl) trivial ?_
  refine AW.seq ?_
  refine AW.rgs [.call [] (bV true) [] 0 [] none, .no] [0, 1, 2, 20] [] (P := (_)) (l' := [(0, sV .u8 sd m), (1, sV .u8 al q), (2, .e (.c (.d (D.lit (.int .u8 nn))))), (20, bV false)]) (g' := []) (nx' := 0) (by kernel_rfl) (Q_sane) ?_
  refine AW.cond_f (.tmp (Look.of rfl)) ?_
  refine AW.skip ?_
  obtain ⟨d1, hx1, hx2, hF1⟩ := (X_New sd m (by omega) (by omega) (by first | omega | with_reducible assumption | (simp <;> omega) | rfl | assumption))
  refine AW.rgs [.no, .call [] (rV 0 0) [(0, some (71, .ds [D.sl (dI .u8 d1) (List.length d1)]))] 1 [] none, .no] [1, 2, 7] [0] (P := (_)) (l' := [(1, sV .u8 al q), (2, .e (.c (.d (D.lit (.int .u8 nn))))), (7, rV 0 0)]) (g' := [(0, some (71, .ds [D.sl (dI .u8 d1) (List.length d1)]))]) (nx' := 1) (by kernel_rfl) hF1 ?_
  obtain ⟨n2, d3, a4, p5, f6, l7, q8, W9, ch10, z11, hx3, hx4, hx5, hx6, hx7, hx8, hF11⟩ := (X_made15 d1 (by first | omega | with_reducible assumption | (simp <;> omega) | rfl | assumption))
  refine AW.rgs [.no, .call [0] (.e (.agg [iC ((ch10 : Nat) : Int), iC n2, iC d3, iC a4, iC p5, iC f6, .d (D.sl (dI .i32 l7) q8)])) [(0, some (71, .ds [D.sl (dI .u8 z11) (List.length z11)]))] 1 [] none, .no, .no] [1, 2, 8] [1] (P := (_)) (l' := [(1, sV .u8 al q), (2, .e (.c (.d (D.lit (.int .u8 nn))))), (8, rV 1 0)]) (g' := [(1, some (28, .ds [iD ↑ch10, iD n2, iD d3, iD a4, iD p5, iD f6, D.sl (dI .i32 l7) q8]))]) (nx' := 2) (by kernel_rfl) hF11 ?_
  refine AW.seq ?_
  by_cases hx9 : ((10 : Int) < ((q : Nat) : Int))
  · have hp9 : (PhV n2 d3 a4 p5 f6) := (by with_reducible assumption)
    have hb9 : (1 ≤ n2 ∧ n2 ≤ 768000) ∧ (1 ≤ d3 ∧ d3 ≤ 768000) ∧ 0 ≤ p5 := by have h9 := hp9.b; omega
    have hv9 : (BV ch10 W9 l7) := (by with_reducible assumption)
    obtain ⟨fq, hfq⟩ : ∃ fq : Nat, nn % 40 = ((fq : Nat) : Int) ∧ fq ≤ 39 := ⟨(nn % 40).toNat, by omega, by omega⟩
    refine AW.rgs [.no, .no, .b true, .no, .no] [1, 2, 8, 39] [1] (P := (((10 : Int) < ((q : Nat) : Int)))) (l' := [(1, sV .u8 al q), (2, .e (.c (.d (D.lit (.int .u8 nn))))), (8, rV 1 0), (39, bV true)]) (g' := [(1, some (28, .ds [iD ↑ch10, iD n2, iD d3, iD a4, iD p5, iD f6, D.sl (dI .i32 l7) q8]))]) (nx' := 2) (by kernel_rfl) (by omega) ?_
    refine AW.cond_t (.tmp (Look.of rfl)) ?_
    refine AW.rgs [.no] [6] [] (P := True) (l' := [(6, bV true)]) (g' := []) (nx' := 2) (by kernel_rfl) trivial ?_
    refine AW.ret ?_
    exact EndP.of (.inr rfl) [] (P := (true = true)) (by kernel_rfl) rfl
  · by_cases hx10 : ((50 * n2) < d3)
    · have hp9 : (PhV n2 d3 a4 p5 f6) := (by with_reducible assumption)
      have hb9 : (1 ≤ n2 ∧ n2 ≤ 768000) ∧ (1 ≤ d3 ∧ d3 ≤ 768000) ∧ 0 ≤ p5 := by have h9 := hp9.b; omega
      have hv9 : (BV ch10 W9 l7) := (by with_reducible assumption)
      obtain ⟨fq, hfq⟩ : ∃ fq : Nat, nn % 40 = ((fq : Nat) : Int) ∧ fq ≤ 39 := ⟨(nn % 40).toNat, by omega, by omega⟩
      refine AW.rgs [.no, .no, .b false, .no, .no, .no, .no, .no, .no, .no, .no, .no, .w, .b true, .no] [1, 2, 8, 39] [1] (P := (¬ ((10 : Int) < ((q : Nat) : Int))) ∧ ((-9223372036854775808) ≤ (50 * n2) ∧ (50 * n2) ≤ 9223372036854775807) ∧ (((50 * n2) < d3))) (l' := [(1, sV .u8 al q), (2, .e (.c (.d (D.lit (.int .u8 nn))))), (8, rV 1 0), (39, bV true)]) (g' := [(1, some (28, .ds [iD ↑ch10, iD n2, iD d3, iD a4, iD p5, iD f6, D.sl (dI .i32 l7) q8]))]) (nx' := 2) (by kernel_rfl) ⟨(by omega), ⟨by omega, by omega⟩, (by omega)⟩ ?_
      refine AW.cond_t (.tmp (Look.of rfl)) ?_
      refine AW.rgs [.no] [6] [] (P := True) (l' := [(6, bV true)]) (g' := []) (nx' := 2) (by kernel_rfl) trivial ?_
      refine AW.ret ?_
      exact EndP.of (.inr rfl) [] (P := (true = true)) (by kernel_rfl) rfl
    · have hp9 : (PhV n2 d3 a4 p5 f6) := (by with_reducible assumption)
      have hb9 : (1 ≤ n2 ∧ n2 ≤ 768000) ∧ (1 ≤ d3 ∧ d3 ≤ 768000) ∧ 0 ≤ p5 := by have h9 := hp9.b; omega
      have hv9 : (BV ch10 W9 l7) := (by with_reducible assumption)
      obtain ⟨fq, hfq⟩ : ∃ fq : Nat, nn % 40 = ((fq : Nat) : Int) ∧ fq ≤ 39 := ⟨(nn % 40).toNat, by omega, by omega⟩
      refine AW.rgs [.no, .no, .b false, .no, .no, .no, .no, .no, .no, .no, .no, .no, .w, .b false, .no] [1, 2, 8, 39] [1] (P := (¬ ((10 : Int) < ((q : Nat) : Int))) ∧ ((-9223372036854775808) ≤ (50 * n2) ∧ (50 * n2) ≤ 9223372036854775807) ∧ (¬ ((50 * n2) < d3))) (l' := [(1, sV .u8 al q), (2, .e (.c (.d (D.lit (.int .u8 nn))))), (8, rV 1 0), (39, bV false)]) (g' := [(1, some (28, .ds [iD ↑ch10, iD n2, iD d3, iD a4, iD p5, iD f6, D.sl (dI .i32 l7) q8]))]) (nx' := 2) (by kernel_rfl) ⟨(by omega), ⟨by omega, by omega⟩, (by omega)⟩ ?_
      refine AW.cond_f (.tmp (Look.of rfl)) ?_
      refine AW.skip ?_
      have hx11 : ((List.length (waveL 3 ch10 0 fq)) = (fq * ch10)) := waveL_len (3 : Nat) ch10 (0 : Nat) fq
      have hx12 : (BV ch10 fq (waveL 3 ch10 0 fq)) := waveL_BV (by omega) (by omega) (by omega)
      refine AW.rgs [.no, .no, .no, .i ((fq : Nat) : Int), .w, .call [] (.e (.agg [iC ((ch10 : Nat) : Int), .own 0 0 (fq * ch10) 1 true])) [(0, some (21, .ds (dI .i32 (waveL 3 ch10 0 fq))))] 1 [] none, .no, .no] [1, 8, 9] [1, 2, 3] (P := (¬ (40 : Int) = 0) ∧ (((Int.tmod nn 40) : Int) = ((fq : Nat) : Int)) ∧ ((-9223372036854775808) ≤ ((fq : Nat) : Int) ∧ ((fq : Nat) : Int) ≤ 9223372036854775807) ∧ (_)) (l' := [(1, sV .u8 al q), (8, rV 1 0), (9, rV 3 0)]) (g' := [(1, some (28, .ds [iD ↑ch10, iD n2, iD d3, iD a4, iD p5, iD f6, D.sl (dI .i32 l7) q8])), (2, some (21, .ds (dI .i32 (waveL 3 ch10 0 fq)))), (3, some (30, .cs [iC ↑ch10, .own 2 0 (fq * ch10) 1 true]))]) (nx' := 4) (by kernel_rfl) ⟨(by omega), (by rw [Int.tmod_eq_emod_of_nonneg (by omega)]; omega), ⟨by omega, by omega⟩, (G_Wave 3 ch10 0 fq (by omega) (by omega) (by omega) (by omega) (by omega))⟩ ?_
      refine AW.freeze 2 (l' := [(1, sV .u8 al q), (8, rV 1 0), (9, rV 3 0)]) (g' := [(1, some (28, .ds [iD ((ch10 : Nat) : Int), iD n2, iD d3, iD a4, iD p5, iD f6, D.sl (dI .i32 l7) q8])), (3, some (30, .ds [iD ((ch10 : Nat) : Int), D.sl (dI .i32 (waveL 3 ch10 0 fq)) (fq * ch10)]))]) rfl (FzS.cons rfl (.same _) (FzS.cons rfl (.same _) (FzS.cons rfl (.same _) FzS.nil))) (FzG.keep rfl rfl (FzG.to (bc := .cs [iC ((ch10 : Nat) : Int), .own 2 0 (fq * ch10) 1 true]) rfl (by rfl) (FzL.cons (.same _) (FzL.cons (@FzC.own 2 ((dI .i32 (waveL 3 ch10 0 fq)) : List D) 0 (fq * ch10) 1 true ((dI .i32 (waveL 3 ch10 0 fq)) : List D) (by rw [List.drop_zero, Nat.mul_one, List.take_of_length_le (by first | omega | (simp only [prV_len, rwV_len, dI_len, List.length_append, List.length_cons, List.length_nil, List.length_take, List.length_drop, List.length_replicate, List.length_set, List.length_map, List.length_reverse, Nat.mul_one] <;> omega))]) (by first | omega | (simp only [prV_len, rwV_len, dI_len, List.length_append, List.length_cons, List.length_nil, List.length_take, List.length_drop, List.length_replicate, List.length_set, List.length_map, List.length_reverse, Nat.mul_one] <;> omega) | rfl)) FzL.nil)) FzG.nil)) ?_
      obtain ⟨o212, l213, k214, W215, r216, p217, f218, hx13, hx14, hx15, hx16, hx17, hx18, hF18⟩ := (X_Convert5 ch10 W9 fq n2 d3 a4 p5 f6 l7 q8 (waveL 3 ch10 0 fq) (fq * ch10) (by omega) (by first | omega | with_reducible assumption | (simp <;> omega) | rfl | assumption) (by first | omega | with_reducible assumption | (simp <;> omega) | rfl | assumption) (by first | omega | with_reducible assumption | (simp <;> omega) | rfl | assumption) (by first | omega | with_reducible assumption | (simp <;> omega) | rfl | assumption) (by omega) (by omega))
      refine AW.rgs [.no, .no, .call [] (.tup [.agg [iC ((ch10 : Nat) : Int), .own 0 0 (k214 * ch10) 1 true], .agg [iC ((ch10 : Nat) : Int), iC n2, iC d3, iC a4, iC p217, iC f218, .own 1 0 r216 1 true], iE 0]) [(0, some (21, .ds (dI .i32 o212))), (1, some (21, .ds (dI .i32 l213)))] 2 [] none, .no, .no, .no, .no, .no, .no, .no, .no, .no] [1, 8, 9, 10, 11, 12] [1, 3, 4, 5, 6, 7] (P := (_)) (l' := [(1, sV .u8 al q), (8, rV 1 0), (9, rV 3 0), (10, rV 6 0), (11, rV 7 0), (12, iV 0)]) (g' := [(1, some (28, .ds [iD ↑ch10, iD n2, iD d3, iD a4, iD p5, iD f6, D.sl (dI .i32 l7) q8])), (3, some (30, .ds [iD ↑ch10, D.sl (dI .i32 (waveL 3 ch10 0 fq)) (fq * ch10)])), (4, some (21, .ds (dI .i32 o212))), (5, some (21, .ds (dI .i32 l213))), (6, some (30, .cs [iC ↑ch10, .own 4 0 (k214 * ch10) 1 true])), (7, some (28, .cs [iC ↑ch10, iC n2, iC d3, iC a4, iC p217, iC f218, .own 5 0 r216 1 true]))]) (nx' := 8) (by kernel_rfl) hF18 ?_
      have hx19 : k214 * ch10 ≤ 131072 := Nat.le_trans (Nat.mul_le_mul (show k214 ≤ 65536 by assumption) (show ch10 ≤ 2 by omega)) (by decide)
      refine AW.rgs [.no, .no, .no, .no, .no] [1, 8, 9, 10, 11, 12, 13] [1, 3, 4, 5, 6, 7, 8] (P := True) (l' := [(1, sV .u8 al q), (8, rV 1 0), (9, rV 3 0), (10, rV 6 0), (11, rV 7 0), (12, iV 0), (13, rV 8 0)]) (g' := [(1, some (28, .ds [iD ↑ch10, iD n2, iD d3, iD a4, iD p5, iD f6, D.sl (dI .i32 l7) q8])), (3, some (30, .ds [iD ↑ch10, D.sl (dI .i32 (waveL 3 ch10 0 fq)) (fq * ch10)])), (4, some (21, .ds (dI .i32 o212))), (5, some (21, .ds (dI .i32 l213))), (6, some (30, .cs [iC ↑ch10, .own 4 0 (k214 * ch10) 1 true])), (7, some (28, .cs [iC ↑ch10, iC n2, iC d3, iC a4, iC p217, iC f218, .own 5 0 r216 1 true])), (8, some (30, .ds [iD ↑ch10, D.lit (.slice none 0 0)]))]) (nx' := 9) (by kernel_rfl) trivial ?_
      refine AW.seq ?_
      obtain ⟨P19, p20, x21, hx20, hx21, hx22, hF21⟩ := (X_Pieces ch10 fq (waveL 3 ch10 0 fq) (fq * ch10) al q (by first | omega | with_reducible assumption | (simp <;> omega) | rfl | assumption) (by first | omega | with_reducible assumption | (simp <;> omega) | rfl | assumption) (by omega) (by omega) (fun j hj => hy2.at j (by omega)))
      refine AW.rgs [.no, .no, .call [] (oV 0 0 P19 2) [(0, some (30, .ds x21))] 1 [] none, .no, .no] [8, 10, 11, 12, 13, 58, 59, 60] [1, 4, 5, 6, 7, 8, 9] (P := (_)) (l' := [(8, rV 1 0), (10, rV 6 0), (11, rV 7 0), (12, iV 0), (13, rV 8 0), (58, oV 9 0 P19 2), (59, iV ↑P19), (60, iV 0)]) (g' := [(1, some (28, .ds [iD ↑ch10, iD n2, iD d3, iD a4, iD p5, iD f6, D.sl (dI .i32 l7) q8])), (4, some (21, .ds (dI .i32 o212))), (5, some (21, .ds (dI .i32 l213))), (6, some (30, .cs [iC ↑ch10, .own 4 0 (k214 * ch10) 1 true])), (7, some (28, .cs [iC ↑ch10, iC n2, iC d3, iC a4, iC p217, iC f218, .own 5 0 r216 1 true])), (8, some (30, .ds [iD ↑ch10, D.lit (.slice none 0 0)])), (9, some (30, .ds x21))]) (nx' := 10) (by kernel_rfl) hF21 ?_
      refine AW.block ?_
      have hpc : Pcs ch10 fq (waveL 3 ch10 0 fq) P19 p20 x21 := (by assumption)
      have hw9 : BV ch10 fq (waveL 3 ch10 0 fq) := (by assumption)
      have hz : fA p20 0 = 0 := hpc.z
      have hze : fA p20 P19 = fq := hpc.e
      refine AW.adoptC 8 1 1 21 (cs' := [iC ((ch10 : Nat) : Int), .own 10 0 0 1 true]) rfl rfl rfl ?_
      refine AW.loopE 0 hcx (fun (x : {x : Nat × Nat × Nat × List Int × List Int × Int × Int // match x with | (i, N, Q, os, rs, pp, ff) => (i ≤ P19) ∧ (List.length os = N) ∧ (List.length rs = Q) ∧ (∃ kk : Nat, RSt n2 d3 a4 p5 f6 ch10 W9 fq l7 (waveL 3 ch10 0 fq) i (fA p20 i) os rs kk pp ff)}) => match x with | ⟨(i, N, Q, os, rs, pp, ff), _⟩ => (⟨[(8, rV 1 0), (10, rV 6 0), (11, rV 7 0), (12, iV 0), (13, rV 8 0), (58, oV 9 0 P19 2), (59, iV ((P19 : Nat) : Int)), (60, iV ((i : Nat) : Int))], [(1, some (28, .ds [iD ((ch10 : Nat) : Int), iD n2, iD d3, iD a4, iD pp, iD ff, D.sl (dI .i32 rs) Q])), (4, some (21, .ds (dI .i32 o212))), (5, some (21, .ds (dI .i32 l213))), (6, some (30, .cs [iC ((ch10 : Nat) : Int), .own 4 0 (k214 * ch10) 1 true])), (7, some (28, .cs [iC ((ch10 : Nat) : Int), iC n2, iC d3, iC a4, iC p217, iC f218, .own 5 0 r216 1 true])), (8, some (30, .cs [iC ((ch10 : Nat) : Int), .own 10 0 N 1 true])), (9, some (30, .ds x21)), (10, some (21, .ds (dI .i32 os)))], 11⟩ : ES)) (fun (x : {x : Nat × Nat × Nat × List Int × List Int × Int × Int // match x with | (i, N, Q, os, rs, pp, ff) => (i ≤ P19) ∧ (List.length os = N) ∧ (List.length rs = Q) ∧ (∃ kk : Nat, RSt n2 d3 a4 p5 f6 ch10 W9 fq l7 (waveL 3 ch10 0 fq) i (fA p20 i) os rs kk pp ff)}) => match x with | ⟨(i, N, Q, os, rs, pp, ff), _⟩ => P19 - i) ⟨((0 : Nat), (0 : Nat), (q8 : Nat), (([] : List Int) : List Int), (l7 : List Int), (p5 : Int), (f6 : Int)), (show ((0 : Nat) ≤ P19) ∧ (List.length ([] : List Int) = (0 : Nat)) ∧ (List.length l7 = q8) ∧ (∃ kk : Nat, RSt n2 d3 a4 p5 f6 ch10 W9 fq l7 (waveL 3 ch10 0 fq) (0 : Nat) (fA p20 (0 : Nat)) ([] : List Int) l7 kk p5 f6) from ⟨(by first | omega | assumption | simp), rfl, (by assumption), ⟨0, by rw [hz]; exact RSt.z hp9 hv9 hw9⟩⟩)⟩ [] (P := ((0 : Nat) = 0) ∧ ((0 : Nat) = 0) ∧ ((0 : Nat) = 0) ∧ ((0 : Int) = 0) ∧ ((0 : Nat) = 0) ∧ ((0 : Nat) = 0) ∧ ((P19 : Nat) = P19) ∧ ((((P19 : Nat) : Int) : Int) = ((P19 : Nat) : Int)) ∧ ((0 : Int) = 0) ∧ (([iD ((ch10 : Nat) : Int), iD n2, iD d3, iD a4, iD p5, iD f6, D.sl (dI .i32 l7) q8] : List D) = [iD ((ch10 : Nat) : Int), iD n2, iD d3, iD a4, iD p5, iD f6, D.sl (dI .i32 l7) q8]) ∧ (((dI .i32 o212) : List D) = (dI .i32 o212)) ∧ (((dI .i32 l213) : List D) = (dI .i32 l213)) ∧ ((((ch10 : Nat) : Int) : Int) = ((ch10 : Nat) : Int)) ∧ ((0 : Nat) = 0) ∧ (((k214 * ch10) : Nat) = (k214 * ch10)) ∧ ((((ch10 : Nat) : Int) : Int) = ((ch10 : Nat) : Int)) ∧ ((n2 : Int) = n2) ∧ ((d3 : Int) = d3) ∧ ((a4 : Int) = a4) ∧ ((p217 : Int) = p217) ∧ ((f218 : Int) = f218) ∧ ((0 : Nat) = 0) ∧ ((r216 : Nat) = r216) ∧ ((((ch10 : Nat) : Int) : Int) = ((ch10 : Nat) : Int)) ∧ ((0 : Nat) = 0) ∧ ((0 : Nat) = 0) ∧ ((x21 : List D) = x21) ∧ (((dI .i32 ([] : List Int)) : List D) = ([] : List D))) (by kernel_rfl) ⟨rfl, rfl, rfl, rfl, rfl, rfl, rfl, rfl, rfl, rfl, rfl, rfl, rfl, rfl, rfl, rfl, rfl, rfl, rfl, rfl, rfl, rfl, rfl, rfl, rfl, rfl, rfl, (by first | rfl | with_reducible assumption | (simp only [dI_take, dI_drop, dI_app]; rfl) | (congr 1; first | assumption | (simp; done) | omega))⟩ ?_
      rintro ⟨⟨i, N, Q, os, rs, pp, ff⟩, hinv0⟩
      obtain ⟨hi, hN, hQ, hS⟩ : (i ≤ P19) ∧ (List.length os = N) ∧ (List.length rs = Q) ∧ (∃ kk : Nat, RSt n2 d3 a4 p5 f6 ch10 W9 fq l7 (waveL 3 ch10 0 fq) i (fA p20 i) os rs kk pp ff) := hinv0
      refine AW.es (l := [(8, rV 1 0), (10, rV 6 0), (11, rV 7 0), (12, iV 0), (13, rV 8 0), (58, oV 9 0 P19 2), (59, iV ((P19 : Nat) : Int)), (60, iV ((i : Nat) : Int))]) (g := [(1, some (28, .ds [iD ((ch10 : Nat) : Int), iD n2, iD d3, iD a4, iD pp, iD ff, D.sl (dI .i32 rs) Q])), (4, some (21, .ds (dI .i32 o212))), (5, some (21, .ds (dI .i32 l213))), (6, some (30, .cs [iC ((ch10 : Nat) : Int), .own 4 0 (k214 * ch10) 1 true])), (7, some (28, .cs [iC ((ch10 : Nat) : Int), iC n2, iC d3, iC a4, iC p217, iC f218, .own 5 0 r216 1 true])), (8, some (30, .cs [iC ((ch10 : Nat) : Int), .own 10 0 N 1 true])), (9, some (30, .ds x21)), (10, some (21, .ds (dI .i32 os)))]) (nx := 11) rfl rfl rfl ?_
      have hpf : fA p20 i ≤ fA p20 (i + 1) ∧ fA p20 (i + 1) ≤ fq ∧ fA p20 i * ch10 ≤ fA p20 (i + 1) * ch10 ∧ fA p20 (i + 1) * ch10 ≤ fq * ch10 ∧ List.length (pcL ch10 ((waveL 3 ch10 0 fq)) (fA p20 i) (fA p20 (i + 1))) = fA p20 (i + 1) * ch10 - fA p20 i * ch10 := pcs_facts hpc hw9 i
      have hpv : BV ch10 (fA p20 (i + 1) - fA p20 i) (pcL ch10 ((waveL 3 ch10 0 fq)) (fA p20 i) (fA p20 (i + 1))) := pcL_BV hw9 (hpc.mono i) (hpc.le (i + 1))
      obtain ⟨kk, hS1⟩ := hS
      obtain ⟨Wr, hr1, hr2, hr3, hr4, hr5⟩ := hS1.out hp9 hv9 hw9 ⟨by omega, by omega⟩
      have hpp0 : 0 ≤ pp := hr2.b.2.2.2.1.1
      have hN9 : N ≤ 100000 := by have h9 := k_small hp9 (by omega) (x := ((W9 + fA p20 i : Nat) : Int)) (by omega) hS1.kn; have h8 : kk * ch10 ≤ 5500 * 2 := Nat.mul_le_mul h9 (by omega); omega
      by_cases hx23 : (((i : Nat) : Int) < ((P19 : Nat) : Int))
      · refine AW.rgs [.b true] [8, 10, 11, 12, 13, 58, 59, 60, 61] [1, 4, 5, 6, 7, 8, 9, 10] (P := ((((i : Nat) : Int) < ((P19 : Nat) : Int)))) (l' := [(8, rV 1 0), (10, rV 6 0), (11, rV 7 0), (12, iV 0), (13, rV 8 0), (58, oV 9 0 P19 2), (59, iV ↑P19), (60, iV ↑i), (61, bV true)]) (g' := [(1, some (28, .ds [iD ↑ch10, iD n2, iD d3, iD a4, iD pp, iD ff, D.sl (dI .i32 rs) Q])), (4, some (21, .ds (dI .i32 o212))), (5, some (21, .ds (dI .i32 l213))), (6, some (30, .cs [iC ↑ch10, .own 4 0 (k214 * ch10) 1 true])), (7, some (28, .cs [iC ↑ch10, iC n2, iC d3, iC a4, iC p217, iC f218, .own 5 0 r216 1 true])), (8, some (30, .cs [iC ↑ch10, .own 10 0 N 1 true])), (9, some (30, .ds x21)), (10, some (21, .ds (dI .i32 os)))]) (nx' := 11) (by kernel_rfl) (by omega) ?_
        refine AW.seq ?_
        refine AW.cond_t (.tmp (Look.of rfl)) ?_
        refine AW.skip ?_
        refine AW.seq ?_
        refine AW.block ?_
        refine AW.rgs [.n2 i (i * 2), .ds [iD ((ch10 : Nat) : Int), D.sl (dI .i32 (pcL ch10 (waveL 3 ch10 0 fq) (fA p20 i) (fA p20 (i + 1)))) (((fA p20 (i + 1)) * ch10) - ((fA p20 i) * ch10))], .no, .no] [8, 10, 11, 12, 13, 15, 58, 59, 60] [1, 4, 5, 6, 7, 8, 9, 10, 11] (P := ((((i : Nat) : Int) : Int) = ((i : Nat) : Int)) ∧ (i < P19) ∧ ((0 : Nat) + i * 2 = (i * 2)) ∧ (List.take 2 (List.drop (i * 2) x21) = [iD ((ch10 : Nat) : Int), D.sl (dI .i32 (pcL ch10 (waveL 3 ch10 0 fq) (fA p20 i) (fA p20 (i + 1)))) (((fA p20 (i + 1)) * ch10) - ((fA p20 i) * ch10))]) ∧ (([iD ((ch10 : Nat) : Int), D.sl (dI .i32 (pcL ch10 (waveL 3 ch10 0 fq) (fA p20 i) (fA p20 (i + 1)))) (((fA p20 (i + 1)) * ch10) - ((fA p20 i) * ch10))] : List D).length = 2)) (l' := [(8, rV 1 0), (10, rV 6 0), (11, rV 7 0), (12, iV 0), (13, rV 8 0), (15, rV 11 0), (58, oV 9 0 P19 2), (59, iV ↑P19), (60, iV ↑i)]) (g' := [(1, some (28, .ds [iD ↑ch10, iD n2, iD d3, iD a4, iD pp, iD ff, D.sl (dI .i32 rs) Q])), (4, some (21, .ds (dI .i32 o212))), (5, some (21, .ds (dI .i32 l213))), (6, some (30, .cs [iC ↑ch10, .own 4 0 (k214 * ch10) 1 true])), (7, some (28, .cs [iC ↑ch10, iC n2, iC d3, iC a4, iC p217, iC f218, .own 5 0 r216 1 true])), (8, some (30, .cs [iC ↑ch10, .own 10 0 N 1 true])), (9, some (30, .ds x21)), (10, some (21, .ds (dI .i32 os))), (11, some (30, .ds [iD ↑ch10, D.sl (dI .i32 (pcL ch10 (waveL 3 ch10 0 fq) (fA p20 i) (fA p20 (i + 1)))) (((fA p20 (i + 1)) * ch10) - ((fA p20 i) * ch10))]))]) (nx' := 12) (by kernel_rfl) ⟨rfl, (by omega), (by omega), (hpc.at' _ (by omega)), rfl⟩ ?_
        obtain ⟨o222, l223, k224, W225, r226, p227, f228, hx24, hx25, hx26, hx27, hx28, hx29, hF28⟩ := (X_Convert5 ch10 Wr ((fA p20 (i + 1)) - (fA p20 i)) n2 d3 a4 pp ff rs Q (pcL ch10 (waveL 3 ch10 0 fq) (fA p20 i) (fA p20 (i + 1))) (((fA p20 (i + 1)) * ch10) - ((fA p20 i) * ch10)) (by omega) (by first | omega | with_reducible assumption | (simp <;> omega) | rfl | assumption) (by first | omega | with_reducible assumption | (simp <;> omega) | rfl | assumption) (by first | omega | with_reducible assumption | (simp <;> omega) | rfl | assumption) (by first | omega | with_reducible assumption | (simp <;> omega) | rfl | assumption) (by first | omega | with_reducible assumption | (simp <;> omega) | rfl | assumption) (by first | omega | with_reducible assumption | (simp <;> omega) | rfl | assumption))
        refine AW.rgs [.no, .no, .call [] (.tup [.agg [iC ((ch10 : Nat) : Int), .own 0 0 (k224 * ch10) 1 true], .agg [iC ((ch10 : Nat) : Int), iC n2, iC d3, iC a4, iC p227, iC f228, .own 1 0 r226 1 true], iE 0]) [(0, some (21, .ds (dI .i32 o222))), (1, some (21, .ds (dI .i32 l223)))] 2 [] none, .no, .no, .no, .no, .no, .no, .no, .no, .no] [8, 10, 11, 12, 13, 16, 17, 18, 58, 59, 60] [1, 4, 5, 6, 7, 8, 9, 10, 12, 13, 14, 15] (P := (_)) (l' := [(8, rV 1 0), (10, rV 6 0), (11, rV 7 0), (12, iV 0), (13, rV 8 0), (16, rV 14 0), (17, rV 15 0), (18, iV 0), (58, oV 9 0 P19 2), (59, iV ↑P19), (60, iV ↑i)]) (g' := [(1, some (28, .ds [iD ↑ch10, iD n2, iD d3, iD a4, iD pp, iD ff, D.sl (dI .i32 rs) Q])), (4, some (21, .ds (dI .i32 o212))), (5, some (21, .ds (dI .i32 l213))), (6, some (30, .cs [iC ↑ch10, .own 4 0 (k214 * ch10) 1 true])), (7, some (28, .cs [iC ↑ch10, iC n2, iC d3, iC a4, iC p217, iC f218, .own 5 0 r216 1 true])), (8, some (30, .cs [iC ↑ch10, .own 10 0 N 1 true])), (9, some (30, .ds x21)), (10, some (21, .ds (dI .i32 os))), (12, some (21, .ds (dI .i32 o222))), (13, some (21, .ds (dI .i32 l223))), (14, some (30, .cs [iC ↑ch10, .own 12 0 (k224 * ch10) 1 true])), (15, some (28, .cs [iC ↑ch10, iC n2, iC d3, iC a4, iC p227, iC f228, .own 13 0 r226 1 true]))]) (nx' := 16) (by kernel_rfl) hF28 ?_
        refine AW.seq ?_
        have hx30 : k224 * ch10 ≤ 131072 := Nat.le_trans (Nat.mul_le_mul (show k224 ≤ 65536 by assumption) (show ch10 ≤ 2 by omega)) (by decide)
        refine AW.rgs [.no, .b false] [8, 10, 11, 12, 13, 16, 17, 58, 59, 60, 72] [1, 4, 5, 6, 7, 8, 9, 10, 12, 13, 14, 15] (P := (¬ ((0 : Int) ≠ 0))) (l' := [(8, rV 1 0), (10, rV 6 0), (11, rV 7 0), (12, iV 0), (13, rV 8 0), (16, rV 14 0), (17, rV 15 0), (58, oV 9 0 P19 2), (59, iV ↑P19), (60, iV ↑i), (72, bV false)]) (g' := [(1, some (28, .ds [iD ↑ch10, iD n2, iD d3, iD a4, iD pp, iD ff, D.sl (dI .i32 rs) Q])), (4, some (21, .ds (dI .i32 o212))), (5, some (21, .ds (dI .i32 l213))), (6, some (30, .cs [iC ↑ch10, .own 4 0 (k214 * ch10) 1 true])), (7, some (28, .cs [iC ↑ch10, iC n2, iC d3, iC a4, iC p217, iC f218, .own 5 0 r216 1 true])), (8, some (30, .cs [iC ↑ch10, .own 10 0 N 1 true])), (9, some (30, .ds x21)), (10, some (21, .ds (dI .i32 os))), (12, some (21, .ds (dI .i32 o222))), (13, some (21, .ds (dI .i32 l223))), (14, some (30, .cs [iC ↑ch10, .own 12 0 (k224 * ch10) 1 true])), (15, some (28, .cs [iC ↑ch10, iC n2, iC d3, iC a4, iC p227, iC f228, .own 13 0 r226 1 true]))]) (nx' := 16) (by kernel_rfl) (by omega) ?_
        refine AW.cond_f (.tmp (Look.of rfl)) ?_
        refine AW.skip ?_
        refine AW.rg [.no, .no, .call [] (.e (.agg [iC ((ch10 : Nat) : Int), .own 0 0 (N + (k224 * ch10)) 1 true])) [(0, some (21, .ds (dI .i32 (os ++ o222))))] 1 [none, none] none, .no, .no, .no] [8, 10, 11, 12, 13, 58, 59, 60] [1, 4, 5, 6, 7, 8, 9, 13, 16] (P := ((dI .i32 os).length = N * 1) ∧ ((dI .i32 o222).length = (k224 * ch10) * 1) ∧ (noSlPV (.e (.agg [iC ((ch10 : Nat) : Int), .own 0 0 (N + (k224 * ch10)) 1 true])) = true) ∧ ((dI .i32 (os ++ o222)).all noSlD = true) ∧ (_)) (l' := [(8, rV 1 0), (10, rV 6 0), (11, rV 7 0), (12, iV 0), (13, rV 8 0), (58, oV 9 0 P19 2), (59, iV ↑P19), (60, iV ↑i)]) (g' := [(1, some (28, .cs [iC ↑ch10, iC n2, iC d3, iC a4, iC p227, iC f228, .own 13 0 r226 1 true])), (4, some (21, .ds (dI .i32 o212))), (5, some (21, .ds (dI .i32 l213))), (6, some (30, .cs [iC ↑ch10, .own 4 0 (k214 * ch10) 1 true])), (7, some (28, .cs [iC ↑ch10, iC n2, iC d3, iC a4, iC p217, iC f218, .own 5 0 r216 1 true])), (8, some (30, .cs [iC ↑ch10, .own 16 0 (N + (k224 * ch10)) 1 true])), (9, some (30, .ds x21)), (13, some (21, .ds (dI .i32 l223))), (16, some (21, .ds (dI .i32 (os ++ o222))))]) (nx' := 17) (by kernel_rfl) ⟨(by first | omega | (simp only [prV_len, rwV_len, dI_len, List.length_append, List.length_cons, List.length_nil, List.length_take, List.length_drop, List.length_replicate, List.length_set, List.length_map, List.length_reverse, Nat.mul_one] <;> omega) | rfl), (by first | omega | (simp only [prV_len, rwV_len, dI_len, List.length_append, List.length_cons, List.length_nil, List.length_take, List.length_drop, List.length_replicate, List.length_set, List.length_map, List.length_reverse, Nat.mul_one] <;> omega) | rfl), rfl, (by first | exact dI_ns _ _ | rfl), (G_Join ((ch10 : Nat) : Int) ((ch10 : Nat) : Int) os o222 N (k224 * ch10) (by omega) (by omega) (by omega) (by omega))⟩ ?_
        refine AW.freeze 13 (l' := [(8, rV 1 0), (10, rV 6 0), (11, rV 7 0), (12, iV 0), (13, rV 8 0), (58, oV 9 0 P19 2), (59, iV ((P19 : Nat) : Int)), (60, iV ((i : Nat) : Int))]) (g' := [(1, some (28, .ds [iD ((ch10 : Nat) : Int), iD n2, iD d3, iD a4, iD p227, iD f228, D.sl (dI .i32 l223) r226])), (4, some (21, .ds (dI .i32 o212))), (5, some (21, .ds (dI .i32 l213))), (6, some (30, .cs [iC ((ch10 : Nat) : Int), .own 4 0 (k214 * ch10) 1 true])), (7, some (28, .cs [iC ((ch10 : Nat) : Int), iC n2, iC d3, iC a4, iC p217, iC f218, .own 5 0 r216 1 true])), (8, some (30, .cs [iC ((ch10 : Nat) : Int), .own 16 0 (N + (k224 * ch10)) 1 true])), (9, some (30, .ds x21)), (16, some (21, .ds (dI .i32 (os ++ o222))))]) rfl (FzS.cons rfl (.same _) (FzS.cons rfl (.same _) (FzS.cons rfl (.same _) (FzS.cons rfl (.same _) (FzS.cons rfl (.same _) (FzS.cons rfl (.same _) (FzS.cons rfl (.same _) (FzS.cons rfl (.same _) FzS.nil)))))))) (FzG.to (bc := .cs [iC ((ch10 : Nat) : Int), iC n2, iC d3, iC a4, iC p227, iC f228, .own 13 0 r226 1 true]) rfl (by rfl) (FzL.cons (.same _) (FzL.cons (.same _) (FzL.cons (.same _) (FzL.cons (.same _) (FzL.cons (.same _) (FzL.cons (.same _) (FzL.cons (@FzC.own 13 ((dI .i32 l223) : List D) 0 r226 1 true ((dI .i32 l223) : List D) (by rw [List.drop_zero, Nat.mul_one, List.take_of_length_le (by first | omega | (simp only [prV_len, rwV_len, dI_len, List.length_append, List.length_cons, List.length_nil, List.length_take, List.length_drop, List.length_replicate, List.length_set, List.length_map, List.length_reverse, Nat.mul_one] <;> omega))]) (by first | omega | (simp only [prV_len, rwV_len, dI_len, List.length_append, List.length_cons, List.length_nil, List.length_take, List.length_drop, List.length_replicate, List.length_set, List.length_map, List.length_reverse, Nat.mul_one] <;> omega) | rfl)) FzL.nil))))))) (FzG.keep rfl rfl (FzG.keep rfl rfl (FzG.keep rfl rfl (FzG.keep rfl rfl (FzG.keep rfl rfl (FzG.keep rfl rfl (FzG.keep rfl rfl FzG.nil)))))))) ?_
        refine AW.rg [.w, .no] [8, 10, 11, 12, 13, 58, 59, 60] [1, 4, 5, 6, 7, 8, 9, 16] (P := ((-9223372036854775808) ≤ (((i : Nat) : Int) + 1) ∧ (((i : Nat) : Int) + 1) ≤ 9223372036854775807)) (l' := [(8, rV 1 0), (10, rV 6 0), (11, rV 7 0), (12, iV 0), (13, rV 8 0), (58, oV 9 0 P19 2), (59, iV ↑P19), (60, iV (↑i + 1))]) (g' := [(1, some (28, .ds [iD ↑ch10, iD n2, iD d3, iD a4, iD p227, iD f228, D.sl (dI .i32 l223) r226])), (4, some (21, .ds (dI .i32 o212))), (5, some (21, .ds (dI .i32 l213))), (6, some (30, .cs [iC ↑ch10, .own 4 0 (k214 * ch10) 1 true])), (7, some (28, .cs [iC ↑ch10, iC n2, iC d3, iC a4, iC p217, iC f218, .own 5 0 r216 1 true])), (8, some (30, .cs [iC ↑ch10, .own 16 0 (N + (k224 * ch10)) 1 true])), (9, some (30, .ds x21)), (16, some (21, .ds (dI .i32 (os ++ o222))))]) (nx' := 17) (by kernel_rfl) ⟨by omega, by omega⟩ ?_
        exact Rd.of ⟨(((i + 1) : Nat), ((N + (k224 * ch10)) : Nat), (r226 : Nat), ((os ++ o222) : List Int), (l223 : List Int), (p227 : Int), (f228 : Int)), (show ((i + 1) ≤ P19) ∧ (List.length (os ++ o222) = (N + (k224 * ch10))) ∧ (List.length l223 = r226) ∧ (∃ kk : Nat, RSt n2 d3 a4 p5 f6 ch10 W9 fq l7 (waveL 3 ch10 0 fq) (i + 1) (fA p20 (i + 1)) (os ++ o222) l223 kk p227 f228) from ⟨(by first | omega | assumption | simp), (by rw [List.length_append]; omega), (by assumption), ⟨_, RSt.step hS1 hp9 hv9 hw9 ⟨by omega, by omega⟩ (by omega) (hpc.mono _) (hpc.le _) hr1 (by assumption)⟩⟩)⟩ [(10, 16)] (P := ((0 : Nat) = 0) ∧ ((0 : Nat) = 0) ∧ ((0 : Nat) = 0) ∧ ((0 : Int) = 0) ∧ ((0 : Nat) = 0) ∧ ((0 : Nat) = 0) ∧ ((P19 : Nat) = P19) ∧ ((((P19 : Nat) : Int) : Int) = ((P19 : Nat) : Int)) ∧ (((((i + 1) : Nat) : Int) : Int) = (((i : Nat) : Int) + 1)) ∧ (([iD ((ch10 : Nat) : Int), iD n2, iD d3, iD a4, iD p227, iD f228, D.sl (dI .i32 l223) r226] : List D) = [iD ((ch10 : Nat) : Int), iD n2, iD d3, iD a4, iD p227, iD f228, D.sl (dI .i32 l223) r226]) ∧ (((dI .i32 o212) : List D) = (dI .i32 o212)) ∧ (((dI .i32 l213) : List D) = (dI .i32 l213)) ∧ ((((ch10 : Nat) : Int) : Int) = ((ch10 : Nat) : Int)) ∧ ((0 : Nat) = 0) ∧ (((k214 * ch10) : Nat) = (k214 * ch10)) ∧ ((((ch10 : Nat) : Int) : Int) = ((ch10 : Nat) : Int)) ∧ ((n2 : Int) = n2) ∧ ((d3 : Int) = d3) ∧ ((a4 : Int) = a4) ∧ ((p217 : Int) = p217) ∧ ((f218 : Int) = f218) ∧ ((0 : Nat) = 0) ∧ ((r216 : Nat) = r216) ∧ ((((ch10 : Nat) : Int) : Int) = ((ch10 : Nat) : Int)) ∧ ((0 : Nat) = 0) ∧ (((N + (k224 * ch10)) : Nat) = (N + (k224 * ch10))) ∧ ((x21 : List D) = x21) ∧ (((dI .i32 (os ++ o222)) : List D) = (dI .i32 (os ++ o222)))) (by kernel_rfl) ⟨rfl, rfl, rfl, rfl, rfl, rfl, rfl, rfl, (by first | rfl | omega | assumption | (simp; done) | (simp; omega)), rfl, rfl, rfl, rfl, rfl, rfl, rfl, rfl, rfl, rfl, rfl, rfl, rfl, rfl, rfl, rfl, rfl, rfl, rfl⟩ (show P19 - (i + 1) < P19 - i from (by first | omega | (show _ < _; simp; omega)))
      · obtain rfl : P19 = i := by omega
        rw [hze] at hS1
        have hcv : (CV n2 d3 a4 p5 f6 ch10 (W9 + fq) (l7 ++ (waveL 3 ch10 0 fq)) o212 l213 k214 W215 p217 f218) := (by assumption)
        have hfin := hS1.fin hp9 hv9 hw9 (by omega) hcv
        obtain rfl : o212 = os := hfin.1.symm
        obtain rfl : l213 = rs := hfin.2.1.symm
        obtain rfl : p217 = pp := hfin.2.2.1.symm
        obtain rfl : f218 = ff := hfin.2.2.2.symm
        obtain rfl : r216 = Q := by omega
        have hr9 : r216 ≤ 524288 := by have h9 := BV.big (show BV ch10 W215 l213 by assumption); have h8 := BV.len (show BV ch10 W215 l213 by assumption); omega
        refine AW.rgs [.b false] [8, 10, 11, 12, 13, 58, 59, 60, 61] [1, 4, 5, 6, 7, 8, 9, 10] (P := (¬ (((P19 : Nat) : Int) < ((P19 : Nat) : Int)))) (l' := [(8, rV 1 0), (10, rV 6 0), (11, rV 7 0), (12, iV 0), (13, rV 8 0), (58, oV 9 0 P19 2), (59, iV ↑P19), (60, iV ↑P19), (61, bV false)]) (g' := [(1, some (28, .ds [iD ↑ch10, iD n2, iD d3, iD a4, iD p217, iD f218, D.sl (dI .i32 l213) r216])), (4, some (21, .ds (dI .i32 o212))), (5, some (21, .ds (dI .i32 l213))), (6, some (30, .cs [iC ↑ch10, .own 4 0 (k214 * ch10) 1 true])), (7, some (28, .cs [iC ↑ch10, iC n2, iC d3, iC a4, iC p217, iC f218, .own 5 0 r216 1 true])), (8, some (30, .cs [iC ↑ch10, .own 10 0 N 1 true])), (9, some (30, .ds x21)), (10, some (21, .ds (dI .i32 o212)))]) (nx' := 11) (by kernel_rfl) (by omega) ?_
        refine AW.seq ?_
        refine AW.cond_f (.tmp (Look.of rfl)) ?_
        refine AW.exit ?_
        refine AW.rgs [.no, .b true, .no, .no, .no, .call [] (bV true) [] 0 [none] none, .no, .no, .no, .no, .call [] (bV true) [] 0 [none, none] none, .no, .no] [6] [] (P := (((0 : Int) = 0)) ∧ ((dI .i32 l213).length = r216 * 1) ∧ (noSlPV (bV true) = true) ∧ (_) ∧ ((dI .i32 o212).length = N * 1) ∧ ((dI .i32 o212).length = (k214 * ch10) * 1) ∧ (noSlPV (bV true) = true) ∧ (_)) (l' := [(6, bV true)]) (g' := []) (nx' := 11) (by kernel_rfl) ⟨(by omega), (by first | omega | (simp only [prV_len, rwV_len, dI_len, List.length_append, List.length_cons, List.length_nil, List.length_take, List.length_drop, List.length_replicate, List.length_set, List.length_map, List.length_reverse, Nat.mul_one] <;> omega) | rfl), rfl, (Q_same15 ((ch10 : Nat) : Int) n2 d3 a4 p217 f218 l213 r216 (by omega) (by omega)), (by first | omega | (simp only [prV_len, rwV_len, dI_len, List.length_append, List.length_cons, List.length_nil, List.length_take, List.length_drop, List.length_replicate, List.length_set, List.length_map, List.length_reverse, Nat.mul_one] <;> omega) | rfl), (by first | omega | (simp only [prV_len, rwV_len, dI_len, List.length_append, List.length_cons, List.length_nil, List.length_take, List.length_drop, List.length_replicate, List.length_set, List.length_map, List.length_reverse, Nat.mul_one] <;> omega) | rfl), rfl, (Fun.y (G_Same ((ch10 : Nat) : Int) ((ch10 : Nat) : Int) o212 o212 N (k214 * ch10) (by omega) (by omega) (by omega) (by omega)) (y' := bV true) (by simp [sameL_rfl]))⟩ ?_
        refine AW.ret ?_
        exact EndP.of (.inr rfl) [] (P := (true = true)) (by kernel_rfl) rfl

theorem Sl.max {k : IntKind} {w : World} {a : Option Addr} {len cap : Nat} {l : List Int} (h : Sl k w a len cap l) : List.length l ≤ 9223372036854775807 := by
  obtain ⟨h1, h2, h3, _⟩ := h
  unfold maxLen at h3
  omega

theorem resamplePieces_walk {w : World} {nn : Int} {xa0 : Option Addr} {xl0 xc0 : Nat} {sd : List Int} (hs0 : Sl .u8 w xa0 xl0 xc0 sd) {xa1 : Option Addr} {xl1 xc1 : Nat} {al : List Int} (hs1 : Sl .u8 w xa1 xl1 xc1 al) (hi_nn : 0 ≤ nn ∧ nn ≤ 255) : Calls Try.prog 5 #[.slice xa0 xl0 xc0, .slice xa1 xl1 xc1, .int .u8 nn] w fun e w' => e = .returned (.bool true) ∧ Below w.heap.size w w' :=
  (Q_ResamplePieces sd (List.length sd) al (List.length al) nn rfl rfl hs0.max hs1.max (Byt.of fun x hx => bounds_u8 (hs0.wf x hx)) (Byt.of fun x hx => bounds_u8 (hs1.wf x hx)) hi_nn).walk ⟨repE_sl hs0, repE_sl hs1, repE_lit rfl, trivial⟩

end Go.Proofs.Ytpikmjikoifjeaa
