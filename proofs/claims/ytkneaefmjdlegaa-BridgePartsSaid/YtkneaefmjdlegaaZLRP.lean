/- Laws of bridges. No statement is proved here. -/
import Derived.Test.YtkneaefmjdlegaaZL19M
import Derived.Test.YtkneaefmjdlegaaZLCut
namespace Go.Proofs.Ytkneaefmjdlegaa
open Go.ChangeShapes Go.WideShapes Go.ChangeAt Go.RowKit
set_option linter.unusedVariables false
set_option linter.unusedSimpArgs false
theorem mv_add (f s : Int) (k j : Nat) : mvV f s (k + j) = mvV f s k + ((j : Nat) : Int) * s := by
  unfold mvV; rw [Int.natCast_add, Int.add_mul]; omega
theorem mv_sh {f s P : Int} (hP : 0 < P) (k j : Nat) : mvV f s (k + j) = mvV f s k / P * P + mvV (mvV f s k % P) s j := by
  have h := Int.mul_ediv_add_emod (mvV f s k) P
  rw [Int.mul_comm] at h
  rw [mv_add]
  show _ = _ + (mvV f s k % P + ((j : Nat) : Int) * s)
  omega
theorem mv_q {f s P : Int} (hP : 0 < P) (k j : Nat) : mvV f s (k + j) / P = mvV f s k / P + mvV (mvV f s k % P) s j / P ∧ mvV f s (k + j) % P = mvV (mvV f s k % P) s j % P := by
  rw [mv_sh hP k j]
  refine ⟨?_, ?_⟩
  · rw [Int.add_comm, Int.add_mul_ediv_right _ _ (by omega), Int.add_comm]
  · rw [Int.add_comm, Int.add_mul_emod_self_right]
theorem need_sh {f s P : Int} (hP : 0 < P) (k : Nat) {j : Nat} (hj : ¬ j = 0) : needV f s P (k + j) = mvV f s k / P + needV (mvV f s k % P) s P j := by
  rw [needV_s _ _ _ (show ¬ k + j = 0 by omega), needV_s _ _ _ hj, show k + j - 1 = k + (j - 1) by omega, (mv_q hP k (j - 1)).1, (mv_q hP k j).1]
  omega
theorem mv_need {f s P : Int} (hf : 0 ≤ f ∧ f < P) (hs : 0 ≤ s) {k x : Nat} (hk : k = 0 ∨ needV f s P k ≤ ((x : Nat) : Int)) : 0 ≤ mvV f s k / P ∧ mvV f s k / P ≤ ((x : Nat) : Int) := by
  refine ⟨Int.ediv_nonneg (by unfold mvV; have := Int.mul_nonneg (show (0 : Int) ≤ ((k : Nat) : Int) by omega) hs; omega) (by omega), ?_⟩
  rcases hk with hk | hk
  · subst hk
    rw [mv_0, Int.ediv_eq_zero_of_lt hf.1 hf.2]; omega
  · have := cv_pos hf hs k
    omega
theorem fr_dt {ch L W' G i : Nat} {l : List Int} (h : G + i + 1 ≤ L) (hW : W' = L - G) : frV ch W' (List.drop (G * ch) (List.take (L * ch) l)) i = List.take ch (List.drop ((G + i) * ch) l) := by
  unfold frV
  have e1 : (G + i + 1) * ch ≤ L * ch := Nat.mul_le_mul_right _ h
  rw [show min i (W' - 1) = i by omega, List.drop_drop, ← Nat.add_mul, List.drop_take, List.take_take]
  rw [Nat.succ_mul] at e1
  rw [Nat.min_eq_left (by omega)]
theorem pr_sh {f s P : Int} (hf : 0 ≤ f ∧ f < P) (hs : 0 ≤ s) {ch L M W' G : Nat} {l : List Int} (hM : M ≤ L) {k : Nat} (hG : mvV f s k / P = ((G : Nat) : Int)) (hW : W' = M - G) : ∀ j, (j = 0 ∨ needV (mvV f s k % P) s P j ≤ ((W' : Nat) : Int)) → prV ch L l f s P (k + j) = prV ch L l f s P k ++ prV ch W' (List.drop (G * ch) (List.take (M * ch) l)) (mvV f s k % P) s P j
  | 0, _ => by show prV ch L l f s P k = prV ch L l f s P k ++ []; rw [List.append_nil]
  | j + 1, h => by
    have hP : 0 < P := by omega
    have hm : 0 ≤ mvV f s k % P ∧ mvV f s k % P < P := ⟨Int.emod_nonneg _ (by omega), Int.emod_lt_of_pos _ hP⟩
    have h0 : needV (mvV f s k % P) s P (j + 1) ≤ ((W' : Nat) : Int) := by rcases h with h | h; omega; exact h
    have h1 : needV (mvV f s k % P) s P j ≤ ((W' : Nat) : Int) := Int.le_trans (needV_mono hm.1 hs hP (Nat.le_succ j)) h0
    rw [needV_s _ _ _ (by omega), show j + 1 - 1 = j by omega] at h0
    have hq := mv_q (f := f) (s := s) hP k j
    have h2 : 0 ≤ mvV (mvV f s k % P) s j / P := (mv_need hm hs (x := W') (.inr h1)).1
    have e1 : iqV f s P (k + j) = G + iqV (mvV f s k % P) s P j := by unfold iqV; rw [hq.1, hG]; omega
    have e2 : iqV (mvV f s k % P) s P j + 2 ≤ W' := by unfold iqV; omega
    show prV ch L l f s P (k + j) ++ rwV (frV ch L l (iqV f s P (k + j))) (frV ch L l (iqV f s P (k + j) + 1)) (mvV f s (k + j) % P) P ch = _ ++ (prV ch W' _ (mvV f s k % P) s P j ++ rwV (frV ch W' _ (iqV (mvV f s k % P) s P j)) (frV ch W' _ (iqV (mvV f s k % P) s P j + 1)) (mvV (mvV f s k % P) s j % P) P ch)
    rw [pr_sh hf hs hM hG hW j (.inr h1), hq.2, fr_dt (by omega) hW, fr_dt (by omega) hW, e1, List.append_assoc]
    congr 3
    · unfold frV; rw [show min (G + iqV (mvV f s k % P) s P j) (L - 1) = G + iqV (mvV f s k % P) s P j by omega]
    · unfold frV; rw [show min (G + iqV (mvV f s k % P) s P j + 1) (L - 1) = G + (iqV (mvV f s k % P) s P j + 1) by omega]
theorem mkV_ge {f s P h : Int} {k : Nat} : ∀ n, k ≤ n → needV f s P k ≤ h → k ≤ mkV f s P h n
  | 0, hk, _ => by show k ≤ 0; exact hk
  | n + 1, hk, h1 => by
    show k ≤ (if needV f s P (n + 1) ≤ h then n + 1 else mkV f s P h n)
    by_cases h9 : needV f s P (n + 1) ≤ h
    · rw [if_pos h9]; exact hk
    · rw [if_neg h9]
      refine mkV_ge n ?_ h1
      by_cases e : k = n + 1
      · subst e; exact absurd h1 h9
      · omega
/-- how many frames are made of W, at most N -/
theorem k_char {f s P : Int} {W N k : Nat} (hf : 0 ≤ f) (hs : 0 ≤ s) (hP : 0 < P) (hN : N ≤ 60000) (h : ((k : Nat) : Int) = min ((mkF f s P ((W : Nat) : Int) : Nat) : Int) ((N : Nat) : Int)) : (k = 0 ∨ needV f s P k ≤ ((W : Nat) : Int)) ∧ (k = N ∨ ((W : Nat) : Int) < needV f s P (k + 1)) ∧ k ≤ N := by
  have h1 := mkF_need (f := f) (s := s) (P := P) (h := ((W : Nat) : Int)) (by omega)
  refine ⟨.inr (Int.le_trans (needV_mono hf hs hP (show k ≤ mkF f s P ((W : Nat) : Int) by omega)) h1.1), ?_, by omega⟩
  by_cases h9 : k = N
  · exact .inl h9
  · right
    apply Int.lt_of_not_ge
    intro h2
    have h3 := mkV_ge (f := f) (s := s) (P := P) (h := ((W : Nat) : Int)) (k := k + 1) 65536 (by omega) h2
    have h4 : mkF f s P ((W : Nat) : Int) = mkV f s P ((W : Nat) : Int) 65536 := rfl
    omega
theorem k_uniq {f s P : Int} {W N k j : Nat} (hf : 0 ≤ f) (hs : 0 ≤ s) (hP : 0 < P) (h1 : (k = 0 ∨ needV f s P k ≤ ((W : Nat) : Int)) ∧ (k = N ∨ ((W : Nat) : Int) < needV f s P (k + 1)) ∧ k ≤ N) (h2 : (j = 0 ∨ needV f s P j ≤ ((W : Nat) : Int)) ∧ (j = N ∨ ((W : Nat) : Int) < needV f s P (j + 1)) ∧ j ≤ N) : k = j := by
  rcases Nat.lt_trichotomy k j with h | h | h
  · have h3 := needV_mono hf hs hP (show k + 1 ≤ j by omega)
    rcases h1.2.1 with h4 | h4
    · omega
    · rcases h2.1 with h5 | h5 <;> omega
  · exact h
  · have h3 := needV_mono hf hs hP (show j + 1 ≤ k by omega)
    rcases h2.2.1 with h4 | h4
    · omega
    · rcases h1.1 with h5 | h5 <;> omega
theorem adj_0 {t e g F : Int} (hg : 1 ≤ g) : adjV t e g 0 F = 0 := by
  unfold adjV
  split
  · have : 0 ≤ (F - t - e) * g := Int.mul_nonneg (by omega) (by omega)
    omega
  · split
    · have : 0 ≤ (t - F - e) * g := Int.mul_nonneg (by omega) (by omega)
      omega
    · rfl
theorem pls_two {t e g n d p f : Int} {ch W N N1 N2 : Nat} {l o o1 o2 l2 l3 l4 : List Int} {k k1 k2 W2 W3 W4 : Nat} {A A1 A2 p2 p3 p4 f2 f3 f4 : Int} (h : PLS t e g 0 ch W n d p f l N o k A l2 W2 p2 f2) (h1 : PLS t e g 0 ch W n d p f l N1 o1 k1 A1 l3 W3 p3 f3) (h2 : PLS t e g 0 ch W3 n d p3 f3 l3 N2 o2 k2 A2 l4 W4 p4 f4) (hN : N = N1 + N2) (hN6 : N ≤ 60000) (hg : 1 ≤ g) (hp : PhV n d 0 p f) (hv : BV ch W l) : (A = 0 ∧ A1 = 0 ∧ A2 = 0) ∧ k = k1 + k2 ∧ l2 = l4 ∧ W2 = W4 ∧ p2 = p4 ∧ f2 = f4 ∧ (k1 = N1 → o = o1 ++ o2) := by
  have hA : A = 0 := by rw [h.aE]; exact adj_0 hg
  have hA1 : A1 = 0 := by rw [h1.aE]; exact adj_0 hg
  have hA2 : A2 = 0 := by rw [h2.aE]; exact adj_0 hg
  subst hA hA1 hA2
  have hb := hp.b
  have hst := stp_in hb.1 hb.2.2.1
  have hP : 0 < d * 65536 := by omega
  have hs : 0 ≤ stp n 0 := by omega
  have c := k_char hb.2.2.2.2.1 hs hP hN6 h.kE
  have c1 := k_char hb.2.2.2.2.1 hs hP (by omega) h1.kE
  have hf3 : 0 ≤ f3 ∧ f3 < d * 65536 := by rw [h1.fE]; exact ⟨Int.emod_nonneg _ (by omega), Int.emod_lt_of_pos _ hP⟩
  have c2 := k_char hf3.1 hs hP (by omega) h2.kE
  have q1 := mv_need hb.2.2.2.2 hs c1.1
  have g1 : goneV W f (stp n 0) (d * 65536) k1 = iqV f (stp n 0) (d * 65536) k1 := by unfold goneV iqV; omega
  have hq1 : mvV f (stp n 0) k1 / (d * 65536) = ((iqV f (stp n 0) (d * 65536) k1 : Nat) : Int) := iqV_eq q1.1
  have hW3 : W3 = W - iqV f (stp n 0) (d * 65536) k1 := by rw [h1.wE, g1]
  have q2 := mv_need hf3 hs c2.1
  have g2 : goneV W3 f3 (stp n 0) (d * 65536) k2 = iqV f3 (stp n 0) (d * 65536) k2 := by unfold goneV iqV; omega
  have hk : k = k1 + k2 := by
    refine k_uniq hb.2.2.2.2.1 hs hP c ⟨?_, ?_, by omega⟩
    · by_cases e2 : k2 = 0
      · rw [e2]; exact c1.1
      · right
        have h3 := c2.1.resolve_left e2
        rw [need_sh hP k1 e2, ← h1.fE, hq1]
        omega
    · rcases c2.2.1 with h5 | h5
      · rcases c1.2.1 with h6 | h6
        · left; omega
        · by_cases e2 : k2 = 0
          · right; rw [e2]; exact h6
          · exfalso
            have h7 := c2.1.resolve_left e2
            have h8 := needV_mono hf3.1 hs hP (show 1 ≤ k2 by omega)
            have h9 := need_sh (f := f) (s := stp n 0) hP k1 (j := 1) (by omega)
            rw [← h1.fE, hq1] at h9
            omega
      · right
        have h9 := need_sh (f := f) (s := stp n 0) hP k1 (j := k2 + 1) (by omega)
        rw [← h1.fE, hq1, show k1 + (k2 + 1) = k1 + k2 + 1 by omega] at h9
        omega
  have hm := mv_q (f := f) (s := stp n 0) hP k1 k2
  have hG : goneV W f (stp n 0) (d * 65536) (k1 + k2) = iqV f (stp n 0) (d * 65536) k1 + iqV f3 (stp n 0) (d * 65536) k2 := by
    unfold goneV iqV at *
    rw [hm.1, ← h1.fE]
    omega
  refine ⟨⟨rfl, rfl, rfl⟩, hk, ?_, ?_, ?_, ?_, ?_⟩
  · rw [h.lE, h2.lE, h1.lE, g1, g2, hk, hG, List.drop_drop, Nat.add_mul]
  · rw [h.wE, h2.wE, g2, hk, hG]; omega
  · rw [h.pE, h2.pE, h1.pE, hk, hm.1, ← h1.fE]; omega
  · rw [h.fE, h2.fE, hk, hm.2, ← h1.fE]
  · intro e1
    have hpr := pr_sh (ch := ch) (L := W) (M := W) (W' := W3) (l := l) hb.2.2.2.2 hs (Nat.le_refl _) hq1 hW3 k2 (by rw [← h1.fE]; exact c2.1)
    have hl := hv.len
    rw [List.take_of_length_le (show List.length l ≤ W * ch by omega)] at hpr
    have e3 : List.drop (iqV f (stp n 0) (d * 65536) k1 * ch) l = l3 := by rw [h1.lE, g1]
    rw [e3, ← h1.fE] at hpr
    rw [h.oE, h1.oE, h2.oE, hk, hpr, e1, Nat.sub_self, Nat.mul_zero, show N - (N1 + k2) = N2 - k2 by omega]
    show _ = (_ ++ []) ++ _
    rw [List.append_nil, List.append_assoc]
theorem BrV.m0 {cap t e g m : Int} {ch W : Nat} {n d a p f : Int} {l : List Int} {q : Nat} {lo mi : Int} (h : BrV cap t e g m ch W n d a p f l q lo mi) : BrV cap t e g 0 ch W n d a p f l q lo mi := by
  have hc := ctB_of h.hc
  exact ⟨h.hq, h.hv, h.hp, decide_eq_true (by omega), h.b⟩
/-- some pieces were pushed -/
structure PuS (cap : Int) (ch W : Nat) (l x : List Int) (lo : Int) (T W9 : Nat) (l9 : List Int) (lo9 : Int) : Prop where
  wE : ((W9 : Nat) : Int) = min (((W : Nat) : Int) + ((T : Nat) : Int)) cap
  lE : l9 = l ++ List.take ((W9 - W) * ch) x
  oE : lo9 = lo + (((T : Nat) : Int) - ((W9 - W : Nat) : Int))
theorem PuS.z {cap lo : Int} {ch W : Nat} {l x : List Int} (h : ((W : Nat) : Int) ≤ cap) : PuS cap ch W l x lo 0 W l lo := by
  refine ⟨by omega, ?_, by omega⟩
  rw [Nat.sub_self, Nat.zero_mul]; exact (List.append_nil _).symm
theorem PuS.step {cap lo : Int} {ch W T W9 : Nat} {l x l9 : List Int} {lo9 : Int} (h : PuS cap ch W l x lo T W9 l9 lo9) (hW : ((W : Nat) : Int) ≤ cap) {t2 k : Nat} (ht : T ≤ t2) (hk : min (((t2 - T : Nat)) : Int) (cap - ((W9 : Nat) : Int)) = ((k : Nat) : Int)) : PuS cap ch W l x lo t2 (W9 + k) (l9 ++ List.take (k * ch) (pcL ch x T t2)) (lo9 + (((t2 - T : Nat) : Int) - ((k : Nat) : Int))) := by
  have h1 := h.wE
  refine ⟨by omega, ?_, by rw [h.oE]; omega⟩
  rw [h.lE, List.append_assoc]
  congr 1
  rw [show W9 + k - W = (W9 - W) + k by omega, Nat.add_mul, List.take_add]
  congr 1
  by_cases h0 : k = 0
  · rw [h0, Nat.zero_mul]; rfl
  · have e : W9 - W = T := by omega
    rw [e]
    unfold pcL
    rw [List.take_take, ← Nat.sub_mul]
    have : k * ch ≤ (t2 - T) * ch := Nat.mul_le_mul_right _ (by omega)
    rw [Nat.min_eq_left this]
theorem PuS.same {cap lo : Int} {ch W T W8 W9 : Nat} {l x l8 l9 : List Int} {lo8 lo9 : Int} (h : PuS cap ch W l x lo T W8 l8 lo8) (h' : PuS cap ch W l x lo T W9 l9 lo9) : W9 = W8 ∧ l9 = l8 ∧ lo9 = lo8 := by
  have h1 := h.wE
  have h2 := h'.wE
  have e : W9 = W8 := by omega
  subst e
  exact ⟨rfl, by rw [h.lE, h'.lE], by rw [h.oE, h'.oE]⟩
theorem PuS.one {cap lo : Int} {ch W F : Nat} {l x : List Int} (hW : ((W : Nat) : Int) ≤ cap) {k : Nat} (hk : min ((F : Nat) : Int) (cap - ((W : Nat) : Int)) = ((k : Nat) : Int)) : PuS cap ch W l x lo F (W + k) (l ++ List.take (k * ch) x) (lo + (((F : Nat) : Int) - ((k : Nat) : Int))) := by
  refine ⟨by omega, ?_, by omega⟩
  rw [show W + k - W = k by omega]
theorem Z_Join (c d : Int) (l m : List Int) (n k : Nat) (hn : List.length l = n) (hk : List.length m = k) (hb : n ≤ 10000000) (hb2 : k ≤ 10000000) : Fun 29 [.agg [iC c, .d (D.sl (dI .i32 l) n)], .agg [iC d, .d (D.sl (dI .i32 m) k)]] (toG []) 0 (.e (.agg [iC c, .d (D.sl (dI .i32 (l ++ m)) (n + k))])) (toG []) 1 := (Fun.frz (y := .e (.agg [iC c, .own 0 0 (n + k) 1 true])) (g1 := [(0, some (21, .ds (dI .i32 (l ++ m))))]) (y' := .e (.agg [iC c, .d (D.sl (dI .i32 (l ++ m)) (n + k))])) (g1' := []) (ds := (dI .i32 (l ++ m))) 0 (G_Join c d l m n k hn hk hb hb2) rfl FzG.nil (.e (.agg ⟨.same _, FzC.wh ((by rw [List.length_append, hn, hk])), trivial⟩)))
set_option maxHeartbeats 4000000 in
set_option maxRecDepth 100000 in
theorem Q_BridgeParts (sd : List Int) (sm : Nat) (al : List Int) (aq : Nat) (nn mm : Int) (hsm : List.length sd = sm) (haq : List.length al = aq) (hbs : sm ≤ 9223372036854775807) (hba : aq ≤ 9223372036854775807) (hy : Byt sd) (hy2 : Byt al) (hnn : 0 ≤ nn ∧ nn ≤ 255) (hmm : 0 ≤ mm ∧ mm ≤ 255) : Fun 6 [.c (.d (D.sl (dI .u8 sd) sm)), .c (.d (D.sl (dI .u8 al) aq)), .c (.d (D.lit (.int .u8 nn))), .c (.d (D.lit (.int .u8 mm)))] (toG []) 0 (bV true) (toG []) 0 := by
  refine Fun.mk (n := 161) Try.func6 rfl rfl (Nat.le_of_ble_eq_true rfl) ?_
  intro cx hcx
  refine AW.rgs [.no] [0, 1, 2, 3] [] (P := True) (l' := [(0, sV .u8 sd sm), (1, sV .u8 al aq), (2, .e (.c (.d (D.lit (.int .u8 nn))))), (3, .e (.c (.d (D.lit (.int .u8 mm)))))]) (g' := []) (nx' := 0) (by kernel_rfl) trivial ?_
  refine AW.seq ?_
  refine AW.rgs [.call [] (bV true) [] 0 [] none, .no] [0, 1, 2, 3, 34] [] (P := (_)) (l' := [(0, sV .u8 sd sm), (1, sV .u8 al aq), (2, .e (.c (.d (D.lit (.int .u8 nn))))), (3, .e (.c (.d (D.lit (.int .u8 mm))))), (34, bV false)]) (g' := []) (nx' := 0) (by kernel_rfl) (K_sane) ?_
  refine AW.cond_f (.tmp (Look.of rfl)) ?_
  refine AW.skip ?_
  refine AW.seq ?_
  by_cases hx1 : ((8 : Int) < ((aq : Nat) : Int))
  · refine AW.rgs [.no, .no, .b true] [0, 1, 2, 3, 37] [] (P := (((8 : Int) < ((aq : Nat) : Int)))) (l' := [(0, sV .u8 sd sm), (1, sV .u8 al aq), (2, .e (.c (.d (D.lit (.int .u8 nn))))), (3, .e (.c (.d (D.lit (.int .u8 mm))))), (37, bV true)]) (g' := []) (nx' := 0) (by kernel_rfl) (by omega) ?_
    refine AW.cond_t (.tmp (Look.of rfl)) ?_
    refine AW.rgs [.no] [8] [] (P := True) (l' := [(8, bV true)]) (g' := []) (nx' := 0) (by kernel_rfl) trivial ?_
    refine AW.ret ?_
    exact EndP.of (.inr rfl) [] (P := (true = true)) (by kernel_rfl) rfl
  · refine AW.rgs [.no, .no, .b false] [0, 1, 2, 3, 37] [] (P := (¬ ((8 : Int) < ((aq : Nat) : Int)))) (l' := [(0, sV .u8 sd sm), (1, sV .u8 al aq), (2, .e (.c (.d (D.lit (.int .u8 nn))))), (3, .e (.c (.d (D.lit (.int .u8 mm))))), (37, bV false)]) (g' := []) (nx' := 0) (by kernel_rfl) (by omega) ?_
    refine AW.cond_f (.tmp (Look.of rfl)) ?_
    refine AW.skip ?_
    obtain ⟨d1, hx2, hx3, hF1⟩ := (X_New sd sm (by omega) (by omega) (by first | omega | with_reducible assumption | (simp <;> omega) | rfl | assumption))
    obtain ⟨cap2, t3, e4, g5, m6, ch7, W8, n9, d10, a11, p12, f13, l14, q15, lo16, mi17, z18, hx4, hx5, hx6, hx7, hx8, hx9, hx10, hF18⟩ := (X_made19 d1 (by first | omega | with_reducible assumption | (simp <;> omega) | rfl | assumption))
    refine AW.rgs [.no, .call [] (rV 0 0) [(0, some (70, .ds [D.sl (dI .u8 d1) (List.length d1)]))] 1 [] none, .call [0] (.e (.agg [iC cap2, iC t3, iC e4, iC g5, iC m6, iC ((ch7 : Nat) : Int), iC n9, iC d10, iC a11, iC p12, iC f13, .d (D.sl (dI .i32 l14) q15), iC lo16, iC mi17])) [(0, some (70, .ds [D.sl (dI .u8 z18) (List.length z18)]))] 1 [] none, .no, .no] [1, 2, 3, 9] [1] (P := (_) ∧ (_)) (l' := [(1, sV .u8 al aq), (2, .e (.c (.d (D.lit (.int .u8 nn))))), (3, .e (.c (.d (D.lit (.int .u8 mm))))), (9, rV 1 0)]) (g' := [(1, some (32, .ds [iD cap2, iD t3, iD e4, iD g5, iD m6, iD ↑ch7, iD n9, iD d10, iD a11, iD p12, iD f13, D.sl (dI .i32 l14) q15, iD lo16, iD mi17]))]) (nx' := 2) (by kernel_rfl) ⟨hF1, hF18⟩ ?_
    have hx11 : BrV cap2 t3 e4 g5 0 ch7 W8 n9 d10 a11 p12 f13 l14 q15 lo16 mi17 := BrV.m0 (show (BrV cap2 t3 e4 g5 m6 ch7 W8 n9 d10 a11 p12 f13 l14 q15 lo16 mi17) by with_reducible assumption)
    have hx12 : 0 ≤ p12 := (show (BrV cap2 t3 e4 g5 m6 ch7 W8 n9 d10 a11 p12 f13 l14 q15 lo16 mi17) by with_reducible assumption).hp.b.2.2.2.1.1
    have hx13 : 0 ≤ lo16 := (show (BrV cap2 t3 e4 g5 m6 ch7 W8 n9 d10 a11 p12 f13 l14 q15 lo16 mi17) by with_reducible assumption).b.2.2.1
    have hx14 : 0 ≤ mi17 := (show (BrV cap2 t3 e4 g5 m6 ch7 W8 n9 d10 a11 p12 f13 l14 q15 lo16 mi17) by with_reducible assumption).b.2.2.2
    have hx15 : ((W8 : Nat) : Int) ≤ cap2 := (show (BrV cap2 t3 e4 g5 m6 ch7 W8 n9 d10 a11 p12 f13 l14 q15 lo16 mi17) by with_reducible assumption).b.2.1
    refine AW.rgs [.no, .no, .no] [1, 2, 3, 9] [1] (P := True) (l' := [(1, sV .u8 al aq), (2, .e (.c (.d (D.lit (.int .u8 nn))))), (3, .e (.c (.d (D.lit (.int .u8 mm))))), (9, rV 1 0)]) (g' := [(1, some (32, .ds [iD cap2, iD t3, iD e4, iD g5, iD 0, iD ↑ch7, iD n9, iD d10, iD a11, iD p12, iD f13, D.sl (dI .i32 l14) q15, iD lo16, iD mi17]))]) (nx' := 2) (by kernel_rfl) trivial ?_
    obtain ⟨w19, z20, hx16, hx17, hx18, hx19, hF20_0⟩ := (X_Wave 9 ch7 0 (Int.toNat (nn % 30)) (by omega) (by omega) (by omega) (by omega) (by first | omega | with_reducible assumption | (simp <;> omega) | rfl | assumption))
    refine AW.rgs [.no, .no, .no, .no, .ps, .w, .call [] (.e (.agg [iC ((ch7 : Nat) : Int), .d (D.sl (dI .i32 w19) z20)])) [] 1 [] (some [iE 9, iE ((ch7 : Nat) : Int), iE 0, iE (((Int.toNat (nn % 30)) : Nat) : Int)]), .no, .no] [1, 2, 3, 9, 10] [1, 3] (P := ((0 : Int) ≤ (nn : Int)) ∧ ((0 : Int) < (30 : Int)) ∧ ((-9223372036854775808) ≤ (nn % 30) ∧ (nn % 30) ≤ 9223372036854775807) ∧ ((9 : Int) = 9) ∧ ((((ch7 : Nat) : Int) : Int) = ((ch7 : Nat) : Int)) ∧ ((0 : Int) = 0) ∧ (((((Int.toNat (nn % 30)) : Nat) : Int) : Int) = (nn % 30)) ∧ (_)) (l' := [(1, sV .u8 al aq), (2, .e (.c (.d (D.lit (.int .u8 nn))))), (3, .e (.c (.d (D.lit (.int .u8 mm))))), (9, rV 1 0), (10, rV 3 0)]) (g' := [(1, some (32, .ds [iD cap2, iD t3, iD e4, iD g5, iD 0, iD ↑ch7, iD n9, iD d10, iD a11, iD p12, iD f13, D.sl (dI .i32 l14) q15, iD lo16, iD mi17])), (3, some (34, .ds [iD ↑ch7, D.sl (dI .i32 w19) z20]))]) (nx' := 4) (by kernel_rfl) ⟨(by omega), (by omega), ⟨by omega, by omega⟩, rfl, rfl, rfl, (by omega), hF20_0⟩ ?_
    obtain ⟨l221, r222, k23, W224, lo225, x26, hx20, hx21, hx22, hx23, hx24, hx25, hx26, hx27, hF26_0, hF26_1⟩ := (X_BPush cap2 t3 e4 g5 0 ch7 W8 n9 d10 a11 p12 f13 l14 q15 lo16 mi17 (Int.toNat (nn % 30)) w19 z20 (by first | omega | with_reducible assumption | (simp <;> omega) | rfl | assumption) (by omega) (by first | omega | with_reducible assumption | (simp <;> omega) | rfl | assumption) (by omega))
    refine AW.rgs [.no, .no, .call [] (.tup [.agg [iC cap2, iC t3, iC e4, iC g5, iC 0, iC ((ch7 : Nat) : Int), iC n9, iC d10, iC a11, iC p12, iC f13, .d (D.sl (dI .i32 l221) r222), iC lo225, iC mi17], iE x26, iE 0]) [] 1 [] none, .no, .no, .no, .no, .no, .no, .no, .no] [1, 2, 3, 9, 10, 11, 12, 13] [1, 3, 5] (P := (_)) (l' := [(1, sV .u8 al aq), (2, .e (.c (.d (D.lit (.int .u8 nn))))), (3, .e (.c (.d (D.lit (.int .u8 mm))))), (9, rV 1 0), (10, rV 3 0), (11, rV 5 0), (12, iV x26), (13, iV 0)]) (g' := [(1, some (32, .ds [iD cap2, iD t3, iD e4, iD g5, iD 0, iD ↑ch7, iD n9, iD d10, iD a11, iD p12, iD f13, D.sl (dI .i32 l14) q15, iD lo16, iD mi17])), (3, some (34, .ds [iD ↑ch7, D.sl (dI .i32 w19) z20])), (5, some (32, .ds [iD cap2, iD t3, iD e4, iD g5, iD 0, iD ↑ch7, iD n9, iD d10, iD a11, iD p12, iD f13, D.sl (dI .i32 l221) r222, iD lo225, iD mi17]))]) (nx' := 6) (by kernel_rfl) hF26_0 ?_
    refine AW.rgs [.no, .no, .no, .no] [1, 2, 3, 10, 11, 12, 13, 14, 15] [3, 5, 6] (P := True) (l' := [(1, sV .u8 al aq), (2, .e (.c (.d (D.lit (.int .u8 nn))))), (3, .e (.c (.d (D.lit (.int .u8 mm))))), (10, rV 3 0), (11, rV 5 0), (12, iV x26), (13, iV 0), (14, rV 6 0), (15, iV 0)]) (g' := [(3, some (34, .ds [iD ↑ch7, D.sl (dI .i32 w19) z20])), (5, some (32, .ds [iD cap2, iD t3, iD e4, iD g5, iD 0, iD ↑ch7, iD n9, iD d10, iD a11, iD p12, iD f13, D.sl (dI .i32 l221) r222, iD lo225, iD mi17])), (6, some (32, .ds [iD cap2, iD t3, iD e4, iD g5, iD 0, iD ↑ch7, iD n9, iD d10, iD a11, iD p12, iD f13, D.sl (dI .i32 l14) q15, iD lo16, iD mi17]))]) (nx' := 7) (by kernel_rfl) trivial ?_
    refine AW.seq ?_
    obtain ⟨P27, p28, x29, hx28, hx29, hx30, hF29⟩ := (X_Pieces ch7 (Int.toNat (nn % 30)) w19 z20 al aq (by omega) (by first | omega | with_reducible assumption | (simp <;> omega) | rfl | assumption) (by omega) (by omega) (fun j hj => hy2.at j (by omega)))
    refine AW.rgs [.no, .no, .call [] (oV 0 0 P27 2) [(0, some (34, .ds x29))] 1 [] none, .no, .no] [2, 3, 11, 12, 13, 14, 15, 60, 61, 62] [5, 6, 7] (P := (_)) (l' := [(2, .e (.c (.d (D.lit (.int .u8 nn))))), (3, .e (.c (.d (D.lit (.int .u8 mm))))), (11, rV 5 0), (12, iV x26), (13, iV 0), (14, rV 6 0), (15, iV 0), (60, oV 7 0 P27 2), (61, iV ↑P27), (62, iV 0)]) (g' := [(5, some (32, .ds [iD cap2, iD t3, iD e4, iD g5, iD 0, iD ↑ch7, iD n9, iD d10, iD a11, iD p12, iD f13, D.sl (dI .i32 l221) r222, iD lo225, iD mi17])), (6, some (32, .ds [iD cap2, iD t3, iD e4, iD g5, iD 0, iD ↑ch7, iD n9, iD d10, iD a11, iD p12, iD f13, D.sl (dI .i32 l14) q15, iD lo16, iD mi17])), (7, some (34, .ds x29))]) (nx' := 8) (by kernel_rfl) hF29 ?_
    refine AW.block ?_
    have hpc : Pcs ch7 (Int.toNat (nn % 30)) w19 P27 p28 x29 := (by assumption)
    have hw9 : BV ch7 (Int.toNat (nn % 30)) w19 := (by assumption)
    have hz : fA p28 0 = 0 := hpc.z
    have hze : fA p28 P27 = (Int.toNat (nn % 30)) := hpc.e
    refine AW.loopE 0 hcx (fun (x : {x : Nat × Nat × List Int × Nat × Int × Int // match x with | (i, W9, l9, q9, lo9, gn) => (i ≤ P27) ∧ (BrV cap2 t3 e4 g5 0 ch7 W9 n9 d10 a11 p12 f13 l9 q9 lo9 mi17) ∧ (PuS cap2 ch7 W8 l14 (w19) lo16 (fA p28 i) W9 l9 lo9) ∧ (gn = lo9 - lo16)}) => match x with | ⟨(i, W9, l9, q9, lo9, gn), _⟩ => (⟨[(2, .e (.c (.d (D.lit (.int .u8 nn))))), (3, .e (.c (.d (D.lit (.int .u8 mm))))), (11, rV 5 0), (12, iV x26), (13, iV 0), (14, rV 6 0), (15, iV gn), (60, oV 7 0 P27 2), (61, iV ((P27 : Nat) : Int)), (62, iV ((i : Nat) : Int))], [(5, some (32, .ds [iD cap2, iD t3, iD e4, iD g5, iD 0, iD ((ch7 : Nat) : Int), iD n9, iD d10, iD a11, iD p12, iD f13, D.sl (dI .i32 l221) r222, iD lo225, iD mi17])), (6, some (32, .ds [iD cap2, iD t3, iD e4, iD g5, iD 0, iD ((ch7 : Nat) : Int), iD n9, iD d10, iD a11, iD p12, iD f13, D.sl (dI .i32 l9) q9, iD lo9, iD mi17])), (7, some (34, .ds x29))], 8⟩ : ES)) (fun (x : {x : Nat × Nat × List Int × Nat × Int × Int // match x with | (i, W9, l9, q9, lo9, gn) => (i ≤ P27) ∧ (BrV cap2 t3 e4 g5 0 ch7 W9 n9 d10 a11 p12 f13 l9 q9 lo9 mi17) ∧ (PuS cap2 ch7 W8 l14 (w19) lo16 (fA p28 i) W9 l9 lo9) ∧ (gn = lo9 - lo16)}) => match x with | ⟨(i, W9, l9, q9, lo9, gn), _⟩ => P27 - i) ⟨((0 : Nat), (W8 : Nat), (l14 : List Int), (q15 : Nat), (lo16 : Int), (0 : Int)), (show ((0 : Nat) ≤ P27) ∧ (BrV cap2 t3 e4 g5 0 ch7 W8 n9 d10 a11 p12 f13 l14 q15 lo16 mi17) ∧ (PuS cap2 ch7 W8 l14 (w19) lo16 (fA p28 (0 : Nat)) W8 l14 lo16) ∧ ((0 : Int) = lo16 - lo16) from ⟨(by omega), (by with_reducible assumption), (by rw [hz]; exact PuS.z (by omega)), (by omega)⟩)⟩ [] (P := ((nn : Int) = nn) ∧ ((mm : Int) = mm) ∧ ((0 : Nat) = 0) ∧ ((x26 : Int) = x26) ∧ ((0 : Int) = 0) ∧ ((0 : Nat) = 0) ∧ ((0 : Int) = 0) ∧ ((0 : Nat) = 0) ∧ ((P27 : Nat) = P27) ∧ ((((P27 : Nat) : Int) : Int) = ((P27 : Nat) : Int)) ∧ ((0 : Int) = 0) ∧ (([iD cap2, iD t3, iD e4, iD g5, iD 0, iD ((ch7 : Nat) : Int), iD n9, iD d10, iD a11, iD p12, iD f13, D.sl (dI .i32 l221) r222, iD lo225, iD mi17] : List D) = [iD cap2, iD t3, iD e4, iD g5, iD 0, iD ((ch7 : Nat) : Int), iD n9, iD d10, iD a11, iD p12, iD f13, D.sl (dI .i32 l221) r222, iD lo225, iD mi17]) ∧ (([iD cap2, iD t3, iD e4, iD g5, iD 0, iD ((ch7 : Nat) : Int), iD n9, iD d10, iD a11, iD p12, iD f13, D.sl (dI .i32 l14) q15, iD lo16, iD mi17] : List D) = [iD cap2, iD t3, iD e4, iD g5, iD 0, iD ((ch7 : Nat) : Int), iD n9, iD d10, iD a11, iD p12, iD f13, D.sl (dI .i32 l14) q15, iD lo16, iD mi17]) ∧ ((x29 : List D) = x29)) (by kernel_rfl) ⟨rfl, rfl, rfl, rfl, rfl, rfl, rfl, rfl, rfl, rfl, rfl, rfl, rfl, rfl⟩ ?_
    rintro ⟨⟨i, W9, l9, q9, lo9, gn⟩, hinv0⟩
    obtain ⟨hi, hB, hS, hgn⟩ : (i ≤ P27) ∧ (BrV cap2 t3 e4 g5 0 ch7 W9 n9 d10 a11 p12 f13 l9 q9 lo9 mi17) ∧ (PuS cap2 ch7 W8 l14 (w19) lo16 (fA p28 i) W9 l9 lo9) ∧ (gn = lo9 - lo16) := hinv0
    refine AW.es (l := [(2, .e (.c (.d (D.lit (.int .u8 nn))))), (3, .e (.c (.d (D.lit (.int .u8 mm))))), (11, rV 5 0), (12, iV x26), (13, iV 0), (14, rV 6 0), (15, iV gn), (60, oV 7 0 P27 2), (61, iV ((P27 : Nat) : Int)), (62, iV ((i : Nat) : Int))]) (g := [(5, some (32, .ds [iD cap2, iD t3, iD e4, iD g5, iD 0, iD ((ch7 : Nat) : Int), iD n9, iD d10, iD a11, iD p12, iD f13, D.sl (dI .i32 l221) r222, iD lo225, iD mi17])), (6, some (32, .ds [iD cap2, iD t3, iD e4, iD g5, iD 0, iD ((ch7 : Nat) : Int), iD n9, iD d10, iD a11, iD p12, iD f13, D.sl (dI .i32 l9) q9, iD lo9, iD mi17])), (7, some (34, .ds x29))]) (nx := 8) rfl rfl rfl ?_
    have hpf : fA p28 i ≤ fA p28 (i + 1) ∧ fA p28 (i + 1) ≤ (Int.toNat (nn % 30)) ∧ fA p28 i * ch7 ≤ fA p28 (i + 1) * ch7 ∧ fA p28 (i + 1) * ch7 ≤ (Int.toNat (nn % 30)) * ch7 ∧ List.length (pcL ch7 (w19) (fA p28 i) (fA p28 (i + 1))) = fA p28 (i + 1) * ch7 - fA p28 i * ch7 := pcs_facts hpc hw9 i
    have hpv : BV ch7 (fA p28 (i + 1) - fA p28 i) (pcL ch7 (w19) (fA p28 i) (fA p28 (i + 1))) := pcL_BV hw9 (hpc.mono i) (hpc.le (i + 1))
    have hb9 : 0 ≤ lo9 ∧ ((W9 : Nat) : Int) ≤ cap2 := ⟨hB.b.2.2.1, hB.b.2.1⟩
    have hlb : lo9 ≤ 100000 := by have h9 := hS.oE; have h8 := hS.wE; omega
    by_cases hx31 : (((i : Nat) : Int) < ((P27 : Nat) : Int))
    · refine AW.rgs [.b true] [2, 3, 11, 12, 13, 14, 15, 60, 61, 62, 63] [5, 6, 7] (P := ((((i : Nat) : Int) < ((P27 : Nat) : Int)))) (l' := [(2, .e (.c (.d (D.lit (.int .u8 nn))))), (3, .e (.c (.d (D.lit (.int .u8 mm))))), (11, rV 5 0), (12, iV x26), (13, iV 0), (14, rV 6 0), (15, iV gn), (60, oV 7 0 P27 2), (61, iV ↑P27), (62, iV ↑i), (63, bV true)]) (g' := [(5, some (32, .ds [iD cap2, iD t3, iD e4, iD g5, iD 0, iD ↑ch7, iD n9, iD d10, iD a11, iD p12, iD f13, D.sl (dI .i32 l221) r222, iD lo225, iD mi17])), (6, some (32, .ds [iD cap2, iD t3, iD e4, iD g5, iD 0, iD ↑ch7, iD n9, iD d10, iD a11, iD p12, iD f13, D.sl (dI .i32 l9) q9, iD lo9, iD mi17])), (7, some (34, .ds x29))]) (nx' := 8) (by kernel_rfl) (by omega) ?_
      refine AW.seq ?_
      refine AW.cond_t (.tmp (Look.of rfl)) ?_
      refine AW.skip ?_
      refine AW.seq ?_
      refine AW.block ?_
      refine AW.rgs [.n2 i (i * 2), .ds [iD ((ch7 : Nat) : Int), D.sl (dI .i32 (pcL ch7 w19 (fA p28 i) (fA p28 (i + 1)))) (((fA p28 (i + 1)) * ch7) - ((fA p28 i) * ch7))], .no, .no] [2, 3, 11, 12, 13, 14, 15, 17, 60, 61, 62] [5, 6, 7, 8] (P := ((((i : Nat) : Int) : Int) = ((i : Nat) : Int)) ∧ (i < P27) ∧ ((0 : Nat) + i * 2 = (i * 2)) ∧ (List.take 2 (List.drop (i * 2) x29) = [iD ((ch7 : Nat) : Int), D.sl (dI .i32 (pcL ch7 w19 (fA p28 i) (fA p28 (i + 1)))) (((fA p28 (i + 1)) * ch7) - ((fA p28 i) * ch7))]) ∧ (([iD ((ch7 : Nat) : Int), D.sl (dI .i32 (pcL ch7 w19 (fA p28 i) (fA p28 (i + 1)))) (((fA p28 (i + 1)) * ch7) - ((fA p28 i) * ch7))] : List D).length = 2)) (l' := [(2, .e (.c (.d (D.lit (.int .u8 nn))))), (3, .e (.c (.d (D.lit (.int .u8 mm))))), (11, rV 5 0), (12, iV x26), (13, iV 0), (14, rV 6 0), (15, iV gn), (17, rV 8 0), (60, oV 7 0 P27 2), (61, iV ↑P27), (62, iV ↑i)]) (g' := [(5, some (32, .ds [iD cap2, iD t3, iD e4, iD g5, iD 0, iD ↑ch7, iD n9, iD d10, iD a11, iD p12, iD f13, D.sl (dI .i32 l221) r222, iD lo225, iD mi17])), (6, some (32, .ds [iD cap2, iD t3, iD e4, iD g5, iD 0, iD ↑ch7, iD n9, iD d10, iD a11, iD p12, iD f13, D.sl (dI .i32 l9) q9, iD lo9, iD mi17])), (7, some (34, .ds x29)), (8, some (34, .ds [iD ↑ch7, D.sl (dI .i32 (pcL ch7 w19 (fA p28 i) (fA p28 (i + 1)))) (((fA p28 (i + 1)) * ch7) - ((fA p28 i) * ch7))]))]) (nx' := 9) (by kernel_rfl) ⟨rfl, (by omega), (by omega), (hpc.at' _ (by omega)), rfl⟩ ?_
      obtain ⟨l230, r231, k32, W233, lo234, x35, hx32, hx33, hx34, hx35, hx36, hx37, hx38, hx39, hF35_0, hF35_1⟩ := (X_BPush cap2 t3 e4 g5 0 ch7 W9 n9 d10 a11 p12 f13 l9 q9 lo9 mi17 ((fA p28 (i + 1)) - (fA p28 i)) (pcL ch7 w19 (fA p28 i) (fA p28 (i + 1))) (((fA p28 (i + 1)) * ch7) - ((fA p28 i) * ch7)) (by first | omega | with_reducible assumption | (simp <;> omega) | rfl | assumption) (by first | omega | with_reducible assumption | (simp <;> omega) | rfl | assumption) (by first | omega | with_reducible assumption | (simp <;> omega) | rfl | assumption) (by omega))
      refine AW.rgs [.no, .no, .call [] (.tup [.agg [iC cap2, iC t3, iC e4, iC g5, iC 0, iC ((ch7 : Nat) : Int), iC n9, iC d10, iC a11, iC p12, iC f13, .d (D.sl (dI .i32 l230) r231), iC lo234, iC mi17], iE x35, iE 0]) [] 1 [] none, .no, .no, .no, .no, .no, .no, .no, .no] [2, 3, 11, 12, 13, 14, 15, 18, 19, 20, 60, 61, 62] [5, 6, 7, 10] (P := (_)) (l' := [(2, .e (.c (.d (D.lit (.int .u8 nn))))), (3, .e (.c (.d (D.lit (.int .u8 mm))))), (11, rV 5 0), (12, iV x26), (13, iV 0), (14, rV 6 0), (15, iV gn), (18, rV 10 0), (19, iV x35), (20, iV 0), (60, oV 7 0 P27 2), (61, iV ↑P27), (62, iV ↑i)]) (g' := [(5, some (32, .ds [iD cap2, iD t3, iD e4, iD g5, iD 0, iD ↑ch7, iD n9, iD d10, iD a11, iD p12, iD f13, D.sl (dI .i32 l221) r222, iD lo225, iD mi17])), (6, some (32, .ds [iD cap2, iD t3, iD e4, iD g5, iD 0, iD ↑ch7, iD n9, iD d10, iD a11, iD p12, iD f13, D.sl (dI .i32 l9) q9, iD lo9, iD mi17])), (7, some (34, .ds x29)), (10, some (32, .ds [iD cap2, iD t3, iD e4, iD g5, iD 0, iD ↑ch7, iD n9, iD d10, iD a11, iD p12, iD f13, D.sl (dI .i32 l230) r231, iD lo234, iD mi17]))]) (nx' := 11) (by kernel_rfl) hF35_0 ?_
      refine AW.seq ?_
      refine AW.rgs [.no, .b false] [2, 3, 11, 12, 13, 14, 15, 18, 19, 60, 61, 62, 74] [5, 6, 7, 10] (P := (¬ ((0 : Int) ≠ 0))) (l' := [(2, .e (.c (.d (D.lit (.int .u8 nn))))), (3, .e (.c (.d (D.lit (.int .u8 mm))))), (11, rV 5 0), (12, iV x26), (13, iV 0), (14, rV 6 0), (15, iV gn), (18, rV 10 0), (19, iV x35), (60, oV 7 0 P27 2), (61, iV ↑P27), (62, iV ↑i), (74, bV false)]) (g' := [(5, some (32, .ds [iD cap2, iD t3, iD e4, iD g5, iD 0, iD ↑ch7, iD n9, iD d10, iD a11, iD p12, iD f13, D.sl (dI .i32 l221) r222, iD lo225, iD mi17])), (6, some (32, .ds [iD cap2, iD t3, iD e4, iD g5, iD 0, iD ↑ch7, iD n9, iD d10, iD a11, iD p12, iD f13, D.sl (dI .i32 l9) q9, iD lo9, iD mi17])), (7, some (34, .ds x29)), (10, some (32, .ds [iD cap2, iD t3, iD e4, iD g5, iD 0, iD ↑ch7, iD n9, iD d10, iD a11, iD p12, iD f13, D.sl (dI .i32 l230) r231, iD lo234, iD mi17]))]) (nx' := 11) (by kernel_rfl) (by omega) ?_
      refine AW.cond_f (.tmp (Look.of rfl)) ?_
      refine AW.skip ?_
      refine AW.rg [.no, .no, .no, .w, .no, .no] [2, 3, 11, 12, 13, 14, 15, 60, 61, 62] [5, 6, 7] (P := ((-9223372036854775808) ≤ (gn + x35) ∧ (gn + x35) ≤ 9223372036854775807)) (l' := [(2, .e (.c (.d (D.lit (.int .u8 nn))))), (3, .e (.c (.d (D.lit (.int .u8 mm))))), (11, rV 5 0), (12, iV x26), (13, iV 0), (14, rV 6 0), (15, iV (gn + x35)), (60, oV 7 0 P27 2), (61, iV ↑P27), (62, iV ↑i)]) (g' := [(5, some (32, .ds [iD cap2, iD t3, iD e4, iD g5, iD 0, iD ↑ch7, iD n9, iD d10, iD a11, iD p12, iD f13, D.sl (dI .i32 l221) r222, iD lo225, iD mi17])), (6, some (32, .ds [iD cap2, iD t3, iD e4, iD g5, iD 0, iD ↑ch7, iD n9, iD d10, iD a11, iD p12, iD f13, D.sl (dI .i32 l230) r231, iD lo234, iD mi17])), (7, some (34, .ds x29))]) (nx' := 11) (by kernel_rfl) ⟨by omega, by omega⟩ ?_
      refine AW.rg [.w, .no] [2, 3, 11, 12, 13, 14, 15, 60, 61, 62] [5, 6, 7] (P := ((-9223372036854775808) ≤ (((i : Nat) : Int) + 1) ∧ (((i : Nat) : Int) + 1) ≤ 9223372036854775807)) (l' := [(2, .e (.c (.d (D.lit (.int .u8 nn))))), (3, .e (.c (.d (D.lit (.int .u8 mm))))), (11, rV 5 0), (12, iV x26), (13, iV 0), (14, rV 6 0), (15, iV (gn + x35)), (60, oV 7 0 P27 2), (61, iV ↑P27), (62, iV (↑i + 1))]) (g' := [(5, some (32, .ds [iD cap2, iD t3, iD e4, iD g5, iD 0, iD ↑ch7, iD n9, iD d10, iD a11, iD p12, iD f13, D.sl (dI .i32 l221) r222, iD lo225, iD mi17])), (6, some (32, .ds [iD cap2, iD t3, iD e4, iD g5, iD 0, iD ↑ch7, iD n9, iD d10, iD a11, iD p12, iD f13, D.sl (dI .i32 l230) r231, iD lo234, iD mi17])), (7, some (34, .ds x29))]) (nx' := 11) (by kernel_rfl) ⟨by omega, by omega⟩ ?_
      have hst : PuS cap2 ch7 W8 l14 (w19) lo16 (fA p28 (i + 1)) W233 l230 lo234 := by have h9 := PuS.step hS (by omega) (hpc.mono i) (show min (((fA p28 (i + 1) - fA p28 i : Nat)) : Int) (cap2 - ((W9 : Nat) : Int)) = ((k32 : Nat) : Int) by with_reducible assumption); rw [show W233 = W9 + k32 by omega, show l230 = l9 ++ List.take (k32 * ch7) _ from (by with_reducible assumption), show lo234 = lo9 + (((fA p28 (i + 1) - fA p28 i : Nat) : Int) - ((k32 : Nat) : Int)) by omega]; exact h9
      exact Rd.of ⟨(((i + 1) : Nat), (W233 : Nat), (l230 : List Int), (r231 : Nat), (lo234 : Int), ((gn + x35) : Int)), (show ((i + 1) ≤ P27) ∧ (BrV cap2 t3 e4 g5 0 ch7 W233 n9 d10 a11 p12 f13 l230 r231 lo234 mi17) ∧ (PuS cap2 ch7 W8 l14 (w19) lo16 (fA p28 (i + 1)) W233 l230 lo234) ∧ ((gn + x35) = lo234 - lo16) from ⟨(by omega), (by with_reducible assumption), hst, (by omega)⟩)⟩ [] (P := ((nn : Int) = nn) ∧ ((mm : Int) = mm) ∧ ((0 : Nat) = 0) ∧ ((x26 : Int) = x26) ∧ ((0 : Int) = 0) ∧ ((0 : Nat) = 0) ∧ (((gn + x35) : Int) = (gn + x35)) ∧ ((0 : Nat) = 0) ∧ ((P27 : Nat) = P27) ∧ ((((P27 : Nat) : Int) : Int) = ((P27 : Nat) : Int)) ∧ (((((i + 1) : Nat) : Int) : Int) = (((i : Nat) : Int) + 1)) ∧ (([iD cap2, iD t3, iD e4, iD g5, iD 0, iD ((ch7 : Nat) : Int), iD n9, iD d10, iD a11, iD p12, iD f13, D.sl (dI .i32 l221) r222, iD lo225, iD mi17] : List D) = [iD cap2, iD t3, iD e4, iD g5, iD 0, iD ((ch7 : Nat) : Int), iD n9, iD d10, iD a11, iD p12, iD f13, D.sl (dI .i32 l221) r222, iD lo225, iD mi17]) ∧ (([iD cap2, iD t3, iD e4, iD g5, iD 0, iD ((ch7 : Nat) : Int), iD n9, iD d10, iD a11, iD p12, iD f13, D.sl (dI .i32 l230) r231, iD lo234, iD mi17] : List D) = [iD cap2, iD t3, iD e4, iD g5, iD 0, iD ((ch7 : Nat) : Int), iD n9, iD d10, iD a11, iD p12, iD f13, D.sl (dI .i32 l230) r231, iD lo234, iD mi17]) ∧ ((x29 : List D) = x29)) (by kernel_rfl) ⟨rfl, rfl, rfl, rfl, rfl, rfl, rfl, rfl, rfl, rfl, (by first | rfl | omega | assumption | (simp; done) | (simp; omega)), rfl, rfl, rfl⟩ (show P27 - (i + 1) < P27 - i from (by first | omega | (show _ < _; simp; omega)))
    · obtain rfl : P27 = i := by omega
      rw [hze] at hS
      have hfin := PuS.same (by have h9 := PuS.one (ch := ch7) (l := l14) (x := w19) (lo := lo16) (show ((W8 : Nat) : Int) ≤ cap2 by omega) (show min (((Int.toNat (nn % 30)) : Nat) : Int) (cap2 - ((W8 : Nat) : Int)) = ((k23 : Nat) : Int) by with_reducible assumption); rw [← (show l221 = l14 ++ List.take (k23 * ch7) w19 from (by with_reducible assumption)), ← (show W224 = W8 + k23 by omega), ← (show lo225 = lo16 + ((((Int.toNat (nn % 30)) : Nat) : Int) - ((k23 : Nat) : Int)) by omega)] at h9; exact h9) hS
      obtain rfl : W224 = W9 := hfin.1.symm
      obtain rfl : lo225 = lo9 := hfin.2.2.symm
      have hx40 : q9 = r222 := by have h9 := hB.hq; rw [hfin.2.1] at h9; exact h9.symm.trans (show List.length l221 = r222 by with_reducible assumption)
      obtain rfl : r222 = q9 := by omega
      obtain rfl : l221 = l9 := hfin.2.1.symm
      refine AW.rgs [.b false] [2, 3, 11, 12, 13, 14, 15, 60, 61, 62, 63] [5, 6, 7] (P := (¬ (((P27 : Nat) : Int) < ((P27 : Nat) : Int)))) (l' := [(2, .e (.c (.d (D.lit (.int .u8 nn))))), (3, .e (.c (.d (D.lit (.int .u8 mm))))), (11, rV 5 0), (12, iV x26), (13, iV 0), (14, rV 6 0), (15, iV gn), (60, oV 7 0 P27 2), (61, iV ↑P27), (62, iV ↑P27), (63, bV false)]) (g' := [(5, some (32, .ds [iD cap2, iD t3, iD e4, iD g5, iD 0, iD ↑ch7, iD n9, iD d10, iD a11, iD p12, iD f13, D.sl (dI .i32 l221) r222, iD lo225, iD mi17])), (6, some (32, .ds [iD cap2, iD t3, iD e4, iD g5, iD 0, iD ↑ch7, iD n9, iD d10, iD a11, iD p12, iD f13, D.sl (dI .i32 l221) r222, iD lo225, iD mi17])), (7, some (34, .ds x29))]) (nx' := 8) (by kernel_rfl) (by omega) ?_
      refine AW.seq ?_
      refine AW.cond_f (.tmp (Look.of rfl)) ?_
      refine AW.exit ?_
      obtain ⟨o36, N137, k38, A39, l240, r241, W242, p243, f244, mi245, x46, hx41, hx42, hx43, hx44, hx45, hx46, hx47, hx48, hx49, hx50, hx51, hx52, hx53, hF46_0, hF46_1⟩ := (X_BPull cap2 t3 e4 g5 0 ch7 W224 n9 d10 a11 p12 f13 l221 r222 lo225 mi17 ((Int.toNat (nn % 20)) + (Int.toNat (mm % 20))) (by first | omega | with_reducible assumption | (simp <;> omega) | rfl | assumption) (by first | omega | with_reducible assumption | (simp <;> omega) | rfl | assumption) (by omega) (by omega))
      refine AW.rgs [.no, .no, .ps, .w, .no, .ps, .w, .w, .call [] (.tup [.agg [iC ((ch7 : Nat) : Int), .d (D.sl (dI .i32 o36) N137)], iE x46, .agg [iC cap2, iC t3, iC e4, iC g5, iC 0, iC ((ch7 : Nat) : Int), iC n9, iC d10, iC A39, iC p243, iC f244, .d (D.sl (dI .i32 l240) r241), iC lo225, iC mi245], iE 0]) [] 2 [] (some [.agg [iC cap2, iC t3, iC e4, iC g5, iC 0, iC ((ch7 : Nat) : Int), iC n9, iC d10, iC a11, iC p12, iC f13, .d (D.sl (dI .i32 l221) r222), iC lo225, iC mi17], iE ((((Int.toNat (nn % 20)) + (Int.toNat (mm % 20))) : Nat) : Int)]), .no, .no, .no, .no, .no, .no, .no, .no, .no, .no, .no] [2, 3, 11, 12, 13, 14, 15, 21, 22, 23, 24] [5, 6, 10, 11] (P := ((0 : Int) ≤ (nn : Int)) ∧ ((0 : Int) < (20 : Int)) ∧ ((-9223372036854775808) ≤ (nn % 20) ∧ (nn % 20) ≤ 9223372036854775807) ∧ ((0 : Int) ≤ (mm : Int)) ∧ ((0 : Int) < (20 : Int)) ∧ ((-9223372036854775808) ≤ (mm % 20) ∧ (mm % 20) ≤ 9223372036854775807) ∧ ((-9223372036854775808) ≤ ((nn % 20) + (mm % 20)) ∧ ((nn % 20) + (mm % 20)) ≤ 9223372036854775807) ∧ ((cap2 : Int) = cap2) ∧ ((t3 : Int) = t3) ∧ ((e4 : Int) = e4) ∧ ((g5 : Int) = g5) ∧ ((0 : Int) = 0) ∧ ((((ch7 : Nat) : Int) : Int) = ((ch7 : Nat) : Int)) ∧ ((n9 : Int) = n9) ∧ ((d10 : Int) = d10) ∧ ((a11 : Int) = a11) ∧ ((p12 : Int) = p12) ∧ ((f13 : Int) = f13) ∧ (((dI .i32 l221) : List D) = (dI .i32 l221)) ∧ ((r222 : Nat) = r222) ∧ ((lo225 : Int) = lo225) ∧ ((mi17 : Int) = mi17) ∧ ((((((Int.toNat (nn % 20)) + (Int.toNat (mm % 20))) : Nat) : Int) : Int) = ((nn % 20) + (mm % 20))) ∧ (_)) (l' := [(2, .e (.c (.d (D.lit (.int .u8 nn))))), (3, .e (.c (.d (D.lit (.int .u8 mm))))), (11, rV 5 0), (12, iV x26), (13, iV 0), (14, rV 6 0), (15, iV gn), (21, rV 10 0), (22, iV x46), (23, rV 11 0), (24, iV 0)]) (g' := [(5, some (32, .ds [iD cap2, iD t3, iD e4, iD g5, iD 0, iD ↑ch7, iD n9, iD d10, iD a11, iD p12, iD f13, D.sl (dI .i32 l221) r222, iD lo225, iD mi17])), (6, some (32, .ds [iD cap2, iD t3, iD e4, iD g5, iD 0, iD ↑ch7, iD n9, iD d10, iD a11, iD p12, iD f13, D.sl (dI .i32 l221) r222, iD lo225, iD mi17])), (10, some (34, .ds [iD ↑ch7, D.sl (dI .i32 o36) N137])), (11, some (32, .ds [iD cap2, iD t3, iD e4, iD g5, iD 0, iD ↑ch7, iD n9, iD d10, iD A39, iD p243, iD f244, D.sl (dI .i32 l240) r241, iD lo225, iD mi245]))]) (nx' := 12) (by kernel_rfl) ⟨(by omega), (by omega), ⟨by omega, by omega⟩, (by omega), (by omega), ⟨by omega, by omega⟩, ⟨by omega, by omega⟩, rfl, rfl, rfl, rfl, rfl, rfl, rfl, rfl, rfl, rfl, rfl, rfl, rfl, rfl, rfl, (by omega), hF46_0⟩ ?_
      obtain ⟨o47, N148, k49, A50, l251, r252, W253, p254, f255, mi256, x57, hx54, hx55, hx56, hx57, hx58, hx59, hx60, hx61, hx62, hx63, hx64, hx65, hx66, hF57_0, hF57_1⟩ := (X_BPull cap2 t3 e4 g5 0 ch7 W224 n9 d10 a11 p12 f13 l221 r222 lo225 mi17 (Int.toNat (nn % 20)) (by first | omega | with_reducible assumption | (simp <;> omega) | rfl | assumption) (by first | omega | with_reducible assumption | (simp <;> omega) | rfl | assumption) (by omega) (by omega))
      refine AW.rgs [.no, .no, .ps, .w, .call [] (.tup [.agg [iC ((ch7 : Nat) : Int), .d (D.sl (dI .i32 o47) N148)], iE x57, .agg [iC cap2, iC t3, iC e4, iC g5, iC 0, iC ((ch7 : Nat) : Int), iC n9, iC d10, iC A50, iC p254, iC f255, .d (D.sl (dI .i32 l251) r252), iC lo225, iC mi256], iE 0]) [] 2 [] (some [.agg [iC cap2, iC t3, iC e4, iC g5, iC 0, iC ((ch7 : Nat) : Int), iC n9, iC d10, iC a11, iC p12, iC f13, .d (D.sl (dI .i32 l221) r222), iC lo225, iC mi17], iE (((Int.toNat (nn % 20)) : Nat) : Int)]), .no, .no, .no, .no, .no, .no, .no, .no, .no, .no, .no] [3, 11, 12, 13, 14, 15, 21, 22, 23, 24, 25, 26, 27, 28] [5, 6, 10, 11, 14, 15] (P := ((0 : Int) ≤ (nn : Int)) ∧ ((0 : Int) < (20 : Int)) ∧ ((-9223372036854775808) ≤ (nn % 20) ∧ (nn % 20) ≤ 9223372036854775807) ∧ ((cap2 : Int) = cap2) ∧ ((t3 : Int) = t3) ∧ ((e4 : Int) = e4) ∧ ((g5 : Int) = g5) ∧ ((0 : Int) = 0) ∧ ((((ch7 : Nat) : Int) : Int) = ((ch7 : Nat) : Int)) ∧ ((n9 : Int) = n9) ∧ ((d10 : Int) = d10) ∧ ((a11 : Int) = a11) ∧ ((p12 : Int) = p12) ∧ ((f13 : Int) = f13) ∧ (((dI .i32 l221) : List D) = (dI .i32 l221)) ∧ ((r222 : Nat) = r222) ∧ ((lo225 : Int) = lo225) ∧ ((mi17 : Int) = mi17) ∧ (((((Int.toNat (nn % 20)) : Nat) : Int) : Int) = (nn % 20)) ∧ (_)) (l' := [(3, .e (.c (.d (D.lit (.int .u8 mm))))), (11, rV 5 0), (12, iV x26), (13, iV 0), (14, rV 6 0), (15, iV gn), (21, rV 10 0), (22, iV x46), (23, rV 11 0), (24, iV 0), (25, rV 14 0), (26, iV x57), (27, rV 15 0), (28, iV 0)]) (g' := [(5, some (32, .ds [iD cap2, iD t3, iD e4, iD g5, iD 0, iD ↑ch7, iD n9, iD d10, iD a11, iD p12, iD f13, D.sl (dI .i32 l221) r222, iD lo225, iD mi17])), (6, some (32, .ds [iD cap2, iD t3, iD e4, iD g5, iD 0, iD ↑ch7, iD n9, iD d10, iD a11, iD p12, iD f13, D.sl (dI .i32 l221) r222, iD lo225, iD mi17])), (10, some (34, .ds [iD ↑ch7, D.sl (dI .i32 o36) N137])), (11, some (32, .ds [iD cap2, iD t3, iD e4, iD g5, iD 0, iD ↑ch7, iD n9, iD d10, iD A39, iD p243, iD f244, D.sl (dI .i32 l240) r241, iD lo225, iD mi245])), (14, some (34, .ds [iD ↑ch7, D.sl (dI .i32 o47) N148])), (15, some (32, .ds [iD cap2, iD t3, iD e4, iD g5, iD 0, iD ↑ch7, iD n9, iD d10, iD A50, iD p254, iD f255, D.sl (dI .i32 l251) r252, iD lo225, iD mi256]))]) (nx' := 16) (by kernel_rfl) ⟨(by omega), (by omega), ⟨by omega, by omega⟩, rfl, rfl, rfl, rfl, rfl, rfl, rfl, rfl, rfl, rfl, rfl, rfl, rfl, rfl, rfl, (by omega), hF57_0⟩ ?_
      obtain ⟨o58, N159, k60, A61, l262, r263, W264, p265, f266, mi267, x68, hx67, hx68, hx69, hx70, hx71, hx72, hx73, hx74, hx75, hx76, hx77, hx78, hx79, hF68_0, hF68_1⟩ := (X_BPull cap2 t3 e4 g5 0 ch7 W253 n9 d10 A50 p254 f255 l251 r252 lo225 mi256 (Int.toNat (mm % 20)) (by first | omega | with_reducible assumption | (simp <;> omega) | rfl | assumption) (by first | omega | with_reducible assumption | (simp <;> omega) | rfl | assumption) (by omega) (by omega))
      refine AW.rgs [.no, .no, .ps, .w, .call [] (.tup [.agg [iC ((ch7 : Nat) : Int), .d (D.sl (dI .i32 o58) N159)], iE x68, .agg [iC cap2, iC t3, iC e4, iC g5, iC 0, iC ((ch7 : Nat) : Int), iC n9, iC d10, iC A61, iC p265, iC f266, .d (D.sl (dI .i32 l262) r263), iC lo225, iC mi267], iE 0]) [] 2 [] (some [.agg [iC cap2, iC t3, iC e4, iC g5, iC 0, iC ((ch7 : Nat) : Int), iC n9, iC d10, iC A50, iC p254, iC f255, .d (D.sl (dI .i32 l251) r252), iC lo225, iC mi256], iE (((Int.toNat (mm % 20)) : Nat) : Int)]), .no, .no, .no, .no, .no, .no, .no, .no, .no, .no, .no] [11, 12, 13, 14, 15, 21, 22, 23, 24, 25, 26, 28, 29, 30, 31, 32] [5, 6, 10, 11, 14, 18, 19] (P := ((0 : Int) ≤ (mm : Int)) ∧ ((0 : Int) < (20 : Int)) ∧ ((-9223372036854775808) ≤ (mm % 20) ∧ (mm % 20) ≤ 9223372036854775807) ∧ ((cap2 : Int) = cap2) ∧ ((t3 : Int) = t3) ∧ ((e4 : Int) = e4) ∧ ((g5 : Int) = g5) ∧ ((0 : Int) = 0) ∧ ((((ch7 : Nat) : Int) : Int) = ((ch7 : Nat) : Int)) ∧ ((n9 : Int) = n9) ∧ ((d10 : Int) = d10) ∧ ((A50 : Int) = A50) ∧ ((p254 : Int) = p254) ∧ ((f255 : Int) = f255) ∧ (((dI .i32 l251) : List D) = (dI .i32 l251)) ∧ ((r252 : Nat) = r252) ∧ ((lo225 : Int) = lo225) ∧ ((mi256 : Int) = mi256) ∧ (((((Int.toNat (mm % 20)) : Nat) : Int) : Int) = (mm % 20)) ∧ (_)) (l' := [(11, rV 5 0), (12, iV x26), (13, iV 0), (14, rV 6 0), (15, iV gn), (21, rV 10 0), (22, iV x46), (23, rV 11 0), (24, iV 0), (25, rV 14 0), (26, iV x57), (28, iV 0), (29, rV 18 0), (30, iV x68), (31, rV 19 0), (32, iV 0)]) (g' := [(5, some (32, .ds [iD cap2, iD t3, iD e4, iD g5, iD 0, iD ↑ch7, iD n9, iD d10, iD a11, iD p12, iD f13, D.sl (dI .i32 l221) r222, iD lo225, iD mi17])), (6, some (32, .ds [iD cap2, iD t3, iD e4, iD g5, iD 0, iD ↑ch7, iD n9, iD d10, iD a11, iD p12, iD f13, D.sl (dI .i32 l221) r222, iD lo225, iD mi17])), (10, some (34, .ds [iD ↑ch7, D.sl (dI .i32 o36) N137])), (11, some (32, .ds [iD cap2, iD t3, iD e4, iD g5, iD 0, iD ↑ch7, iD n9, iD d10, iD A39, iD p243, iD f244, D.sl (dI .i32 l240) r241, iD lo225, iD mi245])), (14, some (34, .ds [iD ↑ch7, D.sl (dI .i32 o47) N148])), (18, some (34, .ds [iD ↑ch7, D.sl (dI .i32 o58) N159])), (19, some (32, .ds [iD cap2, iD t3, iD e4, iD g5, iD 0, iD ↑ch7, iD n9, iD d10, iD A61, iD p265, iD f266, D.sl (dI .i32 l262) r263, iD lo225, iD mi267]))]) (nx' := 20) (by kernel_rfl) ⟨(by omega), (by omega), ⟨by omega, by omega⟩, rfl, rfl, rfl, rfl, rfl, rfl, rfl, rfl, rfl, rfl, rfl, rfl, rfl, rfl, rfl, (by omega), hF68_0⟩ ?_
      by_cases hx81 : ((0 : Int) < x57)
      · have hadj : PhV n9 d10 0 p12 f13 := (show (BrV cap2 t3 e4 g5 0 ch7 W224 n9 d10 a11 p12 f13 l221 r222 lo225 mi17) by with_reducible assumption).hp.adj (by omega)
        have hg9 := (ctB_of (show (BrV cap2 t3 e4 g5 0 ch7 W224 n9 d10 a11 p12 f13 l221 r222 lo225 mi17) by with_reducible assumption).hc).2.2.2.2.1
        obtain ⟨⟨hT961, hT962, hT963⟩, hT964, hT965, hT966, hT967, hT968, hT969⟩ := pls_two (show (PLS t3 e4 g5 0 ch7 W224 n9 d10 p12 f13 l221 ((Int.toNat (nn % 20)) + (Int.toNat (mm % 20))) o36 k38 A39 l240 W242 p243 f244) by with_reducible assumption) (show (PLS t3 e4 g5 0 ch7 W224 n9 d10 p12 f13 l221 (Int.toNat (nn % 20)) o47 k49 A50 l251 W253 p254 f255) by with_reducible assumption) (show (PLS t3 e4 g5 0 ch7 W253 n9 d10 p254 f255 l251 (Int.toNat (mm % 20)) o58 k60 A61 l262 W264 p265 f266) by with_reducible assumption) rfl (by omega) hg9 hadj (show (BrV cap2 t3 e4 g5 0 ch7 W224 n9 d10 a11 p12 f13 l221 r222 lo225 mi17) by with_reducible assumption).hv
        have hx82 : r263 = r241 := ((show List.length l262 = r263 by with_reducible assumption).symm.trans (congrArg List.length hT965.symm)).trans (show List.length l240 = r241 by with_reducible assumption)
        obtain rfl : A39 = 0 := by omega
        obtain rfl : A61 = 0 := by omega
        obtain rfl : p243 = p265 := by omega
        obtain rfl : f244 = f266 := by omega
        obtain rfl : r241 = r263 := by omega
        obtain rfl : mi245 = mi267 := by omega
        obtain rfl : l240 = l262 := hT965
        refine AW.rgs [.no, .b true, .no, .no, .b true, .no, .no, .no, .b true, .no, .no, .no, .b true, .no, .no, .no, .no, .b true, .no, .no, .no, .no, .call [] (bV true) [] 0 [] none, .no, .no, .no, .no, .no, .w, .b true, .no, .no, .no, .no, .call [] (bV true) [] 0 [] none, .no, .no, .no, .b true, .no, .no, .no, .no] [8] [] (P := (((0 : Int) = 0)) ∧ (((0 : Int) = 0)) ∧ (((0 : Int) = 0)) ∧ (((0 : Int) = 0)) ∧ ((x26 = gn)) ∧ (_) ∧ ((-9223372036854775808) ≤ (x57 + x68) ∧ (x57 + x68) ≤ 9223372036854775807) ∧ ((x46 = (x57 + x68))) ∧ (_) ∧ (((0 : Int) < x57))) (l' := [(8, bV true)]) (g' := []) (nx' := 20) (by kernel_rfl) ⟨(by omega), (by omega), (by omega), (by omega), (by omega), (K_Same cap2 t3 e4 g5 0 ((ch7 : Nat) : Int) n9 d10 a11 p12 f13 l221 r222 lo225 mi17 (by omega) (by omega)), ⟨by omega, by omega⟩, (by omega), (K_Same cap2 t3 e4 g5 0 ((ch7 : Nat) : Int) n9 d10 0 p243 f244 l240 r241 lo225 mi245 (by omega) (by omega)), (by omega)⟩ ?_
        refine AW.ret ?_
        exact EndP.of (.inr rfl) [] (P := (true = true)) (by kernel_rfl) rfl
      · have hadj : PhV n9 d10 0 p12 f13 := (show (BrV cap2 t3 e4 g5 0 ch7 W224 n9 d10 a11 p12 f13 l221 r222 lo225 mi17) by with_reducible assumption).hp.adj (by omega)
        have hg9 := (ctB_of (show (BrV cap2 t3 e4 g5 0 ch7 W224 n9 d10 a11 p12 f13 l221 r222 lo225 mi17) by with_reducible assumption).hc).2.2.2.2.1
        obtain ⟨⟨hT961, hT962, hT963⟩, hT964, hT965, hT966, hT967, hT968, hT969⟩ := pls_two (show (PLS t3 e4 g5 0 ch7 W224 n9 d10 p12 f13 l221 ((Int.toNat (nn % 20)) + (Int.toNat (mm % 20))) o36 k38 A39 l240 W242 p243 f244) by with_reducible assumption) (show (PLS t3 e4 g5 0 ch7 W224 n9 d10 p12 f13 l221 (Int.toNat (nn % 20)) o47 k49 A50 l251 W253 p254 f255) by with_reducible assumption) (show (PLS t3 e4 g5 0 ch7 W253 n9 d10 p254 f255 l251 (Int.toNat (mm % 20)) o58 k60 A61 l262 W264 p265 f266) by with_reducible assumption) rfl (by omega) hg9 hadj (show (BrV cap2 t3 e4 g5 0 ch7 W224 n9 d10 a11 p12 f13 l221 r222 lo225 mi17) by with_reducible assumption).hv
        have hx83 : r263 = r241 := ((show List.length l262 = r263 by with_reducible assumption).symm.trans (congrArg List.length hT965.symm)).trans (show List.length l240 = r241 by with_reducible assumption)
        obtain rfl : A39 = 0 := by omega
        obtain rfl : A61 = 0 := by omega
        obtain rfl : p243 = p265 := by omega
        obtain rfl : f244 = f266 := by omega
        obtain rfl : r241 = r263 := by omega
        obtain rfl : mi245 = mi267 := by omega
        obtain rfl : l240 = l262 := hT965
        obtain rfl : o36 = (o47 ++ o58) := (hT969 (by omega))
        refine AW.rgs [.no, .b true, .no, .no, .b true, .no, .no, .no, .b true, .no, .no, .no, .b true, .no, .no, .no, .no, .b true, .no, .no, .no, .no, .call [] (bV true) [] 0 [] none, .no, .no, .no, .no, .no, .w, .b true, .no, .no, .no, .no, .call [] (bV true) [] 0 [] none, .no, .no, .no, .b false, .no, .no, .no, .no, .call [] (.e (.agg [iC ((ch7 : Nat) : Int), .d (D.sl (dI .i32 (o47 ++ o58)) (N148 + N159))])) [] 1 [] none, .call [] (bV true) [] 0 [] none, .no, .no, .no] [8] [] (P := (((0 : Int) = 0)) ∧ (((0 : Int) = 0)) ∧ (((0 : Int) = 0)) ∧ (((0 : Int) = 0)) ∧ ((x26 = gn)) ∧ (_) ∧ ((-9223372036854775808) ≤ (x57 + x68) ∧ (x57 + x68) ≤ 9223372036854775807) ∧ ((x46 = (x57 + x68))) ∧ (_) ∧ (¬ ((0 : Int) < x57)) ∧ (_) ∧ (_)) (l' := [(8, bV true)]) (g' := []) (nx' := 21) (by kernel_rfl) ⟨(by omega), (by omega), (by omega), (by omega), (by omega), (K_Same cap2 t3 e4 g5 0 ((ch7 : Nat) : Int) n9 d10 a11 p12 f13 l221 r222 lo225 mi17 (by omega) (by omega)), ⟨by omega, by omega⟩, (by omega), (K_Same cap2 t3 e4 g5 0 ((ch7 : Nat) : Int) n9 d10 0 p243 f244 l240 r241 lo225 mi245 (by omega) (by omega)), (by omega), (Z_Join ((ch7 : Nat) : Int) ((ch7 : Nat) : Int) o47 o58 N148 N159 (by omega) (by omega) (by omega) (by omega)), (Fun.y (G_Same ((ch7 : Nat) : Int) ((ch7 : Nat) : Int) (o47 ++ o58) (o47 ++ o58) N137 (N148 + N159) (by first | omega | with_reducible assumption | (simp <;> omega) | rfl | assumption) (by first | omega | with_reducible assumption | (simp <;> omega) | rfl | assumption) (by omega) (by omega)) (y' := bV true) (by simp [sameL_rfl]))⟩ ?_
        refine AW.ret ?_
        exact EndP.of (.inr rfl) [] (P := (true = true)) (by kernel_rfl) rfl
theorem Sl.max {k : IntKind} {w : World} {a : Option Addr} {len cap : Nat} {l : List Int} (h : Sl k w a len cap l) : List.length l ≤ 9223372036854775807 := by
  obtain ⟨h1, h2, h3, _⟩ := h
  unfold maxLen at h3
  omega
theorem bridgeParts_walk {w : World} {nn : Int} {mm : Int} {xa0 : Option Addr} {xl0 xc0 : Nat} {sd : List Int} (hs0 : Sl .u8 w xa0 xl0 xc0 sd) {xa1 : Option Addr} {xl1 xc1 : Nat} {al : List Int} (hs1 : Sl .u8 w xa1 xl1 xc1 al) (hi_nn : 0 ≤ nn ∧ nn ≤ 255) (hi_mm : 0 ≤ mm ∧ mm ≤ 255) : Calls Try.prog 6 #[.slice xa0 xl0 xc0, .slice xa1 xl1 xc1, .int .u8 nn, .int .u8 mm] w fun e w' => e = .returned (.bool true) ∧ Below w.heap.size w w' :=
  (Q_BridgeParts sd (List.length sd) al (List.length al) nn mm rfl rfl hs0.max hs1.max (Byt.of fun x hx => bounds_u8 (hs0.wf x hx)) (Byt.of fun x hx => bounds_u8 (hs1.wf x hx)) hi_nn hi_mm).walk ⟨repE_sl hs0, repE_sl hs1, repE_lit rfl, repE_lit rfl, trivial⟩
end Go.Proofs.Ytkneaefmjdlegaa
