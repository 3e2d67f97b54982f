/- Laws of conversion. No statement is proved here. -/
import Derived.Test.YtigiolfloefjnaaDoorZL16M
namespace Go.Proofs.YtigiolfloefjnaaDoor
open Go.ChangeShapes Go.WideShapes Go.ChangeAt Go.RowKit
set_option linter.unusedVariables false
set_option linter.unusedSimpArgs false
set_option maxHeartbeats 4000000
set_option maxRecDepth 100000
theorem bet_0 (a b : Int) {P : Int} (hP : 0 < P) : betV a b 0 P = a := by
 have h2 : 0 ≤ P / 2 ∧ P / 2 < P := by omega
 unfold betV
 rw [Int.sub_zero, Int.mul_zero, Int.add_zero]
 rw [Int.ediv_eq_iff_of_pos hP]
 omega
theorem mv_one (k : Nat) : mvV 0 (stp 1 0) k = ((k : Nat) : Int) * 65536 := by unfold mvV stp; omega
theorem one_q (k : Nat) : mvV 0 (stp 1 0) k / 65536 = ((k : Nat) : Int) ∧ mvV 0 (stp 1 0) k % 65536 = 0 ∧ iqV 0 (stp 1 0) 65536 k = k := by
 have h := mv_one k
 unfold iqV
 rw [h]
 omega
theorem one_need {k : Nat} (h : ¬ k = 0) : needV 0 (stp 1 0) 65536 k = ((k : Nat) : Int) + 1 := by
 rw [needV_s _ _ _ h, (one_q _).1, (one_q _).1]; omega
theorem one_mk {q : Nat} (hq : q ≤ 1000) : mkF 0 (stp 1 0) 65536 ((q : Nat) : Int) = q - 1 := by
 have h := mkF_eq (f := 0) (s := stp 1 0) (P := 65536) (h := ((q : Nat) : Int)) (k := q - 1) (by decide) (by decide) (by decide) (by omega) (by
  by_cases h0 : q - 1 = 0
  ·exact .inl h0
  ·right; rw [one_need h0]; omega) (by right; rw [one_need (by omega)]; omega)
 omega
theorem fr_id {ch W i : Nat} {l : List Int} (hl : List.length l = W * ch) (hi : i < W) : frV ch W l i = List.take ch (List.drop (i * ch) l) := by
 unfold frV
 rw [show min i (W - 1) = i by omega]
theorem rw_id {A B : List Int} {P : Int} (hP : 0 < P) : ∀ c, c ≤ List.length A → rwV A B 0 P c = List.take c A
 | 0, _ => rfl
 | c + 1, h => by
  show rwV A B 0 P c ++ [betV (List.getD A c 0) (List.getD B c 0) 0 P] = _
  rw [rw_id hP c (by omega), bet_0 _ _ hP, List.take_succ_eq_append_getElem (by omega), List.getD_eq_getElem?_getD, List.getElem?_eq_getElem (by omega)]; rfl
theorem one_pr {ch W : Nat} {l : List Int} (hl : List.length l = W * ch) : ∀ k, k ≤ W → prV ch W l 0 (stp 1 0) 65536 k = List.take (k * ch) l
 | 0, _ => by rw [Nat.zero_mul]; rfl
 | k + 1, hk => by
  have e1 : (k + 1) * ch ≤ W * ch := Nat.mul_le_mul_right _ hk
  rw [Nat.succ_mul] at e1
  have hfl := frV_len hl (show 1 ≤ W by omega) k
  show prV ch W l 0 (stp 1 0) 65536 k ++ rwV (frV ch W l (iqV 0 (stp 1 0) 65536 k)) _ (mvV 0 (stp 1 0) k % 65536) 65536 ch = _
  rw [one_pr hl k (by omega), (one_q k).2.1, (one_q k).2.2, rw_id (by decide) ch (by rw [hfl]; exact Nat.le_refl _), fr_id hl (by omega), List.take_take, Nat.min_self, Nat.succ_mul, List.take_add]
theorem bs_one {r : Nat} (h : 1 ≤ r) : bsN r r = 1 ∧ bdN r r = 1 := by
 unfold bsN bdN
 rw [Nat.gcd_self]
 exact ⟨Nat.div_self (by omega), Nat.div_self (by omega)⟩
theorem one_left {W : Nat} (h : W ≤ 65536) : leftV W 0 (stp 1 0) 65536 65536 = W := by
 unfold leftV stp
 split <;> omega
theorem one_same {r ch F : Nat} {w o2 l2 o : List Int} {k2 W2 j : Nat} {p2 f2 : Int} (hr : 1 ≤ r) (hw : BV ch F w) (hF : F ≤ 1000) (cv : CV ((bsN r r : Nat) : Int) ((bdN r r : Nat) : Int) 0 0 0 ch (0 + F) ([] ++ w) o2 l2 k2 W2 p2 f2) (fn : FN ((bsN r r : Nat) : Int) ((bdN r r : Nat) : Int) f2 ch W2 l2 o j) : o2 ++ o = w ∧ k2 + j = F ∧ List.length o2 = k2 * ch ∧ List.length o = j * ch := by
 rw [(bs_one hr).1, (bs_one hr).2] at cv fn
 have hl := hw.len
 rw [List.nil_append, Nat.zero_add] at cv
 have e1 : k2 = F - 1 := cv.kE.trans (one_mk hF)
 have e2 : f2 = 0 := by rw [cv.fE]; exact (one_q k2).2.1
 have e3 : goneV F 0 (stp 1 0) 65536 k2 = F - 1 := by unfold goneV; rw [(one_q k2).2.2]; omega
 have e4 : W2 = F - (F - 1) := by rw [cv.wE]; exact congrArg (F - ·) e3
 have e5 : l2 = List.drop ((F - 1) * ch) w := by rw [cv.lE]; exact congrArg (fun x => List.drop (x * ch) w) e3
 subst e2
 have e6 : j = W2 := fn.jE.trans (one_left (by omega))
 have e7 : o2 = List.take ((F - 1) * ch) w := by rw [cv.oE, e1]; exact one_pr hl (F - 1) (by omega)
 have e8 : List.length l2 = W2 * ch := by rw [e5, List.length_drop, hl, e4, ← Nat.sub_mul]
 have e9 : o = l2 := by
  rw [fn.oE, e6]
  exact (one_pr e8 W2 (Nat.le_refl _)).trans (by rw [← e8, List.take_length])
 refine ⟨by rw [e9, e7, e5, List.take_append_drop], by omega, ?_, by rw [e9, e8, e6]⟩
 rw [e7, List.length_take, hl, e1]
 exact Nat.min_eq_left (Nat.mul_le_mul_right _ (by omega))
theorem encL_add {g : Int → List Int} {a b : List Int} {x : Nat} (hx : List.length a = x) : ∀ y, encL g (a ++ b) (x + y) = encL g a x ++ encL g b y
 | 0 => by
  rw [Nat.add_zero]
  show encL g (a ++ b) x = encL g a x ++ []
  rw [List.append_nil]
  exact encL_congr x (fun j hj => by rw [getD_app_l (by omega)])
 | y + 1 => by
  show encL g (a ++ b) (x + y) ++ g (List.getD (a ++ b) (x + y) 0) = _ ++ (encL g b y ++ g (List.getD b y 0))
  rw [encL_add hx y, getD_app_r (by omega), hx, show x + y - x = y by omega, List.append_assoc]
theorem encA_app {k : Int} {a b : List Int} {x : Nat} (hx : List.length a = x) (y : Nat) : encA k (a ++ b) (x + y) = encA k a x ++ encA k b y := encL_add hx y
theorem one_enc {k : Int} {r ch F : Nat} {w o2 l2 o : List Int} {k2 W2 j : Nat} {p2 f2 : Int} (hr : 1 ≤ r) (hw : BV ch F w) (hF : F ≤ 1000) (cv : CV ((bsN r r : Nat) : Int) ((bdN r r : Nat) : Int) 0 0 0 ch (0 + F) ([] ++ w) o2 l2 k2 W2 p2 f2) (fn : FN ((bsN r r : Nat) : Int) ((bdN r r : Nat) : Int) f2 ch W2 l2 o j) : encA k o2 (k2 * ch) ++ encA k o (j * ch) = encA k w (F * ch) := by
 have h := one_same hr hw hF cv fn
 rw [← encA_app h.2.2.1, ← Nat.add_mul, h.1, h.2.1]
theorem dfL_pm {p q : List Int} {n : Nat} (hi : InL n p q) : ∀ k, k ≤ n → dfL p q n n k = pmL p q n k
 | 0, _ => rfl
 | k + 1, hk => by
  show dfS q n n k (List.getD p k 0) (dfL p q n n k) = List.set (pmL p q n k) _ _
  rw [dfL_pm hi k (by omega)]
  unfold dfS put
  rw [if_pos (hi k (by omega))]
theorem byt_add {a b : List Int} (ha : Byt a) (hb : Byt b) : Byt (a ++ b) := by
 intro j hj
 rw [List.length_append] at hj
 by_cases hk : j < List.length a
 ·rw [getD_app_l hk]; exact ha j hk
 ·rw [getD_app_r (by omega)]; exact hb _ (by omega)
theorem get4 {a b c d : Int} {q : Nat} (h : q < 4) : List.getD [a, b, c, d] q 0 = a ∨ List.getD [a, b, c, d] q 0 = b ∨ List.getD [a, b, c, d] q 0 = c ∨ List.getD [a, b, c, d] q 0 = d := by
 match q, h with
 | 0, _ => exact .inl rfl
 | 1, _ => exact .inr (.inl rfl)
 | 2, _ => exact .inr (.inr (.inl rfl))
 | 3, _ => exact .inr (.inr (.inr rfl))
theorem de_pt {f : List Int → Int} {g : Int → List Int} {s : Nat} (hg : ∀ x, List.length (g x) = s) {l : List Int} {n : Nat} (hn : List.length l = n) (h : ∀ j, j < n → f (g (List.getD l j 0)) = List.getD l j 0) : decL f s (encL g l n) n = l := by
 refine ext_getD (by rw [decL_len]; exact hn.symm) fun j hj => ?_
 rw [decL_len] at hj
 rw [decL_at n j hj, encL_part hg l n j hj]
 exact h j hj
theorem conv_there {kx ky : Int} {r n F m : Nat} {lx ly bs o2 l2 o q2 e2 q : List Int} {k2 W2 j k3 W3 j3 : Nat} {p2 f2 p3 f3 : Int} (hx : 1 ≤ kx ∧ kx ≤ 5) (hy : 4 ≤ ky ∧ ky ≤ 7 ∨ ky = kx) (hr : 1 ≤ r) (hn : 1 ≤ n ∧ n ≤ 8) (hvx : ChV n lx) (hvy : ChV n ly) (hxy : InL n lx ly) (hyx : InL n ly lx) (hF : F ≤ 1000) (hb : Byt bs) (hm : List.length bs = m) (hmF : m = F * (szN kx * n))
  (cv : CV ((bsN r r : Nat) : Int) ((bdN r r : Nat) : Int) 0 0 0 n (0 + F) ([] ++ apA (dfL lx ly n n n) (decA kx bs (F * n)) n n (F * n)) o2 l2 k2 W2 p2 f2) (fn : FN ((bsN r r : Nat) : Int) ((bdN r r : Nat) : Int) f2 n W2 l2 o j)
  (cw : CV ((bsN r r : Nat) : Int) ((bdN r r : Nat) : Int) 0 0 0 n (0 + F) ([] ++ apA (dfL ly lx n n n) (decA ky (encA ky o2 (k2 * n) ++ encA ky o (j * n)) (F * n)) n n (F * n)) q2 e2 k3 W3 p3 f3) (fw : FN ((bsN r r : Nat) : Int) ((bdN r r : Nat) : Int) f3 n W3 e2 q j3) : encA kx q2 (k3 * n) ++ encA kx q (j3 * n) = bs := by
 have hk : 1 ≤ ky ∧ ky ≤ 7 := by omega
 have hw : BV n F (decA kx bs (F * n)) := decA_BV (by omega) hb hn (by omega) (hm.trans hmF)
 have hz : BV n F (apA (dfL lx ly n n n) (decA kx bs (F * n)) n n (F * n)) := apA_BV hn.1 hn.2 (by omega)
 rw [one_enc hr hz hF cv fn] at cw
 have hd : decA ky (encA ky (apA (dfL lx ly n n n) (decA kx bs (F * n)) n n (F * n)) (F * n)) (F * n) = apA (dfL lx ly n n n) (decA kx bs (F * n)) n n (F * n) := by
  refine de_pt (encV_len hk) (apA_len _ _ _ _ _) fun i hi => ?_
  rcases hy with hy | hy
  ·exact deV hy _ (hz.at i hi)
  ·subst hy
   rw [dfL_pm hxy n (Nat.le_refl _)]
   have h3 := ap_pm hvx hvy hxy hyx hw hi
   rw [h3.1]
   unfold decA
   rw [decL_at _ _ h3.2]
   have hl : List.length bs = F * n * szN ky := by rw [hm, hmF, nsz]
   rw [edV hx _ ((hb.drop _).take _)]
   rw [List.length_take, List.length_drop, hl]
   have h5 := Nat.mul_le_mul_right (szN ky) (show i / n * n + ixN lx (List.getD ly (i % n) 0) n + 1 ≤ F * n from h3.2)
   rw [Nat.succ_mul] at h5
   omega
 rw [hd, dfL_pm hxy n (Nat.le_refl _), dfL_pm hyx n (Nat.le_refl _), ap_back hvx hvy hxy hyx hw (by omega)] at cw
 rw [one_enc hr hw hF cw fw]
 exact ed_all (edV hx) hb (F * n) (by rw [hm, hmF, nsz])
theorem zlct1 {p : Prop} (h : p := by first | omega | with_reducible assumption | (simp only [prV_len, rwV_len, List.length_append, List.length_cons, List.length_nil, List.length_take, List.length_drop, List.length_replicate, List.length_set] <;> omega) | rfl | assumption) : p := h
theorem zlct0 {p : Prop} (h : p := by first | omega | (simp only [prV_len, rwV_len, dI_len, List.length_append, List.length_cons, List.length_nil, List.length_take, List.length_drop, List.length_replicate, List.length_set, List.length_map, List.length_reverse, Nat.mul_one] <;> omega) | rfl) : p := h
theorem V_ConvertThere (sd : List Int) (m : Nat) (nn tt : Int) (hm : List.length sd = m) (hb : m ≤ 9223372036854775807) (hy : Byt sd) (ht : 0 ≤ nn ∧ nn ≤ 255) (hv : 0 ≤ tt ∧ tt ≤ 255) : Fun 5 [.c (.d (D.sl (dI .u8 sd) m)), .c (.d (D.lit (.int .u8 nn))), .c (.d (D.lit (.int .u8 tt)))] (toG []) 0 (bV true) (toG []) 0 := by
 refine Fun.mk (n := 147) Tryd.func5 rfl rfl (Nat.le_of_ble_eq_true rfl) ?_
 intro cx hcx
 refine AW.rgs [.no] [0, 1, 2] [] (P := True) (l' := [(0, sV .u8 sd m), (1, .e (.c (.d (D.lit (.int .u8 nn))))), (2, .e (.c (.d (D.lit (.int .u8 tt)))))]) (g' := []) (nx' := 0) zk trivial ?_
 refine AW.seq ?_
 refine AW.rgs [.call [] (bV true) [] 0 [] none, .no] [0, 1, 2, 28] [] (P := (_)) (l' := [(0, sV .u8 sd m), (1, .e (.c (.d (D.lit (.int .u8 nn))))), (2, .e (.c (.d (D.lit (.int .u8 tt))))), (28, bV false)]) (g' := []) (nx' := 0) zk (V_sane) ?_
 refine AW.cond_f (.tmp (Look.of rfl)) ?_
 refine AW.skip ?_
 obtain ⟨d1, hx1, hx2, hF1⟩ := (X_New sd m zo zo zlct1)
 refine AW.rgs [.no, .call [] (rV 0 0) [(0, some (59, .ds [D.sl (dI .u8 d1) (List.length d1)]))] 1 [] none, .no] [1, 2, 7] [0] (P := (_)) (l' := [(1, .e (.c (.d (D.lit (.int .u8 nn))))), (2, .e (.c (.d (D.lit (.int .u8 tt))))), (7, rV 0 0)]) (g' := [(0, some (59, .ds [D.sl (dI .u8 d1) (List.length d1)]))]) (nx' := 1) zk hF1 ?_
 obtain ⟨ka2, ra3, la4, na5, kb6, rb7, lb8, nb9, z10, hx3, hx4, hx5, hx6, hx7, hx8, hx9, hx10, hx11, hx12, hx13, hx14, hx15, hF10⟩ := (X_formats d1 zlct1)
 refine AW.rgs [.no, .call [0] (.tup [.agg [iC ka2, iC ((ra3 : Nat) : Int), .d (D.sl (dI .i64 la4) na5)], .agg [iC kb6, iC ((rb7 : Nat) : Int), .d (D.sl (dI .i64 lb8) nb9)]]) [(0, some (59, .ds [D.sl (dI .u8 z10) (List.length z10)]))] 1 [] none, .no, .no, .no, .no, .no, .no, .no] [1, 2, 7, 8] [0, 1] (P := (_)) (l' := [(1, .e (.c (.d (D.lit (.int .u8 nn))))), (2, .e (.c (.d (D.lit (.int .u8 tt))))), (7, rV 0 0), (8, rV 1 0)]) (g' := [(0, some (59, .ds [D.sl (dI .u8 z10) (List.length z10)])), (1, some (28, .ds [iD ka2, iD ↑ra3, D.sl (dI .i64 la4) na5]))]) (nx' := 3) zk hF10 ?_
 obtain ⟨fq, hfq⟩ : ∃ fq : Nat, nn % 20 = ((fq : Nat) : Int) ∧ fq ≤ 19 := ⟨(nn % 20).toNat, by omega, by omega⟩
 have htm := Int.emod_lt_of_pos tt (show 0 < ((na5 : Nat) : Int) by omega)
 have htn := Int.emod_nonneg tt (show ((na5 : Nat) : Int) ≠ 0 by omega)
 obtain ⟨kq, hkq⟩ : ∃ kq : Nat, tt % ((na5 : Nat) : Int) = ((kq : Nat) : Int) ∧ kq < na5 := ⟨(tt % ((na5 : Nat) : Int)).toNat, by omega, by omega⟩
 have hx16 : PhV ((bsN ra3 ra3 : Nat) : Int) ((bdN ra3 ra3 : Nat) : Int) 0 0 0 := PhV.bd zo zo
 have hx17 : BV na5 0 ([] : List Int) := BV.nil zo zo
 have hx18 : 0 * na5 ≤ 524288 := BV.big (show (BV na5 0 ([] : List Int)) by with_reducible assumption)
 have hx19 : 0 ≤ 65536 := BV.fit (show (BV na5 0 ([] : List Int)) by with_reducible assumption)
 obtain ⟨iL1, hx20⟩ : ∃ iL1 : Int, iL1 = ((1 + (ka2 % 5)) : Int) := ⟨(1 + (ka2 % 5)), by omega⟩
 refine AW.rgs [.no, .no, .ps, .wi iL1, .no, .no] [1, 2, 7, 8] [0, 1] (P := ((0 : Int) ≤ (ka2 : Int)) ∧ ((0 : Int) < (5 : Int)) ∧ ((-9223372036854775808) ≤ (1 + (ka2 % 5)) ∧ (1 + (ka2 % 5)) ≤ 9223372036854775807) ∧ (((1 + (ka2 % 5)) : Int) = iL1)) (l' := [(1, .e (.c (.d (D.lit (.int .u8 nn))))), (2, .e (.c (.d (D.lit (.int .u8 tt))))), (7, rV 0 0), (8, rV 1 0)]) (g' := [(0, some (59, .ds [D.sl (dI .u8 z10) (List.length z10)])), (1, some (28, .ds [iD iL1, iD ↑ra3, D.sl (dI .i64 la4) na5]))]) (nx' := 3) zk ⟨zo, zo, ⟨by omega, by omega⟩, zo⟩ ?_
 refine AW.rgs [.no, .no, .no] [1, 2, 7, 8, 10] [0, 1, 3] (P := True) (l' := [(1, .e (.c (.d (D.lit (.int .u8 nn))))), (2, .e (.c (.d (D.lit (.int .u8 tt))))), (7, rV 0 0), (8, rV 1 0), (10, rV 3 0)]) (g' := [(0, some (59, .ds [D.sl (dI .u8 z10) (List.length z10)])), (1, some (28, .ds [iD iL1, iD ↑ra3, D.sl (dI .i64 la4) na5])), (3, some (28, .ds [iD iL1, iD ↑ra3, D.sl (dI .i64 la4) na5]))]) (nx' := 4) zk trivial ?_
 obtain ⟨q11, d12, hx21, hx22, hx23, hx24, hF12⟩ := (X_Next z10 4 zlct1)
 obtain ⟨iL2, hx25⟩ : ∃ iL2 : Int, iL2 = ((List.getD ([4, 5, iL1, 7] : List Int) q11 0) : Int) := ⟨(List.getD ([4, 5, iL1, 7] : List Int) q11 0), by omega⟩
 obtain ⟨iL3, hx26⟩ : ∃ iL3 : Int, iL3 = ((max iL1 iL2) : Int) := ⟨(max iL1 iL2), by omega⟩
 refine AW.rgs [.no, .no, .no, .no, .no, .no, .call [0] (iV ((q11 : Nat) : Int)) [(0, some (59, .ds [D.sl (dI .u8 d12) (List.length d12)]))] 1 [] none, .n2 q11 q11, .d (D.lit (.int .i64 iL2)), .i iL3, .no, .no] [1, 2, 7, 8, 10] [0, 1, 3] (P := (_) ∧ ((((q11 : Nat) : Int) : Int) = ((q11 : Nat) : Int)) ∧ (q11 < 4) ∧ ((0 : Nat) + q11 * 1 = q11) ∧ ([iD 4, iD 5, iD iL1, iD 7][q11]? = some (D.lit (.int .i64 iL2))) ∧ (((max iL1 iL2) : Int) = iL3)) (l' := [(1, .e (.c (.d (D.lit (.int .u8 nn))))), (2, .e (.c (.d (D.lit (.int .u8 tt))))), (7, rV 0 0), (8, rV 1 0), (10, rV 3 0)]) (g' := [(0, some (59, .ds [D.sl (dI .u8 d12) (List.length d12)])), (1, some (28, .ds [iD iL1, iD ↑ra3, D.sl (dI .i64 la4) na5])), (3, some (28, .ds [iD iL3, iD ↑ra3, D.sl (dI .i64 la4) na5]))]) (nx' := 5) zk ⟨hF12, rfl, zo, zo, (by rw [show iL2 = (List.getD ([4, 5, iL1, 7] : List Int) q11 0) by omega]; exact dI_get .i64 ([4, 5, iL1, 7] : List Int) _ zlct0), zo⟩ ?_
 have hx27 : (4 ≤ iL3 ∧ iL3 ≤ 7) ∨ iL3 = iL1 := by have h9 := get4 (a := 4) (b := 5) (c := iL1) (d := 7) (q := q11) zo; omega
 have hx28 : 1 ≤ iL1 ∧ iL1 ≤ 5 := by omega
 refine AW.rgs [.no, .w, .no, .no, .no, .i ((kq : Nat) : Int), .no] [1, 7, 8, 10, 11] [0, 1, 3] (P := ((-9223372036854775808) ≤ tt ∧ tt ≤ 9223372036854775807) ∧ (¬ (((na5 : Nat) : Int) : Int) = 0) ∧ (((Int.tmod tt ((na5 : Nat) : Int)) : Int) = ((kq : Nat) : Int))) (l' := [(1, .e (.c (.d (D.lit (.int .u8 nn))))), (7, rV 0 0), (8, rV 1 0), (10, rV 3 0), (11, iV ↑kq)]) (g' := [(0, some (59, .ds [D.sl (dI .u8 d12) (List.length d12)])), (1, some (28, .ds [iD iL1, iD ↑ra3, D.sl (dI .i64 la4) na5])), (3, some (28, .ds [iD iL3, iD ↑ra3, D.sl (dI .i64 la4) na5]))]) (nx' := 5) zk ⟨⟨by omega, by omega⟩, zo, (by rw [Int.tmod_eq_emod_of_nonneg (by omega)]; omega)⟩ ?_
 refine AW.rgs [.no, .no, .no, .sls kq na5 (na5 - kq) (dI .i64 (List.drop kq la4)), .ap none (na5 - kq) (dI .i64 (List.drop kq la4)), .no, .no, .no, .sls 0 kq kq (dI .i64 (List.take kq la4)), .ap none ((na5 - kq) + kq) (dI .i64 ((List.drop kq la4) ++ (List.take kq la4))), .no, .no] [1, 7, 8, 10] [0, 1, 3, 6] (P := ((((kq : Nat) : Int) : Int) = ((kq : Nat) : Int)) ∧ (na5 = na5) ∧ (kq ≤ na5) ∧ (na5 ≤ na5) ∧ (na5 - kq = (na5 - kq)) ∧ (List.take ((na5 - kq) * 1) (List.drop (kq * 1) (dI .i64 la4)) = (dI .i64 (List.drop kq la4))) ∧ ((dI .i64 (List.drop kq la4)).length = (na5 - kq) * 1) ∧ ((na5 - kq) * 8 ≤ 140737488355328) ∧ ((na5 - kq) = (na5 - kq)) ∧ (((dI .i64 (List.drop kq la4)) : List D) = (dI .i64 (List.drop kq la4))) ∧ ((0 : Nat) = 0) ∧ ((((kq : Nat) : Int) : Int) = ((kq : Nat) : Int)) ∧ ((0 : Nat) ≤ kq) ∧ (kq ≤ na5) ∧ (kq - 0 = kq) ∧ (List.take (kq * 1) (List.drop (0 * 1) (dI .i64 la4)) = (dI .i64 (List.take kq la4))) ∧ ((dI .i64 (List.take kq la4)).length = kq * 1) ∧ (((dI .i64 (List.drop kq la4)) : List D).length = (na5 - kq) * 1) ∧ (((na5 - kq) + kq) * 8 ≤ 140737488355328) ∧ ((na5 - kq) + kq = ((na5 - kq) + kq)) ∧ (((dI .i64 (List.drop kq la4)) : List D) ++ (dI .i64 (List.take kq la4)) = (dI .i64 ((List.drop kq la4) ++ (List.take kq la4))))) (l' := [(1, .e (.c (.d (D.lit (.int .u8 nn))))), (7, rV 0 0), (8, rV 1 0), (10, rV 3 0)]) (g' := [(0, some (59, .ds [D.sl (dI .u8 d12) (List.length d12)])), (1, some (28, .ds [iD iL1, iD ↑ra3, D.sl (dI .i64 la4) na5])), (3, some (28, .cs [iC iL3, iC ↑ra3, .own 6 0 ((na5 - kq) + kq) 1 true])), (6, some (3, .ds (dI .i64 ((List.drop kq la4) ++ (List.take kq la4)))))]) (nx' := 7) zk ⟨rfl, rfl, zo, zo, zo, (by first | rfl | with_reducible assumption | exact dI_app _ _ _ | exact dI_rep _ _ _ | (simp only [dI_take, dI_drop, dI_app, Nat.mul_one, Nat.zero_mul, List.drop_zero, List.nil_append, List.append_nil]; done) | (simp only [dI_take, dI_drop, dI_app, Nat.mul_one, Nat.zero_mul, List.drop_zero, List.nil_append, List.append_nil]; rfl) | (rw [List.take_of_length_le (by simp only [prV_len, rwV_len, dI_len, List.length_drop, List.length_replicate, Nat.mul_one] <;> omega)]; first | rfl | (simp only [dI_drop, Nat.mul_one, Nat.zero_mul, List.drop_zero]; done) | (simp only [dI_drop, Nat.mul_one, Nat.zero_mul, List.drop_zero]; rfl))), zlct0, zo, rfl, rfl, rfl, rfl, zo, zo, zo, (by first | rfl | with_reducible assumption | exact dI_app _ _ _ | exact dI_rep _ _ _ | (simp only [dI_take, dI_drop, dI_app, Nat.mul_one, Nat.zero_mul, List.drop_zero, List.nil_append, List.append_nil]; done) | (simp only [dI_take, dI_drop, dI_app, Nat.mul_one, Nat.zero_mul, List.drop_zero, List.nil_append, List.append_nil]; rfl) | (rw [List.take_of_length_le (by simp only [prV_len, rwV_len, dI_len, List.length_drop, List.length_replicate, Nat.mul_one] <;> omega)]; first | rfl | (simp only [dI_drop, Nat.mul_one, Nat.zero_mul, List.drop_zero]; done) | (simp only [dI_drop, Nat.mul_one, Nat.zero_mul, List.drop_zero]; rfl))), zlct0, zlct0, zo, zo, (dI_app .i64 (List.drop kq la4) (List.take kq la4))⟩ ?_
 refine AW.freeze 6 (l' := [(1, .e (.c (.d (D.lit (.int .u8 nn))))), (7, rV 0 0), (8, rV 1 0), (10, rV 3 0)]) (g' := [(0, some (59, .ds [D.sl (dI .u8 d12) (List.length d12)])), (1, some (28, .ds [iD iL1, iD ((ra3 : Nat) : Int), D.sl (dI .i64 la4) na5])), (3, some (28, .ds [iD iL3, iD ((ra3 : Nat) : Int), D.sl (dI .i64 ((List.drop kq la4) ++ (List.take kq la4))) ((na5 - kq) + kq)]))]) rfl (FzS.cons rfl (.same _) (FzS.cons rfl (.same _) (FzS.cons rfl (.same _) (FzS.cons rfl (.same _) FzS.nil)))) (FzG.keep rfl rfl (FzG.keep rfl rfl (FzG.to (bc := .cs [iC iL3, iC ((ra3 : Nat) : Int), .own 6 0 ((na5 - kq) + kq) 1 true]) rfl (by rfl) (FzL.cons (.same _) (FzL.cons (.same _) (FzL.cons (@FzC.own 6 ((dI .i64 ((List.drop kq la4) ++ (List.take kq la4))) : List D) 0 ((na5 - kq) + kq) 1 true ((dI .i64 ((List.drop kq la4) ++ (List.take kq la4))) : List D) (by rw [List.drop_zero, Nat.mul_one, List.take_of_length_le (by first | omega | (simp only [prV_len, rwV_len, dI_len, List.length_append, List.length_cons, List.length_nil, List.length_take, List.length_drop, List.length_replicate, List.length_set, List.length_map, List.length_reverse, Nat.mul_one] <;> omega))]) zlct0) FzL.nil))) FzG.nil))) ?_
 obtain ⟨ly, hly⟩ : ∃ ly, ly = rotL la4 kq := ⟨_, rfl⟩
 rw [show ((List.drop kq la4) ++ (List.take kq la4)) = ly from hly.symm]
 rw [show ((na5 - kq) + kq) = na5 by omega]
 have hla9 : List.length la4 = na5 := by with_reducible assumption
 have hvx9 : ChV na5 la4 := by with_reducible assumption
 have hvy9 : ChV na5 ly := by rw [hly]; exact rot_ChV hla9 (by omega) hvx9
 have hxy9 : InL na5 la4 ly := by rw [hly]; exact rot_in hla9 (by omega)
 have hyx9 : InL na5 ly la4 := by rw [hly]; exact in_rot hla9 (by omega)
 have hly9 : List.length ly = na5 := by rw [hly, rotL_len]; exact hla9
 have hcy9 : chB ly na5 = true := chB_of (by omega) hvy9
 refine AW.rgs [.no, .no, .call [] (.tup [.agg [iC iL1, iC ((ra3 : Nat) : Int), .d (D.sl (dI .i64 la4) na5), iC iL3, iC ((ra3 : Nat) : Int), .d (D.sl (dI .i64 ly) na5), iC ((na5 : Nat) : Int), iC ((na5 : Nat) : Int), .d (D.sl (dI .i64 (dfL la4 ly na5 na5 na5)) (na5 * na5)), iC ((na5 : Nat) : Int), iC (((bsN ra3 ra3) : Nat) : Int), iC (((bdN ra3 ra3) : Nat) : Int), iC 0, iC 0, iC 0, .d (D.sl ([] : List D) 0)], iE 0]) [] 0 [] none, .no, .no, .no, .no, .no, .no] [1, 7, 8, 10, 12, 13] [0, 1, 3, 7] (P := (_)) (l' := [(1, .e (.c (.d (D.lit (.int .u8 nn))))), (7, rV 0 0), (8, rV 1 0), (10, rV 3 0), (12, rV 7 0), (13, iV 0)]) (g' := [(0, some (59, .ds [D.sl (dI .u8 d12) (List.length d12)])), (1, some (28, .ds [iD iL1, iD ↑ra3, D.sl (dI .i64 la4) na5])), (3, some (28, .ds [iD iL3, iD ↑ra3, D.sl (dI .i64 ly) na5])), (7, some (41, .ds [iD iL1, iD ↑ra3, D.sl (dI .i64 la4) na5, iD iL3, iD ↑ra3, D.sl (dI .i64 ly) na5, iD ↑na5, iD ↑na5, D.sl (dI .i64 (dfL la4 ly na5 na5 na5)) (na5 * na5), iD ↑na5, iD (((bsN ra3 ra3) : Nat) : Int), iD (((bdN ra3 ra3) : Nat) : Int), iD 0, iD 0, iD 0, D.sl ([] : List D) 0]))]) (nx' := 8) zk (V_New iL1 ra3 la4 na5 iL3 ra3 ly na5 zlct1 zo hx5 zo zlct1 zo hcy9 zo) ?_
 refine AW.rgs [.no, .no, .call [] (.tup [.agg [iC iL3, iC ((ra3 : Nat) : Int), .d (D.sl (dI .i64 ly) na5), iC iL1, iC ((ra3 : Nat) : Int), .d (D.sl (dI .i64 la4) na5), iC ((na5 : Nat) : Int), iC ((na5 : Nat) : Int), .d (D.sl (dI .i64 (dfL ly la4 na5 na5 na5)) (na5 * na5)), iC ((na5 : Nat) : Int), iC (((bsN ra3 ra3) : Nat) : Int), iC (((bdN ra3 ra3) : Nat) : Int), iC 0, iC 0, iC 0, .d (D.sl ([] : List D) 0)], iE 0]) [] 0 [] none, .no, .no, .no, .no, .no, .no] [1, 7, 8, 12, 13, 14, 15] [0, 1, 7, 8] (P := (_)) (l' := [(1, .e (.c (.d (D.lit (.int .u8 nn))))), (7, rV 0 0), (8, rV 1 0), (12, rV 7 0), (13, iV 0), (14, rV 8 0), (15, iV 0)]) (g' := [(0, some (59, .ds [D.sl (dI .u8 d12) (List.length d12)])), (1, some (28, .ds [iD iL1, iD ↑ra3, D.sl (dI .i64 la4) na5])), (7, some (41, .ds [iD iL1, iD ↑ra3, D.sl (dI .i64 la4) na5, iD iL3, iD ↑ra3, D.sl (dI .i64 ly) na5, iD ↑na5, iD ↑na5, D.sl (dI .i64 (dfL la4 ly na5 na5 na5)) (na5 * na5), iD ↑na5, iD (((bsN ra3 ra3) : Nat) : Int), iD (((bdN ra3 ra3) : Nat) : Int), iD 0, iD 0, iD 0, D.sl ([] : List D) 0])), (8, some (41, .ds [iD iL3, iD ↑ra3, D.sl (dI .i64 ly) na5, iD iL1, iD ↑ra3, D.sl (dI .i64 la4) na5, iD ↑na5, iD ↑na5, D.sl (dI .i64 (dfL ly la4 na5 na5 na5)) (na5 * na5), iD ↑na5, iD (((bsN ra3 ra3) : Nat) : Int), iD (((bdN ra3 ra3) : Nat) : Int), iD 0, iD 0, iD 0, D.sl ([] : List D) 0]))]) (nx' := 9) zk (V_New iL3 ra3 ly na5 iL1 ra3 la4 na5 zlct1 zo hcy9 zo zlct1 zo hx5 zo) ?_
 obtain ⟨bs13, z14, m15, hx29, hx30, hx31, hx32, hF15⟩ := (X_bytes d12 iL1 ra3 la4 na5 fq zlct1 zlct1 zo hx5 zo zo)
 refine AW.rgs [.no, .no, .no, .i ((fq : Nat) : Int), .w, .call [0] (oV 1 0 m15 1) [(0, some (59, .ds [D.sl (dI .u8 z14) (List.length z14)])), (1, some (5, .ds (dI .u8 bs13)))] 2 [] none, .no] [12, 13, 14, 15, 16] [7, 8, 9] (P := (¬ (20 : Int) = 0) ∧ (((Int.tmod nn 20) : Int) = ((fq : Nat) : Int)) ∧ ((-9223372036854775808) ≤ ((fq : Nat) : Int) ∧ ((fq : Nat) : Int) ≤ 9223372036854775807) ∧ (_)) (l' := [(12, rV 7 0), (13, iV 0), (14, rV 8 0), (15, iV 0), (16, oV 9 0 m15 1)]) (g' := [(7, some (41, .ds [iD iL1, iD ↑ra3, D.sl (dI .i64 la4) na5, iD iL3, iD ↑ra3, D.sl (dI .i64 ly) na5, iD ↑na5, iD ↑na5, D.sl (dI .i64 (dfL la4 ly na5 na5 na5)) (na5 * na5), iD ↑na5, iD (((bsN ra3 ra3) : Nat) : Int), iD (((bdN ra3 ra3) : Nat) : Int), iD 0, iD 0, iD 0, D.sl ([] : List D) 0])), (8, some (41, .ds [iD iL3, iD ↑ra3, D.sl (dI .i64 ly) na5, iD iL1, iD ↑ra3, D.sl (dI .i64 la4) na5, iD ↑na5, iD ↑na5, D.sl (dI .i64 (dfL ly la4 na5 na5 na5)) (na5 * na5), iD ↑na5, iD (((bsN ra3 ra3) : Nat) : Int), iD (((bdN ra3 ra3) : Nat) : Int), iD 0, iD 0, iD 0, D.sl ([] : List D) 0])), (9, some (5, .ds (dI .u8 bs13)))]) (nx' := 10) zk ⟨zo, (by rw [Int.tmod_eq_emod_of_nonneg (by omega)]; omega), ⟨by omega, by omega⟩, hF15⟩ ?_
 refine AW.freeze 9 (l' := [(12, rV 7 0), (13, iV 0), (14, rV 8 0), (15, iV 0), (16, sV .u8 bs13 m15)]) (g' := [(7, some (41, .ds [iD iL1, iD ((ra3 : Nat) : Int), D.sl (dI .i64 la4) na5, iD iL3, iD ((ra3 : Nat) : Int), D.sl (dI .i64 ly) na5, iD ((na5 : Nat) : Int), iD ((na5 : Nat) : Int), D.sl (dI .i64 (dfL la4 ly na5 na5 na5)) (na5 * na5), iD ((na5 : Nat) : Int), iD (((bsN ra3 ra3) : Nat) : Int), iD (((bdN ra3 ra3) : Nat) : Int), iD 0, iD 0, iD 0, D.sl ([] : List D) 0])), (8, some (41, .ds [iD iL3, iD ((ra3 : Nat) : Int), D.sl (dI .i64 ly) na5, iD iL1, iD ((ra3 : Nat) : Int), D.sl (dI .i64 la4) na5, iD ((na5 : Nat) : Int), iD ((na5 : Nat) : Int), D.sl (dI .i64 (dfL ly la4 na5 na5 na5)) (na5 * na5), iD ((na5 : Nat) : Int), iD (((bsN ra3 ra3) : Nat) : Int), iD (((bdN ra3 ra3) : Nat) : Int), iD 0, iD 0, iD 0, D.sl ([] : List D) 0]))]) rfl (FzS.cons rfl (.same _) (FzS.cons rfl (.same _) (FzS.cons rfl (.same _) (FzS.cons rfl (.same _) (FzS.cons rfl (.e (.c (@FzC.own 9 ((dI .u8 bs13) : List D) 0 m15 1 true ((dI .u8 bs13) : List D) (by rw [List.drop_zero, Nat.mul_one, List.take_of_length_le (by first | omega | (simp only [prV_len, rwV_len, dI_len, List.length_append, List.length_cons, List.length_nil, List.length_take, List.length_drop, List.length_replicate, List.length_set, List.length_map, List.length_reverse, Nat.mul_one] <;> omega))]) zlct0))) FzS.nil))))) (FzG.keep rfl rfl (FzG.keep rfl rfl FzG.nil)) ?_
 obtain ⟨o216, l217, k218, W219, r220, p221, f222, hx33, hx34, hx35, hx36, hx37, hx38, hx39, hx40, hF22⟩ := (V_Run iL1 ra3 la4 na5 iL3 ra3 ly na5 0 0 0 ([] : List Int) 0 bs13 m15 fq zlct1 zo hx5 zo zlct1 zo hcy9 zo zlct1 zlct1 zlct1 zo zlct1 zlct1 zo zo)
 refine AW.rgs [.no, .no, .call [] (.tup [.c (.d (D.sl (dI .u8 (encA iL3 o216 (k218 * na5))) ((k218 * na5) * (szN iL3)))), .agg [iC iL1, iC ((ra3 : Nat) : Int), .d (D.sl (dI .i64 la4) na5), iC iL3, iC ((ra3 : Nat) : Int), .d (D.sl (dI .i64 ly) na5), iC ((na5 : Nat) : Int), iC ((na5 : Nat) : Int), .d (D.sl (dI .i64 (dfL la4 ly na5 na5 na5)) (na5 * na5)), iC ((na5 : Nat) : Int), iC (((bsN ra3 ra3) : Nat) : Int), iC (((bdN ra3 ra3) : Nat) : Int), iC 0, iC p221, iC f222, .d (D.sl (dI .i32 l217) r220)], iE 0]) [] 0 [] none, .no, .no, .no, .no, .no, .no, .no, .no] [13, 14, 15, 16, 17, 18, 19] [8, 10] (P := (_)) (l' := [(13, iV 0), (14, rV 8 0), (15, iV 0), (16, sV .u8 bs13 m15), (17, sV .u8 (encA iL3 o216 (k218 * na5)) ((k218 * na5) * (szN iL3))), (18, rV 10 0), (19, iV 0)]) (g' := [(8, some (41, .ds [iD iL3, iD ↑ra3, D.sl (dI .i64 ly) na5, iD iL1, iD ↑ra3, D.sl (dI .i64 la4) na5, iD ↑na5, iD ↑na5, D.sl (dI .i64 (dfL ly la4 na5 na5 na5)) (na5 * na5), iD ↑na5, iD (((bsN ra3 ra3) : Nat) : Int), iD (((bdN ra3 ra3) : Nat) : Int), iD 0, iD 0, iD 0, D.sl ([] : List D) 0])), (10, some (41, .ds [iD iL1, iD ↑ra3, D.sl (dI .i64 la4) na5, iD iL3, iD ↑ra3, D.sl (dI .i64 ly) na5, iD ↑na5, iD ↑na5, D.sl (dI .i64 (dfL la4 ly na5 na5 na5)) (na5 * na5), iD ↑na5, iD (((bsN ra3 ra3) : Nat) : Int), iD (((bdN ra3 ra3) : Nat) : Int), iD 0, iD p221, iD f222, D.sl (dI .i32 l217) r220]))]) (nx' := 11) zk hF22 ?_
 have hx41 : W219 * na5 ≤ 524288 := BV.big (show (BV na5 W219 l217) by with_reducible assumption)
 have hx42 : List.length l217 ≤ 524288 := Nat.le_trans (Nat.le_of_eq (BV.len (show (BV na5 W219 l217) by with_reducible assumption))) (BV.big (show (BV na5 W219 l217) by with_reducible assumption))
 have hx43 : W219 ≤ 65536 := BV.fit (show (BV na5 W219 l217) by with_reducible assumption)
 have hx44 : k218 * na5 ≤ 524288 := BV.big (show (BV na5 k218 o216) by with_reducible assumption)
 have hx45 : List.length o216 ≤ 524288 := Nat.le_trans (Nat.le_of_eq (BV.len (show (BV na5 k218 o216) by with_reducible assumption))) (BV.big (show (BV na5 k218 o216) by with_reducible assumption))
 have hx46 : k218 ≤ 65536 := BV.fit (show (BV na5 k218 o216) by with_reducible assumption)
 have hx47 : List.length (encA iL3 o216 (k218 * na5)) = (k218 * na5) * szN iL3 := encA_len zo _ _
 have hx48 : List.length (encA iL3 o216 (k218 * na5)) ≤ 2097152 := by rw [encA_len (by omega)]; exact Nat.mul_le_mul (show (k218 * na5) ≤ 524288 by omega) (szN_in _).2
 obtain ⟨o23, j24, hx49, hx50, hx51, hx52, hF24⟩ := (V_Fin iL1 ra3 la4 na5 iL3 ra3 ly na5 p221 f222 W219 l217 r220 zlct1 zo hx5 zo zlct1 zo hcy9 zo zlct1 zlct1 zo zo)
 refine AW.rgs [.no, .call [] (.tup [.c (.d (D.sl (dI .u8 (encA iL3 o23 (j24 * na5))) ((j24 * na5) * (szN iL3)))), iE 0]) [] 0 [] none, .no, .no, .no, .no, .no] [13, 14, 15, 16, 17, 19, 20, 21] [8] (P := (_)) (l' := [(13, iV 0), (14, rV 8 0), (15, iV 0), (16, sV .u8 bs13 m15), (17, sV .u8 (encA iL3 o216 (k218 * na5)) ((k218 * na5) * (szN iL3))), (19, iV 0), (20, sV .u8 (encA iL3 o23 (j24 * na5)) ((j24 * na5) * (szN iL3))), (21, iV 0)]) (g' := [(8, some (41, .ds [iD iL3, iD ↑ra3, D.sl (dI .i64 ly) na5, iD iL1, iD ↑ra3, D.sl (dI .i64 la4) na5, iD ↑na5, iD ↑na5, D.sl (dI .i64 (dfL ly la4 na5 na5 na5)) (na5 * na5), iD ↑na5, iD (((bsN ra3 ra3) : Nat) : Int), iD (((bdN ra3 ra3) : Nat) : Int), iD 0, iD 0, iD 0, D.sl ([] : List D) 0]))]) (nx' := 11) zk hF24 ?_
 have hx53 : j24 * na5 ≤ 524288 := BV.big (show (BV na5 j24 o23) by with_reducible assumption)
 have hx54 : List.length o23 ≤ 524288 := Nat.le_trans (Nat.le_of_eq (BV.len (show (BV na5 j24 o23) by with_reducible assumption))) (BV.big (show (BV na5 j24 o23) by with_reducible assumption))
 have hx55 : j24 ≤ 65536 := BV.fit (show (BV na5 j24 o23) by with_reducible assumption)
 have hx56 : List.length (encA iL3 o23 (j24 * na5)) = (j24 * na5) * szN iL3 := encA_len zo _ _
 have hx57 : List.length (encA iL3 o23 (j24 * na5)) ≤ 2097152 := by rw [encA_len (by omega)]; exact Nat.mul_le_mul (show (j24 * na5) ≤ 524288 by omega) (szN_in _).2
 have hz15 : BV na5 fq (apA (dfL la4 ly na5 na5 na5) (decA iL1 bs13 (fq * na5)) na5 na5 (fq * na5)) := apA_BV (by omega) (by omega) (by omega)
 have hos := one_same (by omega) hz15 (by omega) (show (CV (((bsN ra3 ra3) : Nat) : Int) (((bdN ra3 ra3) : Nat) : Int) 0 0 0 na5 (0 + fq) (([] : List Int) ++ (apA (dfL la4 ly na5 na5 na5) (decA iL1 bs13 (fq * na5)) na5 na5 (fq * na5))) o216 l217 k218 W219 p221 f222) by with_reducible assumption) (show (FN (((bsN ra3 ra3) : Nat) : Int) (((bdN ra3 ra3) : Nat) : Int) f222 na5 W219 l217 o23 j24) by with_reducible assumption)
 obtain ⟨hsum, _⟩ : k218 * na5 * szN iL3 + j24 * na5 * szN iL3 = fq * (szN iL3 * na5) ∧ True := ⟨by rw [← Nat.add_mul, ← Nat.add_mul, hos.2.1, nsz], trivial⟩
 have hbb : Byt (encA iL3 o216 (k218 * na5) ++ encA iL3 o23 (j24 * na5)) := byt_add (encA_byt (by omega) _ _) (encA_byt (by omega) _ _)
 obtain ⟨o232, l233, k234, W235, r236, p237, f238, hx58, hx59, hx60, hx61, hx62, hx63, hx64, hx65, hF38⟩ := (V_Run iL3 ra3 ly na5 iL1 ra3 la4 na5 0 0 0 ([] : List Int) 0 ((encA iL3 o216 (k218 * na5)) ++ (encA iL3 o23 (j24 * na5))) (((k218 * na5) * (szN iL3)) + ((j24 * na5) * (szN iL3))) fq zlct1 zo hcy9 zo zlct1 zo hx5 zo zlct1 zlct1 zlct1 zlct1 zlct1 zlct1 zo zo)
 refine AW.rgs [.no, .no, .ap none ((k218 * na5) * (szN iL3)) (dI .u8 (encA iL3 o216 (k218 * na5))), .no, (.fz (.ap none (((k218 * na5) * (szN iL3)) + ((j24 * na5) * (szN iL3))) (dI .u8 ((encA iL3 o216 (k218 * na5)) ++ (encA iL3 o23 (j24 * na5)))))), .call [] (.tup [.c (.d (D.sl (dI .u8 (encA iL1 o232 (k234 * na5))) ((k234 * na5) * (szN iL1)))), .agg [iC iL3, iC ((ra3 : Nat) : Int), .d (D.sl (dI .i64 ly) na5), iC iL1, iC ((ra3 : Nat) : Int), .d (D.sl (dI .i64 la4) na5), iC ((na5 : Nat) : Int), iC ((na5 : Nat) : Int), .d (D.sl (dI .i64 (dfL ly la4 na5 na5 na5)) (na5 * na5)), iC ((na5 : Nat) : Int), iC (((bsN ra3 ra3) : Nat) : Int), iC (((bdN ra3 ra3) : Nat) : Int), iC 0, iC p237, iC f238, .d (D.sl (dI .i32 l233) r236)], iE 0]) [] 0 [] none, .no, .no, .no, .no, .no, .no, .no, .no] [13, 15, 16, 19, 21, 22, 23, 24] [13] (P := ((dI .u8 (encA iL3 o216 (k218 * na5))).length = ((k218 * na5) * (szN iL3)) * 1) ∧ (((k218 * na5) * (szN iL3)) * 1 ≤ 140737488355328) ∧ (((k218 * na5) * (szN iL3)) = ((k218 * na5) * (szN iL3))) ∧ (((dI .u8 (encA iL3 o216 (k218 * na5))) : List D) = (dI .u8 (encA iL3 o216 (k218 * na5)))) ∧ ((dI .u8 (encA iL3 o23 (j24 * na5))).length = ((j24 * na5) * (szN iL3)) * 1) ∧ (((dI .u8 (encA iL3 o216 (k218 * na5))) : List D).length = ((k218 * na5) * (szN iL3)) * 1) ∧ ((((k218 * na5) * (szN iL3)) + ((j24 * na5) * (szN iL3))) * 1 ≤ 140737488355328) ∧ (((k218 * na5) * (szN iL3)) + ((j24 * na5) * (szN iL3)) = (((k218 * na5) * (szN iL3)) + ((j24 * na5) * (szN iL3)))) ∧ (((dI .u8 (encA iL3 o216 (k218 * na5))) : List D) ++ (dI .u8 (encA iL3 o23 (j24 * na5))) = (dI .u8 ((encA iL3 o216 (k218 * na5)) ++ (encA iL3 o23 (j24 * na5))))) ∧ (((dI .u8 ((encA iL3 o216 (k218 * na5)) ++ (encA iL3 o23 (j24 * na5)))) : List D).length = (((k218 * na5) * (szN iL3)) + ((j24 * na5) * (szN iL3))) * 1) ∧ (_)) (l' := [(13, iV 0), (15, iV 0), (16, sV .u8 bs13 m15), (19, iV 0), (21, iV 0), (22, sV .u8 (encA iL1 o232 (k234 * na5)) ((k234 * na5) * (szN iL1))), (23, rV 13 0), (24, iV 0)]) (g' := [(13, some (41, .ds [iD iL3, iD ↑ra3, D.sl (dI .i64 ly) na5, iD iL1, iD ↑ra3, D.sl (dI .i64 la4) na5, iD ↑na5, iD ↑na5, D.sl (dI .i64 (dfL ly la4 na5 na5 na5)) (na5 * na5), iD ↑na5, iD (((bsN ra3 ra3) : Nat) : Int), iD (((bdN ra3 ra3) : Nat) : Int), iD 0, iD p237, iD f238, D.sl (dI .i32 l233) r236]))]) (nx' := 14) zk ⟨zlct0, zo, rfl, rfl, zlct0, zlct0, zo, zo, (dI_app .u8 (encA iL3 o216 (k218 * na5)) (encA iL3 o23 (j24 * na5))), zlct0, hF38⟩ ?_
 have hx66 : fq * na5 ≤ 524288 := BV.big (show (BV na5 fq (apA (dfL la4 ly na5 na5 na5) (decA iL1 bs13 (fq * na5)) na5 na5 (fq * na5))) by with_reducible assumption)
 have hx67 : fq ≤ 65536 := BV.fit (show (BV na5 fq (apA (dfL la4 ly na5 na5 na5) (decA iL1 bs13 (fq * na5)) na5 na5 (fq * na5))) by with_reducible assumption)
 have hx68 : W235 * na5 ≤ 524288 := BV.big (show (BV na5 W235 l233) by with_reducible assumption)
 have hx69 : List.length l233 ≤ 524288 := Nat.le_trans (Nat.le_of_eq (BV.len (show (BV na5 W235 l233) by with_reducible assumption))) (BV.big (show (BV na5 W235 l233) by with_reducible assumption))
 have hx70 : W235 ≤ 65536 := BV.fit (show (BV na5 W235 l233) by with_reducible assumption)
 have hx71 : k234 * na5 ≤ 524288 := BV.big (show (BV na5 k234 o232) by with_reducible assumption)
 have hx72 : List.length o232 ≤ 524288 := Nat.le_trans (Nat.le_of_eq (BV.len (show (BV na5 k234 o232) by with_reducible assumption))) (BV.big (show (BV na5 k234 o232) by with_reducible assumption))
 have hx73 : k234 ≤ 65536 := BV.fit (show (BV na5 k234 o232) by with_reducible assumption)
 have hx74 : List.length (encA iL1 o232 (k234 * na5)) = (k234 * na5) * szN iL1 := encA_len zo _ _
 have hx75 : List.length (encA iL1 o232 (k234 * na5)) ≤ 2097152 := by rw [encA_len (by omega)]; exact Nat.mul_le_mul (show (k234 * na5) ≤ 524288 by omega) (szN_in _).2
 obtain ⟨o39, j40, hx76, hx77, hx78, hx79, hF40⟩ := (V_Fin iL3 ra3 ly na5 iL1 ra3 la4 na5 p237 f238 W235 l233 r236 zlct1 zo hcy9 zo zlct1 zo hx5 zo zlct1 zlct1 zo zo)
 refine AW.rgs [.no, .call [] (.tup [.c (.d (D.sl (dI .u8 (encA iL1 o39 (j40 * na5))) ((j40 * na5) * (szN iL1)))), iE 0]) [] 0 [] none, .no, .no, .no, .no, .no] [13, 15, 16, 19, 21, 22, 24, 25, 26] [] (P := (_)) (l' := [(13, iV 0), (15, iV 0), (16, sV .u8 bs13 m15), (19, iV 0), (21, iV 0), (22, sV .u8 (encA iL1 o232 (k234 * na5)) ((k234 * na5) * (szN iL1))), (24, iV 0), (25, sV .u8 (encA iL1 o39 (j40 * na5)) ((j40 * na5) * (szN iL1))), (26, iV 0)]) (g' := []) (nx' := 14) zk hF40 ?_
 have hx80 : j40 * na5 ≤ 524288 := BV.big (show (BV na5 j40 o39) by with_reducible assumption)
 have hx81 : List.length o39 ≤ 524288 := Nat.le_trans (Nat.le_of_eq (BV.len (show (BV na5 j40 o39) by with_reducible assumption))) (BV.big (show (BV na5 j40 o39) by with_reducible assumption))
 have hx82 : j40 ≤ 65536 := BV.fit (show (BV na5 j40 o39) by with_reducible assumption)
 have hx83 : List.length (encA iL1 o39 (j40 * na5)) = (j40 * na5) * szN iL1 := encA_len zo _ _
 have hx84 : List.length (encA iL1 o39 (j40 * na5)) ≤ 2097152 := by rw [encA_len (by omega)]; exact Nat.mul_le_mul (show (j40 * na5) ≤ 524288 by omega) (szN_in _).2
 refine AW.rgs [.no, .b true, .no, .no, .b true, .no, .no, .no, .b true, .no, .no, .no, .b true, .no, .no, .no, .b true, .no, .no, .no, .b true, .no, .no, .no, .st none (encA iL1 o232 (k234 * na5)), .no, .st none (encA iL1 o39 (j40 * na5)), .ds [D.lit (.string (strOfNums ((encA iL1 o232 (k234 * na5)) ++ (encA iL1 o39 (j40 * na5)))))], .no, .st none bs13, .b true, .no, .no] [6] [] (P := (((0 : Int) = 0)) ∧ (((0 : Int) = 0)) ∧ (((0 : Int) = 0)) ∧ (((0 : Int) = 0)) ∧ (((0 : Int) = 0)) ∧ (((0 : Int) = 0)) ∧ ((dI .u8 (encA iL1 o232 (k234 * na5))).length = ((k234 * na5) * (szN iL1)) * 1) ∧ (((dI .u8 (encA iL1 o232 (k234 * na5))) : List D) = dI .u8 (encA iL1 o232 (k234 * na5))) ∧ ((dI .u8 (encA iL1 o39 (j40 * na5))).length = ((j40 * na5) * (szN iL1)) * 1) ∧ (((dI .u8 (encA iL1 o39 (j40 * na5))) : List D) = dI .u8 (encA iL1 o39 (j40 * na5))) ∧ ((strOfNums (encA iL1 o232 (k234 * na5))) ++ (strOfNums (encA iL1 o39 (j40 * na5))) = strOfNums ((encA iL1 o232 (k234 * na5)) ++ (encA iL1 o39 (j40 * na5)))) ∧ (ByteArray.size (strOfNums (encA iL1 o232 (k234 * na5))) + ByteArray.size (strOfNums (encA iL1 o39 (j40 * na5))) ≤ 9223372036854775807) ∧ ((dI .u8 bs13).length = m15 * 1) ∧ (((dI .u8 bs13) : List D) = dI .u8 bs13) ∧ ((ByteArray.toList (strOfNums ((encA iL1 o232 (k234 * na5)) ++ (encA iL1 o39 (j40 * na5)))) == ByteArray.toList (strOfNums bs13)) = true)) (l' := [(6, bV true)]) (g' := []) (nx' := 14) zk ⟨zo, zo, zo, zo, zo, zo, zlct0, rfl, zlct0, rfl, (strOf_cat (encA iL1 o232 (k234 * na5)) (encA iL1 o39 (j40 * na5))), (by have h8 := strOfNums_size (encA iL1 o232 (k234 * na5)); have h9 := strOfNums_size (encA iL1 o39 (j40 * na5)); (try simp only [List.length_append, List.length_take, List.length_drop, List.length_cons, List.length_nil] at h8 h9); change (strOfNums (encA iL1 o232 (k234 * na5))).size + (strOfNums (encA iL1 o39 (j40 * na5))).size ≤ _; omega), zlct0, rfl, (by rw [show ((encA iL1 o232 (k234 * na5)) ++ (encA iL1 o39 (j40 * na5))) = bs13 from conv_there (kx := iL1) (ky := iL3) (by omega) (by omega) (by omega) (by omega) hvx9 hvy9 hxy9 hyx9 (by omega) (by with_reducible assumption) (by with_reducible assumption) (by with_reducible assumption) (show (CV (((bsN ra3 ra3) : Nat) : Int) (((bdN ra3 ra3) : Nat) : Int) 0 0 0 na5 (0 + fq) (([] : List Int) ++ (apA (dfL la4 ly na5 na5 na5) (decA iL1 bs13 (fq * na5)) na5 na5 (fq * na5))) o216 l217 k218 W219 p221 f222) by with_reducible assumption) (show (FN (((bsN ra3 ra3) : Nat) : Int) (((bdN ra3 ra3) : Nat) : Int) f222 na5 W219 l217 o23 j24) by with_reducible assumption) (show (CV (((bsN ra3 ra3) : Nat) : Int) (((bdN ra3 ra3) : Nat) : Int) 0 0 0 na5 (0 + fq) (([] : List Int) ++ (apA (dfL ly la4 na5 na5 na5) (decA iL3 ((encA iL3 o216 (k218 * na5)) ++ (encA iL3 o23 (j24 * na5))) (fq * na5)) na5 na5 (fq * na5))) o232 l233 k234 W235 p237 f238) by with_reducible assumption) (show (FN (((bsN ra3 ra3) : Nat) : Int) (((bdN ra3 ra3) : Nat) : Int) f238 na5 W235 l233 o39 j40) by with_reducible assumption)]; simp)⟩ ?_
 refine AW.ret ?_
 exact EndP.of (.inr rfl) [] (P := (true = true)) zk rfl
theorem convertThere_walk {w : World} {nn : Int} {tt : Int} {xa0 : Option Addr} {xl0 xc0 : Nat} {sd : List Int} (hs0 : Sl .u8 w xa0 xl0 xc0 sd) (hi_nn : 0 ≤ nn ∧ nn ≤ 255) (hi_tt : 0 ≤ tt ∧ tt ≤ 255) (hgl : GlOK (fun k => k < w.heap.size) w) : Calls Tryd.prog 5 #[.slice xa0 xl0 xc0, .int .u8 nn, .int .u8 tt] w fun e w' => e = .returned (.bool true) ∧ Below w.heap.size w w' :=
 (V_ConvertThere sd (List.length sd) nn tt rfl hs0.max (Byt.of fun x hx => bounds_u8 (hs0.wf x hx)) hi_nn hi_tt).walk ⟨repE_sl hs0, repE_lit rfl, repE_lit rfl, trivial⟩ hgl
end Go.Proofs.YtigiolfloefjnaaDoor
