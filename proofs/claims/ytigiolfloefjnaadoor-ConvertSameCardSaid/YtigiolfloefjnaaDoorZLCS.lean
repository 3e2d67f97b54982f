/- Laws of conversion. No statement is proved here. -/
import Derived.Test.YtigiolfloefjnaaDoorZL16M
namespace Go.Proofs.YtigiolfloefjnaaDoor
open Go.ChangeShapes Go.WideShapes Go.ChangeAt Go.RowKit
set_option linter.unusedVariables false
set_option linter.unusedSimpArgs false
set_option maxHeartbeats 4000000
set_option maxRecDepth 100000
theorem bet_0 (a b : Int) {P : Int} (hP : 0 < P) : betV a b 0 P = a := by
  have h2 : 0 ≤ P / 2 ∧ P / 2 < P := by omega
  unfold betV
  rw [Int.sub_zero, Int.mul_zero, Int.add_zero]
  rw [Int.ediv_eq_iff_of_pos hP]
  omega
theorem mv_one (k : Nat) : mvV 0 (stp 1 0) k = ((k : Nat) : Int) * 65536 := by unfold mvV stp; omega
theorem one_q (k : Nat) : mvV 0 (stp 1 0) k / 65536 = ((k : Nat) : Int) ∧ mvV 0 (stp 1 0) k % 65536 = 0 ∧ iqV 0 (stp 1 0) 65536 k = k := by
  have h := mv_one k
  unfold iqV
  rw [h]
  omega
theorem one_need {k : Nat} (h : ¬ k = 0) : needV 0 (stp 1 0) 65536 k = ((k : Nat) : Int) + 1 := by
  rw [needV_s _ _ _ h, (one_q _).1, (one_q _).1]; omega
theorem one_mk {q : Nat} (hq : q ≤ 1000) : mkF 0 (stp 1 0) 65536 ((q : Nat) : Int) = q - 1 := by
  have h := mkF_eq (f := 0) (s := stp 1 0) (P := 65536) (h := ((q : Nat) : Int)) (k := q - 1) (by decide) (by decide) (by decide) (by omega) (by
    by_cases h0 : q - 1 = 0
    · exact .inl h0
    · right; rw [one_need h0]; omega) (by right; rw [one_need (by omega)]; omega)
  omega
theorem fr_id {ch W i : Nat} {l : List Int} (hl : List.length l = W * ch) (hi : i < W) : frV ch W l i = List.take ch (List.drop (i * ch) l) := by
  unfold frV
  rw [show min i (W - 1) = i by omega]
theorem rw_id {A B : List Int} {P : Int} (hP : 0 < P) : ∀ c, c ≤ List.length A → rwV A B 0 P c = List.take c A
  | 0, _ => rfl
  | c + 1, h => by
    show rwV A B 0 P c ++ [betV (List.getD A c 0) (List.getD B c 0) 0 P] = _
    rw [rw_id hP c (by omega), bet_0 _ _ hP, List.take_succ_eq_append_getElem (by omega), List.getD_eq_getElem?_getD, List.getElem?_eq_getElem (by omega)]; rfl
theorem one_pr {ch W : Nat} {l : List Int} (hl : List.length l = W * ch) : ∀ k, k ≤ W → prV ch W l 0 (stp 1 0) 65536 k = List.take (k * ch) l
  | 0, _ => by rw [Nat.zero_mul]; rfl
  | k + 1, hk => by
    have e1 : (k + 1) * ch ≤ W * ch := Nat.mul_le_mul_right _ hk
    rw [Nat.succ_mul] at e1
    have hfl := frV_len hl (show 1 ≤ W by omega) k
    show prV ch W l 0 (stp 1 0) 65536 k ++ rwV (frV ch W l (iqV 0 (stp 1 0) 65536 k)) _ (mvV 0 (stp 1 0) k % 65536) 65536 ch = _
    rw [one_pr hl k (by omega), (one_q k).2.1, (one_q k).2.2, rw_id (by decide) ch (by rw [hfl]; exact Nat.le_refl _), fr_id hl (by omega), List.take_take, Nat.min_self, Nat.succ_mul, List.take_add]
theorem bs_one {r : Nat} (h : 1 ≤ r) : bsN r r = 1 ∧ bdN r r = 1 := by
  unfold bsN bdN
  rw [Nat.gcd_self]
  exact ⟨Nat.div_self (by omega), Nat.div_self (by omega)⟩
theorem one_left {W : Nat} (h : W ≤ 65536) : leftV W 0 (stp 1 0) 65536 65536 = W := by
  unfold leftV stp
  split <;> omega
theorem one_same {r ch F : Nat} {w o2 l2 o : List Int} {k2 W2 j : Nat} {p2 f2 : Int} (hr : 1 ≤ r) (hw : BV ch F w) (hF : F ≤ 1000) (cv : CV ((bsN r r : Nat) : Int) ((bdN r r : Nat) : Int) 0 0 0 ch (0 + F) ([] ++ w) o2 l2 k2 W2 p2 f2) (fn : FN ((bsN r r : Nat) : Int) ((bdN r r : Nat) : Int) f2 ch W2 l2 o j) : o2 ++ o = w ∧ k2 + j = F ∧ List.length o2 = k2 * ch ∧ List.length o = j * ch := by
  rw [(bs_one hr).1, (bs_one hr).2] at cv fn
  have hl := hw.len
  rw [List.nil_append, Nat.zero_add] at cv
  have e1 : k2 = F - 1 := cv.kE.trans (one_mk hF)
  have e2 : f2 = 0 := by rw [cv.fE]; exact (one_q k2).2.1
  have e3 : goneV F 0 (stp 1 0) 65536 k2 = F - 1 := by unfold goneV; rw [(one_q k2).2.2]; omega
  have e4 : W2 = F - (F - 1) := by rw [cv.wE]; exact congrArg (F - ·) e3
  have e5 : l2 = List.drop ((F - 1) * ch) w := by rw [cv.lE]; exact congrArg (fun x => List.drop (x * ch) w) e3
  subst e2
  have e6 : j = W2 := fn.jE.trans (one_left (by omega))
  have e7 : o2 = List.take ((F - 1) * ch) w := by rw [cv.oE, e1]; exact one_pr hl (F - 1) (by omega)
  have e8 : List.length l2 = W2 * ch := by rw [e5, List.length_drop, hl, e4, ← Nat.sub_mul]
  have e9 : o = l2 := by
    rw [fn.oE, e6]
    exact (one_pr e8 W2 (Nat.le_refl _)).trans (by rw [← e8, List.take_length])
  refine ⟨by rw [e9, e7, e5, List.take_append_drop], by omega, ?_, by rw [e9, e8, e6]⟩
  rw [e7, List.length_take, hl, e1]
  exact Nat.min_eq_left (Nat.mul_le_mul_right _ (by omega))
theorem encL_add {g : Int → List Int} {a b : List Int} {x : Nat} (hx : List.length a = x) : ∀ y, encL g (a ++ b) (x + y) = encL g a x ++ encL g b y
  | 0 => by
    rw [Nat.add_zero]
    show encL g (a ++ b) x = encL g a x ++ []
    rw [List.append_nil]
    exact encL_congr x (fun j hj => by rw [getD_app_l (by omega)])
  | y + 1 => by
    show encL g (a ++ b) (x + y) ++ g (List.getD (a ++ b) (x + y) 0) = _ ++ (encL g b y ++ g (List.getD b y 0))
    rw [encL_add hx y, getD_app_r (by omega), hx, show x + y - x = y by omega, List.append_assoc]
theorem encA_app {k : Int} {a b : List Int} {x : Nat} (hx : List.length a = x) (y : Nat) : encA k (a ++ b) (x + y) = encA k a x ++ encA k b y := encL_add hx y
theorem one_enc {k : Int} {r ch F : Nat} {w o2 l2 o : List Int} {k2 W2 j : Nat} {p2 f2 : Int} (hr : 1 ≤ r) (hw : BV ch F w) (hF : F ≤ 1000) (cv : CV ((bsN r r : Nat) : Int) ((bdN r r : Nat) : Int) 0 0 0 ch (0 + F) ([] ++ w) o2 l2 k2 W2 p2 f2) (fn : FN ((bsN r r : Nat) : Int) ((bdN r r : Nat) : Int) f2 ch W2 l2 o j) : encA k o2 (k2 * ch) ++ encA k o (j * ch) = encA k w (F * ch) := by
  have h := one_same hr hw hF cv fn
  rw [← encA_app h.2.2.1, ← Nat.add_mul, h.1, h.2.1]
theorem dfL_pm {p q : List Int} {n : Nat} (hi : InL n p q) : ∀ k, k ≤ n → dfL p q n n k = pmL p q n k
  | 0, _ => rfl
  | k + 1, hk => by
    show dfS q n n k (List.getD p k 0) (dfL p q n n k) = List.set (pmL p q n k) _ _
    rw [dfL_pm hi k (by omega)]
    unfold dfS put
    rw [if_pos (hi k (by omega))]
theorem in_self {n : Nat} (l : List Int) : InL n l l := fun _ hj => idxK_has hj
theorem ap_self {l w : List Int} {n F : Nat} (hv : ChV n l) (hw : BV n F w) : apA (dfL l l n n n) w n n (F * n) = w := by
  rw [dfL_pm (in_self l) n (Nat.le_refl _)]
  have h1 := hw.c1
  refine ext_len (by rw [apA_len, hw.len]) fun j hj => ?_
  rw [apA_len] at hj
  have hm : j % n < n := Nat.mod_lt _ (by omega)
  have h3 := ap_pm hv hv (in_self l) (in_self l) hw hj
  rw [h3.1]
  have h5 : ixN l (List.getD l (j % n) 0) n = j % n := by unfold ixN; rw [(hv _ hm).2.2]; rfl
  rw [h5, ← split_at]
theorem conv_same {k : Int} {r n F m : Nat} {l bs o2 l2 o : List Int} {k2 W2 j : Nat} {p2 f2 : Int} (hk : 1 ≤ k ∧ k ≤ 5) (hr : 1 ≤ r) (hn : 1 ≤ n ∧ n ≤ 8) (hv : ChV n l) (hF : F ≤ 1000) (hb : Byt bs) (hm : List.length bs = m) (hmF : m = F * (szN k * n)) (cv : CV ((bsN r r : Nat) : Int) ((bdN r r : Nat) : Int) 0 0 0 n (0 + F) ([] ++ apA (dfL l l n n n) (decA k bs (F * n)) n n (F * n)) o2 l2 k2 W2 p2 f2) (fn : FN ((bsN r r : Nat) : Int) ((bdN r r : Nat) : Int) f2 n W2 l2 o j) : encA k o2 (k2 * n) ++ encA k o (j * n) = bs := by
  have hw : BV n F (decA k bs (F * n)) := decA_BV (by omega) hb hn (by omega) (hm.trans hmF)
  rw [ap_self hv hw] at cv
  rw [one_enc hr hw hF cv fn]
  exact ed_all (edV hk) hb (F * n) (by rw [hm, hmF, nsz])
theorem zlcs1 {p : Prop} (h : p := by first | omega | with_reducible assumption | (simp only [prV_len, rwV_len, List.length_append, List.length_cons, List.length_nil, List.length_take, List.length_drop, List.length_replicate, List.length_set] <;> omega) | rfl | assumption) : p := h
theorem zlcs0 {p : Prop} (h : p := by first | omega | (simp only [prV_len, rwV_len, dI_len, List.length_append, List.length_cons, List.length_nil, List.length_take, List.length_drop, List.length_replicate, List.length_set, List.length_map, List.length_reverse, Nat.mul_one] <;> omega) | rfl) : p := h
theorem V_ConvertSame (sd : List Int) (m : Nat) (nn : Int) (hm : List.length sd = m) (hb : m ≤ 9223372036854775807) (hy : Byt sd) (ht : 0 ≤ nn ∧ nn ≤ 255) : Fun 4 [.c (.d (D.sl (dI .u8 sd) m)), .c (.d (D.lit (.int .u8 nn)))] (toG []) 0 (bV true) (toG []) 0 := by
  refine Fun.mk (n := 76) Tryd.func4 rfl rfl (Nat.le_of_ble_eq_true rfl) ?_
  intro cx hcx
  refine AW.rgs [.no] [0, 1] [] (P := True) (l' := [(0, sV .u8 sd m), (1, .e (.c (.d (D.lit (.int .u8 nn)))))]) (g' := []) (nx' := 0) zk trivial ?_
  refine AW.seq ?_
  refine AW.rgs [.call [] (bV true) [] 0 [] none, .no] [0, 1, 17] [] (P := (_)) (l' := [(0, sV .u8 sd m), (1, .e (.c (.d (D.lit (.int .u8 nn))))), (17, bV false)]) (g' := []) (nx' := 0) zk (V_sane) ?_
  refine AW.cond_f (.tmp (Look.of rfl)) ?_
  refine AW.skip ?_
  obtain ⟨d1, hx1, hx2, hF1⟩ := (X_New sd m zo zo zlcs1)
  refine AW.rgs [.no, .call [] (rV 0 0) [(0, some (59, .ds [D.sl (dI .u8 d1) (List.length d1)]))] 1 [] none, .no] [1, 5] [0] (P := (_)) (l' := [(1, .e (.c (.d (D.lit (.int .u8 nn))))), (5, rV 0 0)]) (g' := [(0, some (59, .ds [D.sl (dI .u8 d1) (List.length d1)]))]) (nx' := 1) zk hF1 ?_
  obtain ⟨ka2, ra3, la4, na5, kb6, rb7, lb8, nb9, z10, hx3, hx4, hx5, hx6, hx7, hx8, hx9, hx10, hx11, hx12, hx13, hx14, hx15, hF10⟩ := (X_formats d1 zlcs1)
  refine AW.rgs [.no, .call [0] (.tup [.agg [iC ka2, iC ((ra3 : Nat) : Int), .d (D.sl (dI .i64 la4) na5)], .agg [iC kb6, iC ((rb7 : Nat) : Int), .d (D.sl (dI .i64 lb8) nb9)]]) [(0, some (59, .ds [D.sl (dI .u8 z10) (List.length z10)]))] 1 [] none, .no, .no, .no, .no, .no, .no, .no] [1, 5, 6] [0, 1] (P := (_)) (l' := [(1, .e (.c (.d (D.lit (.int .u8 nn))))), (5, rV 0 0), (6, rV 1 0)]) (g' := [(0, some (59, .ds [D.sl (dI .u8 z10) (List.length z10)])), (1, some (28, .ds [iD ka2, iD ↑ra3, D.sl (dI .i64 la4) na5]))]) (nx' := 3) zk hF10 ?_
  refine AW.seq ?_
  by_cases hx20 : ((6 : Int) ≤ ka2)
  · obtain ⟨fq, hfq⟩ : ∃ fq : Nat, nn % 20 = ((fq : Nat) : Int) ∧ fq ≤ 19 := ⟨(nn % 20).toNat, by omega, by omega⟩
    have hx21 : PhV ((bsN ra3 ra3 : Nat) : Int) ((bdN ra3 ra3 : Nat) : Int) 0 0 0 := PhV.bd zo zo
    have hx22 : BV na5 0 ([] : List Int) := BV.nil zo zo
    have hx23 : 0 * na5 ≤ 524288 := BV.big (show (BV na5 0 ([] : List Int)) by with_reducible assumption)
    have hx24 : 0 ≤ 65536 := BV.fit (show (BV na5 0 ([] : List Int)) by with_reducible assumption)
    refine AW.rgs [.no, .no, .b true] [1, 5, 6, 27] [0, 1] (P := (((6 : Int) ≤ ka2))) (l' := [(1, .e (.c (.d (D.lit (.int .u8 nn))))), (5, rV 0 0), (6, rV 1 0), (27, bV true)]) (g' := [(0, some (59, .ds [D.sl (dI .u8 z10) (List.length z10)])), (1, some (28, .ds [iD ka2, iD ↑ra3, D.sl (dI .i64 la4) na5]))]) (nx' := 3) zk zo ?_
    refine AW.cond_t (.tmp (Look.of rfl)) ?_
    refine AW.rg [.no, .no, .w, .no, .no] [1, 5, 6] [0, 1] (P := ((-9223372036854775808) ≤ (ka2 - 2) ∧ (ka2 - 2) ≤ 9223372036854775807)) (l' := [(1, .e (.c (.d (D.lit (.int .u8 nn))))), (5, rV 0 0), (6, rV 1 0)]) (g' := [(0, some (59, .ds [D.sl (dI .u8 z10) (List.length z10)])), (1, some (28, .ds [iD (ka2 - 2), iD ↑ra3, D.sl (dI .i64 la4) na5]))]) (nx' := 3) zk ⟨by omega, by omega⟩ ?_
    refine AW.rgs [.no, .no, .call [] (.tup [.agg [iC (ka2 - 2), iC ((ra3 : Nat) : Int), .d (D.sl (dI .i64 la4) na5), iC (ka2 - 2), iC ((ra3 : Nat) : Int), .d (D.sl (dI .i64 la4) na5), iC ((na5 : Nat) : Int), iC ((na5 : Nat) : Int), .d (D.sl (dI .i64 (dfL la4 la4 na5 na5 na5)) (na5 * na5)), iC ((na5 : Nat) : Int), iC (((bsN ra3 ra3) : Nat) : Int), iC (((bdN ra3 ra3) : Nat) : Int), iC 0, iC 0, iC 0, .d (D.sl ([] : List D) 0)], iE 0]) [] 0 [] none, .no, .no, .no, .no, .no, .no] [1, 5, 6, 8, 9] [0, 1, 3] (P := (_)) (l' := [(1, .e (.c (.d (D.lit (.int .u8 nn))))), (5, rV 0 0), (6, rV 1 0), (8, rV 3 0), (9, iV 0)]) (g' := [(0, some (59, .ds [D.sl (dI .u8 z10) (List.length z10)])), (1, some (28, .ds [iD (ka2 - 2), iD ↑ra3, D.sl (dI .i64 la4) na5])), (3, some (41, .ds [iD (ka2 - 2), iD ↑ra3, D.sl (dI .i64 la4) na5, iD (ka2 - 2), iD ↑ra3, D.sl (dI .i64 la4) na5, iD ↑na5, iD ↑na5, D.sl (dI .i64 (dfL la4 la4 na5 na5 na5)) (na5 * na5), iD ↑na5, iD (((bsN ra3 ra3) : Nat) : Int), iD (((bdN ra3 ra3) : Nat) : Int), iD 0, iD 0, iD 0, D.sl ([] : List D) 0]))]) (nx' := 4) zk (V_New (ka2 - 2) ra3 la4 na5 (ka2 - 2) ra3 la4 na5 zo zo hx5 zo zo zo hx5 zo) ?_
    obtain ⟨bs11, z12, m13, hx25, hx26, hx27, hx28, hF13⟩ := (X_bytes z10 (ka2 - 2) ra3 la4 na5 fq zlcs1 zo zo hx5 zo zo)
    refine AW.rgs [.no, .no, .no, .i ((fq : Nat) : Int), .w, .call [0] (oV 1 0 m13 1) [(0, some (59, .ds [D.sl (dI .u8 z12) (List.length z12)])), (1, some (5, .ds (dI .u8 bs11)))] 2 [] none, .no] [8, 9, 10] [3, 4] (P := (¬ (20 : Int) = 0) ∧ (((Int.tmod nn 20) : Int) = ((fq : Nat) : Int)) ∧ ((-9223372036854775808) ≤ ((fq : Nat) : Int) ∧ ((fq : Nat) : Int) ≤ 9223372036854775807) ∧ (_)) (l' := [(8, rV 3 0), (9, iV 0), (10, oV 4 0 m13 1)]) (g' := [(3, some (41, .ds [iD (ka2 - 2), iD ↑ra3, D.sl (dI .i64 la4) na5, iD (ka2 - 2), iD ↑ra3, D.sl (dI .i64 la4) na5, iD ↑na5, iD ↑na5, D.sl (dI .i64 (dfL la4 la4 na5 na5 na5)) (na5 * na5), iD ↑na5, iD (((bsN ra3 ra3) : Nat) : Int), iD (((bdN ra3 ra3) : Nat) : Int), iD 0, iD 0, iD 0, D.sl ([] : List D) 0])), (4, some (5, .ds (dI .u8 bs11)))]) (nx' := 5) zk ⟨zo, (by rw [Int.tmod_eq_emod_of_nonneg (by omega)]; omega), ⟨by omega, by omega⟩, hF13⟩ ?_
    refine AW.freeze 4 (l' := [(8, rV 3 0), (9, iV 0), (10, sV .u8 bs11 m13)]) (g' := [(3, some (41, .ds [iD (ka2 - 2), iD ((ra3 : Nat) : Int), D.sl (dI .i64 la4) na5, iD (ka2 - 2), iD ((ra3 : Nat) : Int), D.sl (dI .i64 la4) na5, iD ((na5 : Nat) : Int), iD ((na5 : Nat) : Int), D.sl (dI .i64 (dfL la4 la4 na5 na5 na5)) (na5 * na5), iD ((na5 : Nat) : Int), iD (((bsN ra3 ra3) : Nat) : Int), iD (((bdN ra3 ra3) : Nat) : Int), iD 0, iD 0, iD 0, D.sl ([] : List D) 0]))]) rfl (FzS.cons rfl (.same _) (FzS.cons rfl (.same _) (FzS.cons rfl (.e (.c (@FzC.own 4 ((dI .u8 bs11) : List D) 0 m13 1 true ((dI .u8 bs11) : List D) (by rw [List.drop_zero, Nat.mul_one, List.take_of_length_le (by first | omega | (simp only [prV_len, rwV_len, dI_len, List.length_append, List.length_cons, List.length_nil, List.length_take, List.length_drop, List.length_replicate, List.length_set, List.length_map, List.length_reverse, Nat.mul_one] <;> omega))]) zlcs0))) FzS.nil))) (FzG.keep rfl rfl FzG.nil) ?_
    obtain ⟨o214, l215, k216, W217, r218, p219, f220, hx29, hx30, hx31, hx32, hx33, hx34, hx35, hx36, hF20⟩ := (V_Run (ka2 - 2) ra3 la4 na5 (ka2 - 2) ra3 la4 na5 0 0 0 ([] : List Int) 0 bs11 m13 fq zo zo hx5 zo zo zo hx5 zo zlcs1 zlcs1 zlcs1 zo zlcs1 zlcs1 zo zo)
    refine AW.rgs [.no, .no, .call [] (.tup [.c (.d (D.sl (dI .u8 (encA (ka2 - 2) o214 (k216 * na5))) ((k216 * na5) * (szN (ka2 - 2))))), .agg [iC (ka2 - 2), iC ((ra3 : Nat) : Int), .d (D.sl (dI .i64 la4) na5), iC (ka2 - 2), iC ((ra3 : Nat) : Int), .d (D.sl (dI .i64 la4) na5), iC ((na5 : Nat) : Int), iC ((na5 : Nat) : Int), .d (D.sl (dI .i64 (dfL la4 la4 na5 na5 na5)) (na5 * na5)), iC ((na5 : Nat) : Int), iC (((bsN ra3 ra3) : Nat) : Int), iC (((bdN ra3 ra3) : Nat) : Int), iC 0, iC p219, iC f220, .d (D.sl (dI .i32 l215) r218)], iE 0]) [] 0 [] none, .no, .no, .no, .no, .no, .no, .no, .no] [9, 10, 11, 12, 13] [5] (P := (_)) (l' := [(9, iV 0), (10, sV .u8 bs11 m13), (11, sV .u8 (encA (ka2 - 2) o214 (k216 * na5)) ((k216 * na5) * (szN (ka2 - 2)))), (12, rV 5 0), (13, iV 0)]) (g' := [(5, some (41, .ds [iD (ka2 - 2), iD ↑ra3, D.sl (dI .i64 la4) na5, iD (ka2 - 2), iD ↑ra3, D.sl (dI .i64 la4) na5, iD ↑na5, iD ↑na5, D.sl (dI .i64 (dfL la4 la4 na5 na5 na5)) (na5 * na5), iD ↑na5, iD (((bsN ra3 ra3) : Nat) : Int), iD (((bdN ra3 ra3) : Nat) : Int), iD 0, iD p219, iD f220, D.sl (dI .i32 l215) r218]))]) (nx' := 6) zk hF20 ?_
    have hx37 : W217 * na5 ≤ 524288 := BV.big (show (BV na5 W217 l215) by with_reducible assumption)
    have hx38 : List.length l215 ≤ 524288 := Nat.le_trans (Nat.le_of_eq (BV.len (show (BV na5 W217 l215) by with_reducible assumption))) (BV.big (show (BV na5 W217 l215) by with_reducible assumption))
    have hx39 : W217 ≤ 65536 := BV.fit (show (BV na5 W217 l215) by with_reducible assumption)
    have hx40 : k216 * na5 ≤ 524288 := BV.big (show (BV na5 k216 o214) by with_reducible assumption)
    have hx41 : List.length o214 ≤ 524288 := Nat.le_trans (Nat.le_of_eq (BV.len (show (BV na5 k216 o214) by with_reducible assumption))) (BV.big (show (BV na5 k216 o214) by with_reducible assumption))
    have hx42 : k216 ≤ 65536 := BV.fit (show (BV na5 k216 o214) by with_reducible assumption)
    have hx43 : List.length (encA (ka2 - 2) o214 (k216 * na5)) = (k216 * na5) * szN (ka2 - 2) := encA_len zo _ _
    have hx44 : List.length (encA (ka2 - 2) o214 (k216 * na5)) ≤ 2097152 := by rw [encA_len (by omega)]; exact Nat.mul_le_mul (show (k216 * na5) ≤ 524288 by omega) (szN_in _).2
    obtain ⟨o21, j22, hx45, hx46, hx47, hx48, hF22⟩ := (V_Fin (ka2 - 2) ra3 la4 na5 (ka2 - 2) ra3 la4 na5 p219 f220 W217 l215 r218 zo zo hx5 zo zo zo hx5 zo zlcs1 zlcs1 zo zo)
    refine AW.rgs [.no, .call [] (.tup [.c (.d (D.sl (dI .u8 (encA (ka2 - 2) o21 (j22 * na5))) ((j22 * na5) * (szN (ka2 - 2))))), iE 0]) [] 0 [] none, .no, .no, .no, .no, .no] [9, 10, 11, 13, 14, 15] [] (P := (_)) (l' := [(9, iV 0), (10, sV .u8 bs11 m13), (11, sV .u8 (encA (ka2 - 2) o214 (k216 * na5)) ((k216 * na5) * (szN (ka2 - 2)))), (13, iV 0), (14, sV .u8 (encA (ka2 - 2) o21 (j22 * na5)) ((j22 * na5) * (szN (ka2 - 2)))), (15, iV 0)]) (g' := []) (nx' := 6) zk hF22 ?_
    have hx49 : j22 * na5 ≤ 524288 := BV.big (show (BV na5 j22 o21) by with_reducible assumption)
    have hx50 : List.length o21 ≤ 524288 := Nat.le_trans (Nat.le_of_eq (BV.len (show (BV na5 j22 o21) by with_reducible assumption))) (BV.big (show (BV na5 j22 o21) by with_reducible assumption))
    have hx51 : j22 ≤ 65536 := BV.fit (show (BV na5 j22 o21) by with_reducible assumption)
    have hx52 : List.length (encA (ka2 - 2) o21 (j22 * na5)) = (j22 * na5) * szN (ka2 - 2) := encA_len zo _ _
    have hx53 : List.length (encA (ka2 - 2) o21 (j22 * na5)) ≤ 2097152 := by rw [encA_len (by omega)]; exact Nat.mul_le_mul (show (j22 * na5) ≤ 524288 by omega) (szN_in _).2
    refine AW.rgs [.no, .b true, .no, .no, .b true, .no, .no, .no, .b true, .no, .no, .no, .st none (encA (ka2 - 2) o214 (k216 * na5)), .no, .st none (encA (ka2 - 2) o21 (j22 * na5)), .ds [D.lit (.string (strOfNums ((encA (ka2 - 2) o214 (k216 * na5)) ++ (encA (ka2 - 2) o21 (j22 * na5)))))], .no, .st none bs11, .b true, .no, .no] [4] [] (P := (((0 : Int) = 0)) ∧ (((0 : Int) = 0)) ∧ (((0 : Int) = 0)) ∧ ((dI .u8 (encA (ka2 - 2) o214 (k216 * na5))).length = ((k216 * na5) * (szN (ka2 - 2))) * 1) ∧ (((dI .u8 (encA (ka2 - 2) o214 (k216 * na5))) : List D) = dI .u8 (encA (ka2 - 2) o214 (k216 * na5))) ∧ ((dI .u8 (encA (ka2 - 2) o21 (j22 * na5))).length = ((j22 * na5) * (szN (ka2 - 2))) * 1) ∧ (((dI .u8 (encA (ka2 - 2) o21 (j22 * na5))) : List D) = dI .u8 (encA (ka2 - 2) o21 (j22 * na5))) ∧ ((strOfNums (encA (ka2 - 2) o214 (k216 * na5))) ++ (strOfNums (encA (ka2 - 2) o21 (j22 * na5))) = strOfNums ((encA (ka2 - 2) o214 (k216 * na5)) ++ (encA (ka2 - 2) o21 (j22 * na5)))) ∧ (ByteArray.size (strOfNums (encA (ka2 - 2) o214 (k216 * na5))) + ByteArray.size (strOfNums (encA (ka2 - 2) o21 (j22 * na5))) ≤ 9223372036854775807) ∧ ((dI .u8 bs11).length = m13 * 1) ∧ (((dI .u8 bs11) : List D) = dI .u8 bs11) ∧ ((ByteArray.toList (strOfNums ((encA (ka2 - 2) o214 (k216 * na5)) ++ (encA (ka2 - 2) o21 (j22 * na5)))) == ByteArray.toList (strOfNums bs11)) = true)) (l' := [(4, bV true)]) (g' := []) (nx' := 6) zk ⟨zo, zo, zo, zlcs0, rfl, zlcs0, rfl, (strOf_cat (encA (ka2 - 2) o214 (k216 * na5)) (encA (ka2 - 2) o21 (j22 * na5))), (by have h8 := strOfNums_size (encA (ka2 - 2) o214 (k216 * na5)); have h9 := strOfNums_size (encA (ka2 - 2) o21 (j22 * na5)); (try simp only [List.length_append, List.length_take, List.length_drop, List.length_cons, List.length_nil] at h8 h9); change (strOfNums (encA (ka2 - 2) o214 (k216 * na5))).size + (strOfNums (encA (ka2 - 2) o21 (j22 * na5))).size ≤ _; omega), zlcs0, rfl, (by rw [show ((encA (ka2 - 2) o214 (k216 * na5)) ++ (encA (ka2 - 2) o21 (j22 * na5))) = bs11 from conv_same (by omega) (by omega) (by omega) (by with_reducible assumption) (by omega) (by with_reducible assumption) (by with_reducible assumption) (by with_reducible assumption) (show (CV (((bsN ra3 ra3) : Nat) : Int) (((bdN ra3 ra3) : Nat) : Int) 0 0 0 na5 (0 + fq) (([] : List Int) ++ (apA (dfL la4 la4 na5 na5 na5) (decA (ka2 - 2) bs11 (fq * na5)) na5 na5 (fq * na5))) o214 l215 k216 W217 p219 f220) by with_reducible assumption) (show (FN (((bsN ra3 ra3) : Nat) : Int) (((bdN ra3 ra3) : Nat) : Int) f220 na5 W217 l215 o21 j22) by with_reducible assumption)]; simp)⟩ ?_
    refine AW.ret ?_
    exact EndP.of (.inr rfl) [] (P := (true = true)) zk rfl
  · obtain ⟨fq, hfq⟩ : ∃ fq : Nat, nn % 20 = ((fq : Nat) : Int) ∧ fq ≤ 19 := ⟨(nn % 20).toNat, by omega, by omega⟩
    have hx54 : PhV ((bsN ra3 ra3 : Nat) : Int) ((bdN ra3 ra3 : Nat) : Int) 0 0 0 := PhV.bd zo zo
    have hx55 : BV na5 0 ([] : List Int) := BV.nil zo zo
    have hx56 : 0 * na5 ≤ 524288 := BV.big (show (BV na5 0 ([] : List Int)) by with_reducible assumption)
    have hx57 : 0 ≤ 65536 := BV.fit (show (BV na5 0 ([] : List Int)) by with_reducible assumption)
    refine AW.rgs [.no, .no, .b false] [1, 5, 6, 27] [0, 1] (P := (¬ ((6 : Int) ≤ ka2))) (l' := [(1, .e (.c (.d (D.lit (.int .u8 nn))))), (5, rV 0 0), (6, rV 1 0), (27, bV false)]) (g' := [(0, some (59, .ds [D.sl (dI .u8 z10) (List.length z10)])), (1, some (28, .ds [iD ka2, iD ↑ra3, D.sl (dI .i64 la4) na5]))]) (nx' := 3) zk zo ?_
    refine AW.cond_f (.tmp (Look.of rfl)) ?_
    refine AW.skip ?_
    refine AW.rgs [.no, .no, .call [] (.tup [.agg [iC ka2, iC ((ra3 : Nat) : Int), .d (D.sl (dI .i64 la4) na5), iC ka2, iC ((ra3 : Nat) : Int), .d (D.sl (dI .i64 la4) na5), iC ((na5 : Nat) : Int), iC ((na5 : Nat) : Int), .d (D.sl (dI .i64 (dfL la4 la4 na5 na5 na5)) (na5 * na5)), iC ((na5 : Nat) : Int), iC (((bsN ra3 ra3) : Nat) : Int), iC (((bdN ra3 ra3) : Nat) : Int), iC 0, iC 0, iC 0, .d (D.sl ([] : List D) 0)], iE 0]) [] 0 [] none, .no, .no, .no, .no, .no, .no] [1, 5, 6, 8, 9] [0, 1, 3] (P := (_)) (l' := [(1, .e (.c (.d (D.lit (.int .u8 nn))))), (5, rV 0 0), (6, rV 1 0), (8, rV 3 0), (9, iV 0)]) (g' := [(0, some (59, .ds [D.sl (dI .u8 z10) (List.length z10)])), (1, some (28, .ds [iD ka2, iD ↑ra3, D.sl (dI .i64 la4) na5])), (3, some (41, .ds [iD ka2, iD ↑ra3, D.sl (dI .i64 la4) na5, iD ka2, iD ↑ra3, D.sl (dI .i64 la4) na5, iD ↑na5, iD ↑na5, D.sl (dI .i64 (dfL la4 la4 na5 na5 na5)) (na5 * na5), iD ↑na5, iD (((bsN ra3 ra3) : Nat) : Int), iD (((bdN ra3 ra3) : Nat) : Int), iD 0, iD 0, iD 0, D.sl ([] : List D) 0]))]) (nx' := 4) zk (V_New ka2 ra3 la4 na5 ka2 ra3 la4 na5 zo zo hx5 zo zo zo hx5 zo) ?_
    obtain ⟨bs23, z24, m25, hx58, hx59, hx60, hx61, hF25⟩ := (X_bytes z10 ka2 ra3 la4 na5 fq zlcs1 zo zo hx5 zo zo)
    refine AW.rgs [.no, .no, .no, .i ((fq : Nat) : Int), .w, .call [0] (oV 1 0 m25 1) [(0, some (59, .ds [D.sl (dI .u8 z24) (List.length z24)])), (1, some (5, .ds (dI .u8 bs23)))] 2 [] none, .no] [8, 9, 10] [3, 4] (P := (¬ (20 : Int) = 0) ∧ (((Int.tmod nn 20) : Int) = ((fq : Nat) : Int)) ∧ ((-9223372036854775808) ≤ ((fq : Nat) : Int) ∧ ((fq : Nat) : Int) ≤ 9223372036854775807) ∧ (_)) (l' := [(8, rV 3 0), (9, iV 0), (10, oV 4 0 m25 1)]) (g' := [(3, some (41, .ds [iD ka2, iD ↑ra3, D.sl (dI .i64 la4) na5, iD ka2, iD ↑ra3, D.sl (dI .i64 la4) na5, iD ↑na5, iD ↑na5, D.sl (dI .i64 (dfL la4 la4 na5 na5 na5)) (na5 * na5), iD ↑na5, iD (((bsN ra3 ra3) : Nat) : Int), iD (((bdN ra3 ra3) : Nat) : Int), iD 0, iD 0, iD 0, D.sl ([] : List D) 0])), (4, some (5, .ds (dI .u8 bs23)))]) (nx' := 5) zk ⟨zo, (by rw [Int.tmod_eq_emod_of_nonneg (by omega)]; omega), ⟨by omega, by omega⟩, hF25⟩ ?_
    refine AW.freeze 4 (l' := [(8, rV 3 0), (9, iV 0), (10, sV .u8 bs23 m25)]) (g' := [(3, some (41, .ds [iD ka2, iD ((ra3 : Nat) : Int), D.sl (dI .i64 la4) na5, iD ka2, iD ((ra3 : Nat) : Int), D.sl (dI .i64 la4) na5, iD ((na5 : Nat) : Int), iD ((na5 : Nat) : Int), D.sl (dI .i64 (dfL la4 la4 na5 na5 na5)) (na5 * na5), iD ((na5 : Nat) : Int), iD (((bsN ra3 ra3) : Nat) : Int), iD (((bdN ra3 ra3) : Nat) : Int), iD 0, iD 0, iD 0, D.sl ([] : List D) 0]))]) rfl (FzS.cons rfl (.same _) (FzS.cons rfl (.same _) (FzS.cons rfl (.e (.c (@FzC.own 4 ((dI .u8 bs23) : List D) 0 m25 1 true ((dI .u8 bs23) : List D) (by rw [List.drop_zero, Nat.mul_one, List.take_of_length_le (by first | omega | (simp only [prV_len, rwV_len, dI_len, List.length_append, List.length_cons, List.length_nil, List.length_take, List.length_drop, List.length_replicate, List.length_set, List.length_map, List.length_reverse, Nat.mul_one] <;> omega))]) zlcs0))) FzS.nil))) (FzG.keep rfl rfl FzG.nil) ?_
    obtain ⟨o226, l227, k228, W229, r230, p231, f232, hx62, hx63, hx64, hx65, hx66, hx67, hx68, hx69, hF32⟩ := (V_Run ka2 ra3 la4 na5 ka2 ra3 la4 na5 0 0 0 ([] : List Int) 0 bs23 m25 fq zo zo hx5 zo zo zo hx5 zo zlcs1 zlcs1 zlcs1 zo zlcs1 zlcs1 zo zo)
    refine AW.rgs [.no, .no, .call [] (.tup [.c (.d (D.sl (dI .u8 (encA ka2 o226 (k228 * na5))) ((k228 * na5) * (szN ka2)))), .agg [iC ka2, iC ((ra3 : Nat) : Int), .d (D.sl (dI .i64 la4) na5), iC ka2, iC ((ra3 : Nat) : Int), .d (D.sl (dI .i64 la4) na5), iC ((na5 : Nat) : Int), iC ((na5 : Nat) : Int), .d (D.sl (dI .i64 (dfL la4 la4 na5 na5 na5)) (na5 * na5)), iC ((na5 : Nat) : Int), iC (((bsN ra3 ra3) : Nat) : Int), iC (((bdN ra3 ra3) : Nat) : Int), iC 0, iC p231, iC f232, .d (D.sl (dI .i32 l227) r230)], iE 0]) [] 0 [] none, .no, .no, .no, .no, .no, .no, .no, .no] [9, 10, 11, 12, 13] [5] (P := (_)) (l' := [(9, iV 0), (10, sV .u8 bs23 m25), (11, sV .u8 (encA ka2 o226 (k228 * na5)) ((k228 * na5) * (szN ka2))), (12, rV 5 0), (13, iV 0)]) (g' := [(5, some (41, .ds [iD ka2, iD ↑ra3, D.sl (dI .i64 la4) na5, iD ka2, iD ↑ra3, D.sl (dI .i64 la4) na5, iD ↑na5, iD ↑na5, D.sl (dI .i64 (dfL la4 la4 na5 na5 na5)) (na5 * na5), iD ↑na5, iD (((bsN ra3 ra3) : Nat) : Int), iD (((bdN ra3 ra3) : Nat) : Int), iD 0, iD p231, iD f232, D.sl (dI .i32 l227) r230]))]) (nx' := 6) zk hF32 ?_
    have hx70 : W229 * na5 ≤ 524288 := BV.big (show (BV na5 W229 l227) by with_reducible assumption)
    have hx71 : List.length l227 ≤ 524288 := Nat.le_trans (Nat.le_of_eq (BV.len (show (BV na5 W229 l227) by with_reducible assumption))) (BV.big (show (BV na5 W229 l227) by with_reducible assumption))
    have hx72 : W229 ≤ 65536 := BV.fit (show (BV na5 W229 l227) by with_reducible assumption)
    have hx73 : k228 * na5 ≤ 524288 := BV.big (show (BV na5 k228 o226) by with_reducible assumption)
    have hx74 : List.length o226 ≤ 524288 := Nat.le_trans (Nat.le_of_eq (BV.len (show (BV na5 k228 o226) by with_reducible assumption))) (BV.big (show (BV na5 k228 o226) by with_reducible assumption))
    have hx75 : k228 ≤ 65536 := BV.fit (show (BV na5 k228 o226) by with_reducible assumption)
    have hx76 : List.length (encA ka2 o226 (k228 * na5)) = (k228 * na5) * szN ka2 := encA_len zo _ _
    have hx77 : List.length (encA ka2 o226 (k228 * na5)) ≤ 2097152 := by rw [encA_len (by omega)]; exact Nat.mul_le_mul (show (k228 * na5) ≤ 524288 by omega) (szN_in _).2
    obtain ⟨o33, j34, hx78, hx79, hx80, hx81, hF34⟩ := (V_Fin ka2 ra3 la4 na5 ka2 ra3 la4 na5 p231 f232 W229 l227 r230 zo zo hx5 zo zo zo hx5 zo zlcs1 zlcs1 zo zo)
    refine AW.rgs [.no, .call [] (.tup [.c (.d (D.sl (dI .u8 (encA ka2 o33 (j34 * na5))) ((j34 * na5) * (szN ka2)))), iE 0]) [] 0 [] none, .no, .no, .no, .no, .no] [9, 10, 11, 13, 14, 15] [] (P := (_)) (l' := [(9, iV 0), (10, sV .u8 bs23 m25), (11, sV .u8 (encA ka2 o226 (k228 * na5)) ((k228 * na5) * (szN ka2))), (13, iV 0), (14, sV .u8 (encA ka2 o33 (j34 * na5)) ((j34 * na5) * (szN ka2))), (15, iV 0)]) (g' := []) (nx' := 6) zk hF34 ?_
    have hx82 : j34 * na5 ≤ 524288 := BV.big (show (BV na5 j34 o33) by with_reducible assumption)
    have hx83 : List.length o33 ≤ 524288 := Nat.le_trans (Nat.le_of_eq (BV.len (show (BV na5 j34 o33) by with_reducible assumption))) (BV.big (show (BV na5 j34 o33) by with_reducible assumption))
    have hx84 : j34 ≤ 65536 := BV.fit (show (BV na5 j34 o33) by with_reducible assumption)
    have hx85 : List.length (encA ka2 o33 (j34 * na5)) = (j34 * na5) * szN ka2 := encA_len zo _ _
    have hx86 : List.length (encA ka2 o33 (j34 * na5)) ≤ 2097152 := by rw [encA_len (by omega)]; exact Nat.mul_le_mul (show (j34 * na5) ≤ 524288 by omega) (szN_in _).2
    refine AW.rgs [.no, .b true, .no, .no, .b true, .no, .no, .no, .b true, .no, .no, .no, .st none (encA ka2 o226 (k228 * na5)), .no, .st none (encA ka2 o33 (j34 * na5)), .ds [D.lit (.string (strOfNums ((encA ka2 o226 (k228 * na5)) ++ (encA ka2 o33 (j34 * na5)))))], .no, .st none bs23, .b true, .no, .no] [4] [] (P := (((0 : Int) = 0)) ∧ (((0 : Int) = 0)) ∧ (((0 : Int) = 0)) ∧ ((dI .u8 (encA ka2 o226 (k228 * na5))).length = ((k228 * na5) * (szN ka2)) * 1) ∧ (((dI .u8 (encA ka2 o226 (k228 * na5))) : List D) = dI .u8 (encA ka2 o226 (k228 * na5))) ∧ ((dI .u8 (encA ka2 o33 (j34 * na5))).length = ((j34 * na5) * (szN ka2)) * 1) ∧ (((dI .u8 (encA ka2 o33 (j34 * na5))) : List D) = dI .u8 (encA ka2 o33 (j34 * na5))) ∧ ((strOfNums (encA ka2 o226 (k228 * na5))) ++ (strOfNums (encA ka2 o33 (j34 * na5))) = strOfNums ((encA ka2 o226 (k228 * na5)) ++ (encA ka2 o33 (j34 * na5)))) ∧ (ByteArray.size (strOfNums (encA ka2 o226 (k228 * na5))) + ByteArray.size (strOfNums (encA ka2 o33 (j34 * na5))) ≤ 9223372036854775807) ∧ ((dI .u8 bs23).length = m25 * 1) ∧ (((dI .u8 bs23) : List D) = dI .u8 bs23) ∧ ((ByteArray.toList (strOfNums ((encA ka2 o226 (k228 * na5)) ++ (encA ka2 o33 (j34 * na5)))) == ByteArray.toList (strOfNums bs23)) = true)) (l' := [(4, bV true)]) (g' := []) (nx' := 6) zk ⟨zo, zo, zo, zlcs0, rfl, zlcs0, rfl, (strOf_cat (encA ka2 o226 (k228 * na5)) (encA ka2 o33 (j34 * na5))), (by have h8 := strOfNums_size (encA ka2 o226 (k228 * na5)); have h9 := strOfNums_size (encA ka2 o33 (j34 * na5)); (try simp only [List.length_append, List.length_take, List.length_drop, List.length_cons, List.length_nil] at h8 h9); change (strOfNums (encA ka2 o226 (k228 * na5))).size + (strOfNums (encA ka2 o33 (j34 * na5))).size ≤ _; omega), zlcs0, rfl, (by rw [show ((encA ka2 o226 (k228 * na5)) ++ (encA ka2 o33 (j34 * na5))) = bs23 from conv_same (by omega) (by omega) (by omega) (by with_reducible assumption) (by omega) (by with_reducible assumption) (by with_reducible assumption) (by with_reducible assumption) (show (CV (((bsN ra3 ra3) : Nat) : Int) (((bdN ra3 ra3) : Nat) : Int) 0 0 0 na5 (0 + fq) (([] : List Int) ++ (apA (dfL la4 la4 na5 na5 na5) (decA ka2 bs23 (fq * na5)) na5 na5 (fq * na5))) o226 l227 k228 W229 p231 f232) by with_reducible assumption) (show (FN (((bsN ra3 ra3) : Nat) : Int) (((bdN ra3 ra3) : Nat) : Int) f232 na5 W229 l227 o33 j34) by with_reducible assumption)]; simp)⟩ ?_
    refine AW.ret ?_
    exact EndP.of (.inr rfl) [] (P := (true = true)) zk rfl
theorem convertSame_walk {w : World} {nn : Int} {xa0 : Option Addr} {xl0 xc0 : Nat} {sd : List Int} (hs0 : Sl .u8 w xa0 xl0 xc0 sd) (hi_nn : 0 ≤ nn ∧ nn ≤ 255) (hgl : GlOK (fun k => k < w.heap.size) w) : Calls Tryd.prog 4 #[.slice xa0 xl0 xc0, .int .u8 nn] w fun e w' => e = .returned (.bool true) ∧ Below w.heap.size w w' :=
  (V_ConvertSame sd (List.length sd) nn rfl hs0.max (Byt.of fun x hx => bounds_u8 (hs0.wf x hx)) hi_nn).walk ⟨repE_sl hs0, repE_lit rfl, trivial⟩ hgl
end Go.Proofs.YtigiolfloefjnaaDoor
