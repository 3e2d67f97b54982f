/- Formats and bytes out of dice. No statement is proved here. -/
import Derived.Test.YtigiolfloefjnaaDoorZL16
namespace Go.Proofs.YtigiolfloefjnaaDoor
open Go.ChangeShapes Go.WideShapes Go.ChangeAt Go.RowKit
set_option linter.unusedVariables false
set_option linter.unusedSimpArgs false
set_option maxHeartbeats 4000000
set_option maxRecDepth 100000
def byD (l : List Int) : Nat → List Int
 | 0 => l
 | n + 1 => nextL (byD l n) 256
def byL (l : List Int) : Nat → List Int
 | 0 => []
 | n + 1 => byL l n ++ [((nextN (byD l n) 256 : Nat) : Int)]
theorem byD_byt {l : List Int} (hb : Byt l) : ∀ n, Byt (byD l n)
 | 0 => hb
 | n + 1 => nextL_byt 256 (byD_byt hb n)
theorem byL_len (l : List Int) : ∀ n, List.length (byL l n) = n
 | 0 => rfl
 | n + 1 => by show List.length (byL l n ++ [_]) = _; rw [List.length_append, byL_len l n]; rfl
theorem byL_byt {l : List Int} (hb : Byt l) : ∀ n, Byt (byL l n)
 | 0 => fun j hj => absurd hj (Nat.not_lt_zero j)
 | n + 1 => by
  intro j hj
  have hj : j < List.length (byL l n ++ [((nextN (byD l n) 256 : Nat) : Int)]) := hj
  show 0 ≤ List.getD (byL l n ++ [_]) j 0 ∧ List.getD (byL l n ++ [_]) j 0 ≤ 255
  rw [List.length_append, List.length_singleton, byL_len] at hj
  by_cases hk : j < n
  ·rw [getD_app_l (by rw [byL_len]; exact hk)]; exact byL_byt hb n j (by rw [byL_len]; exact hk)
  ·have h9 := nextV_in (byD l n) 256 (byD_byt hb n)
   rw [getD_app_r (by rw [byL_len]; omega), byL_len, show j - n = 0 by omega]
   show 0 ≤ ((nextN (byD l n) 256 : Nat) : Int) ∧ ((nextN (byD l n) 256 : Nat) : Int) ≤ 255
   omega
theorem byL_set {l : List Int} {n i : Nat} (hi : i < n) : dI .u8 (byL l (i + 1) ++ List.replicate (n - (i + 1)) 0) = dI .u8 (List.set (byL l i ++ List.replicate (n - i) 0) i ((nextN (byD l i) 256 : Nat) : Int)) := by
 rw [show n - i = (n - (i + 1)) + 1 by omega, rep_split 1, set_mid (j := 0) (by rw [byL_len]; rfl) (by simp)]
 show dI .u8 ((byL l i ++ [_]) ++ _) = _
 rw [List.append_assoc]; rfl
theorem chB_of {n : Nat} {l : List Int} (h1 : 1 ≤ n ∧ n ≤ 8) (h : ChV n l) : chB l n = true := chB_t h1 fun j hj => decide_eq_true (h j hj)
theorem bd_rat {x y : Nat} (hx : 8000 ≤ x ∧ x ≤ 96000) (hy : 8000 ≤ y ∧ y ≤ 96000) : ((bdN x y : Nat) : Int) ≤ 50 * ((bsN x y : Nat) : Int) := by
 have hg := (bd_in (x := x) (y := y) (by omega) (by omega)).2.2
 have e1 : bsN x y * Nat.gcd x y = x := Nat.div_mul_cancel (Nat.gcd_dvd_left x y)
 have e2 : bdN x y * Nat.gcd x y = y := Nat.div_mul_cancel (Nat.gcd_dvd_right x y)
 have h3 : bdN x y ≤ 50 * bsN x y := by
  refine Nat.le_of_mul_le_mul_right (c := Nat.gcd x y) ?_ (by omega)
  rw [e2, Nat.mul_assoc, e1]; omega
 omega
theorem sane_cv {o2 l2 : List Int} {k2 W2 : Nat} {p2 f2 : Int} (h : CV ((bsN 48000 48000 : Nat) : Int) ((bdN 48000 48000 : Nat) : Int) 0 0 0 1 (0 + 1) ([] ++ apA (dfL [1, 2] [3] 2 1 2) (decA 2 [100, 0, 100, 0] (1 * 2)) 2 1 (1 * 1)) o2 l2 k2 W2 p2 f2) : o2 = [] ∧ l2 = [36203] ∧ k2 = 0 ∧ W2 = 1 ∧ p2 = 0 ∧ f2 = 0 := by
 have hk : k2 = 0 := by
  rw [h.kE]
  have h9 := mkF_eq (f := 0) (s := stp 1 0) (P := 65536) (h := 1) (k := 0) (by decide) (by decide) (by decide) (by decide) (by decide) (by decide)
  show mkF 0 (stp 1 0) 65536 1 = 0
  omega
 subst hk
 exact ⟨h.oE, h.lE.trans (by decide +kernel), rfl, h.wE.trans (by decide +kernel), h.pE.trans (by decide +kernel), h.fE.trans (by decide +kernel)⟩
theorem sane_fn {o : List Int} {j : Nat} (h : FN ((bsN 48000 48000 : Nat) : Int) ((bdN 48000 48000 : Nat) : Int) 0 1 1 [36203] o j) : j = 1 ∧ o = [36203] := by
 have hj : j = 1 := h.jE.trans (by decide +kernel)
 subst hj
 exact ⟨rfl, h.oE.trans (by decide +kernel)⟩
theorem zl16m1 {p : Prop} (h : p := by first | omega | with_reducible assumption | (simp only [prV_len, rwV_len, List.length_append, List.length_cons, List.length_nil, List.length_take, List.length_drop, List.length_replicate, List.length_set] <;> omega) | rfl | assumption) : p := h
theorem zl16m3 {p : Prop} (h : p := by first | with_reducible assumption | omega) : p := h
theorem zl16m0 {p : Prop} (h : p := by first | omega | (simp only [prV_len, rwV_len, dI_len, List.length_append, List.length_cons, List.length_nil, List.length_take, List.length_drop, List.length_replicate, List.length_set, List.length_map, List.length_reverse, Nat.mul_one] <;> omega) | rfl) : p := h
theorem X_formats (x : List Int) (hb : Byt x) : ∃ (ka : Int) (ra : Nat) (la : List Int) (na : Nat) (kb : Int) (rb : Nat) (lb : List Int) (nb : Nat) (z : List Int), (1 ≤ ka ∧ ka ≤ 7) ∧ (8000 ≤ ra ∧ ra ≤ 96000) ∧ (chB la na = true) ∧ (List.length la = na) ∧ (ChV na la) ∧ (1 ≤ na ∧ na ≤ 6) ∧ (1 ≤ kb ∧ kb ≤ 7) ∧ (8000 ≤ rb ∧ rb ≤ 96000) ∧ (chB lb nb = true) ∧ (List.length lb = nb) ∧ (ChV nb lb) ∧ (1 ≤ nb ∧ nb ≤ 6) ∧ (Byt z) ∧ (Fun 9 [.c (.ptr 0 0)] (toG [(0, some (59, .ds [D.sl (dI .u8 x) (List.length x)]))]) 1 (.tup [.agg [iC ka, iC ((ra : Nat) : Int), .d (D.sl (dI .i64 la) na)], .agg [iC kb, iC ((rb : Nat) : Int), .d (D.sl (dI .i64 lb) nb)]]) (toG [(0, some (59, .ds [D.sl (dI .u8 z) (List.length z)]))]) 1) := by
 obtain ⟨q1, d2, hx1, hx2, hx3, hx4, hF2⟩ := (X_Next x 7 zl16m1)
 obtain ⟨q3, d4, hx5, hx6, hx7, hx8, hF4⟩ := (X_Next d2 4 zl16m1)
 have hx9 : 8000 ≤ (List.getD ([48000, 44100, 8000, 96000] : List Int) q3 0) ∧ (List.getD ([48000, 44100, 8000, 96000] : List Int) q3 0) ≤ 96000 := lit_rng (l := ([48000, 44100, 8000, 96000] : List Int)) (a := 8000) (b := 96000) (by decide) _ (show _ < 4 by omega)
 obtain ⟨p5, n6, d7, hx10, hx11, hx12, hx13, hF7⟩ := (X_Map d4 zl16m1)
 obtain ⟨q8, d9, hx14, hx15, hx16, hx17, hF9⟩ := (X_Next d7 7 zl16m1)
 obtain ⟨q10, d11, hx18, hx19, hx20, hx21, hF11⟩ := (X_Next d9 4 zl16m1)
 have hx22 : 8000 ≤ (List.getD ([48000, 44100, 8000, 96000] : List Int) q10 0) ∧ (List.getD ([48000, 44100, 8000, 96000] : List Int) q10 0) ≤ 96000 := lit_rng (l := ([48000, 44100, 8000, 96000] : List Int)) (a := 8000) (b := 96000) (by decide) _ (show _ < 4 by omega)
 obtain ⟨p12, n13, d14, hx23, hx24, hx25, hx26, hF14⟩ := (X_Map d11 zl16m1)
 refine ⟨(1 + ((q1 : Nat) : Int)), (Int.toNat (List.getD ([48000, 44100, 8000, 96000] : List Int) q3 0)), p5, n6, (1 + ((q8 : Nat) : Int)), (Int.toNat (List.getD ([48000, 44100, 8000, 96000] : List Int) q10 0)), p12, n13, d14, zl16m3, zl16m3, (chB_of zo (by with_reducible assumption)), zl16m3, zl16m3, zl16m3, zl16m3, zl16m3, (chB_of zo (by with_reducible assumption)), zl16m3, zl16m3, zl16m3, zl16m3, ?_⟩
 refine Fun.mk (n := 28) Tryd.func9 rfl rfl (Nat.le_of_ble_eq_true rfl) ?_
 intro cx hcx
 refine AW.rgs [.no, .no] [0, 2, 3] [0, 1, 2] (P := True) (l' := [(0, rV 0 0), (2, rV 1 0), (3, rV 2 0)]) (g' := [(0, some (59, .ds [D.sl (dI .u8 x) (List.length x)])), (1, some (28, .ds [iD 0, iD 0, D.lit (.slice none 0 0)])), (2, some (28, .ds [iD 0, iD 0, D.lit (.slice none 0 0)]))]) (nx' := 3) zk trivial ?_
 refine AW.rgs [.no, .no] [0, 2, 3, 4] [0, 1, 2, 3] (P := True) (l' := [(0, rV 0 0), (2, rV 1 0), (3, rV 2 0), (4, oV 3 0 4 1)]) (g' := [(0, some (59, .ds [D.sl (dI .u8 x) (List.length x)])), (1, some (28, .ds [iD 0, iD 0, D.lit (.slice none 0 0)])), (2, some (28, .ds [iD 0, iD 0, D.lit (.slice none 0 0)])), (3, some (3, .ds [iD 48000, iD 44100, iD 8000, iD 96000]))]) (nx' := 4) zk trivial ?_
 refine AW.rgs [.no, .call [0] (iV ((q1 : Nat) : Int)) [(0, some (59, .ds [D.sl (dI .u8 d2) (List.length d2)]))] 1 [] none, .w, .no, .no, .call [0] (iV ((q3 : Nat) : Int)) [(0, some (59, .ds [D.sl (dI .u8 d4) (List.length d4)]))] 1 [] none, .n2 q3 q3, .d (D.lit (.int .i64 (List.getD ([48000, 44100, 8000, 96000] : List Int) q3 0))), .no, .call [0] (oV 1 0 n6 1) [(0, some (59, .ds [D.sl (dI .u8 d7) (List.length d7)])), (1, some (3, .ds (dI .i64 p5)))] 2 [] none, .no, .no, .call [0] (iV ((q8 : Nat) : Int)) [(0, some (59, .ds [D.sl (dI .u8 d9) (List.length d9)]))] 1 [] none, .w, .no, .no, .call [0] (iV ((q10 : Nat) : Int)) [(0, some (59, .ds [D.sl (dI .u8 d11) (List.length d11)]))] 1 [] none, .n2 q10 q10, .d (D.lit (.int .i64 (List.getD ([48000, 44100, 8000, 96000] : List Int) q10 0))), .no, .call [0] (oV 1 0 n13 1) [(0, some (59, .ds [D.sl (dI .u8 d14) (List.length d14)])), (1, some (3, .ds (dI .i64 p12)))] 2 [] none, .no, .no, .no] [2, 3] [0, 1, 2, 4, 5] (P := (_) ∧ ((-9223372036854775808) ≤ (1 + ((q1 : Nat) : Int)) ∧ (1 + ((q1 : Nat) : Int)) ≤ 9223372036854775807) ∧ (_) ∧ ((((q3 : Nat) : Int) : Int) = ((q3 : Nat) : Int)) ∧ (q3 < 4) ∧ ((0 : Nat) + q3 * 1 = q3) ∧ ([iD 48000, iD 44100, iD 8000, iD 96000][q3]? = some (D.lit (.int .i64 (List.getD ([48000, 44100, 8000, 96000] : List Int) q3 0)))) ∧ (_) ∧ (_) ∧ ((-9223372036854775808) ≤ (1 + ((q8 : Nat) : Int)) ∧ (1 + ((q8 : Nat) : Int)) ≤ 9223372036854775807) ∧ (_) ∧ ((((q10 : Nat) : Int) : Int) = ((q10 : Nat) : Int)) ∧ (q10 < 4) ∧ ((0 : Nat) + q10 * 1 = q10) ∧ ([iD 48000, iD 44100, iD 8000, iD 96000][q10]? = some (D.lit (.int .i64 (List.getD ([48000, 44100, 8000, 96000] : List Int) q10 0)))) ∧ (_)) (l' := [(2, rV 1 0), (3, rV 2 0)]) (g' := [(0, some (59, .ds [D.sl (dI .u8 d14) (List.length d14)])), (1, some (28, .cs [iC (1 + ↑q1), iC (List.getD ([48000, 44100, 8000, 96000] : List Int) q3 0), .own 4 0 n6 1 true])), (2, some (28, .cs [iC (1 + ↑q8), iC (List.getD ([48000, 44100, 8000, 96000] : List Int) q10 0), .own 5 0 n13 1 true])), (4, some (3, .ds (dI .i64 p5))), (5, some (3, .ds (dI .i64 p12)))]) (nx' := 6) zk ⟨hF2, ⟨by omega, by omega⟩, hF4, rfl, zo, zo, (dI_get .i64 ([48000, 44100, 8000, 96000] : List Int) _ zl16m0), hF7, hF9, ⟨by omega, by omega⟩, hF11, rfl, zo, zo, (dI_get .i64 ([48000, 44100, 8000, 96000] : List Int) _ zl16m0), hF14⟩ ?_
 refine AW.freeze 4 (l' := [(2, rV 1 0), (3, rV 2 0)]) (g' := [(0, some (59, .ds [D.sl (dI .u8 d14) (List.length d14)])), (1, some (28, .ds [iD (1 + ((q1 : Nat) : Int)), iD (List.getD ([48000, 44100, 8000, 96000] : List Int) q3 0), D.sl (dI .i64 p5) n6])), (2, some (28, .cs [iC (1 + ((q8 : Nat) : Int)), iC (List.getD ([48000, 44100, 8000, 96000] : List Int) q10 0), .own 5 0 n13 1 true])), (5, some (3, .ds (dI .i64 p12)))]) rfl (FzS.cons rfl (.same _) (FzS.cons rfl (.same _) FzS.nil)) (FzG.keep rfl rfl (FzG.to (bc := .cs [iC (1 + ((q1 : Nat) : Int)), iC (List.getD ([48000, 44100, 8000, 96000] : List Int) q3 0), .own 4 0 n6 1 true]) rfl (by rfl) (FzL.cons (.same _) (FzL.cons (.same _) (FzL.cons (@FzC.own 4 ((dI .i64 p5) : List D) 0 n6 1 true ((dI .i64 p5) : List D) (by rw [List.drop_zero, Nat.mul_one, List.take_of_length_le (by first | omega | (simp only [prV_len, rwV_len, dI_len, List.length_append, List.length_cons, List.length_nil, List.length_take, List.length_drop, List.length_replicate, List.length_set, List.length_map, List.length_reverse, Nat.mul_one] <;> omega))]) zl16m0) FzL.nil))) (FzG.keep rfl rfl (FzG.keep rfl rfl FzG.nil)))) ?_
 refine AW.freeze 5 (l' := [(2, rV 1 0), (3, rV 2 0)]) (g' := [(0, some (59, .ds [D.sl (dI .u8 d14) (List.length d14)])), (1, some (28, .ds [iD (1 + ((q1 : Nat) : Int)), iD (List.getD ([48000, 44100, 8000, 96000] : List Int) q3 0), D.sl (dI .i64 p5) n6])), (2, some (28, .ds [iD (1 + ((q8 : Nat) : Int)), iD (List.getD ([48000, 44100, 8000, 96000] : List Int) q10 0), D.sl (dI .i64 p12) n13]))]) rfl (FzS.cons rfl (.same _) (FzS.cons rfl (.same _) FzS.nil)) (FzG.keep rfl rfl (FzG.keep rfl rfl (FzG.to (bc := .cs [iC (1 + ((q8 : Nat) : Int)), iC (List.getD ([48000, 44100, 8000, 96000] : List Int) q10 0), .own 5 0 n13 1 true]) rfl (by rfl) (FzL.cons (.same _) (FzL.cons (.same _) (FzL.cons (@FzC.own 5 ((dI .i64 p12) : List D) 0 n13 1 true ((dI .i64 p12) : List D) (by rw [List.drop_zero, Nat.mul_one, List.take_of_length_le (by first | omega | (simp only [prV_len, rwV_len, dI_len, List.length_append, List.length_cons, List.length_nil, List.length_take, List.length_drop, List.length_replicate, List.length_set, List.length_map, List.length_reverse, Nat.mul_one] <;> omega))]) zl16m0) FzL.nil))) FzG.nil))) ?_
 refine AW.ret ?_
 exact EndP.of (.inr rfl) [] (P := (((1 + ((q1 : Nat) : Int)) : Int) = (1 + ((q1 : Nat) : Int))) ∧ (((((Int.toNat (List.getD ([48000, 44100, 8000, 96000] : List Int) q3 0)) : Nat) : Int) : Int) = (List.getD ([48000, 44100, 8000, 96000] : List Int) q3 0)) ∧ (((dI .i64 p5) : List D) = (dI .i64 p5)) ∧ ((n6 : Nat) = n6) ∧ (((1 + ((q8 : Nat) : Int)) : Int) = (1 + ((q8 : Nat) : Int))) ∧ (((((Int.toNat (List.getD ([48000, 44100, 8000, 96000] : List Int) q10 0)) : Nat) : Int) : Int) = (List.getD ([48000, 44100, 8000, 96000] : List Int) q10 0)) ∧ (((dI .i64 p12) : List D) = (dI .i64 p12)) ∧ ((n13 : Nat) = n13) ∧ (([D.sl (dI .u8 d14) (List.length d14)] : List D) = [D.sl (dI .u8 d14) (List.length d14)])) zk ⟨rfl, (by first | omega | rfl | assumption | (simp; done) | (simp; omega)), rfl, rfl, rfl, (by first | omega | rfl | assumption | (simp; done) | (simp; omega)), rfl, rfl, rfl⟩
theorem zl16m2 {p : Prop} (h : p := by first | rfl | (simp [byL]; done) | exact byL_set (by omega)) : p := h
theorem V_bytes (xd : List Int) (k : Int) (r : Nat) (l : List Int) (n : Nat) (F : Nat) (hb : Byt xd) (hk : 1 ≤ k ∧ k ≤ 7) (hr : 1000 ≤ r ∧ r ≤ 768000) (hc : chB l n = true) (hl : List.length l = n) (hF : F ≤ 1000) : Fun 11 [.c (.ptr 0 0), .agg [iC k, iC ((r : Nat) : Int), .d (D.sl (dI .i64 l) n)], iE ((F : Nat) : Int)] (toG [(0, some (59, .ds [D.sl (dI .u8 xd) (List.length xd)]))]) 1 (oV 1 0 (F * ((szN k) * n)) 1) (toG [(0, some (59, .ds [D.sl (dI .u8 (byD xd (F * ((szN k) * n)))) (List.length (byD xd (F * ((szN k) * n))))])), (1, some (5, .ds (dI .u8 (byL xd (F * ((szN k) * n))))))]) 2 := by
 have hn : 1 ≤ n ∧ n ≤ 8 := chB_n hc
 have hz : 1 ≤ szN k * n ∧ szN k * n ≤ 32 := ⟨Nat.mul_le_mul (szN_in k).1 hn.1, Nat.mul_le_mul (szN_in k).2 hn.2⟩
 have hFn : F * (szN k * n) ≤ 1000 * 32 := Nat.mul_le_mul hF hz.2
 have hFi : ((F : Nat) : Int) * ((szN k * n : Nat) : Int) = ((F * (szN k * n) : Nat) : Int) := (Int.natCast_mul _ _).symm
 refine Fun.mk (n := 27) Tryd.func11 rfl rfl (Nat.le_of_ble_eq_true rfl) ?_
 intro cx hcx
 refine AW.rgs [.no, .no] [0, 2, 4] [0, 1] (P := True) (l' := [(0, rV 0 0), (2, iV ↑F), (4, rV 1 0)]) (g' := [(0, some (59, .ds [D.sl (dI .u8 xd) (List.length xd)])), (1, some (28, .ds [iD k, iD ↑r, D.sl (dI .i64 l) n]))]) (nx' := 2) zk trivial ?_
 have hx1 : (((1 : Nat) ≤ ((szN k) * n)) ∧ (((szN k) * n) ≤ 32)) := ⟨Nat.mul_le_mul (szN_in k).1 (show 1 ≤ n by omega), Nat.mul_le_mul (szN_in k).2 (show n ≤ 8 by omega)⟩
 refine AW.rgs [.no, .no, .call [] (iV ((((szN k) * n) : Nat) : Int)) [] 0 [] none, .wi (((F * ((szN k) * n)) : Nat) : Int), .mk (F * ((szN k) * n)) (F * ((szN k) * n)) (dI .u8 (List.replicate (F * ((szN k) * n)) 0)), .no] [0, 7] [0, 2] (P := (_) ∧ ((-9223372036854775808) ≤ (((F : Nat) : Int) * ((((szN k) * n) : Nat) : Int)) ∧ (((F : Nat) : Int) * ((((szN k) * n) : Nat) : Int)) ≤ 9223372036854775807) ∧ (((((F : Nat) : Int) * ((((szN k) * n) : Nat) : Int)) : Int) = (((F * ((szN k) * n)) : Nat) : Int)) ∧ (((((F * ((szN k) * n)) : Nat) : Int) : Int) = (((F * ((szN k) * n)) : Nat) : Int)) ∧ (((((F * ((szN k) * n)) : Nat) : Int) : Int) = (((F * ((szN k) * n)) : Nat) : Int)) ∧ ((F * ((szN k) * n)) ≤ (F * ((szN k) * n))) ∧ (1 * (F * ((szN k) * n)) ≤ 281474976710656) ∧ (List.replicate (F * ((szN k) * n)) (D.lit (.int .u8 0)) = dI .u8 (List.replicate (F * ((szN k) * n)) 0))) (l' := [(0, rV 0 0), (7, oV 2 0 (F * ((szN k) * n)) 1)]) (g' := [(0, some (59, .ds [D.sl (dI .u8 xd) (List.length xd)])), (2, some (5, .ds (dI .u8 (List.replicate (F * ((szN k) * n)) 0))))]) (nx' := 3) zk ⟨(V_rFS k r l n zo zo hc zo), ⟨by omega, by omega⟩, zo, rfl, rfl, zo, zo, (dI_rep _ _ _)⟩ ?_
 refine AW.seq ?_
 refine AW.rgs [.no, .no, .no] [0, 7, 15, 16] [0, 2] (P := True) (l' := [(0, rV 0 0), (7, oV 2 0 (F * ((szN k) * n)) 1), (15, iV (((F * ((szN k) * n)) : Nat) : Int)), (16, iV 0)]) (g' := [(0, some (59, .ds [D.sl (dI .u8 xd) (List.length xd)])), (2, some (5, .ds (dI .u8 (List.replicate (F * ((szN k) * n)) 0))))]) (nx' := 3) zk trivial ?_
 refine AW.block ?_
 refine AW.loopE 1 hcx (fun (x : {x : Nat // match x with | i => (i ≤ F * (szN k * n))}) => match x with | ⟨i, _⟩ => (⟨[(0, rV 0 0), (7, oV 2 0 (F * ((szN k) * n)) 1), (15, iV (((F * ((szN k) * n)) : Nat) : Int)), (16, iV ((i : Nat) : Int))], [(0, some (59, .ds [D.sl (dI .u8 (byD xd i)) (List.length (byD xd i))])), (2, some (5, .ds (dI .u8 ((byL xd i) ++ (List.replicate ((F * ((szN k) * n)) - i) 0)))))], 3⟩ : ES)) (fun (x : {x : Nat // match x with | i => (i ≤ F * (szN k * n))}) => match x with | ⟨i, _⟩ => F * (szN k * n) - i) ⟨(0 : Nat), (show ((0 : Nat) ≤ F * (szN k * n)) from (by first | omega | assumption | simp))⟩ [] (P := ((0 : Nat) = 0) ∧ ((0 : Nat) = 0) ∧ (((F * ((szN k) * n)) : Nat) = (F * ((szN k) * n))) ∧ (((((F * ((szN k) * n)) : Nat) : Int) : Int) = (((F * ((szN k) * n)) : Nat) : Int)) ∧ ((0 : Int) = 0) ∧ (([D.sl (dI .u8 (byD xd 0)) (List.length (byD xd 0))] : List D) = [D.sl (dI .u8 xd) (List.length xd)]) ∧ (((dI .u8 ((byL xd 0) ++ (List.replicate ((F * ((szN k) * n)) - 0) 0))) : List D) = (dI .u8 (List.replicate (F * ((szN k) * n)) 0)))) zk ⟨rfl, rfl, rfl, rfl, rfl, zl16m2, zl16m2⟩ ?_
 rintro ⟨i, hinv0⟩
 have hi : (i ≤ F * (szN k * n)) := hinv0
 refine AW.es (l := [(0, rV 0 0), (7, oV 2 0 (F * ((szN k) * n)) 1), (15, iV (((F * ((szN k) * n)) : Nat) : Int)), (16, iV ((i : Nat) : Int))]) (g := [(0, some (59, .ds [D.sl (dI .u8 (byD xd i)) (List.length (byD xd i))])), (2, some (5, .ds (dI .u8 ((byL xd i) ++ (List.replicate ((F * ((szN k) * n)) - i) 0)))))]) (nx := 3) rfl rfl rfl ?_
 have hbd : Byt (byD xd i) := byD_byt hb i
 have hll : List.length (byL xd i) = i := byL_len xd i
 have hnv : ((nextN (byD xd i) 256 : Int) < 256 ∨ nextN (byD xd i) 256 = 0) ∧ nextN (byD xd i) 256 ≤ 255 := nextV_in (byD xd i) 256 hbd
 by_cases hx2 : (((i : Nat) : Int) < (((F * ((szN k) * n)) : Nat) : Int))
 ·refine AW.rgs [.b true] [0, 7, 15, 16, 17] [0, 2] (P := ((((i : Nat) : Int) < (((F * ((szN k) * n)) : Nat) : Int)))) (l' := [(0, rV 0 0), (7, oV 2 0 (F * ((szN k) * n)) 1), (15, iV (((F * ((szN k) * n)) : Nat) : Int)), (16, iV ↑i), (17, bV true)]) (g' := [(0, some (59, .ds [D.sl (dI .u8 (byD xd i)) (List.length (byD xd i))])), (2, some (5, .ds (dI .u8 ((byL xd i) ++ (List.replicate ((F * ((szN k) * n)) - i) 0)))))]) (nx' := 3) zk zo ?_
  refine AW.seq ?_
  refine AW.cond_t (.tmp (Look.of rfl)) ?_
  refine AW.skip ?_
  refine AW.seq ?_
  refine AW.block ?_
  refine AW.rgs [.no, .no] [0, 7, 8, 15, 16] [0, 2] (P := True) (l' := [(0, rV 0 0), (7, oV 2 0 (F * ((szN k) * n)) 1), (8, iV ↑i), (15, iV (((F * ((szN k) * n)) : Nat) : Int)), (16, iV ↑i)]) (g' := [(0, some (59, .ds [D.sl (dI .u8 (byD xd i)) (List.length (byD xd i))])), (2, some (5, .ds (dI .u8 ((byL xd i) ++ (List.replicate ((F * ((szN k) * n)) - i) 0)))))]) (nx' := 3) zk trivial ?_
  have hx3 : ((((((nextN (byD xd i) 256) : Nat) : Int) < 256) ∨ ((nextN (byD xd i) 256) = 0)) ∧ ((nextN (byD xd i) 256) ≤ 255)) := nextV_in (byD xd i) (256 : Int) ‹_›
  have hx4 : (Byt (nextL (byD xd i) 256)) := nextL_byt (256 : Int) ‹_›
  refine AW.rg [.no, .no, .no, .call [0] (iV (((nextN (byD xd i) 256) : Nat) : Int)) [(0, some (59, .ds [D.sl (dI .u8 (nextL (byD xd i) 256)) (List.length (nextL (byD xd i) 256))]))] 1 [] none, .w, .n2 i i, .ds (dI .u8 (List.set ((byL xd i) ++ (List.replicate ((F * ((szN k) * n)) - i) 0)) i (((nextN (byD xd i) 256) : Nat) : Int)))] [0, 7, 15, 16] [0, 2] (P := (_) ∧ (0 ≤ (((nextN (byD xd i) 256) : Nat) : Int) ∧ (((nextN (byD xd i) 256) : Nat) : Int) ≤ 255) ∧ ((((i : Nat) : Int) : Int) = ((i : Nat) : Int)) ∧ (i < (F * ((szN k) * n))) ∧ ((0 : Nat) + i * 1 = i) ∧ (i + 1 ≤ (dI .u8 ((byL xd i) ++ (List.replicate ((F * ((szN k) * n)) - i) 0))).length) ∧ (updD (dI .u8 ((byL xd i) ++ (List.replicate ((F * ((szN k) * n)) - i) 0))) i [D.lit (.int .u8 (((nextN (byD xd i) 256) : Nat) : Int))] = dI .u8 (List.set ((byL xd i) ++ (List.replicate ((F * ((szN k) * n)) - i) 0)) i (((nextN (byD xd i) 256) : Nat) : Int)))) (l' := [(0, rV 0 0), (7, oV 2 0 (F * ((szN k) * n)) 1), (15, iV (((F * ((szN k) * n)) : Nat) : Int)), (16, iV ↑i)]) (g' := [(0, some (59, .ds [D.sl (dI .u8 (nextL (byD xd i) 256)) (List.length (nextL (byD xd i) 256))])), (2, some (5, .ds (dI .u8 (List.set ((byL xd i) ++ (List.replicate ((F * ((szN k) * n)) - i) 0)) i (((nextN (byD xd i) 256) : Nat) : Int)))))]) (nx' := 3) zk ⟨(G_Next (byD xd i) 256 zl16m1), ⟨by omega, by omega⟩, rfl, zo, zo, zl16m0, (dI_set _ _ _ _)⟩ ?_
  refine AW.rg [.w, .no] [0, 7, 15, 16] [0, 2] (P := ((-9223372036854775808) ≤ (((i : Nat) : Int) + 1) ∧ (((i : Nat) : Int) + 1) ≤ 9223372036854775807)) (l' := [(0, rV 0 0), (7, oV 2 0 (F * ((szN k) * n)) 1), (15, iV (((F * ((szN k) * n)) : Nat) : Int)), (16, iV (↑i + 1))]) (g' := [(0, some (59, .ds [D.sl (dI .u8 (nextL (byD xd i) 256)) (List.length (nextL (byD xd i) 256))])), (2, some (5, .ds (dI .u8 (List.set ((byL xd i) ++ (List.replicate ((F * ((szN k) * n)) - i) 0)) i (((nextN (byD xd i) 256) : Nat) : Int)))))]) (nx' := 3) zk ⟨by omega, by omega⟩ ?_
  exact Rd.of ⟨((i + 1) : Nat), (show ((i + 1) ≤ F * (szN k * n)) from (by first | omega | assumption | simp))⟩ [] (P := ((0 : Nat) = 0) ∧ ((0 : Nat) = 0) ∧ (((F * ((szN k) * n)) : Nat) = (F * ((szN k) * n))) ∧ (((((F * ((szN k) * n)) : Nat) : Int) : Int) = (((F * ((szN k) * n)) : Nat) : Int)) ∧ (((((i + 1) : Nat) : Int) : Int) = (((i : Nat) : Int) + 1)) ∧ (([D.sl (dI .u8 (byD xd (i + 1))) (List.length (byD xd (i + 1)))] : List D) = [D.sl (dI .u8 (nextL (byD xd i) 256)) (List.length (nextL (byD xd i) 256))]) ∧ (((dI .u8 ((byL xd (i + 1)) ++ (List.replicate ((F * ((szN k) * n)) - (i + 1)) 0))) : List D) = (dI .u8 (List.set ((byL xd i) ++ (List.replicate ((F * ((szN k) * n)) - i) 0)) i (((nextN (byD xd i) 256) : Nat) : Int))))) zk ⟨rfl, rfl, rfl, rfl, (by first | rfl | omega | assumption | (simp; done) | (simp; omega)), zl16m2, zl16m2⟩ (show F * (szN k * n) - (i + 1) < F * (szN k * n) - i from (by first | omega | (show _ < _; simp; omega)))
 ·refine AW.rgs [.b false] [0, 7, 15, 16, 17] [0, 2] (P := (¬ (((i : Nat) : Int) < (((F * ((szN k) * n)) : Nat) : Int)))) (l' := [(0, rV 0 0), (7, oV 2 0 (F * ((szN k) * n)) 1), (15, iV (((F * ((szN k) * n)) : Nat) : Int)), (16, iV ↑i), (17, bV false)]) (g' := [(0, some (59, .ds [D.sl (dI .u8 (byD xd i)) (List.length (byD xd i))])), (2, some (5, .ds (dI .u8 ((byL xd i) ++ (List.replicate ((F * ((szN k) * n)) - i) 0)))))]) (nx' := 3) zk zo ?_
  refine AW.seq ?_
  refine AW.cond_f (.tmp (Look.of rfl)) ?_
  refine AW.exit ?_
  refine AW.rgs [.no, .no] [6] [0, 2] (P := True) (l' := [(6, oV 2 0 (F * ((szN k) * n)) 1)]) (g' := [(0, some (59, .ds [D.sl (dI .u8 (byD xd i)) (List.length (byD xd i))])), (2, some (5, .ds (dI .u8 ((byL xd i) ++ (List.replicate ((F * ((szN k) * n)) - i) 0)))))]) (nx' := 3) zk trivial ?_
  refine AW.ret ?_
  obtain rfl : i = (F * ((szN k) * n)) := by omega
  exact EndP.of (.inr rfl) [(1, 2)] (P := ((0 : Nat) = 0) ∧ (((F * ((szN k) * n)) : Nat) = (F * ((szN k) * n))) ∧ (([D.sl (dI .u8 (byD xd (F * ((szN k) * n)))) (List.length (byD xd (F * ((szN k) * n))))] : List D) = [D.sl (dI .u8 (byD xd (F * ((szN k) * n)))) (List.length (byD xd (F * ((szN k) * n))))]) ∧ (((dI .u8 (byL xd (F * ((szN k) * n)))) : List D) = (dI .u8 ((byL xd (F * ((szN k) * n))) ++ (List.replicate ((F * ((szN k) * n)) - (F * ((szN k) * n))) 0))))) zk ⟨rfl, rfl, rfl, (by first | rfl | (rw [Nat.sub_self]; simp))⟩
theorem X_bytes (xd : List Int) (k : Int) (r : Nat) (l : List Int) (n : Nat) (F : Nat) (hb : Byt xd) (hk : 1 ≤ k ∧ k ≤ 7) (hr : 1000 ≤ r ∧ r ≤ 768000) (hc : chB l n = true) (hl : List.length l = n) (hF : F ≤ 1000) : ∃ (bs : List Int) (z : List Int) (m : Nat), (List.length bs = m) ∧ (m = F * (szN k * n)) ∧ (Byt bs) ∧ (Byt z) ∧ (Fun 11 [.c (.ptr 0 0), .agg [iC k, iC ((r : Nat) : Int), .d (D.sl (dI .i64 l) n)], iE ((F : Nat) : Int)] (toG [(0, some (59, .ds [D.sl (dI .u8 xd) (List.length xd)]))]) 1 (oV 1 0 m 1) (toG [(0, some (59, .ds [D.sl (dI .u8 z) (List.length z)])), (1, some (5, .ds (dI .u8 bs)))]) 2) := ⟨(byL xd (F * ((szN k) * n))), (byD xd (F * ((szN k) * n))), (F * ((szN k) * n)), byL_len _ _, rfl, byL_byt hb _, byD_byt hb _, V_bytes xd k r l n F hb hk hr hc hl hF⟩
theorem V_SameF (k r : Int) (l : List Int) (n : Nat) (hl : List.length l = n) (hb : n ≤ 1000000) : Fun 33 [.agg [iC k, iC r, .d (D.sl (dI .i64 l) n)], .agg [iC k, iC r, .d (D.sl (dI .i64 l) n)]] (toG []) 0 (bV true) (toG []) 0 := by
 refine Fun.mk (n := 24) Tryd.func33 rfl rfl (Nat.le_of_ble_eq_true rfl) ?_
 intro cx hcx
 refine AW.rgs [.no, .no, .no] [2, 3] [0, 1] (P := True) (l' := [(2, rV 0 0), (3, rV 1 0)]) (g' := [(0, some (28, .ds [iD k, iD r, D.sl (dI .i64 l) n])), (1, some (28, .ds [iD k, iD r, D.sl (dI .i64 l) n]))]) (nx' := 2) zk trivial ?_
 refine AW.rgs [.no, .no, .no, .no, .b true, .no, .no, .no, .no, .no, .b true, .no, .no, .no, .no, .no, .no, .call [] (bV true) [] 0 [] none, .no, .no] [4] [] (P := ((k = k)) ∧ ((r = r)) ∧ (_)) (l' := [(4, bV true)]) (g' := []) (nx' := 2) zk ⟨zo, zo, (Fun.y (C_Same6 l l n n zo zo zo zo) (y' := bV true) (by simp [sameL_rfl]))⟩ ?_
 refine AW.ret ?_
 exact EndP.of (.inr rfl) [] (P := (true = true)) zk rfl
theorem V_Same15 (ch n d a p f : Int) (l : List Int) (q : Nat) (hl : List.length l = q) (hq : q ≤ 10000000) : Fun 35 [.agg [iC ch, iC n, iC d, iC a, iC p, iC f, .d (D.sl (dI .i32 l) q)], .agg [iC ch, iC n, iC d, iC a, iC p, iC f, .d (D.sl (dI .i32 l) q)]] (toG []) 0 (bV true) (toG []) 0 := by
 refine Fun.mk (n := 24) Tryd.func35 rfl rfl (Nat.le_of_ble_eq_true rfl) ?_
 intro cx hcx
 refine AW.rgs [.no, .no, .no] [2, 3] [0, 1] (P := True) (l' := [(2, rV 0 0), (3, rV 1 0)]) (g' := [(0, some (39, .ds [iD ch, iD n, iD d, iD a, iD p, iD f, D.sl (dI .i32 l) q])), (1, some (39, .ds [iD ch, iD n, iD d, iD a, iD p, iD f, D.sl (dI .i32 l) q]))]) (nx' := 2) zk trivial ?_
 refine AW.rgs [.no, .no, .no, .no, .b true, .no, .no, .no, .no, .no, .b true, .no, .no, .no, .no, .no, .no, .call [] (bV true) [] 0 [] none, .no, .no] [4] [] (P := ((ch = ch)) ∧ (((n = n) ∧ ((d = d) ∧ ((a = a) ∧ ((p = p) ∧ (f = f)))))) ∧ (_)) (l' := [(4, bV true)]) (g' := []) (nx' := 2) zk ⟨zo, ⟨zo, zo, zo, zo, zo⟩, (Fun.y (G_SameData l l q q zo zo zo zo) (y' := bV true) (by simp [sameL_rfl]))⟩ ?_
 refine AW.ret ?_
 exact EndP.of (.inr rfl) [] (P := (true = true)) zk rfl
theorem V_Same (ka ra : Int) (la : List Int) (na : Nat) (kb rb : Int) (lb : List Int) (nb : Nat) (mi mo : Int) (cf : List Int) (nc : Nat) (ch n d a p f : Int) (l : List Int) (q : Nat) (h1 : List.length la = na) (h2 : List.length lb = nb) (h3 : List.length cf = nc) (h4 : List.length l = q) (b1 : na ≤ 1000000) (b2 : nb ≤ 1000000) (b3 : nc ≤ 1000000) (b4 : q ≤ 1000000) : Fun 15 [.agg [iC ka, iC ra, .d (D.sl (dI .i64 la) na), iC kb, iC rb, .d (D.sl (dI .i64 lb) nb), iC mi, iC mo, .d (D.sl (dI .i64 cf) nc), iC ch, iC n, iC d, iC a, iC p, iC f, .d (D.sl (dI .i32 l) q)], .agg [iC ka, iC ra, .d (D.sl (dI .i64 la) na), iC kb, iC rb, .d (D.sl (dI .i64 lb) nb), iC mi, iC mo, .d (D.sl (dI .i64 cf) nc), iC ch, iC n, iC d, iC a, iC p, iC f, .d (D.sl (dI .i32 l) q)]] (toG []) 0 (bV true) (toG []) 0 := by
 refine Fun.mk (n := 31) Tryd.func15 rfl rfl (Nat.le_of_ble_eq_true rfl) ?_
 intro cx hcx
 refine AW.rgs [.no, .no, .no] [2, 3] [0, 1] (P := True) (l' := [(2, rV 0 0), (3, rV 1 0)]) (g' := [(0, some (41, .ds [iD ka, iD ra, D.sl (dI .i64 la) na, iD kb, iD rb, D.sl (dI .i64 lb) nb, iD mi, iD mo, D.sl (dI .i64 cf) nc, iD ch, iD n, iD d, iD a, iD p, iD f, D.sl (dI .i32 l) q])), (1, some (41, .ds [iD ka, iD ra, D.sl (dI .i64 la) na, iD kb, iD rb, D.sl (dI .i64 lb) nb, iD mi, iD mo, D.sl (dI .i64 cf) nc, iD ch, iD n, iD d, iD a, iD p, iD f, D.sl (dI .i32 l) q]))]) (nx' := 2) zk trivial ?_
 refine AW.rgs [.no, .no, .no, .no, .call [] (bV true) [] 0 [] none, .no, .no, .no, .no, .no, .call [] (bV true) [] 0 [] none, .no, .no, .no, .no, .no, .no, .call [] (bV true) [] 0 [] none, .no, .no, .no, .no, .no, .no, .call [] (bV true) [] 0 [] none, .no, .no] [4] [] (P := (_) ∧ (_) ∧ (_) ∧ (_)) (l' := [(4, bV true)]) (g' := []) (nx' := 2) zk ⟨(V_SameF ka ra la na zo zo), (V_SameF kb rb lb nb zo zo), (Fun.y (M_Same mi mo mi mo cf cf nc nc zo zo zo zo) (y' := bV true) (by simp [sameL_rfl])), (V_Same15 ch n d a p f l q zo zo)⟩ ?_
 refine AW.ret ?_
 exact EndP.of (.inr rfl) [] (P := (true = true)) zk rfl
theorem V_sane   : Fun 7 [] (toG []) 0 (bV true) (toG []) 0 := by
 have hby : Byt ([100, 0, 100, 0] : List Int) := fun j hj => lit_rng (l := [100, 0, 100, 0]) (a := 0) (b := 255) (by decide) j hj
 have hz2 : szN 2 = 2 := rfl
 have hB0 : BV 1 0 ([] : List Int) := BV.nil (by decide) (by decide)
 have hP0 : PhV ((bsN 48000 48000 : Nat) : Int) ((bdN 48000 48000 : Nat) : Int) 0 0 0 := PhV.bd (by decide) (by decide)
 refine Fun.mk (n := 58) Tryd.func7 rfl rfl (Nat.le_of_ble_eq_true rfl) ?_
 intro cx hcx
 refine AW.rgs [.no] [] [] (P := True) (l' := []) (g' := []) (nx' := 0) zk trivial ?_
 refine AW.rgs [(.fz (.no)), .no, (.fz (.no)), .no, .call [] (.tup [.agg [iC 2, iC 48000, .d (D.sl (dI .i64 ([1, 2] : List Int)) 2), iC 2, iC 48000, .d (D.sl (dI .i64 ([3] : List Int)) 1), iC 2, iC 1, .d (D.sl (dI .i64 (dfL ([1, 2] : List Int) ([3] : List Int) 2 1 2)) 2), iC 1, iC (((bsN 48000 48000) : Nat) : Int), iC (((bdN 48000 48000) : Nat) : Int), iC 0, iC 0, iC 0, .d (D.sl ([] : List D) 0)], iE 0]) [] 0 [] none, .no, .no, .no, .no, .no, .no] [1, 2] [2] (P := (([iD 1, iD 2] : List D).length = 2 * 1) ∧ (([iD 3] : List D).length = 1 * 1) ∧ (_)) (l' := [(1, rV 2 0), (2, iV 0)]) (g' := [(2, some (41, .ds [iD 2, iD 48000, D.sl (dI .i64 ([1, 2] : List Int)) 2, iD 2, iD 48000, D.sl (dI .i64 ([3] : List Int)) 1, iD 2, iD 1, D.sl (dI .i64 (dfL ([1, 2] : List Int) ([3] : List Int) 2 1 2)) 2, iD 1, iD (((bsN 48000 48000) : Nat) : Int), iD (((bdN 48000 48000) : Nat) : Int), iD 0, iD 0, iD 0, D.sl ([] : List D) 0]))]) (nx' := 3) zk ⟨zl16m0, zl16m0, (V_New 2 48000 ([1, 2] : List Int) 2 2 48000 ([3] : List Int) 1 zo zo zk zl16m1 zo zo zk zl16m1)⟩ ?_
 obtain ⟨o28, l29, k210, W211, r212, p213, f214, hx1, hx2, hx3, hx4, hx5, hx6, hx7, hx8, hF14⟩ := (V_Run 2 48000 ([1, 2] : List Int) 2 2 48000 ([3] : List Int) 1 0 0 0 ([] : List Int) 0 ([100, 0, 100, 0] : List Int) 4 1 zo zo zk zl16m1 zo zo zk zl16m1 zl16m1 zl16m1 zl16m1 zl16m1 (by decide) zl16m1 zo zo)
 refine AW.rgs [.no, (.fz (.no)), .call [] (.tup [.c (.d (D.sl (dI .u8 (encA 2 o28 (k210 * 1))) ((k210 * 1) * (szN 2)))), .agg [iC 2, iC 48000, .d (D.sl (dI .i64 ([1, 2] : List Int)) 2), iC 2, iC 48000, .d (D.sl (dI .i64 ([3] : List Int)) 1), iC 2, iC 1, .d (D.sl (dI .i64 (dfL ([1, 2] : List Int) ([3] : List Int) 2 1 2)) 2), iC 1, iC (((bsN 48000 48000) : Nat) : Int), iC (((bdN 48000 48000) : Nat) : Int), iC 0, iC p213, iC f214, .d (D.sl (dI .i32 l29) r212)], iE 0]) [] 0 [] none, .no, .no, .no, .no, .no, .no, .no, .no] [1, 2, 3, 4, 5] [2, 4] (P := (([D.lit (.int .u8 100), D.lit (.int .u8 0), D.lit (.int .u8 100), D.lit (.int .u8 0)] : List D).length = 4 * 1) ∧ (_)) (l' := [(1, rV 2 0), (2, iV 0), (3, sV .u8 (encA 2 o28 (k210 * 1)) ((k210 * 1) * (szN 2))), (4, rV 4 0), (5, iV 0)]) (g' := [(2, some (41, .ds [iD 2, iD 48000, D.sl (dI .i64 ([1, 2] : List Int)) 2, iD 2, iD 48000, D.sl (dI .i64 ([3] : List Int)) 1, iD 2, iD 1, D.sl (dI .i64 (dfL ([1, 2] : List Int) ([3] : List Int) 2 1 2)) 2, iD 1, iD (((bsN 48000 48000) : Nat) : Int), iD (((bdN 48000 48000) : Nat) : Int), iD 0, iD 0, iD 0, D.sl ([] : List D) 0])), (4, some (41, .ds [iD 2, iD 48000, D.sl (dI .i64 ([1, 2] : List Int)) 2, iD 2, iD 48000, D.sl (dI .i64 ([3] : List Int)) 1, iD 2, iD 1, D.sl (dI .i64 (dfL ([1, 2] : List Int) ([3] : List Int) 2 1 2)) 2, iD 1, iD (((bsN 48000 48000) : Nat) : Int), iD (((bdN 48000 48000) : Nat) : Int), iD 0, iD p213, iD f214, D.sl (dI .i32 l29) r212]))]) (nx' := 5) zk ⟨zl16m0, hF14⟩ ?_
 have hcv9 : (CV (((bsN 48000 48000) : Nat) : Int) (((bdN 48000 48000) : Nat) : Int) 0 0 0 1 1 (([] : List Int) ++ (apA (dfL ([1, 2] : List Int) ([3] : List Int) 2 1 2) (decA 2 ([100, 0, 100, 0] : List Int) 2) 2 1 1)) o28 l29 k210 W211 p213 f214) := by with_reducible assumption
 have hsc := sane_cv hcv9
 obtain rfl : o28 = ([] : List Int) := hsc.1
 obtain rfl : l29 = ([36203] : List Int) := hsc.2.1
 obtain rfl : k210 = (0 : Nat) := hsc.2.2.1
 obtain rfl : W211 = (1 : Nat) := hsc.2.2.2.1
 obtain rfl : p213 = (0 : Int) := hsc.2.2.2.2.1
 obtain rfl : f214 = (0 : Int) := hsc.2.2.2.2.2
 obtain ⟨o15, j16, hx9, hx10, hx11, hx12, hF16⟩ := (V_Fin 2 48000 ([1, 2] : List Int) 2 2 48000 ([3] : List Int) 1 0 0 1 ([36203] : List Int) r212 zo zo zk zl16m1 zo zo zk zl16m1 zl16m1 zl16m1 zl16m1 zo)
 refine AW.rgs [.no, .call [] (.tup [.c (.d (D.sl (dI .u8 (encA 2 o15 (j16 * 1))) ((j16 * 1) * (szN 2)))), iE 0]) [] 0 [] none, .no, .no, .no, .no, .no] [1, 2, 3, 5, 6, 7] [2] (P := (_)) (l' := [(1, rV 2 0), (2, iV 0), (3, sV .u8 (encA 2 ([] : List Int) 0) (0 * (szN 2))), (5, iV 0), (6, sV .u8 (encA 2 o15 (j16 * 1)) ((j16 * 1) * (szN 2))), (7, iV 0)]) (g' := [(2, some (41, .ds [iD 2, iD 48000, D.sl (dI .i64 ([1, 2] : List Int)) 2, iD 2, iD 48000, D.sl (dI .i64 ([3] : List Int)) 1, iD 2, iD 1, D.sl (dI .i64 (dfL ([1, 2] : List Int) ([3] : List Int) 2 1 2)) 2, iD 1, iD (((bsN 48000 48000) : Nat) : Int), iD (((bdN 48000 48000) : Nat) : Int), iD 0, iD 0, iD 0, D.sl ([] : List D) 0]))]) (nx' := 5) zk hF16 ?_
 have hfn9 : (FN (((bsN 48000 48000) : Nat) : Int) (((bdN 48000 48000) : Nat) : Int) 0 1 1 ([36203] : List Int) o15 j16) := by with_reducible assumption
 have hsf := sane_fn hfn9
 obtain rfl : j16 = 1 := hsf.1
 obtain rfl : o15 = [36203] := hsf.2
 have hx13 : (((1 : Nat) ≤ ((szN 2) * 2)) ∧ (((szN 2) * 2) ≤ 32)) := ⟨Nat.mul_le_mul (szN_in (2 : Int)).1 (show 1 ≤ (2 : Nat) by omega), Nat.mul_le_mul (szN_in (2 : Int)).2 (show (2 : Nat) ≤ 8 by omega)⟩
 refine AW.rgs [.no, .b true, .no, .no, .b true, .no, .no, .no, .b true, .no, .no, .no, .no, .b true, .no, .no, .no, .st none (encA 2 ([36203] : List Int) 1), .b true, .no, .no, .no, .call [] (bV true) [] 0 [] none, .no, .no, .no, .no, .call [] (iV 4) [] 0 [] none, .b true, .no, .no] [0] [] (P := (((0 : Int) = 0)) ∧ (((0 : Int) = 0)) ∧ (((0 : Int) = 0)) ∧ (((((0 * (szN 2)) : Nat) : Int) = 0)) ∧ ((dI .u8 (encA 2 ([36203] : List Int) 1)).length = (1 * (szN 2)) * 1) ∧ (((dI .u8 (encA 2 ([36203] : List Int) 1)) : List D) = dI .u8 (encA 2 ([36203] : List Int) 1)) ∧ ((ByteArray.toList (strOfNums (encA 2 ([36203] : List Int) 1)) == ByteArray.toList (ByteArray.mk #[141, 0])) = true) ∧ (_) ∧ (_) ∧ (((4 : Int) = 4))) (l' := [(0, bV true)]) (g' := []) (nx' := 5) zk ⟨zo, zo, zo, zo, zl16m0, rfl, zk, (V_Valid 2 48000 ([1, 2] : List Int) 2 2 48000 ([3] : List Int) 1 0 0 0 ([] : List Int) 0 zo zo zk zl16m1 zo zo zk zl16m1 zl16m1 zl16m1 zl16m1), (Fun.cv (V_FS 2 48000 ([1, 2] : List Int) 2 zo zo zk zl16m1) (y' := iV 4) (g1' := toG []) zk zk), zo⟩ ?_
 refine AW.ret ?_
 exact EndP.of (.inr rfl) [] (P := (true = true)) zk rfl
end Go.Proofs.YtigiolfloefjnaaDoor
