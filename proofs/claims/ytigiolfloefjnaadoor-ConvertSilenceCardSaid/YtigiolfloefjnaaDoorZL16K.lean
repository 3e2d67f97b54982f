/- Merged texts. -/
import Derived.Test.YtigiolfloefjnaaDoorZL15
import Derived.Test.YtigiolfloefjnaaDoorZLMade
import Derived.Test.YtigiolfloefjnaaDoorZL04T
import Derived.Test.YtigiolfloefjnaaDoorZL04PD
import Derived.Test.YtigiolfloefjnaaDoorZL04PE
import Derived.Test.YtigiolfloefjnaaDoorZL04K
import Derived.Test.YtigiolfloefjnaaDoorZL07E
namespace Go.Proofs.YtigiolfloefjnaaDoor
open Go.ChangeShapes Go.WideShapes Go.ChangeAt Go.RowKit
set_option linter.unusedVariables false
set_option linter.unusedSimpArgs false
theorem X_New (l : List Int) (n : Nat) (hn : List.length l = n) (hb : n ≤ 9223372036854775807) (hy : Byt l) : ∃ (d : List Int), (Byt d) ∧ (List.length d ≤ 300) ∧ (Fun 8 [.c (.d (D.sl (dI .u8 l) n))] (toG []) 0 (rV 0 0) (toG [(0, some (59, .ds [D.sl (dI .u8 d) (List.length d)]))]) 1) := ⟨(List.take (min n 300) l), hy.take _, (by rw [List.length_take]; omega), G_New l n hn hb⟩
theorem X_Next (l : List Int) (n : Int) (hb : Byt l) : ∃ (q : Nat) (d : List Int), ((q : Int) < n ∨ q = 0) ∧ (q ≤ 255) ∧ (Byt d) ∧ (List.length d ≤ List.length l) ∧ (Fun 16 [.c (.ptr 0 0), iE n] (toG [(0, some (59, .ds [D.sl (dI .u8 l) (List.length l)]))]) 1 (iV ((q : Nat) : Int)) (toG [(0, some (59, .ds [D.sl (dI .u8 d) (List.length d)]))]) 1) := ⟨(nextN l n), (nextL l n), (nextV_in l n hb).1, (nextV_in l n hb).2, nextL_byt n hb, nextL_len l n, G_Next l n hb⟩
def bsN (x y : Nat) : Nat := x / Nat.gcd x y
theorem bs_in {x y : Nat} (hx : 1 ≤ x ∧ x ≤ 768000) (hy : 1 ≤ y ∧ y ≤ 768000) : (1 ≤ bsN x y ∧ bsN x y ≤ 768000) ∧ (1 ≤ y / Nat.gcd x y ∧ y / Nat.gcd x y ≤ 768000) ∧ 1 ≤ Nat.gcd x y := by
 have hg : 0 < Nat.gcd x y := Nat.gcd_pos_of_pos_left _ (by omega)
 have h1 : 0 < x / Nat.gcd x y := Nat.div_pos (Nat.le_of_dvd (by omega) (Nat.gcd_dvd_left x y)) hg
 have h2 : 0 < y / Nat.gcd x y := Nat.div_pos (Nat.le_of_dvd (by omega) (Nat.gcd_dvd_right x y)) hg
 have h3 := Nat.div_le_self x (Nat.gcd x y)
 have h4 := Nat.div_le_self y (Nat.gcd x y)
 unfold bsN
 omega
theorem bs_ok {x y : Nat} (hx : 1 ≤ x ∧ x ≤ 768000) (hy : 1 ≤ y ∧ y ≤ 768000) : phB ((bsN x y : Nat) : Int) ((y / Nat.gcd x y : Nat) : Int) 0 0 0 = true := by
 have h := bs_in hx hy
 refine phB_t (ratOk_t (by omega) (by omega) ?_) (by omega)
 rw [Int.toNat_natCast, Int.toNat_natCast]
 exact Nat.gcd_div_gcd_div_gcd_of_pos_left (by omega)
theorem PhV.z {n d : Int} (h : phB n d 0 0 0 = true) : PhV n d 0 0 0 := PhV.of h
theorem BV.nil {ch : Nat} (h1 : 1 ≤ ch) (h8 : ch ≤ 8) : BV ch 0 [] := ⟨h1, h8, by simp, by decide, fun j hj => absurd hj (Nat.not_lt_zero j)⟩
theorem cv_pos {f s P : Int} (hf : 0 ≤ f ∧ f < P) (hs : 0 ≤ s) (k : Nat) : mvV f s k / P ≤ needV f s P k := by
 by_cases h : k = 0
 ·subst h
  rw [mv_0, needV_0, Int.ediv_eq_zero_of_lt hf.1 hf.2]; omega
 ·rw [needV_s _ _ _ h]; omega
theorem cv_BV {n d a p f : Int} {ch W F : Nat} {l m : List Int} (h : PhV n d a p f) (hv : BV ch W l) (hw : BV ch F m) (hf : W + F ≤ 65536) : BV ch (mkF f (stp n a) (d * 65536) ((W + F : Nat) : Int)) (prV ch (W + F) (l ++ m) f (stp n a) (d * 65536) (mkF f (stp n a) (d * 65536) ((W + F : Nat) : Int))) := by
 have hb := h.b
 have hst := stp_in hb.1 hb.2.2.1
 have hk := mkF_need (f := f) (s := stp n a) (P := d * 65536) (h := ((W + F : Nat) : Int)) (by omega)
 refine prV_BV (app_BV hv hw hf) ?_ (by omega) hk.2
 generalize mkF f (stp n a) (d * 65536) ((W + F : Nat) : Int) = k at *
 by_cases h0 : k = 0
 ·exact .inl h0
 ·right
  rw [needV_s _ _ _ h0] at hk
  have h2 := mv_in (f := f) (s := stp n a) (i := k - 1) (by omega) (by omega) (by omega)
  have h3 := (quo_in h2.1 (show 0 < d * 65536 by omega)).1
  omega
theorem cv_all {n d a p f : Int} {W F : Nat} (h : PhV n d a p f) (hs : p + ((W : Nat) : Int) + ((F : Nat) : Int) ≤ 1000000) : (0 ≤ mvV f (stp n a) (mkF f (stp n a) (d * 65536) ((W + F : Nat) : Int)) / (d * 65536) ∧ mvV f (stp n a) (mkF f (stp n a) (d * 65536) ((W + F : Nat) : Int)) / (d * 65536) ≤ ((W + F : Nat) : Int)) ∧ (0 ≤ mvV f (stp n a) (mkF f (stp n a) (d * 65536) ((W + F : Nat) : Int)) % (d * 65536) ∧ mvV f (stp n a) (mkF f (stp n a) (d * 65536) ((W + F : Nat) : Int)) % (d * 65536) < d * 65536) ∧ ((goneV (W + F) f (stp n a) (d * 65536) (mkF f (stp n a) (d * 65536) ((W + F : Nat) : Int)) : Nat) : Int) = mvV f (stp n a) (mkF f (stp n a) (d * 65536) ((W + F : Nat) : Int)) / (d * 65536) := by
 have hb := h.b
 have hst := stp_in hb.1 hb.2.2.1
 have hk := mkF_need (f := f) (s := stp n a) (P := d * 65536) (h := ((W + F : Nat) : Int)) (by omega)
 generalize mkF f (stp n a) (d * 65536) ((W + F : Nat) : Int) = k at *
 have h1 := cv_pos (s := stp n a) hb.2.2.2.2 (by omega) k
 have h2 := mv_in (f := f) (s := stp n a) (i := k) (by omega) (by omega) (by omega)
 have h3 := quo_in h2.1 (show 0 < d * 65536 by omega)
 have h4 := iqV_eq (k := k) h3.1
 refine ⟨⟨h3.1, by omega⟩, ⟨h3.2.2.1, h3.2.2.2⟩, ?_⟩
 unfold goneV
 omega
theorem Q_Convert_s (ch W F : Nat) (n d a p f : Int) (l : List Int) (q : Nat) (m : List Int) (z : Nat) (hq : List.length l = q) (hv : BV ch W l) (hp : PhV n d a p f) (hz : List.length m = z) (hw : BV ch F m) (hWF : W + F ≤ 65536) (hs : p + (W : Int) + (F : Int) ≤ 1000000) : Fun 54 [.agg [iC ((ch : Nat) : Int), iC n, iC d, iC a, iC p, iC f, .d (D.sl (dI .i32 l) q)], .agg [iC ((ch : Nat) : Int), .d (D.sl (dI .i32 m) z)]] (toG []) 0 (.tup [.agg [iC ((ch : Nat) : Int), .own 0 0 ((mkF f (stp n a) (d * 65536) (((W + F) : Nat) : Int)) * ch) 1 true], .agg [iC ((ch : Nat) : Int), iC n, iC d, iC a, iC (p + ((mvV f (stp n a) (mkF f (stp n a) (d * 65536) (((W + F) : Nat) : Int))) / (d * 65536))), iC ((mvV f (stp n a) (mkF f (stp n a) (d * 65536) (((W + F) : Nat) : Int))) % (d * 65536)), .own 1 0 ((q + z) - ((goneV (W + F) f (stp n a) (d * 65536) (mkF f (stp n a) (d * 65536) (((W + F) : Nat) : Int))) * ch)) 1 true], iE 0]) (toG [(0, some (21, .ds (dI .i32 (prV ch (W + F) (l ++ m) f (stp n a) (d * 65536) (mkF f (stp n a) (d * 65536) (((W + F) : Nat) : Int)))))), (1, some (21, .ds (dI .i32 (List.drop ((goneV (W + F) f (stp n a) (d * 65536) (mkF f (stp n a) (d * 65536) (((W + F) : Nat) : Int))) * ch) (l ++ m)))))]) 2 := Q_Convert ch W F n d a p f l q m z hq hv hp hz hw hWF (by have h9 := cv_all hp hs; omega)
end Go.Proofs.YtigiolfloefjnaaDoor
namespace Go.Proofs.YtigiolfloefjnaaDoor
open Go.ChangeShapes Go.WideShapes Go.ChangeAt Go.RowKit
set_option linter.unusedVariables false
set_option linter.unusedSimpArgs false
set_option maxHeartbeats 4000000
set_option maxRecDepth 100000
def szN (k : Int) : Nat := if k = 1 then 1 else if k ≤ 3 then 2 else if k ≤ 5 then 3 else 4
def decV (k : Int) (c : List Int) : Int := if k = 1 then dec1 c else if k = 2 then dec2 c else if k = 3 then dec3 c else if k = 4 then dec4 c else if k = 5 then dec5 c else if k = 6 then dec6 c else dec7 c
def encV (k : Int) (x : Int) : List Int := if k = 1 then enc1 x else if k = 2 then enc2 x else if k = 3 then enc3 x else if k = 4 then enc4 x else if k = 5 then enc5 x else if k = 6 then enc6 x else enc7 x
def decA (k : Int) (l : List Int) (m : Nat) : List Int := decL (decV k) (szN k) l m
def encA (k : Int) (l : List Int) (n : Nat) : List Int := encL (encV k) l n
theorem k_cs {k : Int} (h : 1 ≤ k ∧ k ≤ 7) : k = 1 ∨ k = 2 ∨ k = 3 ∨ k = 4 ∨ k = 5 ∨ k = 6 ∨ k = 7 := by omega
theorem szN_in (k : Int) : 1 ≤ szN k ∧ szN k ≤ 4 := by
 unfold szN; (repeat' split) <;> omega
theorem encV_len {k : Int} (h : 1 ≤ k ∧ k ≤ 7) (x : Int) : List.length (encV k x) = szN k := by
 rcases k_cs h with rfl | rfl | rfl | rfl | rfl | rfl | rfl <;> rfl
theorem decV_in {k : Int} (h : 1 ≤ k ∧ k ≤ 7) (c : List Int) (hb : Byt c) (hn : List.length c = szN k) : -8388608 ≤ decV k c ∧ decV k c ≤ 8388607 := by
 rcases k_cs h with rfl | rfl | rfl | rfl | rfl | rfl | rfl
 ·exact dec1_in c hb hn
 ·exact dec2_in c hb hn
 ·exact dec3_in c hb hn
 ·exact dec4_in c hb hn
 ·exact dec5_in c hb hn
 ·exact dec6_in c hb hn
 ·exact dec7_in c hb hn
theorem decA_len (k : Int) (l : List Int) (m : Nat) : List.length (decA k l m) = m := decL_len _ _ l m
theorem encA_len {k : Int} (h : 1 ≤ k ∧ k ≤ 7) (l : List Int) (n : Nat) : List.length (encA k l n) = n * szN k := encL_len (encV_len h) l n
theorem decA_smp {k : Int} (h : 1 ≤ k ∧ k ≤ 7) {l : List Int} (hb : Byt l) (m : Nat) (hm : m * szN k ≤ List.length l) : smpsB (decA k l m) = true := decL_smp hb (decV_in h) m hm
def bgB (k : Int) : Bool := if k = 3 then true else if k = 5 then true else if k = 7 then true else false
def gtV (k : Int) (l : List Int) : Int := if k = 1 then List.getD l 0 0 else if k = 2 then sgn 32768 (List.getD l 0 0 + List.getD l 1 0 * 256) else if k = 3 then sgn 32768 (List.getD l 1 0 + List.getD l 0 0 * 256) else if k = 4 then sgn 8388608 (List.getD l 0 0 + List.getD l 1 0 * 256 + List.getD l 2 0 * 65536) else if k = 5 then sgn 8388608 (List.getD l 2 0 + List.getD l 1 0 * 256 + List.getD l 0 0 * 65536) else if k = 6 then sgn 2147483648 (List.getD l 0 0 + List.getD l 1 0 * 256 + List.getD l 2 0 * 65536 + List.getD l 3 0 * 16777216) else sgn 2147483648 (List.getD l 3 0 + List.getD l 2 0 * 256 + List.getD l 1 0 * 65536 + List.getD l 0 0 * 16777216)
def inV (k x : Int) : Int := if k = 1 then min (128 + (x + 32768) / 65536) 255 else if k ≤ 3 then min ((x + 128) / 256) 32767 else if k ≤ 5 then x else x * 256
def ptV (k : Int) (bs : List Int) (o : Nat) (x : Int) : List Int := if k = 1 then (List.set bs (o + 0) (x / 1 % 256)) else if k = 2 then (List.set (List.set bs (o + 0) (x / 1 % 256)) (o + 1) (x / 256 % 256)) else if k = 3 then (List.set (List.set bs (o + 1) (x / 1 % 256)) (o + 0) (x / 256 % 256)) else if k = 4 then (List.set (List.set (List.set bs (o + 0) (x / 1 % 256)) (o + 1) (x / 256 % 256)) (o + 2) (x / 65536 % 256)) else if k = 5 then (List.set (List.set (List.set bs (o + 2) (x / 1 % 256)) (o + 1) (x / 256 % 256)) (o + 0) (x / 65536 % 256)) else if k = 6 then (List.set (List.set (List.set (List.set bs (o + 0) (x / 1 % 256)) (o + 1) (x / 256 % 256)) (o + 2) (x / 65536 % 256)) (o + 3) (x / 16777216 % 256)) else (List.set (List.set (List.set (List.set bs (o + 3) (x / 1 % 256)) (o + 2) (x / 256 % 256)) (o + 1) (x / 65536 % 256)) (o + 0) (x / 16777216 % 256))
theorem gtV_in {k : Int} (h : 1 ≤ k ∧ k ≤ 7) {l : List Int} (hb : Byt l) (hn : List.length l = szN k) : -2147483648 ≤ gtV k l ∧ gtV k l ≤ 2147483647 := by
 rcases k_cs h with rfl | rfl | rfl | rfl | rfl | rfl | rfl
 ·have := byt_one l hb hn; show -2147483648 ≤ List.getD l 0 0 ∧ List.getD l 0 0 ≤ 2147483647; omega
 ·have := kin2 l hb hn; show -2147483648 ≤ sgn 32768 (List.getD l 0 0 + List.getD l 1 0 * 256) ∧ sgn 32768 (List.getD l 0 0 + List.getD l 1 0 * 256) ≤ 2147483647; omega
 ·have := kin3 l hb hn; show -2147483648 ≤ sgn 32768 (List.getD l 1 0 + List.getD l 0 0 * 256) ∧ sgn 32768 (List.getD l 1 0 + List.getD l 0 0 * 256) ≤ 2147483647; omega
 ·have := kin4 l hb hn; show -2147483648 ≤ sgn 8388608 (List.getD l 0 0 + List.getD l 1 0 * 256 + List.getD l 2 0 * 65536) ∧ sgn 8388608 (List.getD l 0 0 + List.getD l 1 0 * 256 + List.getD l 2 0 * 65536) ≤ 2147483647; omega
 ·have := kin5 l hb hn; show -2147483648 ≤ sgn 8388608 (List.getD l 2 0 + List.getD l 1 0 * 256 + List.getD l 0 0 * 65536) ∧ sgn 8388608 (List.getD l 2 0 + List.getD l 1 0 * 256 + List.getD l 0 0 * 65536) ≤ 2147483647; omega
 ·have := kin6 l hb hn; show -2147483648 ≤ sgn 2147483648 (List.getD l 0 0 + List.getD l 1 0 * 256 + List.getD l 2 0 * 65536 + List.getD l 3 0 * 16777216) ∧ sgn 2147483648 (List.getD l 0 0 + List.getD l 1 0 * 256 + List.getD l 2 0 * 65536 + List.getD l 3 0 * 16777216) ≤ 2147483647; omega
 ·have := kin7 l hb hn; show -2147483648 ≤ sgn 2147483648 (List.getD l 3 0 + List.getD l 2 0 * 256 + List.getD l 1 0 * 65536 + List.getD l 0 0 * 16777216) ∧ sgn 2147483648 (List.getD l 3 0 + List.getD l 2 0 * 256 + List.getD l 1 0 * 65536 + List.getD l 0 0 * 16777216) ≤ 2147483647; omega
theorem encA_set {k : Int} (h : 1 ≤ k ∧ k ≤ 7) {l : List Int} {n i : Nat} (hi : i < n) : dI .u8 (encA k l (i + 1) ++ List.replicate ((n - (i + 1)) * szN k) 0) = dI .u8 (ptV k (encA k l i ++ List.replicate ((n - i) * szN k) 0) (i * szN k) (inV k (List.getD l i 0))) := by
 rcases k_cs h with rfl | rfl | rfl | rfl | rfl | rfl | rfl
 ·exact encL_set1 hi
 ·exact encL_set2 hi
 ·exact encL_set3 hi
 ·exact encL_set4 hi
 ·exact encL_set5 hi
 ·exact encL_set6 hi
 ·exact encL_set7 hi
theorem inV_in {k x : Int} (h : -8388608 ≤ x ∧ x ≤ 8388607) : -2147483648 ≤ inV k x ∧ inV k x ≤ 2147483647 := by
 unfold inV
 (repeat' split) <;> omega
def bdN (x y : Nat) : Nat := y / Nat.gcd x y
theorem bd_ok {x y : Nat} (hx : 1000 ≤ x ∧ x ≤ 768000) (hy : 1000 ≤ y ∧ y ≤ 768000) : phB ((bsN x y : Nat) : Int) ((bdN x y : Nat) : Int) 0 0 0 = true := bs_ok (by omega) (by omega)
theorem bd_in {x y : Nat} (hx : 1000 ≤ x ∧ x ≤ 768000) (hy : 1000 ≤ y ∧ y ≤ 768000) : (1 ≤ bsN x y ∧ bsN x y ≤ 768000) ∧ (1 ≤ bdN x y ∧ bdN x y ≤ 768000) ∧ 1 ≤ Nat.gcd x y := bs_in (by omega) (by omega)
theorem dfS_MV {to : List Int} {n m col : Nat} {p : Int} {acc : List Int} (h : ∀ j, -131072 ≤ List.getD acc j 0 ∧ List.getD acc j 0 ≤ 131072) : ∀ j, -131072 ≤ List.getD (dfS to n m col p acc) j 0 ∧ List.getD (dfS to n m col p acc) j 0 ≤ 131072 := by
 have key : ∀ (l : List Int) (g : Int) (c : Int), (∀ j, -131072 ≤ List.getD l j 0 ∧ List.getD l j 0 ≤ 131072) → (-131072 ≤ c ∧ c ≤ 131072) → ∀ j, -131072 ≤ List.getD (put to n m col g c l) j 0 ∧ List.getD (put to n m col g c l) j 0 ≤ 131072 := by
  intro l g c hl hc j
  unfold put
  rw [List.getD_eq_getElem?_getD, List.getElem?_set]
  by_cases h1 : ixN to g m * n + col = j
  ·rw [if_pos h1]
   by_cases h2 : ixN to g m * n + col < l.length
   ·rw [if_pos h2]; exact hc
   ·rw [if_neg h2]; exact ⟨by decide, by decide⟩
  ·rw [if_neg h1, ← List.getD_eq_getElem?_getD]; exact hl j
 unfold dfS
 (repeat' split) <;> first | exact h | exact key _ _ _ h (by decide) | exact key _ _ _ (key _ _ _ h (by decide)) (by decide)
theorem dfL_co (fr to : List Int) (n m : Nat) : ∀ k j, -131072 ≤ List.getD (dfL fr to n m k) j 0 ∧ List.getD (dfL fr to n m k) j 0 ≤ 131072
 | 0, j => by show -131072 ≤ List.getD (List.replicate (n * m) (0 : Int)) j 0 ∧ _; rw [show dfL fr to n m 0 = List.replicate (n * m) 0 from rfl, getD_rep]; omega
 | k + 1, j => dfS_MV (dfL_co fr to n m k) j
theorem dfL_MV (fr to : List Int) {n m : Nat} (h1 : 1 ≤ n ∧ n ≤ 8) (h2 : 1 ≤ m ∧ m ≤ 8) : MV n m (dfL fr to n m n) := ⟨h1.1, h1.2, h2.1, h2.2, dfL_len fr to n m n, fun j _ => dfL_co fr to n m n j⟩
theorem decA_BV {k : Int} (h : 1 ≤ k ∧ k ≤ 7) {l : List Int} (hb : Byt l) {c f : Nat} (h1 : 1 ≤ c ∧ c ≤ 8) (hf : f ≤ 65536) (hl : List.length l = f * (szN k * c)) : BV c f (decA k l (f * c)) := ⟨h1.1, h1.2, decA_len _ _ _, hf, fun j hj => by
 rw [decA_len] at hj
 have hs := decA_smp h hb (f * c) (by rw [hl, Nat.mul_comm (szN k) c, ← Nat.mul_assoc]; exact Nat.le_refl _)
 exact smpsB_at hs j (by rw [decA_len]; exact hj)⟩
theorem BV.smps {c f : Nat} {l : List Int} (h : BV c f l) : smpsB l = true := all_of (fun j hj => h.smp j hj)
theorem nsz {F s c : Nat} : F * (s * c) = F * c * s := by rw [Nat.mul_comm s c, ← Nat.mul_assoc]
theorem fr_div {F s c : Nat} (h : 1 ≤ s ∧ 1 ≤ c) : ((F * (s * c) : Nat) : Int) / ((s * c : Nat) : Int) = ((F : Nat) : Int) ∧ ((F * (s * c) : Nat) : Int) % ((s * c : Nat) : Int) = 0 := by
 have hp : 1 ≤ s * c := Nat.mul_le_mul h.1 h.2
 rw [Int.natCast_mul F]
 exact ⟨Int.mul_ediv_cancel _ (by omega), Int.mul_emod_left _ _⟩
structure FN (n d f : Int) (ch W : Nat) (l o : List Int) (j : Nat) : Prop where
 jE : j = leftV W f (stp n 0) (d * 65536) 65536
 oE : o = prV ch W l f (stp n 0) (d * 65536) j
theorem FN.same {n d f : Int} {ch W : Nat} {l o o' : List Int} {j j' : Nat} (h : FN n d f ch W l o j) (h' : FN n d f ch W l o' j') : j = j' ∧ o = o' := by
 have e := h.jE.trans h'.jE.symm
 subst e
 exact ⟨rfl, h.oE.trans h'.oE.symm⟩
theorem PhV.bd {x y : Nat} (hx : 1000 ≤ x ∧ x ≤ 768000) (hy : 1000 ≤ y ∧ y ≤ 768000) : PhV ((bsN x y : Nat) : Int) ((bdN x y : Nat) : Int) 0 0 0 := PhV.of (bd_ok hx hy)
theorem fin_pos {n d p f : Int} {ch W q : Nat} {l : List Int} (h : PhV n d 0 p f) (hv : BV ch W l) (hs : p + ((W : Nat) : Int) ≤ 1000000) : p + mvV f (stp n 0) (leftV W f (stp n 0) (d * 65536) 65536) / (d * 65536) ≤ 1125899906842624 := by
 have hb := h.b
 have hst := stp_in hb.1 hb.2.2.1
 have hle : leftV W f (stp n 0) (d * 65536) 65536 ≤ 65536 := by unfold leftV; split <;> omega
 have h2 := mv_in (f := f) (s := stp n 0) (i := leftV W f (stp n 0) (d * 65536) 65536) (by omega) (by omega) (by omega)
 have h3 : ∀ m : Int, 0 ≤ m → m / (d * 65536) ≤ m / 65536 := fun m hm => by
  rw [Int.mul_comm d, ← Int.ediv_ediv_of_nonneg (by omega)]
  exact Int.ediv_le_self _ (Int.ediv_nonneg hm (by omega))
 have h3 := h3 _ h2.1
 have h4 : mvV f (stp n 0) (leftV W f (stp n 0) (d * 65536) 65536) / 65536 ≤ 3600000000000000 / 65536 := Int.ediv_le_ediv (by omega) h2.2
 omega
theorem V_Size (k : Int) (hk : 1 ≤ k ∧ k ≤ 7) : Fun 30 [iE k] (toG []) 0 (iV (((szN k) : Nat) : Int)) (toG []) 0 := by
 rcases k_cs hk with rfl | rfl | rfl | rfl | rfl | rfl | rfl
 ·exact K_size1
 ·exact K_size2
 ·exact K_size3
 ·exact K_size4
 ·exact K_size5
 ·exact K_size6
 ·exact K_size7
theorem V_rSize (k : Int) (hk : 1 ≤ k ∧ k ≤ 7) : Fun 51 [iE k] (toG []) 0 (iV (((szN k) : Nat) : Int)) (toG []) 0 := by
 rcases k_cs hk with rfl | rfl | rfl | rfl | rfl | rfl | rfl
 ·exact K_rsize1
 ·exact K_rsize2
 ·exact K_rsize3
 ·exact K_rsize4
 ·exact K_rsize5
 ·exact K_rsize6
 ·exact K_rsize7
theorem V_get (k : Int) (l : List Int) (n : Nat) (hk : 1 ≤ k ∧ k ≤ 7) (hn : List.length l = n) (hz : n = szN k) (hb : Byt l) : Fun 74 [.agg [iC (((szN k) : Nat) : Int), .d (D.lit (.bool (bgB k)))], .c (.d (D.sl (dI .u8 l) n))] (toG []) 0 (iV (gtV k l)) (toG []) 0 := by
 subst hz
 rcases k_cs hk with rfl | rfl | rfl | rfl | rfl | rfl | rfl
 ·exact K_get1 l hn hb
 ·exact K_get2 l hn hb
 ·exact K_get3 l hn hb
 ·exact K_get4 l hn hb
 ·exact K_get5 l hn hb
 ·exact K_get6 l hn hb
 ·exact K_get7 l hn hb
theorem V_mean (k : Int) (l : List Int) (hk : 1 ≤ k ∧ k ≤ 7) (hn : List.length l = szN k) (hb : Byt l) : Fun 73 [.agg [iC (((szN k) : Nat) : Int), .d (D.lit (.bool (bgB k)))], iE (gtV k l)] (toG []) 0 (.e (.c (.d (D.lit (.int .i32 (decV k l)))))) (toG []) 0 := by
 rcases k_cs hk with rfl | rfl | rfl | rfl | rfl | rfl | rfl
 ·exact K_mean1 false _ (by exact byt_one l hb hn)
 ·exact K_mean2 false _ (by exact kin2 l hb hn)
 ·exact K_mean2 true _ (by exact kin3 l hb hn)
 ·exact K_mean3 false _ (by exact kin4 l hb hn)
 ·exact K_mean3 true _ (by exact kin5 l hb hn)
 ·exact K_mean4 false _ (by exact kin6 l hb hn)
 ·exact K_mean4 true _ (by exact kin7 l hb hn)
theorem V_int (k x : Int) (hk : 1 ≤ k ∧ k ≤ 7) (hx : -8388608 ≤ x ∧ x ≤ 8388607) : Fun 60 [.agg [iC (((szN k) : Nat) : Int), .d (D.lit (.bool (bgB k)))], .c (.d (D.lit (.int .i32 x)))] (toG []) 0 (iV (inV k x)) (toG []) 0 := by
 rcases k_cs hk with rfl | rfl | rfl | rfl | rfl | rfl | rfl
 ·exact K_integer1 false x hx
 ·exact K_integer2 false x hx
 ·exact K_integer2 true x hx
 ·exact K_integer3 false x hx
 ·exact K_integer3 true x hx
 ·exact K_integer4 false x hx
 ·exact K_integer4 true x hx
theorem V_put (k : Int) (bs : List Int) (o n : Nat) (x : Int) (hk : 1 ≤ k ∧ k ≤ 7) (hz : n = szN k) (ho : o + n ≤ List.length bs) (hx : -2147483648 ≤ x ∧ x ≤ 2147483647) : Fun 59 [.agg [iC (((szN k) : Nat) : Int), .d (D.lit (.bool (bgB k)))], .c (.own 0 o n 1 false), iE x] (toG [(0, some (5, .ds (dI .u8 bs)))]) 1 (.tup []) (toG [(0, some (5, .ds (dI .u8 (ptV k bs o x))))]) 1 := by
 subst hz
 rcases k_cs hk with rfl | rfl | rfl | rfl | rfl | rfl | rfl
 ·exact K_put1 bs o x ho hx
 ·exact K_put2 bs o x ho hx
 ·exact K_put3 bs o x ho hx
 ·exact K_put4 bs o x ho hx
 ·exact K_put5 bs o x ho hx
 ·exact K_put6 bs o x ho hx
 ·exact K_put7 bs o x ho hx
theorem zl16k0 {p : Prop} (h : p := by first | omega | with_reducible assumption | (simp only [prV_len, rwV_len, List.length_append, List.length_cons, List.length_nil, List.length_take, List.length_drop, List.length_replicate, List.length_set] <;> omega) | rfl | assumption) : p := h
theorem V_Dec (k : Int) (l : List Int) (m n : Nat) (hk : 1 ≤ k ∧ k ≤ 7) (hn : List.length l = n) (hm : n = m * szN k) (hf : m ≤ 524288) (hb : Byt l) : Fun 52 [iE k, .c (.d (D.sl (dI .u8 l) n))] (toG []) 0 (.tup [.c (.own 0 0 m 1 true), iE 0]) (toG [(0, some (21, .ds (dI .i32 (decA k l m))))]) 1 := by
 have hz0 : 1 ≤ szN k ∧ szN k ≤ 4 := szN_in k
 have hmb : m * szN k ≤ 524288 * 4 := Nat.mul_le_mul hf hz0.2
 have hdm : ((n : Nat) : Int) / ((szN k : Nat) : Int) = ((m : Nat) : Int) := by rw [hm, Int.natCast_mul, Int.mul_ediv_cancel _ (by omega)]
 have hdr : ((n : Nat) : Int) % ((szN k : Nat) : Int) = 0 := by rw [hm, Int.natCast_mul, Int.mul_emod_left]
 refine Fun.mk (n := 55) Tryd.func52 rfl rfl (Nat.le_of_ble_eq_true rfl) ?_
 intro cx hcx
 refine AW.rgs [.no, .no] [0, 1] [] (P := True) (l' := [(0, iV k), (1, sV .u8 l n)]) (g' := []) (nx' := 0) zk trivial ?_
 have hx1 : (((1 : Nat) ≤ (szN k)) ∧ ((szN k) ≤ 4)) := szN_in k
 refine AW.rgs [.no, .call [] (iV (((szN k) : Nat) : Int)) [] 0 [] none, .no] [0, 1, 6] [] (P := (_)) (l' := [(0, iV k), (1, sV .u8 l n), (6, iV (((szN k) : Nat) : Int))]) (g' := []) (nx' := 0) zk (V_Size k zo) ?_
 refine AW.seq ?_
 refine AW.rgs [.no, .b false] [0, 1, 6, 13] [] (P := (¬ ((((szN k) : Nat) : Int) = 0))) (l' := [(0, iV k), (1, sV .u8 l n), (6, iV (((szN k) : Nat) : Int)), (13, bV false)]) (g' := []) (nx' := 0) zk zo ?_
 refine AW.cond_f (.tmp (Look.of rfl)) ?_
 refine AW.skip ?_
 refine AW.seq ?_
 refine AW.rgs [.no, .no, .no, .wi ((m : Nat) : Int), .b false] [0, 1, 6, 18] [] (P := (¬ ((((szN k) : Nat) : Int) : Int) = 0) ∧ ((-9223372036854775808) ≤ (Int.tdiv ((n : Nat) : Int) (((szN k) : Nat) : Int)) ∧ (Int.tdiv ((n : Nat) : Int) (((szN k) : Nat) : Int)) ≤ 9223372036854775807) ∧ (((Int.tdiv ((n : Nat) : Int) (((szN k) : Nat) : Int)) : Int) = ((m : Nat) : Int)) ∧ (¬ ((524288 : Int) < ((m : Nat) : Int)))) (l' := [(0, iV k), (1, sV .u8 l n), (6, iV (((szN k) : Nat) : Int)), (18, bV false)]) (g' := []) (nx' := 0) zk ⟨zo, ⟨by rw [Int.tdiv_eq_ediv_of_nonneg (by omega)]; omega, by rw [Int.tdiv_eq_ediv_of_nonneg (by omega)]; omega⟩, (by rw [Int.tdiv_eq_ediv_of_nonneg (by omega)]; omega), zo⟩ ?_
 refine AW.cond_f (.tmp (Look.of rfl)) ?_
 refine AW.skip ?_
 refine AW.seq ?_
 refine AW.rgs [.no, .no, .no, .ps, .b false] [0, 1, 6, 23] [] (P := ((0 : Int) ≤ (((n : Nat) : Int) : Int)) ∧ ((0 : Int) < ((((szN k) : Nat) : Int) : Int)) ∧ (¬ ((((n : Nat) : Int) % (((szN k) : Nat) : Int)) ≠ 0))) (l' := [(0, iV k), (1, sV .u8 l n), (6, iV (((szN k) : Nat) : Int)), (23, bV false)]) (g' := []) (nx' := 0) zk ⟨zo, zo, zo⟩ ?_
 refine AW.cond_f (.tmp (Look.of rfl)) ?_
 refine AW.skip ?_
 refine AW.rgs [.no, .n (Int.toNat k), .ds [iD (((szN k) : Nat) : Int), D.lit (.bool (bgB k))], .no, .no] [1, 6, 7] [0] (P := ((k : Int) = (((Int.toNat k) : Nat) : Int)) ∧ ((Int.toNat k) < 8) ∧ (List.take 2 (List.drop ((Int.toNat k) * 2) [iD 0, D.lit (.bool false), iD 1, D.lit (.bool false), iD 2, D.lit (.bool false), iD 2, D.lit (.bool true), iD 3, D.lit (.bool false), iD 3, D.lit (.bool true), iD 4, D.lit (.bool false), iD 4, D.lit (.bool true)]) = [iD (((szN k) : Nat) : Int), D.lit (.bool (bgB k))]) ∧ (([iD (((szN k) : Nat) : Int), D.lit (.bool (bgB k))] : List D).length = 2)) (l' := [(1, sV .u8 l n), (6, iV (((szN k) : Nat) : Int)), (7, rV 0 0)]) (g' := [(0, some (105, .ds [iD (((szN k) : Nat) : Int), D.lit (.bool (bgB k))]))]) (nx' := 1) zk ⟨(by first | rfl | omega), zo, (by rcases k_cs hk with rfl | rfl | rfl | rfl | rfl | rfl | rfl <;> rfl), rfl⟩ ?_
 refine AW.rgs [.no, .no, .no, .wi ((m : Nat) : Int), .mk m m (dI .i32 (List.replicate m 0)), .no] [1, 6, 7, 8] [0, 1] (P := (¬ ((((szN k) : Nat) : Int) : Int) = 0) ∧ ((-9223372036854775808) ≤ (Int.tdiv ((n : Nat) : Int) (((szN k) : Nat) : Int)) ∧ (Int.tdiv ((n : Nat) : Int) (((szN k) : Nat) : Int)) ≤ 9223372036854775807) ∧ (((Int.tdiv ((n : Nat) : Int) (((szN k) : Nat) : Int)) : Int) = ((m : Nat) : Int)) ∧ ((((m : Nat) : Int) : Int) = ((m : Nat) : Int)) ∧ ((((m : Nat) : Int) : Int) = ((m : Nat) : Int)) ∧ (m ≤ m) ∧ (4 * m ≤ 281474976710656) ∧ (List.replicate m (D.lit (.int .i32 0)) = dI .i32 (List.replicate m 0))) (l' := [(1, sV .u8 l n), (6, iV (((szN k) : Nat) : Int)), (7, rV 0 0), (8, oV 1 0 m 1)]) (g' := [(0, some (105, .ds [iD (((szN k) : Nat) : Int), D.lit (.bool (bgB k))])), (1, some (21, .ds (dI .i32 (List.replicate m 0))))]) (nx' := 2) zk ⟨zo, ⟨by rw [Int.tdiv_eq_ediv_of_nonneg (by omega)]; omega, by rw [Int.tdiv_eq_ediv_of_nonneg (by omega)]; omega⟩, (by rw [Int.tdiv_eq_ediv_of_nonneg (by omega)]; omega), rfl, rfl, zo, zo, (dI_rep _ _ _)⟩ ?_
 refine AW.seq ?_
 refine AW.rgs [.no, .no, .no] [1, 6, 7, 8, 33, 34] [0, 1] (P := True) (l' := [(1, sV .u8 l n), (6, iV (((szN k) : Nat) : Int)), (7, rV 0 0), (8, oV 1 0 m 1), (33, iV ↑m), (34, iV 0)]) (g' := [(0, some (105, .ds [iD (((szN k) : Nat) : Int), D.lit (.bool (bgB k))])), (1, some (21, .ds (dI .i32 (List.replicate m 0))))]) (nx' := 2) zk trivial ?_
 refine AW.block ?_
 refine AW.loopE 0 hcx (fun (x : {x : Nat // match x with | i => (i ≤ m)}) => match x with | ⟨i, _⟩ => (⟨[(1, sV .u8 l n), (6, iV (((szN k) : Nat) : Int)), (7, rV 0 0), (8, oV 1 0 m 1), (33, iV ((m : Nat) : Int)), (34, iV ((i : Nat) : Int))], [(0, some (105, .ds [iD (((szN k) : Nat) : Int), D.lit (.bool (bgB k))])), (1, some (21, .ds (dI .i32 ((decA k l i) ++ (List.replicate (m - i) 0)))))], 2⟩ : ES)) (fun (x : {x : Nat // match x with | i => (i ≤ m)}) => match x with | ⟨i, _⟩ => m - i) ⟨(0 : Nat), (show ((0 : Nat) ≤ m) from (by first | omega | assumption | simp))⟩ [] (P := (((dI .u8 l) : List D) = (dI .u8 l)) ∧ ((n : Nat) = n) ∧ (((((szN k) : Nat) : Int) : Int) = (((szN k) : Nat) : Int)) ∧ ((0 : Nat) = 0) ∧ ((0 : Nat) = 0) ∧ ((m : Nat) = m) ∧ ((((m : Nat) : Int) : Int) = ((m : Nat) : Int)) ∧ ((0 : Int) = 0) ∧ (([iD (((szN k) : Nat) : Int), D.lit (.bool (bgB k))] : List D) = [iD (((szN k) : Nat) : Int), D.lit (.bool (bgB k))]) ∧ (((dI .i32 ((decA k l 0) ++ (List.replicate (m - 0) 0))) : List D) = (dI .i32 (List.replicate m 0)))) zk ⟨rfl, rfl, rfl, rfl, rfl, rfl, rfl, rfl, rfl, (by first | rfl | exact decL_set (f := decV k) (s := szN k) (l := l) zo rfl)⟩ ?_
 rintro ⟨i, hinv0⟩
 have hi : (i ≤ m) := hinv0
 refine AW.es (l := [(1, sV .u8 l n), (6, iV (((szN k) : Nat) : Int)), (7, rV 0 0), (8, oV 1 0 m 1), (33, iV ((m : Nat) : Int)), (34, iV ((i : Nat) : Int))]) (g := [(0, some (105, .ds [iD (((szN k) : Nat) : Int), D.lit (.bool (bgB k))])), (1, some (21, .ds (dI .i32 ((decA k l i) ++ (List.replicate (m - i) 0)))))]) (nx := 2) rfl rfl rfl ?_
 have hbf : Byt (List.take (szN k) (List.drop (i * szN k) l)) := (hb.drop _).take _
 have hdl : List.length (decA k l i) = i := decL_len _ _ l i
 have hi1 : (i + 1) * szN k = i * szN k + szN k := Nat.succ_mul _ _
 have hi2 : ((i : Nat) : Int) * ((szN k : Nat) : Int) = ((i * szN k : Nat) : Int) := (Int.natCast_mul _ _).symm
 have hi3 : (((i : Nat) : Int) + 1) * ((szN k : Nat) : Int) = (((i + 1) * szN k : Nat) : Int) := by rw [Int.natCast_mul]; rfl
 by_cases hx2 : (((i : Nat) : Int) < ((m : Nat) : Int))
 ·have hx3 : (i + 1) * szN k ≤ m * szN k := Nat.mul_le_mul_right _ zo
  refine AW.rgs [.b true] [1, 6, 7, 8, 33, 34, 35] [0, 1] (P := ((((i : Nat) : Int) < ((m : Nat) : Int)))) (l' := [(1, sV .u8 l n), (6, iV (((szN k) : Nat) : Int)), (7, rV 0 0), (8, oV 1 0 m 1), (33, iV ↑m), (34, iV ↑i), (35, bV true)]) (g' := [(0, some (105, .ds [iD (((szN k) : Nat) : Int), D.lit (.bool (bgB k))])), (1, some (21, .ds (dI .i32 ((decA k l i) ++ (List.replicate (m - i) 0)))))]) (nx' := 2) zk zo ?_
  refine AW.seq ?_
  refine AW.cond_t (.tmp (Look.of rfl)) ?_
  refine AW.skip ?_
  refine AW.seq ?_
  refine AW.block ?_
  refine AW.rgs [.no, .no] [1, 6, 7, 8, 9, 33, 34] [0, 1] (P := True) (l' := [(1, sV .u8 l n), (6, iV (((szN k) : Nat) : Int)), (7, rV 0 0), (8, oV 1 0 m 1), (9, iV ↑i), (33, iV ↑m), (34, iV ↑i)]) (g' := [(0, some (105, .ds [iD (((szN k) : Nat) : Int), D.lit (.bool (bgB k))])), (1, some (21, .ds (dI .i32 ((decA k l i) ++ (List.replicate (m - i) 0)))))]) (nx' := 2) zk trivial ?_
  have hx4 : ((((-2147483648) : Int) ≤ (gtV k (List.take (szN k) (List.drop (i * (szN k)) l)))) ∧ ((gtV k (List.take (szN k) (List.drop (i * (szN k)) l))) ≤ 2147483647)) := gtV_in (by assumption) (by assumption) (by first | omega | assumption | (simp only [List.length_take, List.length_drop]; omega))
  refine AW.rg [.no, .no, .no, .no, .no, .no, .no, .wi (((i * (szN k)) : Nat) : Int), .no, .w, .no, .wi ((((i + 1) * (szN k)) : Nat) : Int), .sls (i * (szN k)) ((i + 1) * (szN k)) (szN k) (dI .u8 (List.take (szN k) (List.drop (i * (szN k)) l))), .call [] (iV (gtV k (List.take (szN k) (List.drop (i * (szN k)) l)))) [] 0 [] none, .call [] (.e (.c (.d (D.lit (.int .i32 (decV k (List.take (szN k) (List.drop (i * (szN k)) l)))))))) [] 0 [] none, .n2 i i, .ds (dI .i32 (List.set ((decA k l i) ++ (List.replicate (m - i) 0)) i (decV k (List.take (szN k) (List.drop (i * (szN k)) l)))))] [1, 6, 7, 8, 33, 34] [0, 1] (P := ((-9223372036854775808) ≤ (((i : Nat) : Int) * (((szN k) : Nat) : Int)) ∧ (((i : Nat) : Int) * (((szN k) : Nat) : Int)) ≤ 9223372036854775807) ∧ (((((i : Nat) : Int) * (((szN k) : Nat) : Int)) : Int) = (((i * (szN k)) : Nat) : Int)) ∧ ((-9223372036854775808) ≤ (((i : Nat) : Int) + 1) ∧ (((i : Nat) : Int) + 1) ≤ 9223372036854775807) ∧ ((-9223372036854775808) ≤ ((((i : Nat) : Int) + 1) * (((szN k) : Nat) : Int)) ∧ ((((i : Nat) : Int) + 1) * (((szN k) : Nat) : Int)) ≤ 9223372036854775807) ∧ ((((((i : Nat) : Int) + 1) * (((szN k) : Nat) : Int)) : Int) = ((((i + 1) * (szN k)) : Nat) : Int)) ∧ (((((i * (szN k)) : Nat) : Int) : Int) = (((i * (szN k)) : Nat) : Int)) ∧ ((((((i + 1) * (szN k)) : Nat) : Int) : Int) = ((((i + 1) * (szN k)) : Nat) : Int)) ∧ ((i * (szN k)) ≤ ((i + 1) * (szN k))) ∧ (((i + 1) * (szN k)) ≤ n) ∧ (((i + 1) * (szN k)) - (i * (szN k)) = (szN k)) ∧ (List.take ((szN k) * 1) (List.drop ((i * (szN k)) * 1) (dI .u8 l)) = (dI .u8 (List.take (szN k) (List.drop (i * (szN k)) l)))) ∧ (_) ∧ (_) ∧ ((((i : Nat) : Int) : Int) = ((i : Nat) : Int)) ∧ (i < m) ∧ ((0 : Nat) + i * 1 = i) ∧ (i + 1 ≤ (dI .i32 ((decA k l i) ++ (List.replicate (m - i) 0))).length) ∧ (updD (dI .i32 ((decA k l i) ++ (List.replicate (m - i) 0))) i [D.lit (.int .i32 (decV k (List.take (szN k) (List.drop (i * (szN k)) l))))] = dI .i32 (List.set ((decA k l i) ++ (List.replicate (m - i) 0)) i (decV k (List.take (szN k) (List.drop (i * (szN k)) l)))))) (l' := [(1, sV .u8 l n), (6, iV (((szN k) : Nat) : Int)), (7, rV 0 0), (8, oV 1 0 m 1), (33, iV ↑m), (34, iV ↑i)]) (g' := [(0, some (105, .ds [iD (((szN k) : Nat) : Int), D.lit (.bool (bgB k))])), (1, some (21, .ds (dI .i32 (List.set ((decA k l i) ++ (List.replicate (m - i) 0)) i (decV k (List.take (szN k) (List.drop (i * (szN k)) l)))))))]) (nx' := 2) zk ⟨⟨by omega, by omega⟩, zo, ⟨by omega, by omega⟩, ⟨by omega, by omega⟩, zo, rfl, rfl, zo, zo, zo, (by first | rfl | with_reducible assumption | exact dI_app _ _ _ | exact dI_rep _ _ _ | (simp only [dI_take, dI_drop, dI_app, Nat.mul_one, Nat.zero_mul, List.drop_zero, List.nil_append, List.append_nil]; done) | (simp only [dI_take, dI_drop, dI_app, Nat.mul_one, Nat.zero_mul, List.drop_zero, List.nil_append, List.append_nil]; rfl) | (rw [List.take_of_length_le (by simp only [prV_len, rwV_len, dI_len, List.length_drop, List.length_replicate, Nat.mul_one] <;> omega)]; first | rfl | (simp only [dI_drop, Nat.mul_one, Nat.zero_mul, List.drop_zero]; done) | (simp only [dI_drop, Nat.mul_one, Nat.zero_mul, List.drop_zero]; rfl))), (V_get k (List.take (szN k) (List.drop (i * (szN k)) l)) (szN k) zo zl16k0 rfl zl16k0), (V_mean k (List.take (szN k) (List.drop (i * (szN k)) l)) zo zl16k0 zl16k0), rfl, zo, zo, (by first | omega | (simp only [prV_len, rwV_len, dI_len, List.length_append, List.length_cons, List.length_nil, List.length_take, List.length_drop, List.length_replicate, List.length_set, List.length_map, List.length_reverse, Nat.mul_one] <;> omega) | rfl), (dI_set _ _ _ _)⟩ ?_
  refine AW.rg [.w, .no] [1, 6, 7, 8, 33, 34] [0, 1] (P := ((-9223372036854775808) ≤ (((i : Nat) : Int) + 1) ∧ (((i : Nat) : Int) + 1) ≤ 9223372036854775807)) (l' := [(1, sV .u8 l n), (6, iV (((szN k) : Nat) : Int)), (7, rV 0 0), (8, oV 1 0 m 1), (33, iV ↑m), (34, iV (↑i + 1))]) (g' := [(0, some (105, .ds [iD (((szN k) : Nat) : Int), D.lit (.bool (bgB k))])), (1, some (21, .ds (dI .i32 (List.set ((decA k l i) ++ (List.replicate (m - i) 0)) i (decV k (List.take (szN k) (List.drop (i * (szN k)) l)))))))]) (nx' := 2) zk ⟨by omega, by omega⟩ ?_
  exact Rd.of ⟨((i + 1) : Nat), (show ((i + 1) ≤ m) from (by first | omega | assumption | simp))⟩ [] (P := (((dI .u8 l) : List D) = (dI .u8 l)) ∧ ((n : Nat) = n) ∧ (((((szN k) : Nat) : Int) : Int) = (((szN k) : Nat) : Int)) ∧ ((0 : Nat) = 0) ∧ ((0 : Nat) = 0) ∧ ((m : Nat) = m) ∧ ((((m : Nat) : Int) : Int) = ((m : Nat) : Int)) ∧ (((((i + 1) : Nat) : Int) : Int) = (((i : Nat) : Int) + 1)) ∧ (([iD (((szN k) : Nat) : Int), D.lit (.bool (bgB k))] : List D) = [iD (((szN k) : Nat) : Int), D.lit (.bool (bgB k))]) ∧ (((dI .i32 ((decA k l (i + 1)) ++ (List.replicate (m - (i + 1)) 0))) : List D) = (dI .i32 (List.set ((decA k l i) ++ (List.replicate (m - i) 0)) i (decV k (List.take (szN k) (List.drop (i * (szN k)) l))))))) zk ⟨rfl, rfl, rfl, rfl, rfl, rfl, rfl, (by first | rfl | omega | assumption | (simp; done) | (simp; omega)), rfl, (by first | rfl | exact decL_set (f := decV k) (s := szN k) (l := l) zo rfl)⟩ (show m - (i + 1) < m - i from (by first | omega | (show _ < _; simp; omega)))
 ·refine AW.rgs [.b false] [1, 6, 7, 8, 33, 34, 35] [0, 1] (P := (¬ (((i : Nat) : Int) < ((m : Nat) : Int)))) (l' := [(1, sV .u8 l n), (6, iV (((szN k) : Nat) : Int)), (7, rV 0 0), (8, oV 1 0 m 1), (33, iV ↑m), (34, iV ↑i), (35, bV false)]) (g' := [(0, some (105, .ds [iD (((szN k) : Nat) : Int), D.lit (.bool (bgB k))])), (1, some (21, .ds (dI .i32 ((decA k l i) ++ (List.replicate (m - i) 0)))))]) (nx' := 2) zk zo ?_
  refine AW.seq ?_
  refine AW.cond_f (.tmp (Look.of rfl)) ?_
  refine AW.exit ?_
  refine AW.rgs [.no, .no, .no] [4, 5] [1] (P := True) (l' := [(4, oV 1 0 m 1), (5, iV 0)]) (g' := [(1, some (21, .ds (dI .i32 ((decA k l i) ++ (List.replicate (m - i) 0)))))]) (nx' := 2) zk trivial ?_
  refine AW.ret ?_
  obtain rfl : m = i := by omega
  exact EndP.of (.inr rfl) [(0, 1)] (P := ((0 : Nat) = 0) ∧ ((m : Nat) = m) ∧ ((0 : Int) = 0) ∧ (((dI .i32 (decA k l m)) : List D) = (dI .i32 ((decA k l m) ++ (List.replicate (m - m) 0))))) zk ⟨rfl, rfl, rfl, (by rw [Nat.sub_self]; simp)⟩
theorem V_Enc (k : Int) (l : List Int) (n : Nat) (hk : 1 ≤ k ∧ k ≤ 7) (hn : List.length l = n) (hf : n ≤ 524288) (hs : smpsB l = true) : Fun 32 [iE k, .c (.d (D.sl (dI .i32 l) n))] (toG []) 0 (.tup [.c (.own 0 0 (n * (szN k)) 1 true), iE 0]) (toG [(0, some (5, .ds (dI .u8 (encA k l n))))]) 1 := by
 have hz0 : 1 ≤ szN k ∧ szN k ≤ 4 := szN_in k
 have hmb : n * szN k ≤ 524288 * 4 := Nat.mul_le_mul hf hz0.2
 have hni : ((n : Nat) : Int) * ((szN k : Nat) : Int) = ((n * szN k : Nat) : Int) := (Int.natCast_mul _ _).symm
 refine Fun.mk (n := 52) Tryd.func32 rfl rfl (Nat.le_of_ble_eq_true rfl) ?_
 intro cx hcx
 refine AW.rgs [.no, .no] [0, 1] [] (P := True) (l' := [(0, iV k), (1, sV .i32 l n)]) (g' := []) (nx' := 0) zk trivial ?_
 have hx1 : (((1 : Nat) ≤ (szN k)) ∧ ((szN k) ≤ 4)) := szN_in k
 refine AW.rgs [.no, .call [] (iV (((szN k) : Nat) : Int)) [] 0 [] none, .no] [0, 1, 6] [] (P := (_)) (l' := [(0, iV k), (1, sV .i32 l n), (6, iV (((szN k) : Nat) : Int))]) (g' := []) (nx' := 0) zk (V_Size k zo) ?_
 refine AW.seq ?_
 refine AW.rgs [.no, .b false] [0, 1, 6, 14] [] (P := (¬ ((((szN k) : Nat) : Int) = 0))) (l' := [(0, iV k), (1, sV .i32 l n), (6, iV (((szN k) : Nat) : Int)), (14, bV false)]) (g' := []) (nx' := 0) zk zo ?_
 refine AW.cond_f (.tmp (Look.of rfl)) ?_
 refine AW.skip ?_
 refine AW.seq ?_
 refine AW.rgs [.no, .no, .b false] [0, 1, 6, 17] [] (P := (¬ ((524288 : Int) < ((n : Nat) : Int)))) (l' := [(0, iV k), (1, sV .i32 l n), (6, iV (((szN k) : Nat) : Int)), (17, bV false)]) (g' := []) (nx' := 0) zk zo ?_
 refine AW.cond_f (.tmp (Look.of rfl)) ?_
 refine AW.skip ?_
 refine AW.rgs [.no, .n (Int.toNat k), .ds [iD (((szN k) : Nat) : Int), D.lit (.bool (bgB k))], .no, .no] [1, 6, 7] [0] (P := ((k : Int) = (((Int.toNat k) : Nat) : Int)) ∧ ((Int.toNat k) < 8) ∧ (List.take 2 (List.drop ((Int.toNat k) * 2) [iD 0, D.lit (.bool false), iD 1, D.lit (.bool false), iD 2, D.lit (.bool false), iD 2, D.lit (.bool true), iD 3, D.lit (.bool false), iD 3, D.lit (.bool true), iD 4, D.lit (.bool false), iD 4, D.lit (.bool true)]) = [iD (((szN k) : Nat) : Int), D.lit (.bool (bgB k))]) ∧ (([iD (((szN k) : Nat) : Int), D.lit (.bool (bgB k))] : List D).length = 2)) (l' := [(1, sV .i32 l n), (6, iV (((szN k) : Nat) : Int)), (7, rV 0 0)]) (g' := [(0, some (105, .ds [iD (((szN k) : Nat) : Int), D.lit (.bool (bgB k))]))]) (nx' := 1) zk ⟨(by first | rfl | omega), zo, (by rcases k_cs hk with rfl | rfl | rfl | rfl | rfl | rfl | rfl <;> rfl), rfl⟩ ?_
 refine AW.rgs [.no, .no, .no, .wi (((n * (szN k)) : Nat) : Int), .mk (n * (szN k)) (n * (szN k)) (dI .u8 (List.replicate (n * (szN k)) 0)), .no] [1, 6, 7, 8] [0, 1] (P := ((-9223372036854775808) ≤ (((n : Nat) : Int) * (((szN k) : Nat) : Int)) ∧ (((n : Nat) : Int) * (((szN k) : Nat) : Int)) ≤ 9223372036854775807) ∧ (((((n : Nat) : Int) * (((szN k) : Nat) : Int)) : Int) = (((n * (szN k)) : Nat) : Int)) ∧ (((((n * (szN k)) : Nat) : Int) : Int) = (((n * (szN k)) : Nat) : Int)) ∧ (((((n * (szN k)) : Nat) : Int) : Int) = (((n * (szN k)) : Nat) : Int)) ∧ ((n * (szN k)) ≤ (n * (szN k))) ∧ (1 * (n * (szN k)) ≤ 281474976710656) ∧ (List.replicate (n * (szN k)) (D.lit (.int .u8 0)) = dI .u8 (List.replicate (n * (szN k)) 0))) (l' := [(1, sV .i32 l n), (6, iV (((szN k) : Nat) : Int)), (7, rV 0 0), (8, oV 1 0 (n * (szN k)) 1)]) (g' := [(0, some (105, .ds [iD (((szN k) : Nat) : Int), D.lit (.bool (bgB k))])), (1, some (5, .ds (dI .u8 (List.replicate (n * (szN k)) 0))))]) (nx' := 2) zk ⟨⟨by omega, by omega⟩, zo, rfl, rfl, zo, zo, (dI_rep _ _ _)⟩ ?_
 refine AW.seq ?_
 refine AW.rgs [.no, .no, .no] [6, 7, 8, 26, 27, 28] [0, 1] (P := True) (l' := [(6, iV (((szN k) : Nat) : Int)), (7, rV 0 0), (8, oV 1 0 (n * (szN k)) 1), (26, sV .i32 l n), (27, iV ↑n), (28, iV 0)]) (g' := [(0, some (105, .ds [iD (((szN k) : Nat) : Int), D.lit (.bool (bgB k))])), (1, some (5, .ds (dI .u8 (List.replicate (n * (szN k)) 0))))]) (nx' := 2) zk trivial ?_
 refine AW.block ?_
 refine AW.loopE 0 hcx (fun (x : {x : Nat // match x with | i => (i ≤ n)}) => match x with | ⟨i, _⟩ => (⟨[(6, iV (((szN k) : Nat) : Int)), (7, rV 0 0), (8, oV 1 0 (n * (szN k)) 1), (26, sV .i32 l n), (27, iV ((n : Nat) : Int)), (28, iV ((i : Nat) : Int))], [(0, some (105, .ds [iD (((szN k) : Nat) : Int), D.lit (.bool (bgB k))])), (1, some (5, .ds (dI .u8 ((encA k l i) ++ (List.replicate ((n - i) * (szN k)) 0)))))], 2⟩ : ES)) (fun (x : {x : Nat // match x with | i => (i ≤ n)}) => match x with | ⟨i, _⟩ => n - i) ⟨(0 : Nat), (show ((0 : Nat) ≤ n) from (by first | omega | assumption | simp))⟩ [] (P := (((((szN k) : Nat) : Int) : Int) = (((szN k) : Nat) : Int)) ∧ ((0 : Nat) = 0) ∧ ((0 : Nat) = 0) ∧ (((n * (szN k)) : Nat) = (n * (szN k))) ∧ (((dI .i32 l) : List D) = (dI .i32 l)) ∧ ((n : Nat) = n) ∧ ((((n : Nat) : Int) : Int) = ((n : Nat) : Int)) ∧ ((0 : Int) = 0) ∧ (([iD (((szN k) : Nat) : Int), D.lit (.bool (bgB k))] : List D) = [iD (((szN k) : Nat) : Int), D.lit (.bool (bgB k))]) ∧ (((dI .u8 ((encA k l 0) ++ (List.replicate ((n - 0) * (szN k)) 0))) : List D) = (dI .u8 (List.replicate (n * (szN k)) 0)))) zk ⟨rfl, rfl, rfl, rfl, rfl, rfl, rfl, rfl, rfl, (by first | rfl | (show dI .u8 ([] ++ List.replicate ((n - 0) * szN k) 0) = _; rw [List.nil_append, Nat.sub_zero]) | exact encA_set hk zo)⟩ ?_
 rintro ⟨i, hinv0⟩
 have hi : (i ≤ n) := hinv0
 refine AW.es (l := [(6, iV (((szN k) : Nat) : Int)), (7, rV 0 0), (8, oV 1 0 (n * (szN k)) 1), (26, sV .i32 l n), (27, iV ((n : Nat) : Int)), (28, iV ((i : Nat) : Int))]) (g := [(0, some (105, .ds [iD (((szN k) : Nat) : Int), D.lit (.bool (bgB k))])), (1, some (5, .ds (dI .u8 ((encA k l i) ++ (List.replicate ((n - i) * (szN k)) 0)))))]) (nx := 2) rfl rfl rfl ?_
 have hel : List.length (encA k l i) = i * szN k := encA_len hk l i
 have hi4 : i * szN k + (n - i) * szN k = n * szN k := by rw [← Nat.add_mul, show i + (n - i) = n by omega]
 have hi1 : (i + 1) * szN k = i * szN k + szN k := Nat.succ_mul _ _
 have hi2 : ((i : Nat) : Int) * ((szN k : Nat) : Int) = ((i * szN k : Nat) : Int) := (Int.natCast_mul _ _).symm
 have hi3 : (((i : Nat) : Int) + 1) * ((szN k : Nat) : Int) = (((i + 1) * szN k : Nat) : Int) := by rw [Int.natCast_mul]; rfl
 by_cases hx2 : (((i : Nat) : Int) < ((n : Nat) : Int))
 ·have hsi2 : smpB (List.getD l i 0) = true := smpsB_at hs i (by omega)
  have hx4 : (i + 1) * szN k ≤ n * szN k := Nat.mul_le_mul_right _ zo
  refine AW.rgs [.b true] [6, 7, 8, 26, 27, 28, 29] [0, 1] (P := ((((i : Nat) : Int) < ((n : Nat) : Int)))) (l' := [(6, iV (((szN k) : Nat) : Int)), (7, rV 0 0), (8, oV 1 0 (n * (szN k)) 1), (26, sV .i32 l n), (27, iV ↑n), (28, iV ↑i), (29, bV true)]) (g' := [(0, some (105, .ds [iD (((szN k) : Nat) : Int), D.lit (.bool (bgB k))])), (1, some (5, .ds (dI .u8 ((encA k l i) ++ (List.replicate ((n - i) * (szN k)) 0)))))]) (nx' := 2) zk zo ?_
  refine AW.seq ?_
  refine AW.cond_t (.tmp (Look.of rfl)) ?_
  refine AW.skip ?_
  refine AW.seq ?_
  refine AW.block ?_
  have hsi4 : smpB (List.getD l i 0) = true := smpsB_at hs i (by omega)
  have hx6 : -8388608 ≤ (List.getD l i 0) ∧ (List.getD l i 0) ≤ 8388607 := smps_at hs i zo
  refine AW.rgs [.no, .n i, .d (D.lit (.int .i32 (List.getD l i 0))), .no, .no] [6, 7, 8, 9, 10, 26, 27, 28] [0, 1] (P := ((((i : Nat) : Int) : Int) = ((i : Nat) : Int)) ∧ (i < n) ∧ ((List.drop i (dI .i32 l))[0]? = some (D.lit (.int .i32 (List.getD l i 0))))) (l' := [(6, iV (((szN k) : Nat) : Int)), (7, rV 0 0), (8, oV 1 0 (n * (szN k)) 1), (9, iV ↑i), (10, .e (.c (.d (D.lit (.int .i32 (List.getD l i 0)))))), (26, sV .i32 l n), (27, iV ↑n), (28, iV ↑i)]) (g' := [(0, some (105, .ds [iD (((szN k) : Nat) : Int), D.lit (.bool (bgB k))])), (1, some (5, .ds (dI .u8 ((encA k l i) ++ (List.replicate ((n - i) * (szN k)) 0)))))]) (nx' := 2) zk ⟨rfl, zo, (dI_at _ _ _ (by first | omega | (simp only [prV_len, rwV_len, dI_len, List.length_append, List.length_cons, List.length_nil, List.length_take, List.length_drop, List.length_replicate, List.length_set, List.length_map, List.length_reverse, Nat.mul_one] <;> omega) | rfl))⟩ ?_
  refine AW.seq ?_
  have hsi6 : smpB (List.getD l i 0) = true := smpsB_at hs i (by omega)
  refine AW.rgs [.no, .call [] (bV true) [] 0 [] none, .no] [6, 7, 8, 9, 10, 26, 27, 28, 35] [0, 1] (P := (Fun 58 [.c (.d (D.lit (.int .i32 (List.getD l i 0))))] (toG []) 0 (bV true) (toG []) 0)) (l' := [(6, iV (((szN k) : Nat) : Int)), (7, rV 0 0), (8, oV 1 0 (n * (szN k)) 1), (9, iV ↑i), (10, .e (.c (.d (D.lit (.int .i32 (List.getD l i 0)))))), (26, sV .i32 l n), (27, iV ↑n), (28, iV ↑i), (35, bV false)]) (g' := [(0, some (105, .ds [iD (((szN k) : Nat) : Int), D.lit (.bool (bgB k))])), (1, some (5, .ds (dI .u8 ((encA k l i) ++ (List.replicate ((n - i) * (szN k)) 0)))))]) (nx' := 2) zk (by have h0 := (G_isSample (List.getD l i 0)); rw [hsi6] at h0; exact h0) ?_
  refine AW.cond_f (.tmp (Look.of rfl)) ?_
  refine AW.skip ?_
  have hsi7 : smpB (List.getD l i 0) = true := smpsB_at hs i (by omega)
  have hx9 : ((((-2147483648) : Int) ≤ (inV k (List.getD l i 0))) ∧ ((inV k (List.getD l i 0)) ≤ 2147483647)) := inV_in zo
  refine AW.rg [.no, .no, .no, .no, .wi (((i * (szN k)) : Nat) : Int), .no, .w, .no, .wi ((((i + 1) * (szN k)) : Nat) : Int), .sl (i * (szN k)) ((i + 1) * (szN k)) (i * (szN k)) (szN k), .no, .no, .call [] (iV (inV k (List.getD l i 0))) [] 0 [] none, .call [1] (.tup []) [(0, some (5, .ds (dI .u8 (ptV k ((encA k l i) ++ (List.replicate ((n - i) * (szN k)) 0)) (i * (szN k)) (inV k (List.getD l i 0))))))] 1 [] none] [6, 7, 8, 26, 27, 28] [0, 1] (P := ((-9223372036854775808) ≤ (((i : Nat) : Int) * (((szN k) : Nat) : Int)) ∧ (((i : Nat) : Int) * (((szN k) : Nat) : Int)) ≤ 9223372036854775807) ∧ (((((i : Nat) : Int) * (((szN k) : Nat) : Int)) : Int) = (((i * (szN k)) : Nat) : Int)) ∧ ((-9223372036854775808) ≤ (((i : Nat) : Int) + 1) ∧ (((i : Nat) : Int) + 1) ≤ 9223372036854775807) ∧ ((-9223372036854775808) ≤ ((((i : Nat) : Int) + 1) * (((szN k) : Nat) : Int)) ∧ ((((i : Nat) : Int) + 1) * (((szN k) : Nat) : Int)) ≤ 9223372036854775807) ∧ ((((((i : Nat) : Int) + 1) * (((szN k) : Nat) : Int)) : Int) = ((((i + 1) * (szN k)) : Nat) : Int)) ∧ (((((i * (szN k)) : Nat) : Int) : Int) = (((i * (szN k)) : Nat) : Int)) ∧ ((((((i + 1) * (szN k)) : Nat) : Int) : Int) = ((((i + 1) * (szN k)) : Nat) : Int)) ∧ ((i * (szN k)) ≤ ((i + 1) * (szN k))) ∧ (((i + 1) * (szN k)) ≤ (n * (szN k))) ∧ ((0 : Nat) + (i * (szN k)) * 1 = (i * (szN k))) ∧ (((i + 1) * (szN k)) - (i * (szN k)) = (szN k)) ∧ (_) ∧ (_)) (l' := [(6, iV (((szN k) : Nat) : Int)), (7, rV 0 0), (8, oV 1 0 (n * (szN k)) 1), (26, sV .i32 l n), (27, iV ↑n), (28, iV ↑i)]) (g' := [(0, some (105, .ds [iD (((szN k) : Nat) : Int), D.lit (.bool (bgB k))])), (1, some (5, .ds (dI .u8 (ptV k ((encA k l i) ++ (List.replicate ((n - i) * (szN k)) 0)) (i * (szN k)) (inV k (List.getD l i 0))))))]) (nx' := 2) zk ⟨⟨by omega, by omega⟩, zo, ⟨by omega, by omega⟩, ⟨by omega, by omega⟩, zo, rfl, rfl, zo, zo, zo, zo, (V_int k (List.getD l i 0) zo zl16k0), (V_put k ((encA k l i) ++ (List.replicate ((n - i) * (szN k)) 0)) (i * (szN k)) (szN k) (inV k (List.getD l i 0)) zo rfl zl16k0 zl16k0)⟩ ?_
  refine AW.rg [.w, .no] [6, 7, 8, 26, 27, 28] [0, 1] (P := ((-9223372036854775808) ≤ (((i : Nat) : Int) + 1) ∧ (((i : Nat) : Int) + 1) ≤ 9223372036854775807)) (l' := [(6, iV (((szN k) : Nat) : Int)), (7, rV 0 0), (8, oV 1 0 (n * (szN k)) 1), (26, sV .i32 l n), (27, iV ↑n), (28, iV (↑i + 1))]) (g' := [(0, some (105, .ds [iD (((szN k) : Nat) : Int), D.lit (.bool (bgB k))])), (1, some (5, .ds (dI .u8 (ptV k ((encA k l i) ++ (List.replicate ((n - i) * (szN k)) 0)) (i * (szN k)) (inV k (List.getD l i 0))))))]) (nx' := 2) zk ⟨by omega, by omega⟩ ?_
  exact Rd.of ⟨((i + 1) : Nat), (show ((i + 1) ≤ n) from (by first | omega | assumption | simp))⟩ [] (P := (((((szN k) : Nat) : Int) : Int) = (((szN k) : Nat) : Int)) ∧ ((0 : Nat) = 0) ∧ ((0 : Nat) = 0) ∧ (((n * (szN k)) : Nat) = (n * (szN k))) ∧ (((dI .i32 l) : List D) = (dI .i32 l)) ∧ ((n : Nat) = n) ∧ ((((n : Nat) : Int) : Int) = ((n : Nat) : Int)) ∧ (((((i + 1) : Nat) : Int) : Int) = (((i : Nat) : Int) + 1)) ∧ (([iD (((szN k) : Nat) : Int), D.lit (.bool (bgB k))] : List D) = [iD (((szN k) : Nat) : Int), D.lit (.bool (bgB k))]) ∧ (((dI .u8 ((encA k l (i + 1)) ++ (List.replicate ((n - (i + 1)) * (szN k)) 0))) : List D) = (dI .u8 (ptV k ((encA k l i) ++ (List.replicate ((n - i) * (szN k)) 0)) (i * (szN k)) (inV k (List.getD l i 0)))))) zk ⟨rfl, rfl, rfl, rfl, rfl, rfl, rfl, (by first | rfl | omega | assumption | (simp; done) | (simp; omega)), rfl, (by first | rfl | (show dI .u8 ([] ++ List.replicate ((n - 0) * szN k) 0) = _; rw [List.nil_append, Nat.sub_zero]) | exact encA_set hk zo)⟩ (show n - (i + 1) < n - i from (by first | omega | (show _ < _; simp; omega)))
 ·refine AW.rgs [.b false] [6, 7, 8, 26, 27, 28, 29] [0, 1] (P := (¬ (((i : Nat) : Int) < ((n : Nat) : Int)))) (l' := [(6, iV (((szN k) : Nat) : Int)), (7, rV 0 0), (8, oV 1 0 (n * (szN k)) 1), (26, sV .i32 l n), (27, iV ↑n), (28, iV ↑i), (29, bV false)]) (g' := [(0, some (105, .ds [iD (((szN k) : Nat) : Int), D.lit (.bool (bgB k))])), (1, some (5, .ds (dI .u8 ((encA k l i) ++ (List.replicate ((n - i) * (szN k)) 0)))))]) (nx' := 2) zk zo ?_
  refine AW.seq ?_
  refine AW.cond_f (.tmp (Look.of rfl)) ?_
  refine AW.exit ?_
  refine AW.rgs [.no, .no, .no] [4, 5] [1] (P := True) (l' := [(4, oV 1 0 (n * (szN k)) 1), (5, iV 0)]) (g' := [(1, some (5, .ds (dI .u8 ((encA k l i) ++ (List.replicate ((n - i) * (szN k)) 0)))))]) (nx' := 2) zk trivial ?_
  refine AW.ret ?_
  obtain rfl : n = i := by omega
  exact EndP.of (.inr rfl) [(0, 1)] (P := ((0 : Nat) = 0) ∧ (((n * (szN k)) : Nat) = (n * (szN k))) ∧ ((0 : Int) = 0) ∧ (((dI .u8 (encA k l n)) : List D) = (dI .u8 ((encA k l n) ++ (List.replicate ((n - n) * (szN k)) 0))))) zk ⟨rfl, rfl, rfl, (by rw [Nat.sub_self, Nat.zero_mul]; simp)⟩
end Go.Proofs.YtigiolfloefjnaaDoor
