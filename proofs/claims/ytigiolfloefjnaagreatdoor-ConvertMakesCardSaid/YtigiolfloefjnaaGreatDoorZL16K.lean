/- Merged texts. -/
import Derived.Test.YtigiolfloefjnaaGreatDoorZL15
import Derived.Test.YtigiolfloefjnaaGreatDoorZLMade
import Derived.Test.YtigiolfloefjnaaGreatDoorZL04V
import Derived.Test.YtigiolfloefjnaaGreatDoorZL04K
import Derived.Test.YtigiolfloefjnaaGreatDoorZL07E
namespace Go.Proofs.YtigiolfloefjnaaGreatDoor
open Go.ChangeShapes Go.WideShapes Go.ChangeAt Go.RowKit
set_option linter.unusedVariables false
set_option linter.unusedSimpArgs false
theorem X_New (l : List Int) (n : Nat) (hn : List.length l = n) (hb : n ≤ 9223372036854775807) (hy : Byt l) : ∃ (d : List Int), (Byt d) ∧ (List.length d ≤ 300) ∧ (Fun 7 [.c (.d (D.sl (dI .u8 l) n))] (toG []) 0 (rV 0 0) (toG [(0, some (61, .ds [D.sl (dI .u8 d) (List.length d)]))]) 1) := ⟨(List.take (min n 300) l), hy.take _, (by rw [List.length_take]; omega), G_New l n hn hb⟩
theorem X_Next (l : List Int) (n : Int) (hb : Byt l) : ∃ (q : Nat) (d : List Int), ((q : Int) < n ∨ q = 0) ∧ (q ≤ 255) ∧ (Byt d) ∧ (List.length d ≤ List.length l) ∧ (Fun 22 [.c (.ptr 0 0), iE n] (toG [(0, some (61, .ds [D.sl (dI .u8 l) (List.length l)]))]) 1 (iV ((q : Nat) : Int)) (toG [(0, some (61, .ds [D.sl (dI .u8 d) (List.length d)]))]) 1) := ⟨(nextN l n), (nextL l n), (nextV_in l n hb).1, (nextV_in l n hb).2, nextL_byt n hb, nextL_len l n, G_Next l n hb⟩
def bsN (x y : Nat) : Nat := x / Nat.gcd x y
theorem bs_in {x y : Nat} (hx : 1 ≤ x ∧ x ≤ 768000) (hy : 1 ≤ y ∧ y ≤ 768000) : (1 ≤ bsN x y ∧ bsN x y ≤ 768000) ∧ (1 ≤ y / Nat.gcd x y ∧ y / Nat.gcd x y ≤ 768000) ∧ 1 ≤ Nat.gcd x y := by
 have hg : 0 < Nat.gcd x y := Nat.gcd_pos_of_pos_left _ (by omega)
 have h1 : 0 < x / Nat.gcd x y := Nat.div_pos (Nat.le_of_dvd (by omega) (Nat.gcd_dvd_left x y)) hg
 have h2 : 0 < y / Nat.gcd x y := Nat.div_pos (Nat.le_of_dvd (by omega) (Nat.gcd_dvd_right x y)) hg
 have h3 := Nat.div_le_self x (Nat.gcd x y)
 have h4 := Nat.div_le_self y (Nat.gcd x y)
 unfold bsN
 omega
theorem bs_ok {x y : Nat} (hx : 1 ≤ x ∧ x ≤ 768000) (hy : 1 ≤ y ∧ y ≤ 768000) : phB ((bsN x y : Nat) : Int) ((y / Nat.gcd x y : Nat) : Int) 0 0 0 = true := by
 have h := bs_in hx hy
 refine phB_t (ratOk_t (by omega) (by omega) ?_) (by omega)
 rw [Int.toNat_natCast, Int.toNat_natCast]
 exact Nat.gcd_div_gcd_div_gcd_of_pos_left (by omega)
theorem PhV.z {n d : Int} (h : phB n d 0 0 0 = true) : PhV n d 0 0 0 := PhV.of h
theorem BV.nil {ch : Nat} (h1 : 1 ≤ ch) (h8 : ch ≤ 8) : BV ch 0 [] := ⟨h1, h8, by simp, by decide, fun j hj => absurd hj (Nat.not_lt_zero j)⟩
theorem cv_pos {f s P : Int} (hf : 0 ≤ f ∧ f < P) (hs : 0 ≤ s) (k : Nat) : mvV f s k / P ≤ needV f s P k := by
 by_cases h : k = 0
 ·subst h
  rw [mv_0, needV_0, Int.ediv_eq_zero_of_lt hf.1 hf.2]; omega
 ·rw [needV_s _ _ _ h]; omega
theorem cv_BV {n d a p f : Int} {ch W F : Nat} {l m : List Int} (h : PhV n d a p f) (hv : BV ch W l) (hw : BV ch F m) (hf : W + F ≤ 65536) : BV ch (mkF f (stp n a) (d * 65536) ((W + F : Nat) : Int)) (prV ch (W + F) (l ++ m) f (stp n a) (d * 65536) (mkF f (stp n a) (d * 65536) ((W + F : Nat) : Int))) := by
 have hb := h.b
 have hst := stp_in hb.1 hb.2.2.1
 have hk := mkF_need (f := f) (s := stp n a) (P := d * 65536) (h := ((W + F : Nat) : Int)) (by omega)
 refine prV_BV (app_BV hv hw hf) ?_ (by omega) hk.2
 generalize mkF f (stp n a) (d * 65536) ((W + F : Nat) : Int) = k at *
 by_cases h0 : k = 0
 ·exact .inl h0
 ·right
  rw [needV_s _ _ _ h0] at hk
  have h2 := mv_in (f := f) (s := stp n a) (i := k - 1) (by omega) (by omega) (by omega)
  have h3 := (quo_in h2.1 (show 0 < d * 65536 by omega)).1
  omega
theorem cv_all {n d a p f : Int} {W F : Nat} (h : PhV n d a p f) (hs : p + ((W : Nat) : Int) + ((F : Nat) : Int) ≤ 1000000) : (0 ≤ mvV f (stp n a) (mkF f (stp n a) (d * 65536) ((W + F : Nat) : Int)) / (d * 65536) ∧ mvV f (stp n a) (mkF f (stp n a) (d * 65536) ((W + F : Nat) : Int)) / (d * 65536) ≤ ((W + F : Nat) : Int)) ∧ (0 ≤ mvV f (stp n a) (mkF f (stp n a) (d * 65536) ((W + F : Nat) : Int)) % (d * 65536) ∧ mvV f (stp n a) (mkF f (stp n a) (d * 65536) ((W + F : Nat) : Int)) % (d * 65536) < d * 65536) ∧ ((goneV (W + F) f (stp n a) (d * 65536) (mkF f (stp n a) (d * 65536) ((W + F : Nat) : Int)) : Nat) : Int) = mvV f (stp n a) (mkF f (stp n a) (d * 65536) ((W + F : Nat) : Int)) / (d * 65536) := by
 have hb := h.b
 have hst := stp_in hb.1 hb.2.2.1
 have hk := mkF_need (f := f) (s := stp n a) (P := d * 65536) (h := ((W + F : Nat) : Int)) (by omega)
 generalize mkF f (stp n a) (d * 65536) ((W + F : Nat) : Int) = k at *
 have h1 := cv_pos (s := stp n a) hb.2.2.2.2 (by omega) k
 have h2 := mv_in (f := f) (s := stp n a) (i := k) (by omega) (by omega) (by omega)
 have h3 := quo_in h2.1 (show 0 < d * 65536 by omega)
 have h4 := iqV_eq (k := k) h3.1
 refine ⟨⟨h3.1, by omega⟩, ⟨h3.2.2.1, h3.2.2.2⟩, ?_⟩
 unfold goneV
 omega
theorem Q_Convert_s (ch W F : Nat) (n d a p f : Int) (l : List Int) (q : Nat) (m : List Int) (z : Nat) (hq : List.length l = q) (hv : BV ch W l) (hp : PhV n d a p f) (hz : List.length m = z) (hw : BV ch F m) (hWF : W + F ≤ 65536) (hs : p + (W : Int) + (F : Int) ≤ 1000000) : Fun 78 [.agg [iC ((ch : Nat) : Int), iC n, iC d, iC a, iC p, iC f, .d (D.sl (dI .i32 l) q)], .agg [iC ((ch : Nat) : Int), .d (D.sl (dI .i32 m) z)]] (toG []) 0 (.tup [.agg [iC ((ch : Nat) : Int), .own 0 0 ((mkF f (stp n a) (d * 65536) (((W + F) : Nat) : Int)) * ch) 1 true], .agg [iC ((ch : Nat) : Int), iC n, iC d, iC a, iC (p + ((mvV f (stp n a) (mkF f (stp n a) (d * 65536) (((W + F) : Nat) : Int))) / (d * 65536))), iC ((mvV f (stp n a) (mkF f (stp n a) (d * 65536) (((W + F) : Nat) : Int))) % (d * 65536)), .own 1 0 ((q + z) - ((goneV (W + F) f (stp n a) (d * 65536) (mkF f (stp n a) (d * 65536) (((W + F) : Nat) : Int))) * ch)) 1 true], iE 0]) (toG [(0, some (21, .ds (dI .i32 (prV ch (W + F) (l ++ m) f (stp n a) (d * 65536) (mkF f (stp n a) (d * 65536) (((W + F) : Nat) : Int)))))), (1, some (21, .ds (dI .i32 (List.drop ((goneV (W + F) f (stp n a) (d * 65536) (mkF f (stp n a) (d * 65536) (((W + F) : Nat) : Int))) * ch) (l ++ m)))))]) 2 := Q_Convert ch W F n d a p f l q m z hq hv hp hz hw hWF (by have h9 := cv_all hp hs; omega)
end Go.Proofs.YtigiolfloefjnaaGreatDoor
namespace Go.Proofs.YtigiolfloefjnaaGreatDoor
open Go.ChangeShapes Go.WideShapes Go.ChangeAt Go.RowKit
set_option linter.unusedVariables false
set_option linter.unusedSimpArgs false
def szN (k : Int) : Nat := if k = 1 then 1 else if k ≤ 3 then 2 else if k ≤ 5 then 3 else 4
def decV (k : Int) (c : List Int) : Int := if k = 1 then dec1 c else if k = 2 then dec2 c else if k = 3 then dec3 c else if k = 4 then dec4 c else if k = 5 then dec5 c else if k = 6 then dec6 c else dec7 c
def encV (k : Int) (x : Int) : List Int := if k = 1 then enc1 x else if k = 2 then enc2 x else if k = 3 then enc3 x else if k = 4 then enc4 x else if k = 5 then enc5 x else if k = 6 then enc6 x else enc7 x
def decA (k : Int) (l : List Int) (m : Nat) : List Int := decL (decV k) (szN k) l m
def encA (k : Int) (l : List Int) (n : Nat) : List Int := encL (encV k) l n
theorem k_cs {k : Int} (h : 1 ≤ k ∧ k ≤ 7) : k = 1 ∨ k = 2 ∨ k = 3 ∨ k = 4 ∨ k = 5 ∨ k = 6 ∨ k = 7 := by omega
theorem szN_in (k : Int) : 1 ≤ szN k ∧ szN k ≤ 4 := by
 unfold szN; (repeat' split) <;> omega
theorem encV_len {k : Int} (h : 1 ≤ k ∧ k ≤ 7) (x : Int) : List.length (encV k x) = szN k := by
 rcases k_cs h with rfl | rfl | rfl | rfl | rfl | rfl | rfl <;> rfl
theorem decV_in {k : Int} (h : 1 ≤ k ∧ k ≤ 7) (c : List Int) (hb : Byt c) (hn : List.length c = szN k) : -8388608 ≤ decV k c ∧ decV k c ≤ 8388607 := by
 rcases k_cs h with rfl | rfl | rfl | rfl | rfl | rfl | rfl
 ·exact dec1_in c hb hn
 ·exact dec2_in c hb hn
 ·exact dec3_in c hb hn
 ·exact dec4_in c hb hn
 ·exact dec5_in c hb hn
 ·exact dec6_in c hb hn
 ·exact dec7_in c hb hn
theorem decA_len (k : Int) (l : List Int) (m : Nat) : List.length (decA k l m) = m := decL_len _ _ l m
theorem encA_len {k : Int} (h : 1 ≤ k ∧ k ≤ 7) (l : List Int) (n : Nat) : List.length (encA k l n) = n * szN k := encL_len (encV_len h) l n
theorem decA_smp {k : Int} (h : 1 ≤ k ∧ k ≤ 7) {l : List Int} (hb : Byt l) (m : Nat) (hm : m * szN k ≤ List.length l) : smpsB (decA k l m) = true := decL_smp hb (decV_in h) m hm
def bdN (x y : Nat) : Nat := y / Nat.gcd x y
theorem bd_ok {x y : Nat} (hx : 1000 ≤ x ∧ x ≤ 768000) (hy : 1000 ≤ y ∧ y ≤ 768000) : phB ((bsN x y : Nat) : Int) ((bdN x y : Nat) : Int) 0 0 0 = true := bs_ok (by omega) (by omega)
theorem bd_in {x y : Nat} (hx : 1000 ≤ x ∧ x ≤ 768000) (hy : 1000 ≤ y ∧ y ≤ 768000) : (1 ≤ bsN x y ∧ bsN x y ≤ 768000) ∧ (1 ≤ bdN x y ∧ bdN x y ≤ 768000) ∧ 1 ≤ Nat.gcd x y := bs_in (by omega) (by omega)
theorem dfS_MV {to : List Int} {n m col : Nat} {p : Int} {acc : List Int} (h : ∀ j, -131072 ≤ List.getD acc j 0 ∧ List.getD acc j 0 ≤ 131072) : ∀ j, -131072 ≤ List.getD (dfS to n m col p acc) j 0 ∧ List.getD (dfS to n m col p acc) j 0 ≤ 131072 := by
 have key : ∀ (l : List Int) (g : Int) (c : Int), (∀ j, -131072 ≤ List.getD l j 0 ∧ List.getD l j 0 ≤ 131072) → (-131072 ≤ c ∧ c ≤ 131072) → ∀ j, -131072 ≤ List.getD (put to n m col g c l) j 0 ∧ List.getD (put to n m col g c l) j 0 ≤ 131072 := by
  intro l g c hl hc j
  unfold put
  rw [List.getD_eq_getElem?_getD, List.getElem?_set]
  by_cases h1 : ixN to g m * n + col = j
  ·rw [if_pos h1]
   by_cases h2 : ixN to g m * n + col < l.length
   ·rw [if_pos h2]; exact hc
   ·rw [if_neg h2]; exact ⟨by decide, by decide⟩
  ·rw [if_neg h1, ← List.getD_eq_getElem?_getD]; exact hl j
 unfold dfS
 (repeat' split) <;> first | exact h | exact key _ _ _ h (by decide) | exact key _ _ _ (key _ _ _ h (by decide)) (by decide)
theorem dfL_co (fr to : List Int) (n m : Nat) : ∀ k j, -131072 ≤ List.getD (dfL fr to n m k) j 0 ∧ List.getD (dfL fr to n m k) j 0 ≤ 131072
 | 0, j => by show -131072 ≤ List.getD (List.replicate (n * m) (0 : Int)) j 0 ∧ _; rw [show dfL fr to n m 0 = List.replicate (n * m) 0 from rfl, getD_rep]; omega
 | k + 1, j => dfS_MV (dfL_co fr to n m k) j
theorem dfL_MV (fr to : List Int) {n m : Nat} (h1 : 1 ≤ n ∧ n ≤ 8) (h2 : 1 ≤ m ∧ m ≤ 8) : MV n m (dfL fr to n m n) := ⟨h1.1, h1.2, h2.1, h2.2, dfL_len fr to n m n, fun j _ => dfL_co fr to n m n j⟩
theorem decA_BV {k : Int} (h : 1 ≤ k ∧ k ≤ 7) {l : List Int} (hb : Byt l) {c f : Nat} (h1 : 1 ≤ c ∧ c ≤ 8) (hf : f ≤ 65536) (hl : List.length l = f * (szN k * c)) : BV c f (decA k l (f * c)) := ⟨h1.1, h1.2, decA_len _ _ _, hf, fun j hj => by
 rw [decA_len] at hj
 have hs := decA_smp h hb (f * c) (by rw [hl, Nat.mul_comm (szN k) c, ← Nat.mul_assoc]; exact Nat.le_refl _)
 exact smpsB_at hs j (by rw [decA_len]; exact hj)⟩
theorem BV.smps {c f : Nat} {l : List Int} (h : BV c f l) : smpsB l = true := all_of (fun j hj => h.smp j hj)
theorem nsz {F s c : Nat} : F * (s * c) = F * c * s := by rw [Nat.mul_comm s c, ← Nat.mul_assoc]
theorem fr_div {F s c : Nat} (h : 1 ≤ s ∧ 1 ≤ c) : ((F * (s * c) : Nat) : Int) / ((s * c : Nat) : Int) = ((F : Nat) : Int) ∧ ((F * (s * c) : Nat) : Int) % ((s * c : Nat) : Int) = 0 := by
 have hp : 1 ≤ s * c := Nat.mul_le_mul h.1 h.2
 rw [Int.natCast_mul F]
 exact ⟨Int.mul_ediv_cancel _ (by omega), Int.mul_emod_left _ _⟩
structure FN (n d f : Int) (ch W : Nat) (l o : List Int) (j : Nat) : Prop where
 jE : j = leftV W f (stp n 0) (d * 65536) 65536
 oE : o = prV ch W l f (stp n 0) (d * 65536) j
theorem FN.same {n d f : Int} {ch W : Nat} {l o o' : List Int} {j j' : Nat} (h : FN n d f ch W l o j) (h' : FN n d f ch W l o' j') : j = j' ∧ o = o' := by
 have e := h.jE.trans h'.jE.symm
 subst e
 exact ⟨rfl, h.oE.trans h'.oE.symm⟩
theorem PhV.bd {x y : Nat} (hx : 1000 ≤ x ∧ x ≤ 768000) (hy : 1000 ≤ y ∧ y ≤ 768000) : PhV ((bsN x y : Nat) : Int) ((bdN x y : Nat) : Int) 0 0 0 := PhV.of (bd_ok hx hy)
theorem fin_pos {n d p f : Int} {ch W q : Nat} {l : List Int} (h : PhV n d 0 p f) (hv : BV ch W l) (hs : p + ((W : Nat) : Int) ≤ 1000000) : p + mvV f (stp n 0) (leftV W f (stp n 0) (d * 65536) 65536) / (d * 65536) ≤ 1125899906842624 := by
 have hb := h.b
 have hst := stp_in hb.1 hb.2.2.1
 have hle : leftV W f (stp n 0) (d * 65536) 65536 ≤ 65536 := by unfold leftV; split <;> omega
 have h2 := mv_in (f := f) (s := stp n 0) (i := leftV W f (stp n 0) (d * 65536) 65536) (by omega) (by omega) (by omega)
 have h3 : ∀ m : Int, 0 ≤ m → m / (d * 65536) ≤ m / 65536 := fun m hm => by
  rw [Int.mul_comm d, ← Int.ediv_ediv_of_nonneg (by omega)]
  exact Int.ediv_le_self _ (Int.ediv_nonneg hm (by omega))
 have h3 := h3 _ h2.1
 have h4 : mvV f (stp n 0) (leftV W f (stp n 0) (d * 65536) 65536) / 65536 ≤ 3600000000000000 / 65536 := Int.ediv_le_ediv (by omega) h2.2
 omega
theorem V_Size (k : Int) (hk : 1 ≤ k ∧ k ≤ 7) : Fun 37 [iE k] (toG []) 0 (iV (((szN k) : Nat) : Int)) (toG []) 0 := by
 rcases k_cs hk with rfl | rfl | rfl | rfl | rfl | rfl | rfl
 ·exact K_size1
 ·exact K_size2
 ·exact K_size3
 ·exact K_size4
 ·exact K_size5
 ·exact K_size6
 ·exact K_size7
theorem V_rSize (k : Int) (hk : 1 ≤ k ∧ k ≤ 7) : Fun 39 [iE k] (toG []) 0 (iV (((szN k) : Nat) : Int)) (toG []) 0 := by
 rcases k_cs hk with rfl | rfl | rfl | rfl | rfl | rfl | rfl
 ·exact K_rsize1
 ·exact K_rsize2
 ·exact K_rsize3
 ·exact K_rsize4
 ·exact K_rsize5
 ·exact K_rsize6
 ·exact K_rsize7
theorem V_Dec (k : Int) (l : List Int) (m n : Nat) (hk : k = 2) (hn : List.length l = n) (hm : n = m * szN k) (hf : m ≤ 524288) (hb : Byt l) : Fun 76 [iE k, .c (.d (D.sl (dI .u8 l) n))] (toG []) 0 (.tup [.c (.own 0 0 m 1 true), iE 0]) (toG [(0, some (21, .ds (dI .i32 (decA k l m))))]) 1 := by
 subst hk
 rw [show szN 2 = 2 from rfl] at hm
 exact K_Decode2 l m n hn (by omega) (by omega) hf hb
theorem V_Enc (k : Int) (l : List Int) (n : Nat) (hk : k = 2) (hn : List.length l = n) (hf : n ≤ 524288) (hs : smpsB l = true) : Fun 50 [iE k, .c (.d (D.sl (dI .i32 l) n))] (toG []) 0 (.tup [.c (.own 0 0 (n * (szN k)) 1 true), iE 0]) (toG [(0, some (5, .ds (dI .u8 (encA k l n))))]) 1 := by
 subst hk
 exact K_Encode2 l n hn hf hs
end Go.Proofs.YtigiolfloefjnaaGreatDoor
