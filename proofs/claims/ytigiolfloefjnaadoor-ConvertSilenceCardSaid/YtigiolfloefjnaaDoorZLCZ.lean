/- Laws of conversion. No statement is proved here. -/
import Derived.Test.YtigiolfloefjnaaDoorZL16M
namespace Go.Proofs.YtigiolfloefjnaaDoor
open Go.ChangeShapes Go.WideShapes Go.ChangeAt Go.RowKit
set_option linter.unusedVariables false
set_option linter.unusedSimpArgs false
set_option maxHeartbeats 4000000
set_option maxRecDepth 100000
def zB (k : Int) : Int := if k = 1 then 128 else 0
theorem zB_in (k : Int) : 0 ≤ zB k ∧ zB k ≤ 255 := by unfold zB; split <;> omega
theorem getD_v {n j : Nat} {v : Int} (h : j < n) : List.getD (List.replicate n v) j 0 = v := by
 rw [List.getD_eq_getElem?_getD, List.getElem?_replicate, if_pos h]; rfl
theorem zB_byt (k : Int) (n : Nat) : Byt (List.replicate n (zB k)) := fun j hj => by
 rw [List.length_replicate] at hj
 rw [getD_v hj]; exact zB_in k
theorem rep_app (n m : Nat) (v : Int) : List.replicate n v ++ List.replicate m v = List.replicate (n + m) v := List.replicate_append_replicate
theorem zset {k : Int} {i n : Nat} (hk : k = 1) (hi : i < n) : dI .u8 (List.replicate (i + 1) (zB k) ++ List.replicate (n - (i + 1)) 0) = dI .u8 (List.set (List.replicate i (zB k) ++ List.replicate (n - i) 0) i 128) := by
 subst hk
 rw [show n - i = (n - (i + 1)) + 1 by omega, rep_split 1, set_mid (j := 0) (by rw [List.length_replicate]; rfl) (by simp), ← rep_app i 1]
 rw [List.append_assoc]; rfl
theorem zkeep {k : Int} {i n : Nat} (hk : ¬ k = 1) (hi : i < n) : dI .u8 (List.replicate (i + 1) (zB k) ++ List.replicate (n - (i + 1)) 0) = dI .u8 (List.replicate i (zB k) ++ List.replicate (n - i) 0) := by
 have e : zB k = 0 := if_neg hk
 rw [e, rep_app, rep_app, show i + 1 + (n - (i + 1)) = i + (n - i) by omega]
theorem rep_of {l : List Int} {n : Nat} {v : Int} (hl : List.length l = n) (h : ∀ j, j < n → List.getD l j 0 = v) : l = List.replicate n v :=
 ext_getD (by rw [hl, List.length_replicate]) fun j hj => by rw [h j (by omega), getD_v (by omega)]
theorem dec0 {k : Int} (h : 1 ≤ k ∧ k ≤ 7) (m : Nat) : decA k (List.replicate (m * szN k) (zB k)) m = List.replicate m 0 := by
 refine rep_of (decA_len _ _ _) fun j hj => ?_
 unfold decA
 have h1 : (j + 1) * szN k ≤ m * szN k := Nat.mul_le_mul_right _ hj
 rw [Nat.succ_mul] at h1
 rw [decL_at m j hj, List.drop_replicate, List.take_replicate, Nat.min_eq_left (by omega)]
 rcases k_cs h with rfl | rfl | rfl | rfl | rfl | rfl | rfl <;> decide +kernel
theorem dot0 (l : List Int) (n a b : Nat) : ∀ k, dotV l (List.replicate n 0) a b k = 0
 | 0 => rfl
 | k + 1 => by
  show dotV l _ a b k + List.getD l (a + k) 0 * List.getD (List.replicate n (0 : Int)) (b + k) 0 = 0
  rw [dot0 l n a b k, getD_rep, Int.mul_zero]; rfl
theorem ap0 (l : List Int) (n i o m : Nat) : apA l (List.replicate n 0) i o m = List.replicate m 0 := by
 refine rep_of (apA_len _ _ _ _ _) fun j hj => ?_
 unfold apA
 rw [map_getD hj]
 unfold apE
 rw [dot0]; decide
theorem encL0 {g : Int → List Int} {l : List Int} {s : Nat} {v : Int} : ∀ n, (∀ j, j < n → g (List.getD l j 0) = List.replicate s v) → encL g l n = List.replicate (n * s) v
 | 0, _ => by rw [Nat.zero_mul]; rfl
 | n + 1, h => by
  show encL g l n ++ g (List.getD l n 0) = _
  rw [encL0 n (fun j hj => h j (by omega)), h n (by omega), rep_app, Nat.succ_mul]
theorem enc0 {k : Int} (h : 1 ≤ k ∧ k ≤ 7) {l : List Int} {n : Nat} (hl : l = List.replicate n 0) : encA k l n = List.replicate (n * szN k) (zB k) := by
 refine encL0 n fun j _ => ?_
 rw [hl, getD_rep]
 rcases k_cs h with rfl | rfl | rfl | rfl | rfl | rfl | rfl <;> decide +kernel
theorem bet_c (a f : Int) {P : Int} (hf : 0 ≤ f ∧ f < P) : betV a a f P = a := by
 have := betV_in (a := a) (b := a) hf
 omega
theorem pr_const {ch W k : Nat} {l : List Int} {f s P v : Int} (hl : List.length l = W * ch) (hv : ∀ j, j < W * ch → List.getD l j 0 = v) (hW : 1 ≤ W) (hc : 1 ≤ ch) (hP : 0 < P) {i : Nat} (hi : i < k * ch) : List.getD (prV ch W l f s P k) i 0 = v := by
 have hq : i / ch < k := by rw [Nat.div_lt_iff_lt_mul (by omega)]; exact hi
 have hm : i % ch < ch := Nat.mod_lt _ (by omega)
 have e : i = i / ch * ch + i % ch := by rw [Nat.mul_comm]; exact (Nat.div_add_mod i ch).symm
 have fv : ∀ j, List.getD (frV ch W l j) (i % ch) 0 = v := fun j => by
  have := fr_in hl hW j
  rw [frV_at hm]; exact hv _ (by omega)
 rw [e, prV_at hm k hq, fv, fv]
 exact bet_c _ _ ⟨Int.emod_nonneg _ (by omega), Int.emod_lt_of_pos _ hP⟩
theorem pr0 {ch W k : Nat} {f s P : Int} (hW : k = 0 ∨ 1 ≤ W) (hc : 1 ≤ ch) (hP : 0 < P) : prV ch W (List.replicate (W * ch) 0) f s P k = List.replicate (k * ch) 0 := by
 refine rep_of (prV_len _ _ _ _ _ _ _) fun j hj => ?_
 rcases hW with h | h
 ·subst h; rw [Nat.zero_mul] at hj; omega
 ·exact pr_const (by rw [List.length_replicate]) (fun i _ => by rw [getD_rep]) h hc hP hj
theorem conv_zero {kx kb n d f2 p2 : Int} {na nb F : Nat} {cf o2 l2 o : List Int} {k2 W2 j : Nat} (hx : 1 ≤ kx ∧ kx ≤ 7) (hb : 1 ≤ kb ∧ kb ≤ 7) (hn : 1 ≤ nb) (hF : 1 ≤ F) (hp : PhV n d 0 0 0) (hp2 : PhV n d 0 p2 f2)
  (cv : CV n d 0 0 0 nb (0 + F) ([] ++ apA cf (decA kx (List.replicate (F * (szN kx * na)) (zB kx)) (F * na)) na nb (F * nb)) o2 l2 k2 W2 p2 f2) (fn : FN n d f2 nb W2 l2 o j) : encA kb o2 (k2 * nb) ++ encA kb o (j * nb) = List.replicate ((k2 + j) * (szN kb * nb)) (zB kb) := by
 have hd := hp.b
 rw [nsz, dec0 hx, ap0, List.nil_append, Nat.zero_add] at cv
 have e1 : o2 = List.replicate (k2 * nb) 0 := by rw [cv.oE]; exact pr0 (.inr hF) hn (by omega)
 have e2 : l2 = List.replicate (W2 * nb) 0 := by
  rw [cv.lE, List.drop_replicate, ← Nat.sub_mul, cv.wE]
 have hlk := leftV_le (W := W2) (k := 65536) (s := stp n 0) (P := d * 65536) hp2.b.2.2.2.2.1
 have e3 : o = List.replicate (j * nb) 0 := by
  rw [fn.oE, e2]
  refine pr0 ?_ hn (by omega)
  rw [fn.jE]; exact hlk.2
 rw [enc0 hb e1, enc0 hb e3, rep_app, ← Nat.add_mul, ← Nat.add_mul, nsz]
theorem conv_count {x y F : Nat} {fI : Int} {ch : Nat} {w o2 l2 o : List Int} {k2 W2 j : Nat} {p2 f2 : Int} (hx : 8000 ≤ x ∧ x ≤ 96000) (hy : 8000 ≤ y ∧ y ≤ 96000) (hF : 1 ≤ F ∧ F ≤ 20) (hfI : fI = ((F : Nat) : Int))
  (cv : CV ((bsN x y : Nat) : Int) ((bdN x y : Nat) : Int) 0 0 0 ch (0 + F) w o2 l2 k2 W2 p2 f2) (fn : FN ((bsN x y : Nat) : Int) ((bdN x y : Nat) : Int) f2 ch W2 l2 o j) : (((k2 + j : Nat) : Int) - 1) * ((x : Nat) : Int) < fI * ((y : Nat) : Int) ∧ fI * ((y : Nat) : Int) ≤ ((k2 + j : Nat) : Int) * ((x : Nat) : Int) ∧ k2 + j ≤ 1100 := by
 have hp := PhV.bd (x := x) (y := y) (by omega) (by omega)
 have hb := hp.b
 have hst := stp_in hb.1 hb.2.2.1
 have hr := bd_rat hx hy
 have hall := cv_all (W := 0) (F := F) hp (by omega)
 rw [← cv.kE] at hall
 have hnd := mkF_need (f := 0) (s := stp ((bsN x y : Nat) : Int) 0) (P := ((bdN x y : Nat) : Int) * 65536) (h := ((0 + F : Nat) : Int)) (by omega)
 rw [← cv.kE] at hnd
 have hs : stp ((bsN x y : Nat) : Int) 0 = ((bsN x y : Nat) : Int) * 65536 := rfl
 have hg := (bd_in (x := x) (y := y) (by omega) (by omega)).2.2
 have g1 : ((bsN x y : Nat) : Int) * ((Nat.gcd x y : Nat) : Int) = ((x : Nat) : Int) := by rw [← Int.natCast_mul]; exact congrArg _ (Nat.div_mul_cancel (Nat.gcd_dvd_left x y))
 have g2 : ((bdN x y : Nat) : Int) * ((Nat.gcd x y : Nat) : Int) = ((y : Nat) : Int) := by rw [← Int.natCast_mul]; exact congrArg _ (Nat.div_mul_cancel (Nat.gcd_dvd_right x y))
 have hW := cv.wE
 have hf2 := cv.fE
 have hj := fn.jE
 subst hfI
 generalize ((bsN x y : Nat) : Int) = n at *
 generalize ((bdN x y : Nat) : Int) = d at *
 generalize ((Nat.gcd x y : Nat) : Int) = g at *
 have hg0 : 0 < g := by
  rcases Int.lt_or_le 0 g with h | h
  ·exact h
  ·have := Int.mul_nonpos_of_nonneg_of_nonpos (show 0 ≤ n by omega) h
   omega
 have hM : mvV 0 (stp n 0) k2 = ((k2 : Nat) : Int) * stp n 0 := by unfold mvV; omega
 have hdm := Int.mul_ediv_add_emod (mvV 0 (stp n 0) k2) (d * 65536)
 rw [← hf2, hM, Int.mul_comm (d * 65536)] at hdm
 rw [hM] at hall
 generalize hq : ((k2 : Nat) : Int) * stp n 0 / (d * 65536) = q at *
 have hW2 : ((W2 : Nat) : Int) = ((F : Nat) : Int) - q := by omega
 have hA : ((W2 : Nat) : Int) * (d * 65536) - f2 = ((F : Nat) : Int) * (d * 65536) - ((k2 : Nat) : Int) * stp n 0 := by
  rw [hW2, Int.sub_mul]; omega
 have hFP : ((F : Nat) : Int) * (d * 65536) ≤ 20 * (d * 65536) := Int.mul_le_mul_of_nonneg_right (by omega) (by omega)
 have hFP1 : 1 * (d * 65536) ≤ ((F : Nat) : Int) * (d * 65536) := Int.mul_le_mul_of_nonneg_right (by omega) (by omega)
 have hk0 : 0 ≤ ((k2 : Nat) : Int) * stp n 0 := Int.mul_nonneg (by omega) (by omega)
 have key : (((k2 + j : Nat) : Int) - 1) * stp n 0 < ((F : Nat) : Int) * (d * 65536) ∧ ((F : Nat) : Int) * (d * 65536) ≤ ((k2 + j : Nat) : Int) * stp n 0 := by
  unfold leftV at hj
  rw [hA] at hj
  by_cases h0 : ((F : Nat) : Int) * (d * 65536) - ((k2 : Nat) : Int) * stp n 0 ≤ 0
  ·rw [if_pos h0] at hj
   subst hj
   have hk1 : ¬ k2 = 0 := by
    intro h; subst h
    rw [show ((0 : Nat) : Int) = 0 from rfl, Int.zero_mul] at h0; omega
   have h1 := hnd.1
   rw [needV_s _ _ _ hk1] at h1
   have h2 : mvV 0 (stp n 0) (k2 - 1) / (d * 65536) < ((F : Nat) : Int) := by omega
   rw [Int.ediv_lt_iff_lt_mul (by omega)] at h2
   have h3 : mvV 0 (stp n 0) (k2 - 1) = (((k2 : Nat) : Int) - 1) * stp n 0 := by unfold mvV; rw [show ((k2 - 1 : Nat) : Int) = ((k2 : Nat) : Int) - 1 by omega]; omega
   rw [h3] at h2
   rw [Nat.add_zero]
   exact ⟨h2, by omega⟩
  ·rw [if_neg h0] at hj
   have hc1 := Int.mul_ediv_add_emod (((F : Nat) : Int) * (d * 65536) - ((k2 : Nat) : Int) * stp n 0 + stp n 0 - 1) (stp n 0)
   have hc2 := Int.emod_lt_of_pos (((F : Nat) : Int) * (d * 65536) - ((k2 : Nat) : Int) * stp n 0 + stp n 0 - 1) (show 0 < stp n 0 by omega)
   have hc3 := Int.emod_nonneg (((F : Nat) : Int) * (d * 65536) - ((k2 : Nat) : Int) * stp n 0 + stp n 0 - 1) (show stp n 0 ≠ 0 by omega)
   have hc4 : (((F : Nat) : Int) * (d * 65536) - ((k2 : Nat) : Int) * stp n 0 + stp n 0 - 1) / stp n 0 < 1002 := by
    rw [Int.ediv_lt_iff_lt_mul (by omega)]; omega
   have hc5 : 0 ≤ (((F : Nat) : Int) * (d * 65536) - ((k2 : Nat) : Int) * stp n 0 + stp n 0 - 1) / stp n 0 := Int.ediv_nonneg (by omega) (by omega)
   generalize (((F : Nat) : Int) * (d * 65536) - ((k2 : Nat) : Int) * stp n 0 + stp n 0 - 1) / stp n 0 = c at *
   have hjc : ((j : Nat) : Int) = c := by omega
   rw [Int.mul_comm] at hc1
   rw [Int.natCast_add, hjc, show ((k2 : Nat) : Int) + c - 1 = ((k2 : Nat) : Int) + (c - 1) by omega, Int.add_mul, Int.add_mul, Int.sub_mul]
   omega
 have e1 : (((k2 + j : Nat) : Int) - 1) * n * 65536 < ((F : Nat) : Int) * d * 65536 := by rw [Int.mul_assoc, ← hs, Int.mul_assoc]; exact key.1
 have e2 : ((F : Nat) : Int) * d * 65536 ≤ ((k2 + j : Nat) : Int) * n * 65536 := by rw [Int.mul_assoc, Int.mul_assoc (((k2 + j : Nat) : Int)), ← hs]; exact key.2
 have e3 : (((k2 + j : Nat) : Int) - 1) * n < ((F : Nat) : Int) * d := by omega
 have e4 : ((F : Nat) : Int) * d ≤ ((k2 + j : Nat) : Int) * n := by omega
 refine ⟨?_, ?_, ?_⟩
 ·have := Int.mul_lt_mul_of_pos_right e3 hg0
  rw [Int.mul_assoc, Int.mul_assoc, g1, g2] at this
  exact this
 ·have := Int.mul_le_mul_of_nonneg_right e4 (Int.le_of_lt hg0)
  rw [Int.mul_assoc, Int.mul_assoc, g1, g2] at this
  exact this
 ·have h1 : (((k2 + j : Nat) : Int) - 1) * stp n 0 < 1000 * stp n 0 := by omega
  have h2 := Int.lt_of_mul_lt_mul_right h1 (by omega)
  omega
theorem zlcz0 {p : Prop} (h : p := by first | omega | (simp only [prV_len, rwV_len, dI_len, List.length_append, List.length_cons, List.length_nil, List.length_take, List.length_drop, List.length_replicate, List.length_set, List.length_map, List.length_reverse, Nat.mul_one] <;> omega) | rfl) : p := h
theorem V_zero (k : Int) (r : Nat) (l : List Int) (n : Nat) (F : Nat) (hk : 1 ≤ k ∧ k ≤ 7) (hr : 1000 ≤ r ∧ r ≤ 768000) (hc : chB l n = true) (hl : List.length l = n) (hF : F ≤ 10000) : Fun 17 [.agg [iC k, iC ((r : Nat) : Int), .d (D.sl (dI .i64 l) n)], iE ((F : Nat) : Int)] (toG []) 0 (oV 0 0 (F * ((szN k) * n)) 1) (toG [(0, some (5, .ds (dI .u8 (List.replicate (F * ((szN k) * n)) (zB k)))))]) 1 := by
 have hn : 1 ≤ n ∧ n ≤ 8 := chB_n hc
 have hz : 1 ≤ szN k * n ∧ szN k * n ≤ 32 := ⟨Nat.mul_le_mul (szN_in k).1 hn.1, Nat.mul_le_mul (szN_in k).2 hn.2⟩
 have hFn : F * (szN k * n) ≤ 10000 * 32 := Nat.mul_le_mul hF hz.2
 have hFi : ((F : Nat) : Int) * ((szN k * n : Nat) : Int) = ((F * (szN k * n) : Nat) : Int) := (Int.natCast_mul _ _).symm
 refine Fun.mk (n := 25) Tryd.func17 rfl rfl (Nat.le_of_ble_eq_true rfl) ?_
 intro cx hcx
 refine AW.rgs [.no, .no] [1, 2] [0] (P := True) (l' := [(1, iV ↑F), (2, rV 0 0)]) (g' := [(0, some (28, .ds [iD k, iD ↑r, D.sl (dI .i64 l) n]))]) (nx' := 1) zk trivial ?_
 have hx1 : (((1 : Nat) ≤ ((szN k) * n)) ∧ (((szN k) * n) ≤ 32)) := ⟨Nat.mul_le_mul (szN_in k).1 (show 1 ≤ n by omega), Nat.mul_le_mul (szN_in k).2 (show n ≤ 8 by omega)⟩
 refine AW.rgs [.no, .no, .call [] (iV ((((szN k) * n) : Nat) : Int)) [] 0 [] none, .wi (((F * ((szN k) * n)) : Nat) : Int), .mk (F * ((szN k) * n)) (F * ((szN k) * n)) (dI .u8 (List.replicate (F * ((szN k) * n)) 0)), .no] [2, 5] [0, 1] (P := (_) ∧ ((-9223372036854775808) ≤ (((F : Nat) : Int) * ((((szN k) * n) : Nat) : Int)) ∧ (((F : Nat) : Int) * ((((szN k) * n) : Nat) : Int)) ≤ 9223372036854775807) ∧ (((((F : Nat) : Int) * ((((szN k) * n) : Nat) : Int)) : Int) = (((F * ((szN k) * n)) : Nat) : Int)) ∧ (((((F * ((szN k) * n)) : Nat) : Int) : Int) = (((F * ((szN k) * n)) : Nat) : Int)) ∧ (((((F * ((szN k) * n)) : Nat) : Int) : Int) = (((F * ((szN k) * n)) : Nat) : Int)) ∧ ((F * ((szN k) * n)) ≤ (F * ((szN k) * n))) ∧ (1 * (F * ((szN k) * n)) ≤ 281474976710656) ∧ (List.replicate (F * ((szN k) * n)) (D.lit (.int .u8 0)) = dI .u8 (List.replicate (F * ((szN k) * n)) 0))) (l' := [(2, rV 0 0), (5, oV 1 0 (F * ((szN k) * n)) 1)]) (g' := [(0, some (28, .ds [iD k, iD ↑r, D.sl (dI .i64 l) n])), (1, some (5, .ds (dI .u8 (List.replicate (F * ((szN k) * n)) 0))))]) (nx' := 2) zk ⟨(V_rFS k r l n zo zo hc zo), ⟨by omega, by omega⟩, zo, rfl, rfl, zo, zo, (dI_rep _ _ _)⟩ ?_
 refine AW.seq ?_
 refine AW.rgs [.no, .no, .no] [2, 5, 13, 14] [0, 1] (P := True) (l' := [(2, rV 0 0), (5, oV 1 0 (F * ((szN k) * n)) 1), (13, iV (((F * ((szN k) * n)) : Nat) : Int)), (14, iV 0)]) (g' := [(0, some (28, .ds [iD k, iD ↑r, D.sl (dI .i64 l) n])), (1, some (5, .ds (dI .u8 (List.replicate (F * ((szN k) * n)) 0))))]) (nx' := 2) zk trivial ?_
 refine AW.block ?_
 refine AW.loopE 0 hcx (fun (x : {x : Nat // match x with | i => (i ≤ F * (szN k * n))}) => match x with | ⟨i, _⟩ => (⟨[(2, rV 0 0), (5, oV 1 0 (F * ((szN k) * n)) 1), (13, iV (((F * ((szN k) * n)) : Nat) : Int)), (14, iV ((i : Nat) : Int))], [(0, some (28, .ds [iD k, iD ((r : Nat) : Int), D.sl (dI .i64 l) n])), (1, some (5, .ds (dI .u8 ((List.replicate i (zB k)) ++ (List.replicate ((F * ((szN k) * n)) - i) 0)))))], 2⟩ : ES)) (fun (x : {x : Nat // match x with | i => (i ≤ F * (szN k * n))}) => match x with | ⟨i, _⟩ => F * (szN k * n) - i) ⟨(0 : Nat), (show ((0 : Nat) ≤ F * (szN k * n)) from (by first | omega | assumption | simp))⟩ [] (P := ((0 : Nat) = 0) ∧ ((0 : Nat) = 0) ∧ (((F * ((szN k) * n)) : Nat) = (F * ((szN k) * n))) ∧ (((((F * ((szN k) * n)) : Nat) : Int) : Int) = (((F * ((szN k) * n)) : Nat) : Int)) ∧ ((0 : Int) = 0) ∧ (([iD k, iD ((r : Nat) : Int), D.sl (dI .i64 l) n] : List D) = [iD k, iD ((r : Nat) : Int), D.sl (dI .i64 l) n]) ∧ (((dI .u8 ((List.replicate 0 (zB k)) ++ (List.replicate ((F * ((szN k) * n)) - 0) 0))) : List D) = (dI .u8 (List.replicate (F * ((szN k) * n)) 0)))) zk ⟨rfl, rfl, rfl, rfl, rfl, rfl, (by first | rfl | (show dI .u8 ([] ++ List.replicate (F * (szN k * n) - 0) 0) = _; rw [List.nil_append, Nat.sub_zero]; done) | exact zset zo zo | exact zkeep zo zo)⟩ ?_
 rintro ⟨i, hinv0⟩
 have hi : (i ≤ F * (szN k * n)) := hinv0
 refine AW.es (l := [(2, rV 0 0), (5, oV 1 0 (F * ((szN k) * n)) 1), (13, iV (((F * ((szN k) * n)) : Nat) : Int)), (14, iV ((i : Nat) : Int))]) (g := [(0, some (28, .ds [iD k, iD ((r : Nat) : Int), D.sl (dI .i64 l) n])), (1, some (5, .ds (dI .u8 ((List.replicate i (zB k)) ++ (List.replicate ((F * ((szN k) * n)) - i) 0)))))]) (nx := 2) rfl rfl rfl ?_
 by_cases hx2 : (((i : Nat) : Int) < (((F * ((szN k) * n)) : Nat) : Int))
 ·refine AW.rgs [.b true] [2, 5, 13, 14, 15] [0, 1] (P := ((((i : Nat) : Int) < (((F * ((szN k) * n)) : Nat) : Int)))) (l' := [(2, rV 0 0), (5, oV 1 0 (F * ((szN k) * n)) 1), (13, iV (((F * ((szN k) * n)) : Nat) : Int)), (14, iV ↑i), (15, bV true)]) (g' := [(0, some (28, .ds [iD k, iD ↑r, D.sl (dI .i64 l) n])), (1, some (5, .ds (dI .u8 ((List.replicate i (zB k)) ++ (List.replicate ((F * ((szN k) * n)) - i) 0)))))]) (nx' := 2) zk zo ?_
  refine AW.seq ?_
  refine AW.cond_t (.tmp (Look.of rfl)) ?_
  refine AW.skip ?_
  refine AW.seq ?_
  refine AW.block ?_
  refine AW.rgs [.no, .no] [2, 5, 6, 13, 14] [0, 1] (P := True) (l' := [(2, rV 0 0), (5, oV 1 0 (F * ((szN k) * n)) 1), (6, iV ↑i), (13, iV (((F * ((szN k) * n)) : Nat) : Int)), (14, iV ↑i)]) (g' := [(0, some (28, .ds [iD k, iD ↑r, D.sl (dI .i64 l) n])), (1, some (5, .ds (dI .u8 ((List.replicate i (zB k)) ++ (List.replicate ((F * ((szN k) * n)) - i) 0)))))]) (nx' := 2) zk trivial ?_
  by_cases hx3 : (k = 1)
  ·refine AW.rgs [.no, .no, .b true] [2, 5, 6, 13, 14, 19] [0, 1] (P := ((k = 1))) (l' := [(2, rV 0 0), (5, oV 1 0 (F * ((szN k) * n)) 1), (6, iV ↑i), (13, iV (((F * ((szN k) * n)) : Nat) : Int)), (14, iV ↑i), (19, bV true)]) (g' := [(0, some (28, .ds [iD k, iD ↑r, D.sl (dI .i64 l) n])), (1, some (5, .ds (dI .u8 ((List.replicate i (zB k)) ++ (List.replicate ((F * ((szN k) * n)) - i) 0)))))]) (nx' := 2) zk zo ?_
   refine AW.cond_t (.tmp (Look.of rfl)) ?_
   refine AW.rg [.no, .no, .n2 i i, .ds (dI .u8 (List.set ((List.replicate i (zB k)) ++ (List.replicate ((F * ((szN k) * n)) - i) 0)) i 128))] [2, 5, 13, 14] [0, 1] (P := ((((i : Nat) : Int) : Int) = ((i : Nat) : Int)) ∧ (i < (F * ((szN k) * n))) ∧ ((0 : Nat) + i * 1 = i) ∧ (i + 1 ≤ (dI .u8 ((List.replicate i (zB k)) ++ (List.replicate ((F * ((szN k) * n)) - i) 0))).length) ∧ (updD (dI .u8 ((List.replicate i (zB k)) ++ (List.replicate ((F * ((szN k) * n)) - i) 0))) i [D.lit (.int .u8 128)] = dI .u8 (List.set ((List.replicate i (zB k)) ++ (List.replicate ((F * ((szN k) * n)) - i) 0)) i 128))) (l' := [(2, rV 0 0), (5, oV 1 0 (F * ((szN k) * n)) 1), (13, iV (((F * ((szN k) * n)) : Nat) : Int)), (14, iV ↑i)]) (g' := [(0, some (28, .ds [iD k, iD ↑r, D.sl (dI .i64 l) n])), (1, some (5, .ds (dI .u8 (List.set ((List.replicate i (zB k)) ++ (List.replicate ((F * ((szN k) * n)) - i) 0)) i 128))))]) (nx' := 2) zk ⟨rfl, zo, zo, zlcz0, (dI_set _ _ _ _)⟩ ?_
   refine AW.rg [.w, .no] [2, 5, 13, 14] [0, 1] (P := ((-9223372036854775808) ≤ (((i : Nat) : Int) + 1) ∧ (((i : Nat) : Int) + 1) ≤ 9223372036854775807)) (l' := [(2, rV 0 0), (5, oV 1 0 (F * ((szN k) * n)) 1), (13, iV (((F * ((szN k) * n)) : Nat) : Int)), (14, iV (↑i + 1))]) (g' := [(0, some (28, .ds [iD k, iD ↑r, D.sl (dI .i64 l) n])), (1, some (5, .ds (dI .u8 (List.set ((List.replicate i (zB k)) ++ (List.replicate ((F * ((szN k) * n)) - i) 0)) i 128))))]) (nx' := 2) zk ⟨by omega, by omega⟩ ?_
   exact Rd.of ⟨((i + 1) : Nat), (show ((i + 1) ≤ F * (szN k * n)) from (by first | omega | assumption | simp))⟩ [] (P := ((0 : Nat) = 0) ∧ ((0 : Nat) = 0) ∧ (((F * ((szN k) * n)) : Nat) = (F * ((szN k) * n))) ∧ (((((F * ((szN k) * n)) : Nat) : Int) : Int) = (((F * ((szN k) * n)) : Nat) : Int)) ∧ (((((i + 1) : Nat) : Int) : Int) = (((i : Nat) : Int) + 1)) ∧ (([iD k, iD ((r : Nat) : Int), D.sl (dI .i64 l) n] : List D) = [iD k, iD ((r : Nat) : Int), D.sl (dI .i64 l) n]) ∧ (((dI .u8 ((List.replicate (i + 1) (zB k)) ++ (List.replicate ((F * ((szN k) * n)) - (i + 1)) 0))) : List D) = (dI .u8 (List.set ((List.replicate i (zB k)) ++ (List.replicate ((F * ((szN k) * n)) - i) 0)) i 128)))) zk ⟨rfl, rfl, rfl, rfl, (by first | rfl | omega | assumption | (simp; done) | (simp; omega)), rfl, (by first | rfl | (show dI .u8 ([] ++ List.replicate (F * (szN k * n) - 0) 0) = _; rw [List.nil_append, Nat.sub_zero]; done) | exact zset zo zo | exact zkeep zo zo)⟩ (show F * (szN k * n) - (i + 1) < F * (szN k * n) - i from (by first | omega | (show _ < _; simp; omega)))
  ·refine AW.rgs [.no, .no, .b false] [2, 5, 6, 13, 14, 19] [0, 1] (P := (¬ (k = 1))) (l' := [(2, rV 0 0), (5, oV 1 0 (F * ((szN k) * n)) 1), (6, iV ↑i), (13, iV (((F * ((szN k) * n)) : Nat) : Int)), (14, iV ↑i), (19, bV false)]) (g' := [(0, some (28, .ds [iD k, iD ↑r, D.sl (dI .i64 l) n])), (1, some (5, .ds (dI .u8 ((List.replicate i (zB k)) ++ (List.replicate ((F * ((szN k) * n)) - i) 0)))))]) (nx' := 2) zk zo ?_
   refine AW.cond_f (.tmp (Look.of rfl)) ?_
   refine AW.skip ?_
   refine AW.rg [.w, .no] [2, 5, 13, 14] [0, 1] (P := ((-9223372036854775808) ≤ (((i : Nat) : Int) + 1) ∧ (((i : Nat) : Int) + 1) ≤ 9223372036854775807)) (l' := [(2, rV 0 0), (5, oV 1 0 (F * ((szN k) * n)) 1), (13, iV (((F * ((szN k) * n)) : Nat) : Int)), (14, iV (↑i + 1))]) (g' := [(0, some (28, .ds [iD k, iD ↑r, D.sl (dI .i64 l) n])), (1, some (5, .ds (dI .u8 ((List.replicate i (zB k)) ++ (List.replicate ((F * ((szN k) * n)) - i) 0)))))]) (nx' := 2) zk ⟨by omega, by omega⟩ ?_
   exact Rd.of ⟨((i + 1) : Nat), (show ((i + 1) ≤ F * (szN k * n)) from (by first | omega | assumption | simp))⟩ [] (P := ((0 : Nat) = 0) ∧ ((0 : Nat) = 0) ∧ (((F * ((szN k) * n)) : Nat) = (F * ((szN k) * n))) ∧ (((((F * ((szN k) * n)) : Nat) : Int) : Int) = (((F * ((szN k) * n)) : Nat) : Int)) ∧ (((((i + 1) : Nat) : Int) : Int) = (((i : Nat) : Int) + 1)) ∧ (([iD k, iD ((r : Nat) : Int), D.sl (dI .i64 l) n] : List D) = [iD k, iD ((r : Nat) : Int), D.sl (dI .i64 l) n]) ∧ (((dI .u8 ((List.replicate (i + 1) (zB k)) ++ (List.replicate ((F * ((szN k) * n)) - (i + 1)) 0))) : List D) = (dI .u8 ((List.replicate i (zB k)) ++ (List.replicate ((F * ((szN k) * n)) - i) 0))))) zk ⟨rfl, rfl, rfl, rfl, (by first | rfl | omega | assumption | (simp; done) | (simp; omega)), rfl, (by first | rfl | (show dI .u8 ([] ++ List.replicate (F * (szN k * n) - 0) 0) = _; rw [List.nil_append, Nat.sub_zero]; done) | exact zset zo zo | exact zkeep zo zo)⟩ (show F * (szN k * n) - (i + 1) < F * (szN k * n) - i from (by first | omega | (show _ < _; simp; omega)))
 ·refine AW.rgs [.b false] [2, 5, 13, 14, 15] [0, 1] (P := (¬ (((i : Nat) : Int) < (((F * ((szN k) * n)) : Nat) : Int)))) (l' := [(2, rV 0 0), (5, oV 1 0 (F * ((szN k) * n)) 1), (13, iV (((F * ((szN k) * n)) : Nat) : Int)), (14, iV ↑i), (15, bV false)]) (g' := [(0, some (28, .ds [iD k, iD ↑r, D.sl (dI .i64 l) n])), (1, some (5, .ds (dI .u8 ((List.replicate i (zB k)) ++ (List.replicate ((F * ((szN k) * n)) - i) 0)))))]) (nx' := 2) zk zo ?_
  refine AW.seq ?_
  refine AW.cond_f (.tmp (Look.of rfl)) ?_
  refine AW.exit ?_
  refine AW.rgs [.no, .no] [4] [1] (P := True) (l' := [(4, oV 1 0 (F * ((szN k) * n)) 1)]) (g' := [(1, some (5, .ds (dI .u8 ((List.replicate i (zB k)) ++ (List.replicate ((F * ((szN k) * n)) - i) 0)))))]) (nx' := 2) zk trivial ?_
  refine AW.ret ?_
  obtain rfl : i = (F * ((szN k) * n)) := by omega
  exact EndP.of (.inr rfl) [(0, 1)] (P := ((0 : Nat) = 0) ∧ (((F * ((szN k) * n)) : Nat) = (F * ((szN k) * n))) ∧ (((dI .u8 (List.replicate (F * ((szN k) * n)) (zB k))) : List D) = (dI .u8 ((List.replicate (F * ((szN k) * n)) (zB k)) ++ (List.replicate ((F * ((szN k) * n)) - (F * ((szN k) * n))) 0))))) zk ⟨rfl, rfl, (by first | rfl | (rw [Nat.sub_self]; simp))⟩
theorem zlcz1 {p : Prop} (h : p := by first | omega | with_reducible assumption | (simp only [prV_len, rwV_len, List.length_append, List.length_cons, List.length_nil, List.length_take, List.length_drop, List.length_replicate, List.length_set] <;> omega) | rfl | assumption) : p := h
theorem V_ConvertSilence (sd : List Int) (m : Nat) (nn : Int) (hm : List.length sd = m) (hb : m ≤ 9223372036854775807) (hy : Byt sd) (ht : 0 ≤ nn ∧ nn ≤ 255) : Fun 6 [.c (.d (D.sl (dI .u8 sd) m)), .c (.d (D.lit (.int .u8 nn)))] (toG []) 0 (bV true) (toG []) 0 := by
 refine Fun.mk (n := 105) Tryd.func6 rfl rfl (Nat.le_of_ble_eq_true rfl) ?_
 intro cx hcx
 refine AW.rgs [.no] [0, 1] [] (P := True) (l' := [(0, sV .u8 sd m), (1, .e (.c (.d (D.lit (.int .u8 nn)))))]) (g' := []) (nx' := 0) zk trivial ?_
 refine AW.seq ?_
 refine AW.rgs [.call [] (bV true) [] 0 [] none, .no] [0, 1, 18] [] (P := (_)) (l' := [(0, sV .u8 sd m), (1, .e (.c (.d (D.lit (.int .u8 nn))))), (18, bV false)]) (g' := []) (nx' := 0) zk (V_sane) ?_
 refine AW.cond_f (.tmp (Look.of rfl)) ?_
 refine AW.skip ?_
 obtain ⟨d1, hx1, hx2, hF1⟩ := (X_New sd m zo zo zlcz1)
 obtain ⟨ka2, ra3, la4, na5, kb6, rb7, lb8, nb9, z10, hx3, hx4, hx5, hx6, hx7, hx8, hx9, hx10, hx11, hx12, hx13, hx14, hx15, hF10⟩ := (X_formats d1 zlcz1)
 refine AW.rgs [.no, .call [] (rV 0 0) [(0, some (59, .ds [D.sl (dI .u8 d1) (List.length d1)]))] 1 [] none, .call [0] (.tup [.agg [iC ka2, iC ((ra3 : Nat) : Int), .d (D.sl (dI .i64 la4) na5)], .agg [iC kb6, iC ((rb7 : Nat) : Int), .d (D.sl (dI .i64 lb8) nb9)]]) [(0, some (59, .ds [D.sl (dI .u8 z10) (List.length z10)]))] 1 [] none, .no, .no, .no, .no, .no, .no, .no] [1, 5, 6] [1, 2] (P := (_) ∧ (_)) (l' := [(1, .e (.c (.d (D.lit (.int .u8 nn))))), (5, rV 1 0), (6, rV 2 0)]) (g' := [(1, some (28, .ds [iD ka2, iD ↑ra3, D.sl (dI .i64 la4) na5])), (2, some (28, .ds [iD kb6, iD ↑rb7, D.sl (dI .i64 lb8) nb9]))]) (nx' := 3) zk ⟨hF1, hF10⟩ ?_
 obtain ⟨fq, hfq⟩ : ∃ fq : Nat, nn % 20 = ((fq : Nat) : Int) ∧ fq ≤ 19 := ⟨(nn % 20).toNat, by omega, by omega⟩
 have hx16 : PhV ((bsN ra3 rb7 : Nat) : Int) ((bdN ra3 rb7 : Nat) : Int) 0 0 0 := PhV.bd zo zo
 have hx17 : BV nb9 0 ([] : List Int) := BV.nil zo zo
 have hx18 : 0 * nb9 ≤ 524288 := BV.big (show (BV nb9 0 ([] : List Int)) by with_reducible assumption)
 have hx19 : 0 ≤ 65536 := BV.fit (show (BV nb9 0 ([] : List Int)) by with_reducible assumption)
 refine AW.rgs [.no, .i ((fq : Nat) : Int), .w, .w, .no] [5, 6, 7] [1, 2] (P := (¬ (20 : Int) = 0) ∧ (((Int.tmod nn 20) : Int) = ((fq : Nat) : Int)) ∧ ((-9223372036854775808) ≤ ((fq : Nat) : Int) ∧ ((fq : Nat) : Int) ≤ 9223372036854775807) ∧ ((-9223372036854775808) ≤ (1 + ((fq : Nat) : Int)) ∧ (1 + ((fq : Nat) : Int)) ≤ 9223372036854775807)) (l' := [(5, rV 1 0), (6, rV 2 0), (7, iV (1 + ↑fq))]) (g' := [(1, some (28, .ds [iD ka2, iD ↑ra3, D.sl (dI .i64 la4) na5])), (2, some (28, .ds [iD kb6, iD ↑rb7, D.sl (dI .i64 lb8) nb9]))]) (nx' := 3) zk ⟨zo, (by rw [Int.tmod_eq_emod_of_nonneg (by omega)]; omega), ⟨by omega, by omega⟩, ⟨by omega, by omega⟩⟩ ?_
 refine AW.rgs [.no, .no, .call [] (.tup [.agg [iC ka2, iC ((ra3 : Nat) : Int), .d (D.sl (dI .i64 la4) na5), iC kb6, iC ((rb7 : Nat) : Int), .d (D.sl (dI .i64 lb8) nb9), iC ((na5 : Nat) : Int), iC ((nb9 : Nat) : Int), .d (D.sl (dI .i64 (dfL la4 lb8 na5 nb9 na5)) (na5 * nb9)), iC ((nb9 : Nat) : Int), iC (((bsN ra3 rb7) : Nat) : Int), iC (((bdN ra3 rb7) : Nat) : Int), iC 0, iC 0, iC 0, .d (D.sl ([] : List D) 0)], iE 0]) [] 0 [] none, .no, .no, .no, .no, .no, .no] [5, 6, 7, 8, 9] [1, 2, 3] (P := (_)) (l' := [(5, rV 1 0), (6, rV 2 0), (7, iV (1 + ↑fq)), (8, rV 3 0), (9, iV 0)]) (g' := [(1, some (28, .ds [iD ka2, iD ↑ra3, D.sl (dI .i64 la4) na5])), (2, some (28, .ds [iD kb6, iD ↑rb7, D.sl (dI .i64 lb8) nb9])), (3, some (41, .ds [iD ka2, iD ↑ra3, D.sl (dI .i64 la4) na5, iD kb6, iD ↑rb7, D.sl (dI .i64 lb8) nb9, iD ↑na5, iD ↑nb9, D.sl (dI .i64 (dfL la4 lb8 na5 nb9 na5)) (na5 * nb9), iD ↑nb9, iD (((bsN ra3 rb7) : Nat) : Int), iD (((bdN ra3 rb7) : Nat) : Int), iD 0, iD 0, iD 0, D.sl ([] : List D) 0]))]) (nx' := 4) zk (V_New ka2 ra3 la4 na5 kb6 rb7 lb8 nb9 zo zo hx5 zo zo zo hx11 zo) ?_
 have hx20 : (Byt (List.replicate ((1 + fq) * ((szN ka2) * na5)) (zB ka2))) := zB_byt _ _
 obtain ⟨o218, l219, k220, W221, r222, p223, f224, hx21, hx22, hx23, hx24, hx25, hx26, hx27, hx28, hF24⟩ := (V_Run ka2 ra3 la4 na5 kb6 rb7 lb8 nb9 0 0 0 ([] : List Int) 0 (List.replicate ((1 + fq) * ((szN ka2) * na5)) (zB ka2)) ((1 + fq) * ((szN ka2) * na5)) (1 + fq) zo zo hx5 zo zo zo hx11 zo zlcz1 zlcz1 zlcz1 zlcz1 rfl zlcz1 zo zo)
 refine AW.rgs [.no, .no, .no, (.fz (.call [] (oV 0 0 ((1 + fq) * ((szN ka2) * na5)) 1) [(0, some (5, .ds (dI .u8 (List.replicate ((1 + fq) * ((szN ka2) * na5)) (zB ka2)))))] 1 [] none)), .call [] (.tup [.c (.d (D.sl (dI .u8 (encA kb6 o218 (k220 * nb9))) ((k220 * nb9) * (szN kb6)))), .agg [iC ka2, iC ((ra3 : Nat) : Int), .d (D.sl (dI .i64 la4) na5), iC kb6, iC ((rb7 : Nat) : Int), .d (D.sl (dI .i64 lb8) nb9), iC ((na5 : Nat) : Int), iC ((nb9 : Nat) : Int), .d (D.sl (dI .i64 (dfL la4 lb8 na5 nb9 na5)) (na5 * nb9)), iC ((nb9 : Nat) : Int), iC (((bsN ra3 rb7) : Nat) : Int), iC (((bdN ra3 rb7) : Nat) : Int), iC 0, iC p223, iC f224, .d (D.sl (dI .i32 l219) r222)], iE 0]) [] 0 [] none, .no, .no, .no, .no, .no, .no, .no, .no] [5, 6, 7, 9, 10, 11, 12] [1, 2, 5] (P := (_) ∧ (((dI .u8 (List.replicate ((1 + fq) * ((szN ka2) * na5)) (zB ka2))) : List D).length = ((1 + fq) * ((szN ka2) * na5)) * 1) ∧ (_)) (l' := [(5, rV 1 0), (6, rV 2 0), (7, iV (1 + ↑fq)), (9, iV 0), (10, sV .u8 (encA kb6 o218 (k220 * nb9)) ((k220 * nb9) * (szN kb6))), (11, rV 5 0), (12, iV 0)]) (g' := [(1, some (28, .ds [iD ka2, iD ↑ra3, D.sl (dI .i64 la4) na5])), (2, some (28, .ds [iD kb6, iD ↑rb7, D.sl (dI .i64 lb8) nb9])), (5, some (41, .ds [iD ka2, iD ↑ra3, D.sl (dI .i64 la4) na5, iD kb6, iD ↑rb7, D.sl (dI .i64 lb8) nb9, iD ↑na5, iD ↑nb9, D.sl (dI .i64 (dfL la4 lb8 na5 nb9 na5)) (na5 * nb9), iD ↑nb9, iD (((bsN ra3 rb7) : Nat) : Int), iD (((bdN ra3 rb7) : Nat) : Int), iD 0, iD p223, iD f224, D.sl (dI .i32 l219) r222]))]) (nx' := 6) zk ⟨(V_zero ka2 ra3 la4 na5 (1 + fq) zo zo hx5 zo zo), zlcz0, hF24⟩ ?_
 have hx29 : W221 * nb9 ≤ 524288 := BV.big (show (BV nb9 W221 l219) by with_reducible assumption)
 have hx30 : List.length l219 ≤ 524288 := Nat.le_trans (Nat.le_of_eq (BV.len (show (BV nb9 W221 l219) by with_reducible assumption))) (BV.big (show (BV nb9 W221 l219) by with_reducible assumption))
 have hx31 : W221 ≤ 65536 := BV.fit (show (BV nb9 W221 l219) by with_reducible assumption)
 have hx32 : k220 * nb9 ≤ 524288 := BV.big (show (BV nb9 k220 o218) by with_reducible assumption)
 have hx33 : List.length o218 ≤ 524288 := Nat.le_trans (Nat.le_of_eq (BV.len (show (BV nb9 k220 o218) by with_reducible assumption))) (BV.big (show (BV nb9 k220 o218) by with_reducible assumption))
 have hx34 : k220 ≤ 65536 := BV.fit (show (BV nb9 k220 o218) by with_reducible assumption)
 have hx35 : List.length (encA kb6 o218 (k220 * nb9)) = (k220 * nb9) * szN kb6 := encA_len zo _ _
 have hx36 : List.length (encA kb6 o218 (k220 * nb9)) ≤ 2097152 := by rw [encA_len (by omega)]; exact Nat.mul_le_mul (show (k220 * nb9) ≤ 524288 by omega) (szN_in _).2
 obtain ⟨o25, j26, hx37, hx38, hx39, hx40, hF26⟩ := (V_Fin ka2 ra3 la4 na5 kb6 rb7 lb8 nb9 p223 f224 W221 l219 r222 zo zo hx5 zo zo zo hx11 zo zlcz1 zlcz1 zo zo)
 refine AW.rgs [.no, .call [] (.tup [.c (.d (D.sl (dI .u8 (encA kb6 o25 (j26 * nb9))) ((j26 * nb9) * (szN kb6)))), iE 0]) [] 0 [] none, .no, .no, .no, .no, .no] [5, 6, 7, 9, 10, 12, 13, 14] [1, 2] (P := (_)) (l' := [(5, rV 1 0), (6, rV 2 0), (7, iV (1 + ↑fq)), (9, iV 0), (10, sV .u8 (encA kb6 o218 (k220 * nb9)) ((k220 * nb9) * (szN kb6))), (12, iV 0), (13, sV .u8 (encA kb6 o25 (j26 * nb9)) ((j26 * nb9) * (szN kb6))), (14, iV 0)]) (g' := [(1, some (28, .ds [iD ka2, iD ↑ra3, D.sl (dI .i64 la4) na5])), (2, some (28, .ds [iD kb6, iD ↑rb7, D.sl (dI .i64 lb8) nb9]))]) (nx' := 6) zk hF26 ?_
 have hx41 : j26 * nb9 ≤ 524288 := BV.big (show (BV nb9 j26 o25) by with_reducible assumption)
 have hx42 : List.length o25 ≤ 524288 := Nat.le_trans (Nat.le_of_eq (BV.len (show (BV nb9 j26 o25) by with_reducible assumption))) (BV.big (show (BV nb9 j26 o25) by with_reducible assumption))
 have hx43 : j26 ≤ 65536 := BV.fit (show (BV nb9 j26 o25) by with_reducible assumption)
 have hx44 : List.length (encA kb6 o25 (j26 * nb9)) = (j26 * nb9) * szN kb6 := encA_len zo _ _
 have hx45 : List.length (encA kb6 o25 (j26 * nb9)) ≤ 2097152 := by rw [encA_len (by omega)]; exact Nat.mul_le_mul (show (j26 * nb9) ≤ 524288 by omega) (szN_in _).2
 have hcc := conv_count (fI := 1 + ((fq : Nat) : Int)) (by omega) (by omega) (F := 1 + fq) (by omega) (by omega) (show (CV (((bsN ra3 rb7) : Nat) : Int) (((bdN ra3 rb7) : Nat) : Int) 0 0 0 nb9 (0 + (1 + fq)) (([] : List Int) ++ (apA (dfL la4 lb8 na5 nb9 na5) (decA ka2 (List.replicate ((1 + fq) * ((szN ka2) * na5)) (zB ka2)) ((1 + fq) * na5)) na5 nb9 ((1 + fq) * nb9))) o218 l219 k220 W221 p223 f224) by with_reducible assumption) (show (FN (((bsN ra3 rb7) : Nat) : Int) (((bdN ra3 rb7) : Nat) : Int) f224 nb9 W221 l219 o25 j26) by with_reducible assumption)
 obtain ⟨hx46, _⟩ : ((((k220 + j26 : Nat) : Int) - 1) * ((ra3 : Nat) : Int) < (1 + ((fq : Nat) : Int)) * ((rb7 : Nat) : Int)) ∧ True := ⟨hcc.1, trivial⟩
 obtain ⟨hx47, _⟩ : ((1 + ((fq : Nat) : Int)) * ((rb7 : Nat) : Int) ≤ ((k220 + j26 : Nat) : Int) * ((ra3 : Nat) : Int)) ∧ True := ⟨hcc.2.1, trivial⟩
 obtain ⟨hx48, _⟩ : (k220 + j26 ≤ 1100) ∧ True := ⟨hcc.2.2, trivial⟩
 obtain ⟨hx49, _⟩ : (0 ≤ (1 + ((fq : Nat) : Int)) * ((rb7 : Nat) : Int)) ∧ True := ⟨Int.mul_nonneg zo zo, trivial⟩
 obtain ⟨hx50, _⟩ : ((1 + ((fq : Nat) : Int)) * ((rb7 : Nat) : Int) ≤ 20 * 96000) ∧ True := ⟨Int.mul_le_mul zo zo zo zo, trivial⟩
 obtain ⟨hx51, _⟩ : (-96000 ≤ (((k220 + j26 : Nat) : Int) - 1) * ((ra3 : Nat) : Int)) ∧ True := ⟨(by have h9 : 0 ≤ ((k220 + j26 : Nat) : Int) * ((ra3 : Nat) : Int) := Int.mul_nonneg zo zo; rw [Int.sub_mul]; omega), trivial⟩
 obtain ⟨hx52, _⟩ : (((k220 + j26 : Nat) : Int) * ((ra3 : Nat) : Int) ≤ 1100 * 96000) ∧ True := ⟨Int.mul_le_mul zo zo zo zo, trivial⟩
 obtain ⟨hx53, _⟩ : ((((k220 * nb9 * szN kb6 : Nat) : Int) + ((j26 * nb9 * szN kb6 : Nat) : Int)) / ((szN kb6 * nb9 : Nat) : Int) = ((k220 + j26 : Nat) : Int)) ∧ True := ⟨by rw [← Int.natCast_add, ← Nat.add_mul, ← Nat.add_mul, ← nsz]; exact (fr_div ⟨(szN_in _).1, by omega⟩).1, trivial⟩
 have hx54 : (((1 : Nat) ≤ ((szN kb6) * nb9)) ∧ (((szN kb6) * nb9) ≤ 32)) := ⟨Nat.mul_le_mul (szN_in kb6).1 (show 1 ≤ nb9 by omega), Nat.mul_le_mul (szN_in kb6).2 (show nb9 ≤ 8 by omega)⟩
 refine AW.rgs [.no, .call [] (iV ((((szN kb6) * nb9) : Nat) : Int)) [] 0 [] none, .no] [5, 6, 7, 9, 10, 12, 13, 14, 15] [1, 2] (P := (_)) (l' := [(5, rV 1 0), (6, rV 2 0), (7, iV (1 + ↑fq)), (9, iV 0), (10, sV .u8 (encA kb6 o218 (k220 * nb9)) ((k220 * nb9) * (szN kb6))), (12, iV 0), (13, sV .u8 (encA kb6 o25 (j26 * nb9)) ((j26 * nb9) * (szN kb6))), (14, iV 0), (15, iV ((((szN kb6) * nb9) : Nat) : Int))]) (g' := [(1, some (28, .ds [iD ka2, iD ↑ra3, D.sl (dI .i64 la4) na5])), (2, some (28, .ds [iD kb6, iD ↑rb7, D.sl (dI .i64 lb8) nb9]))]) (nx' := 6) zk (V_FS kb6 rb7 lb8 nb9 zo zo hx11 zo) ?_
 refine AW.seq ?_
 refine AW.rgs [.no, .b false, .no, .no, .b false, .no, .no, .no, .b false, .no, .no, .no, .b false, .no] [5, 6, 7, 10, 13, 15, 64] [1, 2] (P := (¬ ((0 : Int) ≠ 0)) ∧ (¬ ((0 : Int) ≠ 0)) ∧ (¬ ((0 : Int) ≠ 0)) ∧ (¬ (((((szN kb6) * nb9) : Nat) : Int) = 0))) (l' := [(5, rV 1 0), (6, rV 2 0), (7, iV (1 + ↑fq)), (10, sV .u8 (encA kb6 o218 (k220 * nb9)) ((k220 * nb9) * (szN kb6))), (13, sV .u8 (encA kb6 o25 (j26 * nb9)) ((j26 * nb9) * (szN kb6))), (15, iV ((((szN kb6) * nb9) : Nat) : Int)), (64, bV false)]) (g' := [(1, some (28, .ds [iD ka2, iD ↑ra3, D.sl (dI .i64 la4) na5])), (2, some (28, .ds [iD kb6, iD ↑rb7, D.sl (dI .i64 lb8) nb9]))]) (nx' := 6) zk ⟨zo, zo, zo, zo⟩ ?_
 refine AW.cond_f (.tmp (Look.of rfl)) ?_
 refine AW.skip ?_
 refine AW.rgs [.no, .no, .no, .no, .w, .no, .wi (((k220 + j26) : Nat) : Int), .no] [5, 6, 7, 10, 13, 16] [1, 2] (P := ((-9223372036854775808) ≤ (((((k220 * nb9) * (szN kb6)) : Nat) : Int) + ((((j26 * nb9) * (szN kb6)) : Nat) : Int)) ∧ (((((k220 * nb9) * (szN kb6)) : Nat) : Int) + ((((j26 * nb9) * (szN kb6)) : Nat) : Int)) ≤ 9223372036854775807) ∧ (¬ (((((szN kb6) * nb9) : Nat) : Int) : Int) = 0) ∧ ((-9223372036854775808) ≤ (Int.tdiv (((((k220 * nb9) * (szN kb6)) : Nat) : Int) + ((((j26 * nb9) * (szN kb6)) : Nat) : Int)) ((((szN kb6) * nb9) : Nat) : Int)) ∧ (Int.tdiv (((((k220 * nb9) * (szN kb6)) : Nat) : Int) + ((((j26 * nb9) * (szN kb6)) : Nat) : Int)) ((((szN kb6) * nb9) : Nat) : Int)) ≤ 9223372036854775807) ∧ (((Int.tdiv (((((k220 * nb9) * (szN kb6)) : Nat) : Int) + ((((j26 * nb9) * (szN kb6)) : Nat) : Int)) ((((szN kb6) * nb9) : Nat) : Int)) : Int) = (((k220 + j26) : Nat) : Int))) (l' := [(5, rV 1 0), (6, rV 2 0), (7, iV (1 + ↑fq)), (10, sV .u8 (encA kb6 o218 (k220 * nb9)) ((k220 * nb9) * (szN kb6))), (13, sV .u8 (encA kb6 o25 (j26 * nb9)) ((j26 * nb9) * (szN kb6))), (16, iV (((k220 + j26) : Nat) : Int))]) (g' := [(1, some (28, .ds [iD ka2, iD ↑ra3, D.sl (dI .i64 la4) na5])), (2, some (28, .ds [iD kb6, iD ↑rb7, D.sl (dI .i64 lb8) nb9]))]) (nx' := 6) zk ⟨⟨by omega, by omega⟩, zo, ⟨by rw [Int.tdiv_eq_ediv_of_nonneg (by omega)]; omega, by rw [Int.tdiv_eq_ediv_of_nonneg (by omega)]; omega⟩, (by rw [Int.tdiv_eq_ediv_of_nonneg (by omega)]; omega)⟩ ?_
 have hx55 : (Byt (List.replicate ((k220 + j26) * ((szN kb6) * nb9)) (zB kb6))) := zB_byt _ _
 refine AW.rgs [.no, .st none (encA kb6 o218 (k220 * nb9)), .no, .st none (encA kb6 o25 (j26 * nb9)), .ds [D.lit (.string (strOfNums ((encA kb6 o218 (k220 * nb9)) ++ (encA kb6 o25 (j26 * nb9)))))], .no, .no, .call [] (oV 0 0 ((k220 + j26) * ((szN kb6) * nb9)) 1) [(0, some (5, .ds (dI .u8 (List.replicate ((k220 + j26) * ((szN kb6) * nb9)) (zB kb6)))))] 1 [] none, .st none (List.replicate ((k220 + j26) * ((szN kb6) * nb9)) (zB kb6)), .b true, .no, .no, .w, .no, .no, .w, .no, .no, .no, .w, .b true, .no, .no, .no, .no, .no, .w, .no, .no, .no, .w, .b true, .no, .no] [4] [] (P := ((dI .u8 (encA kb6 o218 (k220 * nb9))).length = ((k220 * nb9) * (szN kb6)) * 1) ∧ (((dI .u8 (encA kb6 o218 (k220 * nb9))) : List D) = dI .u8 (encA kb6 o218 (k220 * nb9))) ∧ ((dI .u8 (encA kb6 o25 (j26 * nb9))).length = ((j26 * nb9) * (szN kb6)) * 1) ∧ (((dI .u8 (encA kb6 o25 (j26 * nb9))) : List D) = dI .u8 (encA kb6 o25 (j26 * nb9))) ∧ ((strOfNums (encA kb6 o218 (k220 * nb9))) ++ (strOfNums (encA kb6 o25 (j26 * nb9))) = strOfNums ((encA kb6 o218 (k220 * nb9)) ++ (encA kb6 o25 (j26 * nb9)))) ∧ (ByteArray.size (strOfNums (encA kb6 o218 (k220 * nb9))) + ByteArray.size (strOfNums (encA kb6 o25 (j26 * nb9))) ≤ 9223372036854775807) ∧ (_) ∧ ((dI .u8 (List.replicate ((k220 + j26) * ((szN kb6) * nb9)) (zB kb6))).length = ((k220 + j26) * ((szN kb6) * nb9)) * 1) ∧ (((dI .u8 (List.replicate ((k220 + j26) * ((szN kb6) * nb9)) (zB kb6))) : List D) = dI .u8 (List.replicate ((k220 + j26) * ((szN kb6) * nb9)) (zB kb6))) ∧ ((ByteArray.toList (strOfNums ((encA kb6 o218 (k220 * nb9)) ++ (encA kb6 o25 (j26 * nb9)))) == ByteArray.toList (strOfNums (List.replicate ((k220 + j26) * ((szN kb6) * nb9)) (zB kb6)))) = true) ∧ ((-9223372036854775808) ≤ ((((k220 + j26) : Nat) : Int) - 1) ∧ ((((k220 + j26) : Nat) : Int) - 1) ≤ 9223372036854775807) ∧ ((-9223372036854775808) ≤ (((((k220 + j26) : Nat) : Int) - 1) * ((ra3 : Nat) : Int)) ∧ (((((k220 + j26) : Nat) : Int) - 1) * ((ra3 : Nat) : Int)) ≤ 9223372036854775807) ∧ ((-9223372036854775808) ≤ ((1 + ((fq : Nat) : Int)) * ((rb7 : Nat) : Int)) ∧ ((1 + ((fq : Nat) : Int)) * ((rb7 : Nat) : Int)) ≤ 9223372036854775807) ∧ (((((((k220 + j26) : Nat) : Int) - 1) * ((ra3 : Nat) : Int)) < ((1 + ((fq : Nat) : Int)) * ((rb7 : Nat) : Int)))) ∧ ((-9223372036854775808) ≤ ((((k220 + j26) : Nat) : Int) * ((ra3 : Nat) : Int)) ∧ ((((k220 + j26) : Nat) : Int) * ((ra3 : Nat) : Int)) ≤ 9223372036854775807) ∧ ((-9223372036854775808) ≤ ((1 + ((fq : Nat) : Int)) * ((rb7 : Nat) : Int)) ∧ ((1 + ((fq : Nat) : Int)) * ((rb7 : Nat) : Int)) ≤ 9223372036854775807) ∧ ((((1 + ((fq : Nat) : Int)) * ((rb7 : Nat) : Int)) ≤ ((((k220 + j26) : Nat) : Int) * ((ra3 : Nat) : Int))))) (l' := [(4, bV true)]) (g' := []) (nx' := 7) zk ⟨zlcz0, rfl, zlcz0, rfl, (strOf_cat (encA kb6 o218 (k220 * nb9)) (encA kb6 o25 (j26 * nb9))), (by have h8 := strOfNums_size (encA kb6 o218 (k220 * nb9)); have h9 := strOfNums_size (encA kb6 o25 (j26 * nb9)); (try simp only [List.length_append, List.length_take, List.length_drop, List.length_cons, List.length_nil] at h8 h9); change (strOfNums (encA kb6 o218 (k220 * nb9))).size + (strOfNums (encA kb6 o25 (j26 * nb9))).size ≤ _; omega), (V_zero kb6 rb7 lb8 nb9 (k220 + j26) zo zo hx11 zo zo), zlcz0, rfl, (by rw [show ((encA kb6 o218 (k220 * nb9)) ++ (encA kb6 o25 (j26 * nb9))) = (List.replicate ((k220 + j26) * ((szN kb6) * nb9)) (zB kb6)) from conv_zero (by omega) (by omega) (by omega) (by omega) (show (PhV (((bsN ra3 rb7) : Nat) : Int) (((bdN ra3 rb7) : Nat) : Int) 0 0 0) by with_reducible assumption) (show (PhV (((bsN ra3 rb7) : Nat) : Int) (((bdN ra3 rb7) : Nat) : Int) 0 p223 f224) by with_reducible assumption) (show (CV (((bsN ra3 rb7) : Nat) : Int) (((bdN ra3 rb7) : Nat) : Int) 0 0 0 nb9 (0 + (1 + fq)) (([] : List Int) ++ (apA (dfL la4 lb8 na5 nb9 na5) (decA ka2 (List.replicate ((1 + fq) * ((szN ka2) * na5)) (zB ka2)) ((1 + fq) * na5)) na5 nb9 ((1 + fq) * nb9))) o218 l219 k220 W221 p223 f224) by with_reducible assumption) (show (FN (((bsN ra3 rb7) : Nat) : Int) (((bdN ra3 rb7) : Nat) : Int) f224 nb9 W221 l219 o25 j26) by with_reducible assumption)]; simp), ⟨by omega, by omega⟩, ⟨by omega, by omega⟩, ⟨by omega, by omega⟩, zo, ⟨by omega, by omega⟩, ⟨by omega, by omega⟩, zo⟩ ?_
 refine AW.ret ?_
 exact EndP.of (.inr rfl) [] (P := (true = true)) zk rfl
theorem convertSilence_walk {w : World} {nn : Int} {xa0 : Option Addr} {xl0 xc0 : Nat} {sd : List Int} (hs0 : Sl .u8 w xa0 xl0 xc0 sd) (hi_nn : 0 ≤ nn ∧ nn ≤ 255) (hgl : GlOK (fun k => k < w.heap.size) w) : Calls Tryd.prog 6 #[.slice xa0 xl0 xc0, .int .u8 nn] w fun e w' => e = .returned (.bool true) ∧ Below w.heap.size w w' :=
 (V_ConvertSilence sd (List.length sd) nn rfl hs0.max (Byt.of fun x hx => bounds_u8 (hs0.wf x hx)) hi_nn).walk ⟨repE_sl hs0, repE_lit rfl, trivial⟩ hgl
end Go.Proofs.YtigiolfloefjnaaDoor
