/- Rate conversion. No statement is proved here. -/
import Derived.Test.YtigiolfloefjnaaGreatDoorZL14
import Derived.Test.YtigiolfloefjnaaGreatDoorZL04
import Derived.Test.YtigiolfloefjnaaGreatDoorZLSl
namespace Go.Proofs.YtigiolfloefjnaaGreatDoor
open Go.ChangeShapes Go.WideShapes Go.ChangeAt Go.RowKit
set_option linter.unusedVariables false
set_option linter.unusedSimpArgs false
set_option maxHeartbeats 4000000
set_option maxRecDepth 100000
theorem tdiv_f1 {n b : Int} (hb : 0 < b) (h : n.tmod b < 0) : n.tdiv b - 1 = n / b := by
 have h0 : ¬ 0 ≤ n := fun h0 => by have := Int.tmod_nonneg b h0; omega
 have e1 : n.tmod b = -((-n) % b) := by
  have := Int.neg_tmod (-n) b; rw [Int.neg_neg] at this; rw [this, Int.tmod_eq_emod_of_nonneg (by omega)]
 have e2 : n.tdiv b = -((-n) / b) := by
  have := Int.neg_tdiv (-n) b; rw [Int.neg_neg] at this; rw [this, Int.tdiv_eq_ediv_of_nonneg (by omega)]
 have e3 := Int.mul_ediv_add_emod (-n) b
 have e4 := Int.emod_lt_of_pos (-n) hb
 rw [e2]
 symm
 rw [Int.ediv_eq_iff_of_pos hb]
 generalize (-n) / b = q at *
 generalize (-n) % b = r at *
 have e5 : (-q - 1) * b = -(b * q) - b := by rw [Int.sub_mul, Int.neg_mul, Int.mul_comm q b]; omega
 have e6 : (-q - 1 + 1) * b = -(b * q) := by rw [show -q - 1 + 1 = -q by omega, Int.neg_mul, Int.mul_comm q b]
 rw [e5]
 omega
theorem tdiv_f2 {n b : Int} (hb : 0 < b) (h : ¬ n.tmod b < 0) : n.tdiv b = n / b := by
 by_cases h0 : 0 ≤ n
 ·exact Int.tdiv_eq_ediv_of_nonneg h0
 ·have e1 : n.tmod b = -((-n) % b) := by
   have := Int.neg_tmod (-n) b; rw [Int.neg_neg] at this; rw [this, Int.tmod_eq_emod_of_nonneg (by omega)]
  have e2 : n.tdiv b = -((-n) / b) := by
   have := Int.neg_tdiv (-n) b; rw [Int.neg_neg] at this; rw [this, Int.tdiv_eq_ediv_of_nonneg (by omega)]
  have e3 := Int.mul_ediv_add_emod (-n) b
  have e4 := Int.emod_nonneg (-n) (show b ≠ 0 by omega)
  rw [e2]
  symm
  rw [Int.ediv_eq_iff_of_pos hb]
  generalize (-n) / b = q at *
  generalize (-n) % b = r at *
  have e5 : (-q) * b = -(b * q) := by rw [Int.neg_mul, Int.mul_comm q b]
  rw [e5]
  omega
def betV (a b f P : Int) : Int := (a * (P - f) + b * f + P / 2) / P
theorem bet_sum {a b f P : Int} (ha : -8388608 ≤ a ∧ a ≤ 8388607) (hb : -8388608 ≤ b ∧ b ≤ 8388607) (hf : 0 ≤ f ∧ f < P) (hP : P ≤ 50331648000) : (-422212465065984000 ≤ a * (P - f) ∧ a * (P - f) ≤ 422212465065984000) ∧ (-422212465065984000 ≤ b * f ∧ b * f ≤ 422212465065984000) := by
 have m : ∀ x y : Int, -8388608 ≤ x ∧ x ≤ 8388607 → 0 ≤ y ∧ y ≤ 50331648000 → -422212465065984000 ≤ x * y ∧ x * y ≤ 422212465065984000 := by
  intro x y hx hy
  have e1 : x * y ≤ 8388608 * y := Int.mul_le_mul_of_nonneg_right (by omega) hy.1
  have e2 : (-8388608) * y ≤ x * y := Int.mul_le_mul_of_nonneg_right hx.1 hy.1
  omega
 exact ⟨m a _ ha (by omega), m b _ hb (by omega)⟩
theorem betV_in {a b f P : Int} (hf : 0 ≤ f ∧ f < P) : min a b ≤ betV a b f P ∧ betV a b f P ≤ max a b := by
 have hP : 0 < P := by omega
 have e1 : a * (P - f) ≤ max a b * (P - f) := Int.mul_le_mul_of_nonneg_right (by omega) (by omega)
 have e2 : b * f ≤ max a b * f := Int.mul_le_mul_of_nonneg_right (by omega) (by omega)
 have e3 : min a b * (P - f) ≤ a * (P - f) := Int.mul_le_mul_of_nonneg_right (by omega) (by omega)
 have e4 : min a b * f ≤ b * f := Int.mul_le_mul_of_nonneg_right (by omega) (by omega)
 have e5 : max a b * (P - f) + max a b * f = max a b * P := by rw [← Int.mul_add]; congr 1; omega
 have e6 : min a b * (P - f) + min a b * f = min a b * P := by rw [← Int.mul_add]; congr 1; omega
 have h2 : 0 ≤ P / 2 ∧ P / 2 < P := by omega
 unfold betV
 constructor
 ·rw [Int.le_ediv_iff_mul_le hP]; omega
 ·have : (a * (P - f) + b * f + P / 2) / P < max a b + 1 := by
   rw [Int.ediv_lt_iff_lt_mul hP, Int.add_mul, Int.one_mul]; omega
  omega
theorem betV_smp {a b f P : Int} (ha : -8388608 ≤ a ∧ a ≤ 8388607) (hb : -8388608 ≤ b ∧ b ≤ 8388607) (hf : 0 ≤ f ∧ f < P) : -8388608 ≤ betV a b f P ∧ betV a b f P ≤ 8388607 := by
 have := betV_in (a := a) (b := b) hf
 omega
def iqV (f s P : Int) (k : Nat) : Nat := (mvV f s k / P).toNat
theorem iqV_eq {f s P : Int} {k : Nat} (h : 0 ≤ mvV f s k / P) : mvV f s k / P = ((iqV f s P k : Nat) : Int) := by unfold iqV; omega
def frV (ch W : Nat) (l : List Int) (i : Nat) : List Int := List.take ch (List.drop (min i (W - 1) * ch) l)
theorem fr_in {ch W : Nat} {l : List Int} (hl : List.length l = W * ch) (hW : 1 ≤ W) (i : Nat) : min i (W - 1) * ch + ch ≤ W * ch := by
 have e1 : (min i (W - 1) + 1) * ch ≤ W * ch := Nat.mul_le_mul_right _ (by omega)
 rw [Nat.succ_mul] at e1; exact e1
theorem frV_len {ch W : Nat} {l : List Int} (hl : List.length l = W * ch) (hW : 1 ≤ W) (i : Nat) : List.length (frV ch W l i) = ch := by
 have := fr_in hl hW i
 unfold frV
 rw [List.length_take, List.length_drop]; omega
theorem frV_at {ch W : Nat} {l : List Int} {i j : Nat} (hj : j < ch) : List.getD (frV ch W l i) j 0 = List.getD l (min i (W - 1) * ch + j) 0 := by
 unfold frV; rw [getD_take hj, getD_drop]
theorem frV_smp {ch W : Nat} {l : List Int} (h : BV ch W l) (hW : 1 ≤ W) {i j : Nat} (hj : j < ch) : -8388608 ≤ List.getD (frV ch W l i) j 0 ∧ List.getD (frV ch W l i) j 0 ≤ 8388607 := by
 have := fr_in h.len hW i
 rw [frV_at hj]; exact h.at _ (by omega)
def rwV (A B : List Int) (f P : Int) : Nat → List Int
 | 0 => []
 | c + 1 => rwV A B f P c ++ [betV (List.getD A c 0) (List.getD B c 0) f P]
theorem rwV_len (A B : List Int) (f P : Int) : ∀ c, List.length (rwV A B f P c) = c
 | 0 => rfl
 | c + 1 => by show (rwV A B f P c ++ [_]).length = _; rw [List.length_append, rwV_len A B f P c]; rfl
theorem rwV_at {A B : List Int} {f P : Int} {j : Nat} : ∀ c, j < c → List.getD (rwV A B f P c) j 0 = betV (List.getD A j 0) (List.getD B j 0) f P
 | c + 1, h => by
  show List.getD (rwV A B f P c ++ [_]) j 0 = _
  by_cases hj : j < c
  ·rw [getD_app_l (by rw [rwV_len]; exact hj)]; exact rwV_at c hj
  ·have : j = c := by omega
   subst this
   rw [getD_app_r (by rw [rwV_len]; omega), rwV_len, Nat.sub_self]; rfl
def prV (ch W : Nat) (l : List Int) (f s P : Int) : Nat → List Int
 | 0 => []
 | k + 1 => prV ch W l f s P k ++ rwV (frV ch W l (iqV f s P k)) (frV ch W l (iqV f s P k + 1)) (mvV f s k % P) P ch
theorem prV_len (ch W : Nat) (l : List Int) (f s P : Int) : ∀ k, List.length (prV ch W l f s P k) = k * ch
 | 0 => by simp [prV]
 | k + 1 => by show (prV ch W l f s P k ++ rwV _ _ _ _ _).length = _; rw [List.length_append, prV_len ch W l f s P k, rwV_len, Nat.succ_mul]
theorem prV_at {ch W : Nat} {l : List Int} {f s P : Int} {q j : Nat} (hj : j < ch) : ∀ k, q < k → List.getD (prV ch W l f s P k) (q * ch + j) 0 = betV (List.getD (frV ch W l (iqV f s P q)) j 0) (List.getD (frV ch W l (iqV f s P q + 1)) j 0) (mvV f s q % P) P
 | k + 1, hq => by
  show List.getD (prV ch W l f s P k ++ rwV _ _ _ _ _) (q * ch + j) 0 = _
  by_cases h1 : q < k
  ·have e1 : (q + 1) * ch ≤ k * ch := Nat.mul_le_mul_right _ h1
   have e2 : (q + 1) * ch = q * ch + ch := Nat.succ_mul _ _
   rw [getD_app_l (by rw [prV_len]; omega)]; exact prV_at hj k h1
  ·have e1 : q = k := by omega
   subst e1
   rw [getD_app_r (by rw [prV_len]; omega), prV_len, show q * ch + j - q * ch = j by omega, rwV_at ch hj]
theorem prV_BV {ch W : Nat} {l : List Int} {f s P : Int} {k : Nat} (h : BV ch W l) (hk0 : k = 0 ∨ 1 ≤ W) (hP : 0 < P) (hk : k ≤ 65536) : BV ch k (prV ch W l f s P k) := by
 refine ⟨h.c1, h.c8, prV_len _ _ _ _ _ _ _, hk, fun j hj => ?_⟩
 rw [prV_len] at hj
 have hc : 0 < ch := h.c1
 have hq : j / ch < k := by rw [Nat.div_lt_iff_lt_mul hc]; exact hj
 have hm : j % ch < ch := Nat.mod_lt _ hc
 have e : j = j / ch * ch + j % ch := by rw [Nat.mul_comm]; exact (Nat.div_add_mod j ch).symm
 rw [e, prV_at hm k hq]
 have hW : 1 ≤ W := hk0.resolve_left (fun e9 => absurd hq (by rw [e9]; exact Nat.not_lt_zero _))
 exact smp_of (betV_smp (frV_smp h hW hm) (frV_smp h hW hm) ⟨Int.emod_nonneg _ (by omega), Int.emod_lt_of_pos _ hP⟩)
def goneV (W : Nat) (f s P : Int) (k : Nat) : Nat := min (iqV f s P k) W
def leftV (W : Nat) (f s P : Int) (k : Nat) : Nat := if ((W : Nat) : Int) * P - f ≤ 0 then 0 else min (((((W : Nat) : Int) * P - f + s - 1) / s).toNat) k
theorem drop_BV {ch W k : Nat} {l : List Int} (h : BV ch W l) (hk : k ≤ W) : BV ch (W - k) (List.drop (k * ch) l) := by
 have e1 : k * ch ≤ W * ch := Nat.mul_le_mul_right _ hk
 refine ⟨h.c1, h.c8, by rw [List.length_drop, h.len, Nat.sub_mul], by have := h.fit; omega, fun j hj => ?_⟩
 rw [List.length_drop] at hj
 rw [getD_drop]; exact h.smp _ (by omega)
theorem app_BV {ch W F : Nat} {l m : List Int} (h : BV ch W l) (h2 : BV ch F m) (hf : W + F ≤ 65536) : BV ch (W + F) (l ++ m) := by
 refine ⟨h.c1, h.c8, by rw [List.length_append, h.len, h2.len, Nat.add_mul], hf, fun j hj => ?_⟩
 rw [List.length_append] at hj
 by_cases h9 : j < List.length l
 ·rw [getD_app_l h9]; exact h.smp _ h9
 ·rw [getD_app_r (by omega)]; exact h2.smp _ (by omega)
theorem leftV_le {W k : Nat} {f s P : Int} (hf : 0 ≤ f) : leftV W f s P k ≤ k ∧ (leftV W f s P k = 0 ∨ 1 ≤ W) := by
 unfold leftV
 by_cases h : ((W : Nat) : Int) * P - f ≤ 0
 ·rw [if_pos h]; exact ⟨Nat.zero_le _, .inl rfl⟩
 ·rw [if_neg h]
  refine ⟨Nat.min_le_right _ _, .inr ?_⟩
  rcases Nat.eq_zero_or_pos W with e | e
  ·subst e; rw [show ((0 : Nat) : Int) = 0 from rfl, Int.zero_mul] at h; omega
  ·exact e
theorem Q_between (a b f P : Int) (ha : -8388608 ≤ a ∧ a ≤ 8388607) (hb : -8388608 ≤ b ∧ b ≤ 8388607) (hf : 0 ≤ f ∧ f < P) (hP : P ≤ 50331648000) : Fun 134 [.c (.d (D.lit (.int .i32 a))), .c (.d (D.lit (.int .i32 b))), iE f, iE P] (toG []) 0 (.e (.c (.d (D.lit (.int .i32 (betV a b f P)))))) (toG []) 0 := by
 have hs : (-422212465065984000 ≤ a * (P - f) ∧ a * (P - f) ≤ 422212465065984000) ∧ (-422212465065984000 ≤ b * f ∧ b * f ≤ 422212465065984000) := bet_sum ha hb hf hP
 have hbt : -8388608 ≤ betV a b f P ∧ betV a b f P ≤ 8388607 := betV_smp ha hb hf
 have hd1 : ¬ Int.tmod (a * (P - f) + b * f + P / 2) P < 0 ∨ Int.tdiv (a * (P - f) + b * f + P / 2) P - 1 = betV a b f P := (Classical.em (Int.tmod (a * (P - f) + b * f + P / 2) P < 0)).elim (fun h9 => .inr (tdiv_f1 (by omega) h9)) .inl
 have hd2 : Int.tmod (a * (P - f) + b * f + P / 2) P < 0 ∨ Int.tdiv (a * (P - f) + b * f + P / 2) P = betV a b f P := (Classical.em (Int.tmod (a * (P - f) + b * f + P / 2) P < 0)).elim .inl (fun h9 => .inr (tdiv_f2 (by omega) h9))
 have hd3 : -8388608 ≤ Int.tdiv (a * (P - f) + b * f + P / 2) P ∧ Int.tdiv (a * (P - f) + b * f + P / 2) P ≤ 8388608 := by omega
 refine Fun.mk (n := 36) Tryz.func134 rfl rfl (Nat.le_of_ble_eq_true rfl) ?_
 intro cx hcx
 refine zr [.no] [0, 1, 2, 3] [] True [(0, .e (.c (.d (D.lit (.int .i32 a))))), (1, .e (.c (.d (D.lit (.int .i32 b))))), (2, iV f), (3, iV P)] [] 0 trivial ?_
 refine zr [.no, .w, .no, .no, .w, .w, .no, .w, .no, .w, .w, .no, .ps, .w, .no] [3, 9] [] (((-9223372036854775808) ≤ a ∧ a ≤ 9223372036854775807) ∧ ((-9223372036854775808) ≤ (P - f) ∧ (P - f) ≤ 9223372036854775807) ∧ ((-9223372036854775808) ≤ (a * (P - f)) ∧ (a * (P - f)) ≤ 9223372036854775807) ∧ ((-9223372036854775808) ≤ b ∧ b ≤ 9223372036854775807) ∧ ((-9223372036854775808) ≤ (b * f) ∧ (b * f) ≤ 9223372036854775807) ∧ ((-9223372036854775808) ≤ ((a * (P - f)) + (b * f)) ∧ ((a * (P - f)) + (b * f)) ≤ 9223372036854775807) ∧ ((0 : Int) ≤ (P : Int)) ∧ ((0 : Int) < (2 : Int)) ∧ ((-9223372036854775808) ≤ P ∧ P ≤ 9223372036854775807) ∧ ((-9223372036854775808) ≤ (((a * (P - f)) + (b * f)) + (P / 2)) ∧ (((a * (P - f)) + (b * f)) + (P / 2)) ≤ 9223372036854775807)) [(3, iV P), (9, iV (((a * (P - f)) + (b * f)) + (P / 2)))] [] 0 ⟨⟨by omega, by omega⟩, ⟨by omega, by omega⟩, ⟨by omega, by omega⟩, ⟨by omega, by omega⟩, ⟨by omega, by omega⟩, ⟨by omega, by omega⟩, zo, zo, ⟨by omega, by omega⟩, ⟨by omega, by omega⟩⟩ ?_
 refine zr [.no, .no, .w, .no] [3, 9, 10] [] ((¬ (P : Int) = 0) ∧ ((-9223372036854775808) ≤ (Int.tdiv (((a * (P - f)) + (b * f)) + (P / 2)) P) ∧ (Int.tdiv (((a * (P - f)) + (b * f)) + (P / 2)) P) ≤ 9223372036854775807)) [(3, iV P), (9, iV (((a * (P - f)) + (b * f)) + (P / 2))), (10, iV (Int.tdiv (((a * (P - f)) + (b * f)) + (P / 2)) P))] [] 0 ⟨zo, ⟨by omega, by omega⟩⟩ ?_
 refine AW.seq ?_
 by_cases hx1 : ((Int.tmod (((a * (P - f)) + (b * f)) + (P / 2)) P) < 0)
 ·refine zr [.no, .no, .no, .b true] [10, 31] [] ((¬ (P : Int) = 0) ∧ (((Int.tmod (((a * (P - f)) + (b * f)) + (P / 2)) P) < 0))) [(10, iV (Int.tdiv (((a * (P - f)) + (b * f)) + (P / 2)) P)), (31, bV true)] [] 0 ⟨zo, zo⟩ ?_
  refine zt ?_
  refine zg [.no, .w, .no] [10] [] ((-9223372036854775808) ≤ ((Int.tdiv (((a * (P - f)) + (b * f)) + (P / 2)) P) - 1) ∧ ((Int.tdiv (((a * (P - f)) + (b * f)) + (P / 2)) P) - 1) ≤ 9223372036854775807) [(10, iV ((Int.tdiv (((a * (P - f)) + (b * f)) + (P / 2)) P) - 1))] [] 0 ⟨by omega, by omega⟩ ?_
  refine zr [.no, .w, .no] [8] [] ((-2147483648) ≤ ((Int.tdiv (((a * (P - f)) + (b * f)) + (P / 2)) P) - 1) ∧ ((Int.tdiv (((a * (P - f)) + (b * f)) + (P / 2)) P) - 1) ≤ 2147483647) [(8, .e (.c (.d (D.lit (.int .i32 ((Int.tdiv (((a * (P - f)) + (b * f)) + (P / 2)) P) - 1))))))] [] 0 ⟨by omega, by omega⟩ ?_
  refine AW.ret ?_
  exact EndP.of (.inr rfl) [] (P := (((betV a b f P) : Int) = ((Int.tdiv (((a * (P - f)) + (b * f)) + (P / 2)) P) - 1))) zk (by first | omega | rfl | assumption | (simp; done) | (simp; omega))
 ·refine zr [.no, .no, .no, .b false] [10, 31] [] ((¬ (P : Int) = 0) ∧ (¬ ((Int.tmod (((a * (P - f)) + (b * f)) + (P / 2)) P) < 0))) [(10, iV (Int.tdiv (((a * (P - f)) + (b * f)) + (P / 2)) P)), (31, bV false)] [] 0 ⟨zo, zo⟩ ?_
  refine zfs ?_
  refine zr [.no, .w, .no] [8] [] ((-2147483648) ≤ (Int.tdiv (((a * (P - f)) + (b * f)) + (P / 2)) P) ∧ (Int.tdiv (((a * (P - f)) + (b * f)) + (P / 2)) P) ≤ 2147483647) [(8, .e (.c (.d (D.lit (.int .i32 (Int.tdiv (((a * (P - f)) + (b * f)) + (P / 2)) P))))))] [] 0 ⟨by omega, by omega⟩ ?_
  refine AW.ret ?_
  exact EndP.of (.inr rfl) [] (P := (((betV a b f P) : Int) = (Int.tdiv (((a * (P - f)) + (b * f)) + (P / 2)) P))) zk (by first | omega | rfl | assumption | (simp; done) | (simp; omega))
theorem Q_frame (ch W : Nat) (l : List Int) (q : Nat) (i : Nat) (hq : List.length l = q) (hv : BV ch W l) (hW : 1 ≤ W) (hi : i ≤ 4000000000000000) : Fun 133 [.agg [iC ((ch : Nat) : Int), .d (D.sl (dI .i32 l) q)], iE ((i : Nat) : Int)] (toG []) 0 (sV .i32 (frV ch W l i) ch) (toG []) 0 := by
 have hc1 : 1 ≤ ch := hv.c1
 have hc8 : ch ≤ 8 := hv.c8
 have hlq : q = W * ch := hq.symm.trans hv.len
 have hbig : W * ch ≤ 524288 := hv.big
 have hfit : W ≤ 65536 := hv.fit
 have hqW : (q : Int) / (ch : Int) = W := by rw [hlq]; exact hv.quo
 have hfr : min i (W - 1) * ch + ch ≤ W * ch := fr_in hv.len hW i
 have hmc : ((min i (W - 1) : Nat) : Int) * ((ch : Nat) : Int) = ((min i (W - 1) * ch : Nat) : Int) := (Int.natCast_mul _ _).symm
 refine Fun.mk (n := 32) Tryz.func133 rfl rfl (Nat.le_of_ble_eq_true rfl) ?_
 intro cx hcx
 refine zr [.no, .no] [1, 2] [0] True [(1, uV i), (2, rV 0 0)] [(0, some (142, .ds [uD ch, dm l q]))] 1 trivial ?_
 refine zr [.no, .no, .no, .no, .no, .wi ((W : Nat) : Int), .wi (((W - 1) : Nat) : Int), .no] [1, 2, 5] [0] ((¬ (((ch : Nat) : Int) : Int) = 0) ∧ ((-9223372036854775808) ≤ (Int.tdiv ((q : Nat) : Int) ((ch : Nat) : Int)) ∧ (Int.tdiv ((q : Nat) : Int) ((ch : Nat) : Int)) ≤ 9223372036854775807) ∧ (((Int.tdiv ((q : Nat) : Int) ((ch : Nat) : Int)) : Int) = ((W : Nat) : Int)) ∧ ((-9223372036854775808) ≤ (((W : Nat) : Int) - 1) ∧ (((W : Nat) : Int) - 1) ≤ 9223372036854775807) ∧ (((((W : Nat) : Int) - 1) : Int) = (((W - 1) : Nat) : Int))) [(1, uV i), (2, rV 0 0), (5, uV (W - 1))] [(0, some (142, .ds [uD ch, dm l q]))] 1 ⟨zo, ⟨by rw [Int.tdiv_eq_ediv_of_nonneg (by omega)]; omega, by rw [Int.tdiv_eq_ediv_of_nonneg (by omega)]; omega⟩, (by rw [Int.tdiv_eq_ediv_of_nonneg (by omega)]; omega), ⟨by omega, by omega⟩, zo⟩ ?_
 refine zr [.no, .no, .i (((min i (W - 1)) : Nat) : Int), .no, .no, .wi ((((min i (W - 1)) * ch) : Nat) : Int), .no] [2, 6] [0] ((((min ((i : Nat) : Int) (((W - 1) : Nat) : Int)) : Int) = (((min i (W - 1)) : Nat) : Int)) ∧ ((-9223372036854775808) ≤ ((((min i (W - 1)) : Nat) : Int) * ((ch : Nat) : Int)) ∧ ((((min i (W - 1)) : Nat) : Int) * ((ch : Nat) : Int)) ≤ 9223372036854775807) ∧ ((((((min i (W - 1)) : Nat) : Int) * ((ch : Nat) : Int)) : Int) = ((((min i (W - 1)) * ch) : Nat) : Int))) [(2, rV 0 0), (6, uV ((min i (W - 1)) * ch))] [(0, some (142, .ds [uD ch, dm l q]))] 1 ⟨zo, ⟨by omega, by omega⟩, zo⟩ ?_
 refine zr [.no, .no, .no, .no, .no, .no, .wi (((((min i (W - 1)) * ch) + ch) : Nat) : Int), .no, .no, .no, .wi (((((min i (W - 1)) * ch) + ch) : Nat) : Int), .sls ((min i (W - 1)) * ch) (((min i (W - 1)) * ch) + ch) ch (dI .i32 (List.take ch (List.drop ((min i (W - 1)) * ch) l))), .no] [4] [] (((-9223372036854775808) ≤ (((((min i (W - 1)) * ch) : Nat) : Int) + ((ch : Nat) : Int)) ∧ (((((min i (W - 1)) * ch) : Nat) : Int) + ((ch : Nat) : Int)) ≤ 9223372036854775807) ∧ (((((((min i (W - 1)) * ch) : Nat) : Int) + ((ch : Nat) : Int)) : Int) = (((((min i (W - 1)) * ch) + ch) : Nat) : Int)) ∧ ((-9223372036854775808) ≤ (((((min i (W - 1)) * ch) : Nat) : Int) + ((ch : Nat) : Int)) ∧ (((((min i (W - 1)) * ch) : Nat) : Int) + ((ch : Nat) : Int)) ≤ 9223372036854775807) ∧ (((((((min i (W - 1)) * ch) : Nat) : Int) + ((ch : Nat) : Int)) : Int) = (((((min i (W - 1)) * ch) + ch) : Nat) : Int)) ∧ ((((((min i (W - 1)) * ch) : Nat) : Int) : Int) = ((((min i (W - 1)) * ch) : Nat) : Int)) ∧ (((((((min i (W - 1)) * ch) + ch) : Nat) : Int) : Int) = (((((min i (W - 1)) * ch) + ch) : Nat) : Int)) ∧ (((((((min i (W - 1)) * ch) + ch) : Nat) : Int) : Int) = (((((min i (W - 1)) * ch) + ch) : Nat) : Int)) ∧ (((min i (W - 1)) * ch) ≤ (((min i (W - 1)) * ch) + ch)) ∧ ((((min i (W - 1)) * ch) + ch) ≤ q) ∧ ((((min i (W - 1)) * ch) + ch) - ((min i (W - 1)) * ch) = ch) ∧ (List.take (ch * 1) (List.drop (((min i (W - 1)) * ch) * 1) (dI .i32 l)) = (dI .i32 (List.take ch (List.drop ((min i (W - 1)) * ch) l))))) [(4, sV .i32 (List.take ch (List.drop ((min i (W - 1)) * ch) l)) ch)] [] 1 ⟨⟨by omega, by omega⟩, zo, ⟨by omega, by omega⟩, zo, rfl, rfl, rfl, zo, zo, zo, (by first | rfl | with_reducible assumption | exact dI_app _ _ _ | exact dI_rep _ _ _ | (simp only [dI_take, dI_drop, dI_app, Nat.mul_one, Nat.zero_mul, List.drop_zero, List.nil_append, List.append_nil]; done) | (simp only [dI_take, dI_drop, dI_app, Nat.mul_one, Nat.zero_mul, List.drop_zero, List.nil_append, List.append_nil]; rfl) | (rw [List.take_of_length_le (by simp only [prV_len, rwV_len, dI_len, List.length_drop, List.length_replicate, Nat.mul_one] <;> omega)]; first | rfl | (simp only [dI_drop, Nat.mul_one, Nat.zero_mul, List.drop_zero]; done) | (simp only [dI_drop, Nat.mul_one, Nat.zero_mul, List.drop_zero]; rfl)))⟩ ?_
 refine AW.ret ?_
 exact EndP.of (.inr rfl) [] (P := (((dI .i32 (frV ch W l i)) : List D) = (dI .i32 (List.take ch (List.drop ((min i (W - 1)) * ch) l)))) ∧ ((ch : Nat) = ch)) zk ⟨(by first | rfl | with_reducible assumption | (simp only [dI_take, dI_drop, dI_app]; rfl) | (congr 1; first | assumption | (simp; done) | omega)), rfl⟩
theorem zl152 {p : Prop} (h : p := by first | rfl | omega | assumption | (simp; done) | (simp; omega)) : p := h
theorem zl151 {p : Prop} (h : p := by first | omega | with_reducible assumption | (simp only [prV_len, rwV_len, List.length_append, List.length_cons, List.length_nil, List.length_take, List.length_drop, List.length_replicate, List.length_set] <;> omega) | rfl | assumption) : p := h
theorem zl150 {p : Prop} (h : p := by first | omega | (simp only [prV_len, rwV_len, dI_len, List.length_append, List.length_cons, List.length_nil, List.length_take, List.length_drop, List.length_replicate, List.length_set, List.length_map, List.length_reverse, Nat.mul_one] <;> omega) | rfl) : p := h
theorem Q_produce (ch W : Nat) (n d a p f : Int) (l : List Int) (q k : Nat) (hq : List.length l = q) (hv : BV ch W l) (hp : PhV n d a p f) (hk : k ≤ 65536) (hk0 : k = 0 ∨ 1 ≤ W) : Fun 119 [.agg [iC ((ch : Nat) : Int), .d (D.sl (dI .i32 l) q)], .agg [iC n, iC d, iC a, iC p, iC f], iE ((k : Nat) : Int)] (toG []) 0 (oV 0 0 (k * ch) 1) (toG [(0, some (21, .ds (dI .i32 (prV ch W l f (stp n a) (d * 65536) k))))]) 1 := by
 have hok : phB n d a p f = true := hp.ok
 have hob : okB ((ch : Nat) : Int) l = true := hv.ok
 have hbd : (1 ≤ n ∧ n ≤ 768000) ∧ (1 ≤ d ∧ d ≤ 768000) ∧ (-4096 ≤ a ∧ a ≤ 4096) ∧ (0 ≤ p ∧ p ≤ 1125899906842624) ∧ 0 ≤ f ∧ f < d * 65536 := hp.b
 have hst : 61440 ≤ stp n a ∧ stp n a ≤ 53477376000 := stp_in hp.b.1 hp.b.2.2.1
 have hc1 : 1 ≤ ch := hv.c1
 have hc8 : ch ≤ 8 := hv.c8
 have hlq : q = W * ch := hq.symm.trans hv.len
 have hbig : W * ch ≤ 524288 := hv.big
 have hfit : W ≤ 65536 := hv.fit
 have hqW : (q : Int) / (ch : Int) = W := by rw [hlq]; exact hv.quo
 have hkc : k * ch ≤ 524288 := Nat.le_trans (Nat.mul_le_mul hk hv.c8) (by omega)
 have hse : stp n a = n * (65536 + a) := rfl
 have hm0 : mvV f (stp n a) 0 = f := mv_0 _ _
 refine Fun.mk (n := 73) Tryz.func119 rfl rfl (Nat.le_of_ble_eq_true rfl) ?_
 intro cx hcx
 refine zr [.no, .no, .no] [2, 3, 4] [0, 1] True [(2, uV k), (3, rV 0 0), (4, rV 1 0)] [(0, some (142, .ds [uD ch, dm l q])), (1, some (31, .ds [iD n, iD d, iD a, iD p, iD f]))] 2 trivial ?_
 refine zr [.no, .no, .no, .w, .no, .no, .no, .no, .no, .w, .wi (stp n a), .no, .no] [2, 3, 4, 7, 8] [0, 1] (((-9223372036854775808) ≤ (d * 65536) ∧ (d * 65536) ≤ 9223372036854775807) ∧ ((-9223372036854775808) ≤ (65536 + a) ∧ (65536 + a) ≤ 9223372036854775807) ∧ ((-9223372036854775808) ≤ (n * (65536 + a)) ∧ (n * (65536 + a)) ≤ 9223372036854775807) ∧ (((n * (65536 + a)) : Int) = (stp n a))) [(2, uV k), (3, rV 0 0), (4, rV 1 0), (7, iV (d * 65536)), (8, iV (stp n a))] [(0, some (142, .ds [uD ch, dm l q])), (1, some (31, .ds [iD n, iD d, iD a, iD p, iD f]))] 2 ⟨⟨by omega, by omega⟩, ⟨by omega, by omega⟩, ⟨by omega, by omega⟩, zo⟩ ?_
 refine zr [.no, .no, .no, .w, .mk 0 (k * ch) (dI .i32 (List.replicate 0 0)), .no] [2, 3, 4, 7, 8, 9] [0, 1, 2] (((-9223372036854775808) ≤ (((k : Nat) : Int) * ((ch : Nat) : Int)) ∧ (((k : Nat) : Int) * ((ch : Nat) : Int)) ≤ 9223372036854775807) ∧ ((0 : Int) = 0) ∧ (((((k : Nat) : Int) * ((ch : Nat) : Int)) : Int) = (((k * ch) : Nat) : Int)) ∧ (0 ≤ (k * ch)) ∧ (4 * (k * ch) ≤ 281474976710656) ∧ (List.replicate 0 (D.lit (.int .i32 0)) = dI .i32 (List.replicate 0 0))) [(2, uV k), (3, rV 0 0), (4, rV 1 0), (7, iV (d * 65536)), (8, iV (stp n a)), (9, oV 2 0 0 1)] [(0, some (142, .ds [uD ch, dm l q])), (1, some (31, .ds [iD n, iD d, iD a, iD p, iD f])), (2, some (21, .ds (dI .i32 (List.replicate 0 0))))] 3 ⟨⟨by omega, by omega⟩, rfl, (by first | rfl | omega), zo, zo, (dI_rep _ _ _)⟩ ?_
 refine zr [.no, .no, .no] [2, 3, 7, 8, 9, 10] [0, 2] True [(2, uV k), (3, rV 0 0), (7, iV (d * 65536)), (8, iV (stp n a)), (9, oV 2 0 0 1), (10, iV f)] [(0, some (142, .ds [uD ch, dm l q])), (2, some (21, .ds (dI .i32 (List.replicate 0 0))))] 3 trivial ?_
 refine AW.seq ?_
 refine zr [.no, .no] [3, 7, 8, 9, 10, 33, 34] [0, 2] True [(3, rV 0 0), (7, iV (d * 65536)), (8, iV (stp n a)), (9, oV 2 0 0 1), (10, iV f), (33, uV k), (34, iV 0)] [(0, some (142, .ds [uD ch, dm l q])), (2, some (21, .ds (dI .i32 (List.replicate 0 0))))] 3 trivial ?_
 refine AW.block ?_
 refine AW.loopE 0 hcx (fun (x : {x : Nat // match x with | i => (i ≤ k)}) => match x with | ⟨i, _⟩ => (⟨[(3, rV 0 0), (7, iV (d * 65536)), (8, iV (stp n a)), (9, oV 3 0 (i * ch) 1), (10, iV (mvV f (stp n a) i)), (33, uV k), (34, uV i)], [(0, some (142, .ds [uD ch, dm l q])), (3, some (21, .ds (dI .i32 (prV ch W l f (stp n a) (d * 65536) i))))], 4⟩ : ES)) (fun (x : {x : Nat // match x with | i => (i ≤ k)}) => match x with | ⟨i, _⟩ => k - i) ⟨(0 : Nat), (show ((0 : Nat) ≤ k) from (by first | omega | assumption | simp))⟩ [(3, 2)] (P := ((0 : Nat) = 0) ∧ (((d * 65536) : Int) = (d * 65536)) ∧ (((stp n a) : Int) = (stp n a)) ∧ ((0 : Nat) = 0) ∧ (((0 * ch) : Nat) = 0) ∧ (((mvV f (stp n a) 0) : Int) = f) ∧ ((((k : Nat) : Int) : Int) = ((k : Nat) : Int)) ∧ ((0 : Int) = 0) ∧ (([uD ch, dm l q] : List D) = [uD ch, dm l q]) ∧ (((dI .i32 (prV ch W l f (stp n a) (d * 65536) 0)) : List D) = (dI .i32 (List.replicate 0 0)))) zk ⟨rfl, rfl, rfl, rfl, zl152, zl152, rfl, rfl, rfl, (by first | rfl)⟩ ?_
 rintro ⟨i, hinv0⟩
 have hi : (i ≤ k) := hinv0
 refine AW.es (l := [(3, rV 0 0), (7, iV (d * 65536)), (8, iV (stp n a)), (9, oV 3 0 (i * ch) 1), (10, iV (mvV f (stp n a) i)), (33, uV k), (34, uV i)]) (g := [(0, some (142, .ds [uD ch, dm l q])), (3, some (21, .ds (dI .i32 (prV ch W l f (stp n a) (d * 65536) i))))]) (nx := 4) rfl rfl rfl ?_
 have hpl : List.length (prV ch W l f (stp n a) (d * 65536) i) = i * ch := prV_len _ _ _ _ _ _ _
 have hmi : 0 ≤ mvV f (stp n a) i ∧ mvV f (stp n a) i ≤ 3600000000000000 := mv_in (by omega) (by omega) (by omega)
 have hqi : 0 ≤ mvV f (stp n a) i / (d * 65536) ∧ mvV f (stp n a) i / (d * 65536) ≤ mvV f (stp n a) i ∧ 0 ≤ mvV f (stp n a) i % (d * 65536) ∧ mvV f (stp n a) i % (d * 65536) < d * 65536 := quo_in (by omega) (by omega)
 have hie : mvV f (stp n a) i / (d * 65536) = ((iqV f (stp n a) (d * 65536) i : Nat) : Int) := iqV_eq (by omega)
 have hmn : mvV f (stp n a) (i + 1) = mvV f (stp n a) i + stp n a := mv_next _ _ _
 have hic : i * ch ≤ k * ch := Nat.mul_le_mul_right _ hi
 have hsm : (i + 1) * ch = i * ch + ch := Nat.succ_mul i ch
 have hij : i < k → (i + 1) * ch ≤ k * ch := fun h9 => Nat.mul_le_mul_right _ h9
 by_cases hx1 : (((i : Nat) : Int) < ((k : Nat) : Int))
 ·have hx2 : (i + 1) * ch ≤ k * ch := hij zo
  have hx3 : 1 ≤ W := by omega
  have hx4 : List.length (frV ch W l (iqV f (stp n a) (d * 65536) i)) = ch := frV_len hv.len zo _
  have hx5 : List.length (frV ch W l (iqV f (stp n a) (d * 65536) i + 1)) = ch := frV_len hv.len zo _
  refine zr [.b true] [3, 7, 8, 9, 10, 33, 34, 35] [0, 3] ((((i : Nat) : Int) < ((k : Nat) : Int))) [(3, rV 0 0), (7, iV (d * 65536)), (8, iV (stp n a)), (9, oV 3 0 (i * ch) 1), (10, iV (mvV f (stp n a) i)), (33, uV k), (34, uV i), (35, bV true)] [(0, some (142, .ds [uD ch, dm l q])), (3, some (21, .ds (dI .i32 (prV ch W l f (stp n a) (d * 65536) i))))] 4 zo ?_
  refine AW.seq ?_
  refine zts ?_
  refine AW.seq ?_
  refine AW.block ?_
  refine zr [.no, .no, .no, .wi (((iqV f (stp n a) (d * 65536) i) : Nat) : Int), .call [] (sV .i32 (frV ch W l (iqV f (stp n a) (d * 65536) i)) ch) [] 0 [] none, .no, .no, .no, .wi (((iqV f (stp n a) (d * 65536) i) : Nat) : Int), .wi ((((iqV f (stp n a) (d * 65536) i) + 1) : Nat) : Int), .call [] (sV .i32 (frV ch W l ((iqV f (stp n a) (d * 65536) i) + 1)) ch) [] 0 [] none, .no, .no] [3, 7, 8, 9, 10, 11, 12, 33, 34] [0, 3] ((¬ ((d * 65536) : Int) = 0) ∧ ((-9223372036854775808) ≤ (Int.tdiv (mvV f (stp n a) i) (d * 65536)) ∧ (Int.tdiv (mvV f (stp n a) i) (d * 65536)) ≤ 9223372036854775807) ∧ (((Int.tdiv (mvV f (stp n a) i) (d * 65536)) : Int) = (((iqV f (stp n a) (d * 65536) i) : Nat) : Int)) ∧ (_) ∧ (¬ ((d * 65536) : Int) = 0) ∧ ((-9223372036854775808) ≤ (Int.tdiv (mvV f (stp n a) i) (d * 65536)) ∧ (Int.tdiv (mvV f (stp n a) i) (d * 65536)) ≤ 9223372036854775807) ∧ (((Int.tdiv (mvV f (stp n a) i) (d * 65536)) : Int) = (((iqV f (stp n a) (d * 65536) i) : Nat) : Int)) ∧ ((-9223372036854775808) ≤ ((((iqV f (stp n a) (d * 65536) i) : Nat) : Int) + 1) ∧ ((((iqV f (stp n a) (d * 65536) i) : Nat) : Int) + 1) ≤ 9223372036854775807) ∧ ((((((iqV f (stp n a) (d * 65536) i) : Nat) : Int) + 1) : Int) = ((((iqV f (stp n a) (d * 65536) i) + 1) : Nat) : Int)) ∧ (_)) [(3, rV 0 0), (7, iV (d * 65536)), (8, iV (stp n a)), (9, oV 3 0 (i * ch) 1), (10, iV (mvV f (stp n a) i)), (11, sV .i32 (frV ch W l (iqV f (stp n a) (d * 65536) i)) ch), (12, sV .i32 (frV ch W l ((iqV f (stp n a) (d * 65536) i) + 1)) ch), (33, uV k), (34, uV i)] [(0, some (142, .ds [uD ch, dm l q])), (3, some (21, .ds (dI .i32 (prV ch W l f (stp n a) (d * 65536) i))))] 4 ⟨zo, ⟨by rw [Int.tdiv_eq_ediv_of_nonneg (by omega)]; omega, by rw [Int.tdiv_eq_ediv_of_nonneg (by omega)]; omega⟩, (by rw [Int.tdiv_eq_ediv_of_nonneg (by omega)]; omega), (Q_frame ch W l q (iqV f (stp n a) (d * 65536) i) zo zl151 zo zl151), zo, ⟨by rw [Int.tdiv_eq_ediv_of_nonneg (by omega)]; omega, by rw [Int.tdiv_eq_ediv_of_nonneg (by omega)]; omega⟩, (by rw [Int.tdiv_eq_ediv_of_nonneg (by omega)]; omega), ⟨by omega, by omega⟩, zo, (Q_frame ch W l q ((iqV f (stp n a) (d * 65536) i) + 1) zo zl151 zo zl151)⟩ ?_
  refine AW.seq ?_
  refine zr [.no, .no, .no] [3, 7, 8, 9, 10, 12, 33, 34, 47, 48, 49] [0, 3] True [(3, rV 0 0), (7, iV (d * 65536)), (8, iV (stp n a)), (9, oV 3 0 (i * ch) 1), (10, iV (mvV f (stp n a) i)), (12, sV .i32 (frV ch W l ((iqV f (stp n a) (d * 65536) i) + 1)) ch), (33, uV k), (34, uV i), (47, sV .i32 (frV ch W l (iqV f (stp n a) (d * 65536) i)) ch), (48, uV ch), (49, iV 0)] [(0, some (142, .ds [uD ch, dm l q])), (3, some (21, .ds (dI .i32 (prV ch W l f (stp n a) (d * 65536) i))))] 4 trivial ?_
  refine AW.block ?_
  refine AW.loopE 0 hcx (fun (x : {x : Nat // match x with | c => (c ≤ ch)}) => match x with | ⟨c, _⟩ => (⟨[(3, rV 0 0), (7, iV (d * 65536)), (8, iV (stp n a)), (9, oV 4 0 ((i * ch) + c) 1), (10, iV (mvV f (stp n a) i)), (12, sV .i32 (frV ch W l ((iqV f (stp n a) (d * 65536) i) + 1)) ch), (33, uV k), (34, uV i), (47, sV .i32 (frV ch W l (iqV f (stp n a) (d * 65536) i)) ch), (48, uV ch), (49, uV c)], [(0, some (142, .ds [uD ch, dm l q])), (4, some (21, .ds (dI .i32 ((prV ch W l f (stp n a) (d * 65536) i) ++ (rwV (frV ch W l (iqV f (stp n a) (d * 65536) i)) (frV ch W l ((iqV f (stp n a) (d * 65536) i) + 1)) ((mvV f (stp n a) i) % (d * 65536)) (d * 65536) c)))))], 5⟩ : ES)) (fun (x : {x : Nat // match x with | c => (c ≤ ch)}) => match x with | ⟨c, _⟩ => ch - c) ⟨(0 : Nat), (show ((0 : Nat) ≤ ch) from (by first | omega | assumption | simp))⟩ [(4, 3)] (P := ((0 : Nat) = 0) ∧ (((d * 65536) : Int) = (d * 65536)) ∧ (((stp n a) : Int) = (stp n a)) ∧ ((0 : Nat) = 0) ∧ ((((i * ch) + 0) : Nat) = (i * ch)) ∧ (((mvV f (stp n a) i) : Int) = (mvV f (stp n a) i)) ∧ (((dI .i32 (frV ch W l ((iqV f (stp n a) (d * 65536) i) + 1))) : List D) = (dI .i32 (frV ch W l ((iqV f (stp n a) (d * 65536) i) + 1)))) ∧ ((ch : Nat) = ch) ∧ ((((k : Nat) : Int) : Int) = ((k : Nat) : Int)) ∧ ((((i : Nat) : Int) : Int) = ((i : Nat) : Int)) ∧ (((dI .i32 (frV ch W l (iqV f (stp n a) (d * 65536) i))) : List D) = (dI .i32 (frV ch W l (iqV f (stp n a) (d * 65536) i)))) ∧ ((ch : Nat) = ch) ∧ ((((ch : Nat) : Int) : Int) = ((ch : Nat) : Int)) ∧ ((0 : Int) = 0) ∧ (([uD ch, dm l q] : List D) = [uD ch, dm l q]) ∧ (((dI .i32 ((prV ch W l f (stp n a) (d * 65536) i) ++ (rwV (frV ch W l (iqV f (stp n a) (d * 65536) i)) (frV ch W l ((iqV f (stp n a) (d * 65536) i) + 1)) ((mvV f (stp n a) i) % (d * 65536)) (d * 65536) 0))) : List D) = (dI .i32 (prV ch W l f (stp n a) (d * 65536) i)))) zk ⟨rfl, rfl, rfl, rfl, zl152, rfl, rfl, rfl, rfl, rfl, rfl, rfl, rfl, rfl, rfl, (by first | rfl | (simp only [rwV, List.append_nil, List.append_assoc]; done) | (simp only [rwV, List.append_nil, List.append_assoc]; rfl))⟩ ?_
  rintro ⟨c, hinv1⟩
  have hc : (c ≤ ch) := hinv1
  refine AW.es (l := [(3, rV 0 0), (7, iV (d * 65536)), (8, iV (stp n a)), (9, oV 4 0 ((i * ch) + c) 1), (10, iV (mvV f (stp n a) i)), (12, sV .i32 (frV ch W l ((iqV f (stp n a) (d * 65536) i) + 1)) ch), (33, uV k), (34, uV i), (47, sV .i32 (frV ch W l (iqV f (stp n a) (d * 65536) i)) ch), (48, uV ch), (49, uV c)]) (g := [(0, some (142, .ds [uD ch, dm l q])), (4, some (21, .ds (dI .i32 ((prV ch W l f (stp n a) (d * 65536) i) ++ (rwV (frV ch W l (iqV f (stp n a) (d * 65536) i)) (frV ch W l ((iqV f (stp n a) (d * 65536) i) + 1)) ((mvV f (stp n a) i) % (d * 65536)) (d * 65536) c)))))]) (nx := 5) rfl rfl rfl ?_
  have hrl : List.length (rwV (frV ch W l (iqV f (stp n a) (d * 65536) i)) (frV ch W l (iqV f (stp n a) (d * 65536) i + 1)) (mvV f (stp n a) i % (d * 65536)) (d * 65536) c) = c := rwV_len _ _ _ _ _
  by_cases hx6 : (((c : Nat) : Int) < ((ch : Nat) : Int))
  ·refine zr [.b true] [3, 7, 8, 9, 10, 12, 33, 34, 47, 48, 49, 50] [0, 4] ((((c : Nat) : Int) < ((ch : Nat) : Int))) [(3, rV 0 0), (7, iV (d * 65536)), (8, iV (stp n a)), (9, oV 4 0 ((i * ch) + c) 1), (10, iV (mvV f (stp n a) i)), (12, sV .i32 (frV ch W l ((iqV f (stp n a) (d * 65536) i) + 1)) ch), (33, uV k), (34, uV i), (47, sV .i32 (frV ch W l (iqV f (stp n a) (d * 65536) i)) ch), (48, uV ch), (49, uV c), (50, bV true)] [(0, some (142, .ds [uD ch, dm l q])), (4, some (21, .ds (dI .i32 ((prV ch W l f (stp n a) (d * 65536) i) ++ (rwV (frV ch W l (iqV f (stp n a) (d * 65536) i)) (frV ch W l ((iqV f (stp n a) (d * 65536) i) + 1)) ((mvV f (stp n a) i) % (d * 65536)) (d * 65536) c)))))] 5 zo ?_
   refine AW.seq ?_
   refine zts ?_
   refine AW.seq ?_
   refine AW.block ?_
   have hx7 : -8388608 ≤ (List.getD (frV ch W l (iqV f (stp n a) (d * 65536) i)) c 0) ∧ (List.getD (frV ch W l (iqV f (stp n a) (d * 65536) i)) c 0) ≤ 8388607 := frV_smp hv zo zo
   refine zr [.no, .n c, .d (D.lit (.int .i32 (List.getD (frV ch W l (iqV f (stp n a) (d * 65536) i)) c 0))), .no, .no] [3, 7, 8, 9, 10, 12, 13, 14, 33, 34, 47, 48, 49] [0, 4] (((((c : Nat) : Int) : Int) = ((c : Nat) : Int)) ∧ (c < ch) ∧ ((List.drop c (dI .i32 (frV ch W l (iqV f (stp n a) (d * 65536) i))))[0]? = some (D.lit (.int .i32 (List.getD (frV ch W l (iqV f (stp n a) (d * 65536) i)) c 0))))) [(3, rV 0 0), (7, iV (d * 65536)), (8, iV (stp n a)), (9, oV 4 0 ((i * ch) + c) 1), (10, iV (mvV f (stp n a) i)), (12, sV .i32 (frV ch W l ((iqV f (stp n a) (d * 65536) i) + 1)) ch), (13, uV c), (14, .e (.c (.d (D.lit (.int .i32 (List.getD (frV ch W l (iqV f (stp n a) (d * 65536) i)) c 0)))))), (33, uV k), (34, uV i), (47, sV .i32 (frV ch W l (iqV f (stp n a) (d * 65536) i)) ch), (48, uV ch), (49, uV c)] [(0, some (142, .ds [uD ch, dm l q])), (4, some (21, .ds (dI .i32 ((prV ch W l f (stp n a) (d * 65536) i) ++ (rwV (frV ch W l (iqV f (stp n a) (d * 65536) i)) (frV ch W l ((iqV f (stp n a) (d * 65536) i) + 1)) ((mvV f (stp n a) i) % (d * 65536)) (d * 65536) c)))))] 5 ⟨rfl, zo, (dI_at _ _ _ zl150)⟩ ?_
   have hx8 : -8388608 ≤ (List.getD (frV ch W l ((iqV f (stp n a) (d * 65536) i) + 1)) c 0) ∧ (List.getD (frV ch W l ((iqV f (stp n a) (d * 65536) i) + 1)) c 0) ≤ 8388607 := frV_smp hv zo zo
   have hx9 : ((((-8388608) : Int) ≤ (betV (List.getD (frV ch W l (iqV f (stp n a) (d * 65536) i)) c 0) (List.getD (frV ch W l ((iqV f (stp n a) (d * 65536) i) + 1)) c 0) ((mvV f (stp n a) i) % (d * 65536)) (d * 65536))) ∧ ((betV (List.getD (frV ch W l (iqV f (stp n a) (d * 65536) i)) c 0) (List.getD (frV ch W l ((iqV f (stp n a) (d * 65536) i) + 1)) c 0) ((mvV f (stp n a) i) % (d * 65536)) (d * 65536)) ≤ 8388607)) := betV_smp zo zo zo
   refine zg [.no, .no, .no, .no, .n c, .d (D.lit (.int .i32 (List.getD (frV ch W l ((iqV f (stp n a) (d * 65536) i) + 1)) c 0))), .no, .no, .ps, .no, .call [] (.e (.c (.d (D.lit (.int .i32 (betV (List.getD (frV ch W l (iqV f (stp n a) (d * 65536) i)) c 0) (List.getD (frV ch W l ((iqV f (stp n a) (d * 65536) i) + 1)) c 0) ((mvV f (stp n a) i) % (d * 65536)) (d * 65536))))))) [] 0 [] none, .no, .ap none (((i * ch) + c) + 1) (dI .i32 (((prV ch W l f (stp n a) (d * 65536) i) ++ (rwV (frV ch W l (iqV f (stp n a) (d * 65536) i)) (frV ch W l ((iqV f (stp n a) (d * 65536) i) + 1)) ((mvV f (stp n a) i) % (d * 65536)) (d * 65536) c)) ++ ([(betV (List.getD (frV ch W l (iqV f (stp n a) (d * 65536) i)) c 0) (List.getD (frV ch W l ((iqV f (stp n a) (d * 65536) i) + 1)) c 0) ((mvV f (stp n a) i) % (d * 65536)) (d * 65536))] : List Int))), .no] [3, 7, 8, 9, 10, 12, 33, 34, 47, 48, 49] [0, 6] (((((c : Nat) : Int) : Int) = ((c : Nat) : Int)) ∧ (c < ch) ∧ ((List.drop c (dI .i32 (frV ch W l ((iqV f (stp n a) (d * 65536) i) + 1))))[0]? = some (D.lit (.int .i32 (List.getD (frV ch W l ((iqV f (stp n a) (d * 65536) i) + 1)) c 0)))) ∧ ((0 : Int) ≤ ((mvV f (stp n a) i) : Int)) ∧ ((0 : Int) < ((d * 65536) : Int)) ∧ (_) ∧ ([D.lit (.int .i32 (betV (List.getD (frV ch W l (iqV f (stp n a) (d * 65536) i)) c 0) (List.getD (frV ch W l ((iqV f (stp n a) (d * 65536) i) + 1)) c 0) ((mvV f (stp n a) i) % (d * 65536)) (d * 65536)))].length = 1 * 1) ∧ (((dI .i32 ((prV ch W l f (stp n a) (d * 65536) i) ++ (rwV (frV ch W l (iqV f (stp n a) (d * 65536) i)) (frV ch W l ((iqV f (stp n a) (d * 65536) i) + 1)) ((mvV f (stp n a) i) % (d * 65536)) (d * 65536) c))) : List D).length = ((i * ch) + c) * 1) ∧ ((((i * ch) + c) + 1) * 4 ≤ 140737488355328) ∧ (((i * ch) + c) + 1 = (((i * ch) + c) + 1)) ∧ (((dI .i32 ((prV ch W l f (stp n a) (d * 65536) i) ++ (rwV (frV ch W l (iqV f (stp n a) (d * 65536) i)) (frV ch W l ((iqV f (stp n a) (d * 65536) i) + 1)) ((mvV f (stp n a) i) % (d * 65536)) (d * 65536) c))) : List D) ++ [D.lit (.int .i32 (betV (List.getD (frV ch W l (iqV f (stp n a) (d * 65536) i)) c 0) (List.getD (frV ch W l ((iqV f (stp n a) (d * 65536) i) + 1)) c 0) ((mvV f (stp n a) i) % (d * 65536)) (d * 65536)))] = (dI .i32 (((prV ch W l f (stp n a) (d * 65536) i) ++ (rwV (frV ch W l (iqV f (stp n a) (d * 65536) i)) (frV ch W l ((iqV f (stp n a) (d * 65536) i) + 1)) ((mvV f (stp n a) i) % (d * 65536)) (d * 65536) c)) ++ ([(betV (List.getD (frV ch W l (iqV f (stp n a) (d * 65536) i)) c 0) (List.getD (frV ch W l ((iqV f (stp n a) (d * 65536) i) + 1)) c 0) ((mvV f (stp n a) i) % (d * 65536)) (d * 65536))] : List Int))))) [(3, rV 0 0), (7, iV (d * 65536)), (8, iV (stp n a)), (9, oV 6 0 (((i * ch) + c) + 1) 1), (10, iV (mvV f (stp n a) i)), (12, sV .i32 (frV ch W l ((iqV f (stp n a) (d * 65536) i) + 1)) ch), (33, uV k), (34, uV i), (47, sV .i32 (frV ch W l (iqV f (stp n a) (d * 65536) i)) ch), (48, uV ch), (49, uV c)] [(0, some (142, .ds [uD ch, dm l q])), (6, some (21, .ds (dI .i32 (((prV ch W l f (stp n a) (d * 65536) i) ++ (rwV (frV ch W l (iqV f (stp n a) (d * 65536) i)) (frV ch W l ((iqV f (stp n a) (d * 65536) i) + 1)) ((mvV f (stp n a) i) % (d * 65536)) (d * 65536) c)) ++ ([(betV (List.getD (frV ch W l (iqV f (stp n a) (d * 65536) i)) c 0) (List.getD (frV ch W l ((iqV f (stp n a) (d * 65536) i) + 1)) c 0) ((mvV f (stp n a) i) % (d * 65536)) (d * 65536))] : List Int)))))] 7 ⟨rfl, zo, (dI_at _ _ _ zl150), zo, zo, (Q_between (List.getD (frV ch W l (iqV f (stp n a) (d * 65536) i)) c 0) (List.getD (frV ch W l ((iqV f (stp n a) (d * 65536) i) + 1)) c 0) ((mvV f (stp n a) i) % (d * 65536)) (d * 65536) zl151 zl151 zl151 zo), zl150, zl150, zo, zo, (dI_app .i32 ((prV ch W l f (stp n a) (d * 65536) i) ++ (rwV (frV ch W l (iqV f (stp n a) (d * 65536) i)) (frV ch W l ((iqV f (stp n a) (d * 65536) i) + 1)) ((mvV f (stp n a) i) % (d * 65536)) (d * 65536) c)) ([(betV (List.getD (frV ch W l (iqV f (stp n a) (d * 65536) i)) c 0) (List.getD (frV ch W l ((iqV f (stp n a) (d * 65536) i) + 1)) c 0) ((mvV f (stp n a) i) % (d * 65536)) (d * 65536))] : List Int))⟩ ?_
   refine zg [.w, .no] [3, 7, 8, 9, 10, 12, 33, 34, 47, 48, 49] [0, 6] ((-9223372036854775808) ≤ (((c : Nat) : Int) + 1) ∧ (((c : Nat) : Int) + 1) ≤ 9223372036854775807) [(3, rV 0 0), (7, iV (d * 65536)), (8, iV (stp n a)), (9, oV 6 0 (((i * ch) + c) + 1) 1), (10, iV (mvV f (stp n a) i)), (12, sV .i32 (frV ch W l ((iqV f (stp n a) (d * 65536) i) + 1)) ch), (33, uV k), (34, uV i), (47, sV .i32 (frV ch W l (iqV f (stp n a) (d * 65536) i)) ch), (48, uV ch), (49, iV (↑c + 1))] [(0, some (142, .ds [uD ch, dm l q])), (6, some (21, .ds (dI .i32 (((prV ch W l f (stp n a) (d * 65536) i) ++ (rwV (frV ch W l (iqV f (stp n a) (d * 65536) i)) (frV ch W l ((iqV f (stp n a) (d * 65536) i) + 1)) ((mvV f (stp n a) i) % (d * 65536)) (d * 65536) c)) ++ ([(betV (List.getD (frV ch W l (iqV f (stp n a) (d * 65536) i)) c 0) (List.getD (frV ch W l ((iqV f (stp n a) (d * 65536) i) + 1)) c 0) ((mvV f (stp n a) i) % (d * 65536)) (d * 65536))] : List Int)))))] 7 ⟨by omega, by omega⟩ ?_
   exact Rd.of ⟨((c + 1) : Nat), (show ((c + 1) ≤ ch) from (by first | omega | assumption | simp))⟩ [(4, 6)] (P := ((0 : Nat) = 0) ∧ (((d * 65536) : Int) = (d * 65536)) ∧ (((stp n a) : Int) = (stp n a)) ∧ ((0 : Nat) = 0) ∧ ((((i * ch) + (c + 1)) : Nat) = (((i * ch) + c) + 1)) ∧ (((mvV f (stp n a) i) : Int) = (mvV f (stp n a) i)) ∧ (((dI .i32 (frV ch W l ((iqV f (stp n a) (d * 65536) i) + 1))) : List D) = (dI .i32 (frV ch W l ((iqV f (stp n a) (d * 65536) i) + 1)))) ∧ ((ch : Nat) = ch) ∧ ((((k : Nat) : Int) : Int) = ((k : Nat) : Int)) ∧ ((((i : Nat) : Int) : Int) = ((i : Nat) : Int)) ∧ (((dI .i32 (frV ch W l (iqV f (stp n a) (d * 65536) i))) : List D) = (dI .i32 (frV ch W l (iqV f (stp n a) (d * 65536) i)))) ∧ ((ch : Nat) = ch) ∧ ((((ch : Nat) : Int) : Int) = ((ch : Nat) : Int)) ∧ (((((c + 1) : Nat) : Int) : Int) = (((c : Nat) : Int) + 1)) ∧ (([uD ch, dm l q] : List D) = [uD ch, dm l q]) ∧ (((dI .i32 ((prV ch W l f (stp n a) (d * 65536) i) ++ (rwV (frV ch W l (iqV f (stp n a) (d * 65536) i)) (frV ch W l ((iqV f (stp n a) (d * 65536) i) + 1)) ((mvV f (stp n a) i) % (d * 65536)) (d * 65536) (c + 1)))) : List D) = (dI .i32 (((prV ch W l f (stp n a) (d * 65536) i) ++ (rwV (frV ch W l (iqV f (stp n a) (d * 65536) i)) (frV ch W l ((iqV f (stp n a) (d * 65536) i) + 1)) ((mvV f (stp n a) i) % (d * 65536)) (d * 65536) c)) ++ ([(betV (List.getD (frV ch W l (iqV f (stp n a) (d * 65536) i)) c 0) (List.getD (frV ch W l ((iqV f (stp n a) (d * 65536) i) + 1)) c 0) ((mvV f (stp n a) i) % (d * 65536)) (d * 65536))] : List Int))))) zk ⟨rfl, rfl, rfl, rfl, zl152, rfl, rfl, rfl, rfl, rfl, rfl, rfl, rfl, zl152, rfl, (by first | rfl | (simp only [rwV, List.append_nil, List.append_assoc]; done) | (simp only [rwV, List.append_nil, List.append_assoc]; rfl))⟩ (show ch - (c + 1) < ch - c from (by first | omega | (show _ < _; simp; omega)))
  ·refine zr [.b false] [3, 7, 8, 9, 10, 12, 33, 34, 47, 48, 49, 50] [0, 4] (¬ (((c : Nat) : Int) < ((ch : Nat) : Int))) [(3, rV 0 0), (7, iV (d * 65536)), (8, iV (stp n a)), (9, oV 4 0 ((i * ch) + c) 1), (10, iV (mvV f (stp n a) i)), (12, sV .i32 (frV ch W l ((iqV f (stp n a) (d * 65536) i) + 1)) ch), (33, uV k), (34, uV i), (47, sV .i32 (frV ch W l (iqV f (stp n a) (d * 65536) i)) ch), (48, uV ch), (49, uV c), (50, bV false)] [(0, some (142, .ds [uD ch, dm l q])), (4, some (21, .ds (dI .i32 ((prV ch W l f (stp n a) (d * 65536) i) ++ (rwV (frV ch W l (iqV f (stp n a) (d * 65536) i)) (frV ch W l ((iqV f (stp n a) (d * 65536) i) + 1)) ((mvV f (stp n a) i) % (d * 65536)) (d * 65536) c)))))] 5 zo ?_
   refine AW.seq ?_
   refine zf ?_
   refine AW.exit ?_
   refine zg [.no, .no, .wi (mvV f (stp n a) (i + 1)), .no] [3, 7, 8, 9, 10, 33, 34] [0, 4] (((-9223372036854775808) ≤ ((mvV f (stp n a) i) + (stp n a)) ∧ ((mvV f (stp n a) i) + (stp n a)) ≤ 9223372036854775807) ∧ ((((mvV f (stp n a) i) + (stp n a)) : Int) = (mvV f (stp n a) (i + 1)))) [(3, rV 0 0), (7, iV (d * 65536)), (8, iV (stp n a)), (9, oV 4 0 ((i * ch) + c) 1), (10, iV (mvV f (stp n a) (i + 1))), (33, uV k), (34, uV i)] [(0, some (142, .ds [uD ch, dm l q])), (4, some (21, .ds (dI .i32 ((prV ch W l f (stp n a) (d * 65536) i) ++ (rwV (frV ch W l (iqV f (stp n a) (d * 65536) i)) (frV ch W l ((iqV f (stp n a) (d * 65536) i) + 1)) ((mvV f (stp n a) i) % (d * 65536)) (d * 65536) c)))))] 5 ⟨⟨by omega, by omega⟩, zo⟩ ?_
   refine zg [.w, .no] [3, 7, 8, 9, 10, 33, 34] [0, 4] ((-9223372036854775808) ≤ (((i : Nat) : Int) + 1) ∧ (((i : Nat) : Int) + 1) ≤ 9223372036854775807) [(3, rV 0 0), (7, iV (d * 65536)), (8, iV (stp n a)), (9, oV 4 0 ((i * ch) + c) 1), (10, iV (mvV f (stp n a) (i + 1))), (33, uV k), (34, iV (↑i + 1))] [(0, some (142, .ds [uD ch, dm l q])), (4, some (21, .ds (dI .i32 ((prV ch W l f (stp n a) (d * 65536) i) ++ (rwV (frV ch W l (iqV f (stp n a) (d * 65536) i)) (frV ch W l ((iqV f (stp n a) (d * 65536) i) + 1)) ((mvV f (stp n a) i) % (d * 65536)) (d * 65536) c)))))] 5 ⟨by omega, by omega⟩ ?_
   obtain rfl : ch = c := by omega
   exact Rd.of ⟨((i + 1) : Nat), (show ((i + 1) ≤ k) from (by first | omega | assumption | simp))⟩ [(3, 4)] (P := ((0 : Nat) = 0) ∧ (((d * 65536) : Int) = (d * 65536)) ∧ (((stp n a) : Int) = (stp n a)) ∧ ((0 : Nat) = 0) ∧ ((((i + 1) * ch) : Nat) = ((i * ch) + ch)) ∧ (((mvV f (stp n a) (i + 1)) : Int) = (mvV f (stp n a) (i + 1))) ∧ ((((k : Nat) : Int) : Int) = ((k : Nat) : Int)) ∧ (((((i + 1) : Nat) : Int) : Int) = (((i : Nat) : Int) + 1)) ∧ (([uD ch, dm l q] : List D) = [uD ch, dm l q]) ∧ (((dI .i32 (prV ch W l f (stp n a) (d * 65536) (i + 1))) : List D) = (dI .i32 ((prV ch W l f (stp n a) (d * 65536) i) ++ (rwV (frV ch W l (iqV f (stp n a) (d * 65536) i)) (frV ch W l ((iqV f (stp n a) (d * 65536) i) + 1)) ((mvV f (stp n a) i) % (d * 65536)) (d * 65536) ch))))) zk ⟨rfl, rfl, rfl, rfl, zl152, rfl, rfl, zl152, rfl, (by first | rfl)⟩ (show k - (i + 1) < k - i from (by first | omega | (show _ < _; simp; omega)))
 ·refine zr [.b false] [3, 7, 8, 9, 10, 33, 34, 35] [0, 3] (¬ (((i : Nat) : Int) < ((k : Nat) : Int))) [(3, rV 0 0), (7, iV (d * 65536)), (8, iV (stp n a)), (9, oV 3 0 (i * ch) 1), (10, iV (mvV f (stp n a) i)), (33, uV k), (34, uV i), (35, bV false)] [(0, some (142, .ds [uD ch, dm l q])), (3, some (21, .ds (dI .i32 (prV ch W l f (stp n a) (d * 65536) i))))] 4 zo ?_
  refine AW.seq ?_
  refine zf ?_
  refine AW.exit ?_
  refine zr [.no, .no] [6] [3] True [(6, oV 3 0 (i * ch) 1)] [(3, some (21, .ds (dI .i32 (prV ch W l f (stp n a) (d * 65536) i))))] 4 trivial ?_
  refine AW.ret ?_
  obtain rfl : k = i := by omega
  exact EndP.of (.inr rfl) [(0, 3)] (P := ((0 : Nat) = 0) ∧ (((k * ch) : Nat) = (k * ch)) ∧ (((dI .i32 (prV ch W l f (stp n a) (d * 65536) k)) : List D) = (dI .i32 (prV ch W l f (stp n a) (d * 65536) k)))) zk ⟨rfl, rfl, rfl⟩
theorem Q_restOf (ch n d a p f : Int) (l : List Int) (q : Nat)  : Fun 71 [.agg [iC ch, iC n, iC d, iC a, iC p, iC f, .d (D.sl (dI .i32 l) q)]] (toG []) 0 (.e (.agg [iC ch, .d (D.sl (dI .i32 l) q)])) (toG []) 0 := by
 refine Fun.mk (n := 8) Tryz.func71 rfl rfl (Nat.le_of_ble_eq_true rfl) ?_
 intro cx hcx
 refine zr [.no, .no] [1, 2] [0, 1] True [(1, rV 0 0), (2, rV 1 0)] [(0, some (34, .ds [iD ch, iD n, iD d, iD a, iD p, iD f, dm l q])), (1, some (77, .ds [iD 0, nl9]))] 2 trivial ?_
 refine zr [.no, .no, .no, .no, .no, .no] [2] [1] True [(2, rV 1 0)] [(1, some (77, .ds [iD ch, dm l q]))] 2 trivial ?_
 refine AW.ret ?_
 exact EndP.of (.inr rfl) [] (P := ((ch : Int) = ch) ∧ (((dI .i32 l) : List D) = (dI .i32 l)) ∧ ((q : Nat) = q)) zk ⟨rfl, rfl, rfl⟩
theorem Q_rblock (ch n d a p f : Int) (l : List Int) (q : Nat)  : Fun 74 [.agg [iC ch, iC n, iC d, iC a, iC p, iC f, .d (D.sl (dI .i32 l) q)]] (toG []) 0 (.e (.agg [iC ch, .d (D.sl (dI .i32 l) q)])) (toG []) 0 := by
 refine Fun.mk (n := 8) Tryz.func74 rfl rfl (Nat.le_of_ble_eq_true rfl) ?_
 intro cx hcx
 refine zr [.no, .no] [1, 2] [0, 1] True [(1, rV 0 0), (2, rV 1 0)] [(0, some (34, .ds [iD ch, iD n, iD d, iD a, iD p, iD f, dm l q])), (1, some (77, .ds [iD 0, nl9]))] 2 trivial ?_
 refine zr [.no, .no, .no, .no, .no, .no] [2] [1] True [(2, rV 1 0)] [(1, some (77, .ds [iD ch, dm l q]))] 2 trivial ?_
 refine AW.ret ?_
 exact EndP.of (.inr rfl) [] (P := ((ch : Int) = ch) ∧ (((dI .i32 l) : List D) = (dI .i32 l)) ∧ ((q : Nat) = q)) zk ⟨rfl, rfl, rfl⟩
theorem Q_Valid (ch n d a p f : Int) (l : List Int) (q : Nat) (hq : List.length l = q) (hm : q ≤ 100000000000000) : Fun 34 [.agg [iC ch, iC n, iC d, iC a, iC p, iC f, .d (D.sl (dI .i32 l) q)]] (toG []) 0 (.e (.c (.d (D.lit (.bool (phB n d a p f && okB ch l)))))) (toG []) 0 := by
 refine Fun.mk (n := 11) Tryz.func34 rfl rfl (Nat.le_of_ble_eq_true rfl) ?_
 intro cx hcx
 refine zr [.no, .no] [1] [0] True [(1, rV 0 0)] [(0, some (34, .ds [iD ch, iD n, iD d, iD a, iD p, iD f, dm l q]))] 1 trivial ?_
 rcases Bool.eq_false_or_eq_true (phB n d a p f) with hx1 | hx1
 ·rcases Bool.eq_false_or_eq_true (okB ch l) with hx2 | hx2
  ·refine zr [.no, .no, .call [] (bV true) [] 0 [] none, .no, .no, .call [] (.e (.agg [iC ch, .d (dm l q)])) [] 0 [] none, .call [] (bV true) [] 0 [] none, .no, .no] [2] [] ((Fun 69 [.agg [iC n, iC d, iC a, iC p, iC f]] (toG []) 0 (bV true) (toG []) 0) ∧ (_) ∧ (Fun 70 [.agg [iC ch, .d (dm l q)]] (toG []) 0 (bV true) (toG []) 0)) [(2, bV true)] [] 1 ⟨(by have h0 := (P_Valid n d a p f); rw [hx1] at h0; exact h0), (Q_restOf ch n d a p f l q), (by have h0 := (G_Valid ch l q zo zo); rw [hx2] at h0; exact h0)⟩ ?_
   refine AW.ret ?_
   exact EndP.of (.inr rfl) [] (P := ((phB n d a p f && okB ch l) = true)) zk (by simp_all)
  ·refine zr [.no, .no, .call [] (bV true) [] 0 [] none, .no, .no, .call [] (.e (.agg [iC ch, .d (dm l q)])) [] 0 [] none, .call [] (bV false) [] 0 [] none, .no, .no] [2] [] ((Fun 69 [.agg [iC n, iC d, iC a, iC p, iC f]] (toG []) 0 (bV true) (toG []) 0) ∧ (_) ∧ (Fun 70 [.agg [iC ch, .d (dm l q)]] (toG []) 0 (bV false) (toG []) 0)) [(2, bV false)] [] 1 ⟨(by have h0 := (P_Valid n d a p f); rw [hx1] at h0; exact h0), (Q_restOf ch n d a p f l q), (by have h0 := (G_Valid ch l q zo zo); rw [hx2] at h0; exact h0)⟩ ?_
   refine AW.ret ?_
   exact EndP.of (.inr rfl) [] (P := ((phB n d a p f && okB ch l) = false)) zk (by simp_all)
 ·refine zr [.no, .no, .call [] (bV false) [] 0 [] none, .no, .no, .no] [2] [] (Fun 69 [.agg [iC n, iC d, iC a, iC p, iC f]] (toG []) 0 (bV false) (toG []) 0) [(2, bV false)] [] 1 (by have h0 := (P_Valid n d a p f); rw [hx1] at h0; exact h0) ?_
  refine AW.ret ?_
  exact EndP.of (.inr rfl) [] (P := ((phB n d a p f && okB ch l) = false)) zk (by simp_all)
theorem Q_rValid (ch n d a p f : Int) (l : List Int) (q : Nat) (hq : List.length l = q) (hm : q ≤ 100000000000000) : Fun 36 [.agg [iC ch, iC n, iC d, iC a, iC p, iC f, .d (D.sl (dI .i32 l) q)]] (toG []) 0 (.e (.c (.d (D.lit (.bool (phB n d a p f && okB ch l)))))) (toG []) 0 := by
 refine Fun.mk (n := 11) Tryz.func36 rfl rfl (Nat.le_of_ble_eq_true rfl) ?_
 intro cx hcx
 refine zr [.no, .no] [1] [0] True [(1, rV 0 0)] [(0, some (34, .ds [iD ch, iD n, iD d, iD a, iD p, iD f, dm l q]))] 1 trivial ?_
 rcases Bool.eq_false_or_eq_true (phB n d a p f) with hx1 | hx1
 ·rcases Bool.eq_false_or_eq_true (okB ch l) with hx2 | hx2
  ·refine zr [.no, .no, .call [] (bV true) [] 0 [] none, .no, .no, .call [] (.e (.agg [iC ch, .d (dm l q)])) [] 0 [] none, .call [] (bV true) [] 0 [] none, .no, .no] [2] [] ((Fun 72 [.agg [iC n, iC d, iC a, iC p, iC f]] (toG []) 0 (bV true) (toG []) 0) ∧ (_) ∧ (Fun 73 [.agg [iC ch, .d (dm l q)]] (toG []) 0 (bV true) (toG []) 0)) [(2, bV true)] [] 1 ⟨(by have h0 := (P_rValid n d a p f); rw [hx1] at h0; exact h0), (Q_rblock ch n d a p f l q), (by have h0 := (G_rValid ch l q zo zo); rw [hx2] at h0; exact h0)⟩ ?_
   refine AW.ret ?_
   exact EndP.of (.inr rfl) [] (P := ((phB n d a p f && okB ch l) = true)) zk (by simp_all)
  ·refine zr [.no, .no, .call [] (bV true) [] 0 [] none, .no, .no, .call [] (.e (.agg [iC ch, .d (dm l q)])) [] 0 [] none, .call [] (bV false) [] 0 [] none, .no, .no] [2] [] ((Fun 72 [.agg [iC n, iC d, iC a, iC p, iC f]] (toG []) 0 (bV true) (toG []) 0) ∧ (_) ∧ (Fun 73 [.agg [iC ch, .d (dm l q)]] (toG []) 0 (bV false) (toG []) 0)) [(2, bV false)] [] 1 ⟨(by have h0 := (P_rValid n d a p f); rw [hx1] at h0; exact h0), (Q_rblock ch n d a p f l q), (by have h0 := (G_rValid ch l q zo zo); rw [hx2] at h0; exact h0)⟩ ?_
   refine AW.ret ?_
   exact EndP.of (.inr rfl) [] (P := ((phB n d a p f && okB ch l) = false)) zk (by simp_all)
 ·refine zr [.no, .no, .call [] (bV false) [] 0 [] none, .no, .no, .no] [2] [] (Fun 72 [.agg [iC n, iC d, iC a, iC p, iC f]] (toG []) 0 (bV false) (toG []) 0) [(2, bV false)] [] 1 (by have h0 := (P_rValid n d a p f); rw [hx1] at h0; exact h0) ?_
  refine AW.ret ?_
  exact EndP.of (.inr rfl) [] (P := ((phB n d a p f && okB ch l) = false)) zk (by simp_all)
theorem Q_waiting (ch W : Nat) (n d a p f : Int) (l : List Int) (q : Nat) (hq : List.length l = q) (hv : BV ch W l) : Fun 115 [.agg [iC ((ch : Nat) : Int), iC n, iC d, iC a, iC p, iC f, .d (D.sl (dI .i32 l) q)]] (toG []) 0 (iV ((W : Nat) : Int)) (toG []) 0 := by
 have hlq : q = W * ch := hq.symm.trans hv.len
 have hqW : (q : Int) / (ch : Int) = W := by rw [hlq]; exact hv.quo
 have hc1 : 1 ≤ ch := hv.c1
 have hbig : W * ch ≤ 524288 := hv.big
 have hfit : W ≤ 65536 := hv.fit
 refine Fun.mk (n := 9) Tryz.func115 rfl rfl (Nat.le_of_ble_eq_true rfl) ?_
 intro cx hcx
 refine zr [.no, .no] [1] [0] True [(1, rV 0 0)] [(0, some (34, .ds [uD ch, iD n, iD d, iD a, iD p, iD f, dm l q]))] 1 trivial ?_
 refine zr [.no, .no, .no, .no, .no, .ps, .no] [2] [] (((0 : Int) ≤ (((q : Nat) : Int) : Int)) ∧ ((0 : Int) < (((ch : Nat) : Int) : Int)) ∧ ((-9223372036854775808) ≤ ((q : Nat) : Int) ∧ ((q : Nat) : Int) ≤ 9223372036854775807)) [(2, iV (↑q / ↑ch))] [] 1 ⟨zo, zo, ⟨by omega, by omega⟩⟩ ?_
 refine AW.ret ?_
 exact EndP.of (.inr rfl) [] (P := ((((W : Nat) : Int) : Int) = (((q : Nat) : Int) / ((ch : Nat) : Int)))) zk (by first | omega | rfl | assumption | (simp; done) | (simp; omega))
theorem Q_New (ch : Nat) (n d : Int) (h : phB n d 0 0 0 = true) (h1 : 1 ≤ ch) (h8 : ch ≤ 8) : Fun 26 [iE ((ch : Nat) : Int), .agg [iC n, iC d]] (toG []) 0 (.tup [.agg [iC ((ch : Nat) : Int), iC n, iC d, iC 0, iC 0, iC 0, .d (D.lit (.slice none 0 0))], iE 0]) (toG []) 0 := by
 have hvn : (phB n d 0 0 0 && okB ((ch : Nat) : Int) []) = true := by rw [h, okB_t (ch := ((ch : Nat) : Int)) (l := []) rfl (by omega) (by omega) (by simp) (by simp) (fun j hj => absurd hj (Nat.not_lt_zero j))]; rfl
 refine Fun.mk (n := 26) Tryz.func26 rfl rfl (Nat.le_of_ble_eq_true rfl) ?_
 intro cx hcx
 refine zr [.no, .no, .no] [0, 3, 4] [0, 1] True [(0, uV ch), (3, rV 0 0), (4, rV 1 0)] [(0, some (29, .ds [iD n, iD d])), (1, some (34, .ds [iD 0, iD 0, iD 0, iD 0, iD 0, iD 0, nl9]))] 2 trivial ?_
 refine zr [.no, .call [] (.tup [.agg [iC n, iC d, iC 0, iC 0, iC 0], iE 0]) [] 0 [] none, .no, .no, .no, .no, .no, .no] [0, 4, 6, 7] [1, 2] _ [(0, uV ch), (4, rV 1 0), (6, rV 2 0), (7, iV 0)] [(1, some (34, .ds [iD 0, iD 0, iD 0, iD 0, iD 0, iD 0, nl9])), (2, some (31, .ds [iD n, iD d, iD 0, iD 0, iD 0]))] 3 (P_New n d zl151) ?_
 refine zr [.no, .no, .no, .no, .no] [4, 7, 8] [1, 3] True [(4, rV 1 0), (7, iV 0), (8, rV 3 0)] [(1, some (34, .ds [iD 0, iD 0, iD 0, iD 0, iD 0, iD 0, nl9])), (3, some (34, .ds [uD ch, iD n, iD d, iD 0, iD 0, iD 0, nl9]))] 4 trivial ?_
 refine AW.seq ?_
 refine zr [.no, .b false, .no, .no, .call [] (bV true) [] 0 [] none, .no, .no] [4, 8, 23] [1, 3] ((¬ ((0 : Int) ≠ 0)) ∧ (Fun 34 [.agg [uC ch, iC n, iC d, iC 0, iC 0, iC 0, .d (D.sl ([] : List D) 0)]] (toG []) 0 (bV true) (toG []) 0)) [(4, rV 1 0), (8, rV 3 0), (23, bV false)] [(1, some (34, .ds [iD 0, iD 0, iD 0, iD 0, iD 0, iD 0, nl9])), (3, some (34, .ds [uD ch, iD n, iD d, iD 0, iD 0, iD 0, nl9]))] 4 ⟨zo, (by have h0 := (Q_Valid ((ch : Nat) : Int) n d 0 0 0 ([] : List Int) 0 zl151 zo); rw [hvn] at h0; exact h0)⟩ ?_
 refine zfs ?_
 refine zr [.no, .no, .no] [4, 5] [1] True [(4, rV 1 0), (5, iV 0)] [(1, some (34, .ds [uD ch, iD n, iD d, iD 0, iD 0, iD 0, nl9]))] 4 trivial ?_
 refine AW.ret ?_
 exact EndP.of (.inr rfl) [] (P := ((((ch : Nat) : Int) : Int) = ((ch : Nat) : Int)) ∧ ((n : Int) = n) ∧ ((d : Int) = d) ∧ ((0 : Int) = 0) ∧ ((0 : Int) = 0) ∧ ((0 : Int) = 0) ∧ ((.slice none 0 0 : Value) = .slice none 0 0) ∧ ((0 : Int) = 0)) zk ⟨rfl, rfl, rfl, rfl, rfl, rfl, rfl, rfl⟩
theorem Q_rNew (ch : Nat) (n d : Int) (h : phB n d 0 0 0 = true) (h1 : 1 ≤ ch) (h8 : ch ≤ 8) : Fun 30 [iE ((ch : Nat) : Int), .agg [iC n, iC d]] (toG []) 0 (.tup [.agg [iC ((ch : Nat) : Int), iC n, iC d, iC 0, iC 0, iC 0, .d (D.lit (.slice none 0 0))], iE 0]) (toG []) 0 := by
 have hvn : (phB n d 0 0 0 && okB ((ch : Nat) : Int) []) = true := by rw [h, okB_t (ch := ((ch : Nat) : Int)) (l := []) rfl (by omega) (by omega) (by simp) (by simp) (fun j hj => absurd hj (Nat.not_lt_zero j))]; rfl
 refine Fun.mk (n := 16) Tryz.func30 rfl rfl (Nat.le_of_ble_eq_true rfl) ?_
 intro cx hcx
 refine zr [.no, .no, .no] [0, 3, 4] [0, 1] True [(0, uV ch), (3, rV 0 0), (4, rV 1 0)] [(0, some (29, .ds [iD n, iD d])), (1, some (34, .ds [iD 0, iD 0, iD 0, iD 0, iD 0, iD 0, nl9]))] 2 trivial ?_
 refine zr [.no, .no, .no, .no, .no, .no] [4, 6] [1, 2] True [(4, rV 1 0), (6, rV 2 0)] [(1, some (34, .ds [iD 0, iD 0, iD 0, iD 0, iD 0, iD 0, nl9])), (2, some (34, .ds [uD ch, iD n, iD d, iD 0, iD 0, iD 0, nl9]))] 3 trivial ?_
 refine AW.seq ?_
 refine zr [.no, .call [] (bV true) [] 0 [] none, .no] [4, 6, 13] [1, 2] (Fun 36 [.agg [uC ch, iC n, iC d, iC 0, iC 0, iC 0, .d (D.sl ([] : List D) 0)]] (toG []) 0 (bV true) (toG []) 0) [(4, rV 1 0), (6, rV 2 0), (13, bV false)] [(1, some (34, .ds [iD 0, iD 0, iD 0, iD 0, iD 0, iD 0, nl9])), (2, some (34, .ds [uD ch, iD n, iD d, iD 0, iD 0, iD 0, nl9]))] 3 (by have h0 := (Q_rValid ((ch : Nat) : Int) n d 0 0 0 ([] : List Int) 0 zl151 zo); rw [hvn] at h0; exact h0) ?_
 refine zfs ?_
 refine zr [.no, .no, .no] [4, 5] [1] True [(4, rV 1 0), (5, iV 0)] [(1, some (34, .ds [uD ch, iD n, iD d, iD 0, iD 0, iD 0, nl9]))] 3 trivial ?_
 refine AW.ret ?_
 exact EndP.of (.inr rfl) [] (P := ((((ch : Nat) : Int) : Int) = ((ch : Nat) : Int)) ∧ ((n : Int) = n) ∧ ((d : Int) = d) ∧ ((0 : Int) = 0) ∧ ((0 : Int) = 0) ∧ ((0 : Int) = 0) ∧ ((.slice none 0 0 : Value) = .slice none 0 0) ∧ ((0 : Int) = 0)) zk ⟨rfl, rfl, rfl, rfl, rfl, rfl, rfl, rfl⟩
theorem Q_Feed (ch W F : Nat) (n d a p f : Int) (l : List Int) (q : Nat) (m : List Int) (z : Nat) (hq : List.length l = q) (hv : BV ch W l) (hp : PhV n d a p f) (hz : List.length m = z) (hw : BV ch F m) (hWF : W + F ≤ 65536) : Fun 113 [.agg [iC ((ch : Nat) : Int), iC n, iC d, iC a, iC p, iC f, .d (D.sl (dI .i32 l) q)], .agg [iC ((ch : Nat) : Int), .d (D.sl (dI .i32 m) z)]] (toG []) 0 (.tup [.agg [iC ((ch : Nat) : Int), iC n, iC d, iC a, iC p, iC f, .own 0 0 (q + z) 1 true], iE 0]) (toG [(0, some (21, .ds (dI .i32 (l ++ m))))]) 1 := by
 have hok : phB n d a p f = true := hp.ok
 have hob : okB ((ch : Nat) : Int) l = true := hv.ok
 have hbd : (1 ≤ n ∧ n ≤ 768000) ∧ (1 ≤ d ∧ d ≤ 768000) ∧ (-4096 ≤ a ∧ a ≤ 4096) ∧ (0 ≤ p ∧ p ≤ 1125899906842624) ∧ 0 ≤ f ∧ f < d * 65536 := hp.b
 have hst : 61440 ≤ stp n a ∧ stp n a ≤ 53477376000 := stp_in hp.b.1 hp.b.2.2.1
 have hc1 : 1 ≤ ch := hv.c1
 have hc8 : ch ≤ 8 := hv.c8
 have hlq : q = W * ch := hq.symm.trans hv.len
 have hbig : W * ch ≤ 524288 := hv.big
 have hfit : W ≤ 65536 := hv.fit
 have hqW : (q : Int) / (ch : Int) = W := by rw [hlq]; exact hv.quo
 have hvd : (phB n d a p f && okB ((ch : Nat) : Int) l) = true := by rw [hok, hob]; rfl
 have hok2 : okB ((ch : Nat) : Int) m = true := hw.ok
 have hzF : z = F * ch := hz.symm.trans hw.len
 have hbF : F * ch ≤ 524288 := hw.big
 have hsum : (W + F) * ch = W * ch + F * ch := Nat.add_mul _ _ _
 have hmx : (W + F) * ch ≤ 65536 * ch := Nat.mul_le_mul_right _ hWF
 have hdv : ((q : Int) + (z : Int)) / (ch : Int) = ((W + F : Nat) : Int) := by rw [hlq, hzF, ← Int.natCast_add, ← Nat.add_mul, Int.natCast_mul, Int.mul_ediv_cancel _ (by omega)]
 refine Fun.mk (n := 41) Tryz.func113 rfl rfl (Nat.le_of_ble_eq_true rfl) ?_
 intro cx hcx
 refine zr [.no, .no, .no, .no] [2, 3, 4] [0, 1, 2] True [(2, rV 0 0), (3, rV 1 0), (4, rV 2 0)] [(0, some (34, .ds [uD ch, iD n, iD d, iD a, iD p, iD f, dm l q])), (1, some (77, .ds [uD ch, dm m z])), (2, some (34, .ds [iD 0, iD 0, iD 0, iD 0, iD 0, iD 0, nl9]))] 3 trivial ?_
 refine AW.seq ?_
 refine zr [.no, .call [] (bV true) [] 0 [] none, .no, .no, .no, .call [] (bV true) [] 0 [] none, .no, .no] [2, 3, 4, 13] [0, 1, 2] ((Fun 34 [.agg [uC ch, iC n, iC d, iC a, iC p, iC f, .d (dm l q)]] (toG []) 0 (bV true) (toG []) 0) ∧ (Fun 70 [.agg [uC ch, .d (dm m z)]] (toG []) 0 (bV true) (toG []) 0)) [(2, rV 0 0), (3, rV 1 0), (4, rV 2 0), (13, bV false)] [(0, some (34, .ds [uD ch, iD n, iD d, iD a, iD p, iD f, dm l q])), (1, some (77, .ds [uD ch, dm m z])), (2, some (34, .ds [iD 0, iD 0, iD 0, iD 0, iD 0, iD 0, nl9]))] 3 ⟨(by have h0 := (Q_Valid ((ch : Nat) : Int) n d a p f l q zo zo); rw [hvd] at h0; exact h0), (by have h0 := (G_Valid ((ch : Nat) : Int) m z zo zo); rw [hok2] at h0; exact h0)⟩ ?_
 refine zfs ?_
 refine AW.seq ?_
 refine zr [.no, .no, .no, .no, .b false] [2, 3, 4, 19] [0, 1, 2] (¬ (((ch : Nat) : Int) ≠ ((ch : Nat) : Int))) [(2, rV 0 0), (3, rV 1 0), (4, rV 2 0), (19, bV false)] [(0, some (34, .ds [uD ch, iD n, iD d, iD a, iD p, iD f, dm l q])), (1, some (77, .ds [uD ch, dm m z])), (2, some (34, .ds [iD 0, iD 0, iD 0, iD 0, iD 0, iD 0, nl9]))] 3 zo ?_
 refine zfs ?_
 refine AW.seq ?_
 refine zr [.no, .no, .no, .no, .no, .no, .w, .no, .no, .w, .b false] [2, 3, 4, 31] [0, 1, 2] (((-9223372036854775808) ≤ (((q : Nat) : Int) + ((z : Nat) : Int)) ∧ (((q : Nat) : Int) + ((z : Nat) : Int)) ≤ 9223372036854775807) ∧ ((-9223372036854775808) ≤ (65536 * ((ch : Nat) : Int)) ∧ (65536 * ((ch : Nat) : Int)) ≤ 9223372036854775807) ∧ (¬ ((65536 * ((ch : Nat) : Int)) < (((q : Nat) : Int) + ((z : Nat) : Int))))) [(2, rV 0 0), (3, rV 1 0), (4, rV 2 0), (31, bV false)] [(0, some (34, .ds [uD ch, iD n, iD d, iD a, iD p, iD f, dm l q])), (1, some (77, .ds [uD ch, dm m z])), (2, some (34, .ds [iD 0, iD 0, iD 0, iD 0, iD 0, iD 0, nl9]))] 3 ⟨⟨by omega, by omega⟩, ⟨by omega, by omega⟩, zo⟩ ?_
 refine zfs ?_
 refine zr [.no, .no, .no, .no, .no, .call [] (oV 0 0 (q + z) 1) [(0, some (21, .ds (dI .i32 (l ++ m))))] 1 [none] none, .no, .no] [2, 4] [0, 2, 4] (([dm l q, dm m z].length = 2 * 1) ∧ (noSlPV (oV 0 0 (q + z) 1) = true) ∧ ((dI .i32 (l ++ m)).all noSlD = true) ∧ (_)) [(2, rV 0 0), (4, rV 2 0)] [(0, some (34, .cs [uC ch, iC n, iC d, iC a, iC p, iC f, .own 4 0 (q + z) 1 true])), (2, some (34, .ds [iD 0, iD 0, iD 0, iD 0, iD 0, iD 0, nl9])), (4, some (21, .ds (dI .i32 (l ++ m))))] 5 ⟨zl150, rfl, (by first | exact dI_ns _ _ | rfl), (C_Concat_i32 l m q z zo zo zo zo)⟩ ?_
 refine zr [.no, .no, .no] [4, 5] [2, 4] True [(4, rV 2 0), (5, iV 0)] [(2, some (34, .cs [uC ch, iC n, iC d, iC a, iC p, iC f, .own 4 0 (q + z) 1 true])), (4, some (21, .ds (dI .i32 (l ++ m))))] 5 trivial ?_
 refine AW.ret ?_
 exact EndP.of (.inr rfl) [(0, 4)] (P := ((((ch : Nat) : Int) : Int) = ((ch : Nat) : Int)) ∧ ((n : Int) = n) ∧ ((d : Int) = d) ∧ ((a : Int) = a) ∧ ((p : Int) = p) ∧ ((f : Int) = f) ∧ ((0 : Nat) = 0) ∧ (((q + z) : Nat) = (q + z)) ∧ ((0 : Int) = 0) ∧ (((dI .i32 (l ++ m)) : List D) = (dI .i32 (l ++ m)))) zk ⟨rfl, rfl, rfl, rfl, rfl, rfl, rfl, rfl, rfl, rfl⟩
theorem Q_give (ch W : Nat) (n d a p f : Int) (l : List Int) (q k : Nat) (hq : List.length l = q) (hv : BV ch W l) (hp : PhV n d a p f) (hk : k ≤ 65536) (hk0 : k = 0 ∨ 1 ≤ W) (hb : p + (mvV f (stp n a) k / (d * 65536)) ≤ 1125899906842624) : Fun 90 [.agg [iC ((ch : Nat) : Int), iC n, iC d, iC a, iC p, iC f, .d (D.sl (dI .i32 l) q)], iE ((k : Nat) : Int)] (toG []) 0 (.tup [.agg [iC ((ch : Nat) : Int), .own 0 0 (k * ch) 1 true], .agg [iC ((ch : Nat) : Int), iC n, iC d, iC a, iC (p + ((mvV f (stp n a) k) / (d * 65536))), iC ((mvV f (stp n a) k) % (d * 65536)), .own 1 0 (q - ((goneV W f (stp n a) (d * 65536) k) * ch)) 1 true], iE 0]) (toG [(0, some (21, .ds (dI .i32 (prV ch W l f (stp n a) (d * 65536) k)))), (1, some (21, .ds (dI .i32 (List.drop ((goneV W f (stp n a) (d * 65536) k) * ch) l))))]) 2 := by
 have hok : phB n d a p f = true := hp.ok
 have hob : okB ((ch : Nat) : Int) l = true := hv.ok
 have hbd : (1 ≤ n ∧ n ≤ 768000) ∧ (1 ≤ d ∧ d ≤ 768000) ∧ (-4096 ≤ a ∧ a ≤ 4096) ∧ (0 ≤ p ∧ p ≤ 1125899906842624) ∧ 0 ≤ f ∧ f < d * 65536 := hp.b
 have hst : 61440 ≤ stp n a ∧ stp n a ≤ 53477376000 := stp_in hp.b.1 hp.b.2.2.1
 have hc1 : 1 ≤ ch := hv.c1
 have hc8 : ch ≤ 8 := hv.c8
 have hlq : q = W * ch := hq.symm.trans hv.len
 have hbig : W * ch ≤ 524288 := hv.big
 have hfit : W ≤ 65536 := hv.fit
 have hqW : (q : Int) / (ch : Int) = W := by rw [hlq]; exact hv.quo
 have hmi : 0 ≤ mvV f (stp n a) k ∧ mvV f (stp n a) k ≤ 3600000000000000 := mv_in (by omega) (by omega) (by omega)
 have hqi : 0 ≤ (mvV f (stp n a) k / (d * 65536)) ∧ (mvV f (stp n a) k / (d * 65536)) ≤ mvV f (stp n a) k ∧ 0 ≤ (mvV f (stp n a) k % (d * 65536)) ∧ (mvV f (stp n a) k % (d * 65536)) < d * 65536 := quo_in (by omega) (by omega)
 have hie : (mvV f (stp n a) k / (d * 65536)) = ((iqV f (stp n a) (d * 65536) k : Nat) : Int) := iqV_eq (by omega)
 have hgd : goneV W f (stp n a) (d * 65536) k = min (iqV f (stp n a) (d * 65536) k) W := rfl
 have hgc : ((goneV W f (stp n a) (d * 65536) k : Nat) : Int) * ((ch : Nat) : Int) = ((goneV W f (stp n a) (d * 65536) k * ch : Nat) : Int) := (Int.natCast_mul _ _).symm
 have hgl : goneV W f (stp n a) (d * 65536) k * ch ≤ W * ch := Nat.mul_le_mul_right _ (by omega)
 refine Fun.mk (n := 57) Tryz.func90 rfl rfl (Nat.le_of_ble_eq_true rfl) ?_
 intro cx hcx
 refine zr [.no, .no, .no, .no] [1, 2, 4, 5] [0, 1, 2] True [(1, uV k), (2, rV 0 0), (4, rV 1 0), (5, rV 2 0)] [(0, some (34, .ds [uD ch, iD n, iD d, iD a, iD p, iD f, dm l q])), (1, some (77, .ds [iD 0, nl9])), (2, some (34, .ds [iD 0, iD 0, iD 0, iD 0, iD 0, iD 0, nl9]))] 3 trivial ?_
 refine zr [.no, .no, .no, .call [] (.tup [.agg [iC n, iC d, iC a, iC (p + ((mvV f (stp n a) k) / (d * 65536))), iC ((mvV f (stp n a) k) % (d * 65536))], iE 0]) [] 0 [] none, .no, .no, .no, .no, .no, .no] [1, 2, 4, 5, 7, 8] [0, 1, 2, 3] _ [(1, uV k), (2, rV 0 0), (4, rV 1 0), (5, rV 2 0), (7, rV 3 0), (8, iV 0)] [(0, some (34, .ds [uD ch, iD n, iD d, iD a, iD p, iD f, dm l q])), (1, some (77, .ds [iD 0, nl9])), (2, some (34, .ds [iD 0, iD 0, iD 0, iD 0, iD 0, iD 0, nl9])), (3, some (31, .ds [iD n, iD d, iD a, iD (p + ((mvV f (stp n a) k) / (d * 65536))), iD ((mvV f (stp n a) k) % (d * 65536))]))] 4 (P_Advance n d a p f k zl151 zo zl151) ?_
 refine AW.seq ?_
 refine zr [.no, .b false] [1, 2, 4, 5, 7, 8, 19] [0, 1, 2, 3] (¬ ((0 : Int) ≠ 0)) [(1, uV k), (2, rV 0 0), (4, rV 1 0), (5, rV 2 0), (7, rV 3 0), (8, iV 0), (19, bV false)] [(0, some (34, .ds [uD ch, iD n, iD d, iD a, iD p, iD f, dm l q])), (1, some (77, .ds [iD 0, nl9])), (2, some (34, .ds [iD 0, iD 0, iD 0, iD 0, iD 0, iD 0, nl9])), (3, some (31, .ds [iD n, iD d, iD a, iD (p + ((mvV f (stp n a) k) / (d * 65536))), iD ((mvV f (stp n a) k) % (d * 65536))]))] 4 zo ?_
 refine zfs ?_
 refine zr [.no, .no, .no, .no, .no, .no, .no, .no, .no, .no, .call [] (oV 0 0 (k * ch) 1) [(0, some (21, .ds (dI .i32 (prV ch W l f (stp n a) (d * 65536) k))))] 1 [] none, .no, .no, .no] [2, 4, 5, 7, 9] [0, 1, 2, 3, 4, 5] _ [(2, rV 0 0), (4, rV 1 0), (5, rV 2 0), (7, rV 3 0), (9, rV 5 0)] [(0, some (34, .ds [uD ch, iD n, iD d, iD a, iD p, iD f, dm l q])), (1, some (77, .ds [iD 0, nl9])), (2, some (34, .ds [iD 0, iD 0, iD 0, iD 0, iD 0, iD 0, nl9])), (3, some (31, .ds [iD n, iD d, iD a, iD (p + ((mvV f (stp n a) k) / (d * 65536))), iD ((mvV f (stp n a) k) % (d * 65536))])), (4, some (21, .ds (dI .i32 (prV ch W l f (stp n a) (d * 65536) k)))), (5, some (77, .cs [uC ch, .own 4 0 (k * ch) 1 true]))] 6 (Q_produce ch W n d a p f l q k zo zl151 zl151 zo zl151) ?_
 refine zr [.no, .no, .no, .no, .no, .w, .no, .call [] (uV W) [] 0 [] none, .i (((goneV W f (stp n a) (d * 65536) k) : Nat) : Int), .no] [2, 4, 5, 7, 9, 10] [0, 1, 2, 3, 4, 5] (((-9223372036854775808) ≤ ((p + ((mvV f (stp n a) k) / (d * 65536))) - p) ∧ ((p + ((mvV f (stp n a) k) / (d * 65536))) - p) ≤ 9223372036854775807) ∧ (_) ∧ (((min ((p + ((mvV f (stp n a) k) / (d * 65536))) - p) ((W : Nat) : Int)) : Int) = (((goneV W f (stp n a) (d * 65536) k) : Nat) : Int))) [(2, rV 0 0), (4, rV 1 0), (5, rV 2 0), (7, rV 3 0), (9, rV 5 0), (10, uV (goneV W f (stp n a) (d * 65536) k))] [(0, some (34, .ds [uD ch, iD n, iD d, iD a, iD p, iD f, dm l q])), (1, some (77, .ds [iD 0, nl9])), (2, some (34, .ds [iD 0, iD 0, iD 0, iD 0, iD 0, iD 0, nl9])), (3, some (31, .ds [iD n, iD d, iD a, iD (p + ((mvV f (stp n a) k) / (d * 65536))), iD ((mvV f (stp n a) k) % (d * 65536))])), (4, some (21, .ds (dI .i32 (prV ch W l f (stp n a) (d * 65536) k)))), (5, some (77, .cs [uC ch, .own 4 0 (k * ch) 1 true]))] 6 ⟨⟨by omega, by omega⟩, (Q_waiting ch W n d a p f l q zo zl151), zo⟩ ?_
 refine zr [.no, .no, .no, .no, .no, .wi ((((goneV W f (stp n a) (d * 65536) k) * ch) : Nat) : Int), .sls ((goneV W f (stp n a) (d * 65536) k) * ch) q (q - ((goneV W f (stp n a) (d * 65536) k) * ch)) (dI .i32 (List.drop ((goneV W f (stp n a) (d * 65536) k) * ch) l)), .call [] (oV 0 0 (q - ((goneV W f (stp n a) (d * 65536) k) * ch)) 1) [(0, some (21, .ds (dI .i32 (List.drop ((goneV W f (stp n a) (d * 65536) k) * ch) l))))] 1 [] none, .no, .no] [2, 4, 5, 7, 9] [0, 1, 2, 3, 4, 5, 6] (((-9223372036854775808) ≤ ((((goneV W f (stp n a) (d * 65536) k) : Nat) : Int) * ((ch : Nat) : Int)) ∧ ((((goneV W f (stp n a) (d * 65536) k) : Nat) : Int) * ((ch : Nat) : Int)) ≤ 9223372036854775807) ∧ ((((((goneV W f (stp n a) (d * 65536) k) : Nat) : Int) * ((ch : Nat) : Int)) : Int) = ((((goneV W f (stp n a) (d * 65536) k) * ch) : Nat) : Int)) ∧ ((((((goneV W f (stp n a) (d * 65536) k) * ch) : Nat) : Int) : Int) = ((((goneV W f (stp n a) (d * 65536) k) * ch) : Nat) : Int)) ∧ (q = q) ∧ (((goneV W f (stp n a) (d * 65536) k) * ch) ≤ q) ∧ (q ≤ q) ∧ (q - ((goneV W f (stp n a) (d * 65536) k) * ch) = (q - ((goneV W f (stp n a) (d * 65536) k) * ch))) ∧ (List.take ((q - ((goneV W f (stp n a) (d * 65536) k) * ch)) * 1) (List.drop (((goneV W f (stp n a) (d * 65536) k) * ch) * 1) (dI .i32 l)) = (dI .i32 (List.drop ((goneV W f (stp n a) (d * 65536) k) * ch) l))) ∧ (_)) [(2, rV 0 0), (4, rV 1 0), (5, rV 2 0), (7, rV 3 0), (9, rV 5 0)] [(0, some (34, .cs [uC ch, iC n, iC d, iC a, iC p, iC f, .own 6 0 (q - ((goneV W f (stp n a) (d * 65536) k) * ch)) 1 true])), (1, some (77, .ds [iD 0, nl9])), (2, some (34, .ds [iD 0, iD 0, iD 0, iD 0, iD 0, iD 0, nl9])), (3, some (31, .ds [iD n, iD d, iD a, iD (p + ((mvV f (stp n a) k) / (d * 65536))), iD ((mvV f (stp n a) k) % (d * 65536))])), (4, some (21, .ds (dI .i32 (prV ch W l f (stp n a) (d * 65536) k)))), (5, some (77, .cs [uC ch, .own 4 0 (k * ch) 1 true])), (6, some (21, .ds (dI .i32 (List.drop ((goneV W f (stp n a) (d * 65536) k) * ch) l))))] 7 ⟨⟨by omega, by omega⟩, zo, rfl, rfl, zo, zo, zo, (by first | rfl | with_reducible assumption | exact dI_app _ _ _ | exact dI_rep _ _ _ | (simp only [dI_take, dI_drop, dI_app, Nat.mul_one, Nat.zero_mul, List.drop_zero, List.nil_append, List.append_nil]; done) | (simp only [dI_take, dI_drop, dI_app, Nat.mul_one, Nat.zero_mul, List.drop_zero, List.nil_append, List.append_nil]; rfl) | (rw [List.take_of_length_le (by simp only [prV_len, rwV_len, dI_len, List.length_drop, List.length_replicate, Nat.mul_one] <;> omega)]; first | rfl | (simp only [dI_drop, Nat.mul_one, Nat.zero_mul, List.drop_zero]; done) | (simp only [dI_drop, Nat.mul_one, Nat.zero_mul, List.drop_zero]; rfl))), (C_Clone_i32 (List.drop ((goneV W f (stp n a) (d * 65536) k) * ch) l) (q - ((goneV W f (stp n a) (d * 65536) k) * ch)) zl151 zl151)⟩ ?_
 refine zr [.no, .no, .no] [2, 4, 5, 9] [0, 1, 2, 4, 5, 6] True [(2, rV 0 0), (4, rV 1 0), (5, rV 2 0), (9, rV 5 0)] [(0, some (34, .cs [uC ch, iC n, iC d, iC a, iC (p + ((mvV f (stp n a) k) / (d * 65536))), iC ((mvV f (stp n a) k) % (d * 65536)), .own 6 0 (q - ((goneV W f (stp n a) (d * 65536) k) * ch)) 1 true])), (1, some (77, .ds [iD 0, nl9])), (2, some (34, .ds [iD 0, iD 0, iD 0, iD 0, iD 0, iD 0, nl9])), (4, some (21, .ds (dI .i32 (prV ch W l f (stp n a) (d * 65536) k)))), (5, some (77, .cs [uC ch, .own 4 0 (k * ch) 1 true])), (6, some (21, .ds (dI .i32 (List.drop ((goneV W f (stp n a) (d * 65536) k) * ch) l))))] 7 trivial ?_
 refine zr [.no, .no, .no, .no, .no] [4, 5, 6] [1, 2, 4, 6] True [(4, rV 1 0), (5, rV 2 0), (6, iV 0)] [(1, some (77, .cs [uC ch, .own 4 0 (k * ch) 1 true])), (2, some (34, .cs [uC ch, iC n, iC d, iC a, iC (p + ((mvV f (stp n a) k) / (d * 65536))), iC ((mvV f (stp n a) k) % (d * 65536)), .own 6 0 (q - ((goneV W f (stp n a) (d * 65536) k) * ch)) 1 true])), (4, some (21, .ds (dI .i32 (prV ch W l f (stp n a) (d * 65536) k)))), (6, some (21, .ds (dI .i32 (List.drop ((goneV W f (stp n a) (d * 65536) k) * ch) l))))] 7 trivial ?_
 refine AW.ret ?_
 exact EndP.of (.inr rfl) [(0, 4), (1, 6)] (P := ((((ch : Nat) : Int) : Int) = ((ch : Nat) : Int)) ∧ ((0 : Nat) = 0) ∧ (((k * ch) : Nat) = (k * ch)) ∧ ((((ch : Nat) : Int) : Int) = ((ch : Nat) : Int)) ∧ ((n : Int) = n) ∧ ((d : Int) = d) ∧ ((a : Int) = a) ∧ (((p + ((mvV f (stp n a) k) / (d * 65536))) : Int) = (p + ((mvV f (stp n a) k) / (d * 65536)))) ∧ ((((mvV f (stp n a) k) % (d * 65536)) : Int) = ((mvV f (stp n a) k) % (d * 65536))) ∧ ((0 : Nat) = 0) ∧ (((q - ((goneV W f (stp n a) (d * 65536) k) * ch)) : Nat) = (q - ((goneV W f (stp n a) (d * 65536) k) * ch))) ∧ ((0 : Int) = 0) ∧ (((dI .i32 (prV ch W l f (stp n a) (d * 65536) k)) : List D) = (dI .i32 (prV ch W l f (stp n a) (d * 65536) k))) ∧ (((dI .i32 (List.drop ((goneV W f (stp n a) (d * 65536) k) * ch) l)) : List D) = (dI .i32 (List.drop ((goneV W f (stp n a) (d * 65536) k) * ch) l)))) zk ⟨rfl, rfl, rfl, rfl, rfl, rfl, rfl, rfl, rfl, rfl, rfl, rfl, rfl, rfl⟩
theorem Q_check (ch W : Nat) (n d a p f : Int) (l : List Int) (q : Nat) (x : Int) (hq : List.length l = q) (hv : BV ch W l) (hp : PhV n d a p f) (hx : 0 ≤ x ∧ x ≤ 65536) : Fun 89 [.agg [iC ((ch : Nat) : Int), iC n, iC d, iC a, iC p, iC f, .d (D.sl (dI .i32 l) q)], iE x] (toG []) 0 (iV 0) (toG []) 0 := by
 have hok : phB n d a p f = true := hp.ok
 have hob : okB ((ch : Nat) : Int) l = true := hv.ok
 have hbd : (1 ≤ n ∧ n ≤ 768000) ∧ (1 ≤ d ∧ d ≤ 768000) ∧ (-4096 ≤ a ∧ a ≤ 4096) ∧ (0 ≤ p ∧ p ≤ 1125899906842624) ∧ 0 ≤ f ∧ f < d * 65536 := hp.b
 have hst : 61440 ≤ stp n a ∧ stp n a ≤ 53477376000 := stp_in hp.b.1 hp.b.2.2.1
 have hc1 : 1 ≤ ch := hv.c1
 have hc8 : ch ≤ 8 := hv.c8
 have hlq : q = W * ch := hq.symm.trans hv.len
 have hbig : W * ch ≤ 524288 := hv.big
 have hfit : W ≤ 65536 := hv.fit
 have hqW : (q : Int) / (ch : Int) = W := by rw [hlq]; exact hv.quo
 have hvd : (phB n d a p f && okB ((ch : Nat) : Int) l) = true := by rw [hok, hob]; rfl
 refine Fun.mk (n := 14) Tryz.func89 rfl rfl (Nat.le_of_ble_eq_true rfl) ?_
 intro cx hcx
 refine zr [.no, .no] [1, 2] [0] True [(1, iV x), (2, rV 0 0)] [(0, some (34, .ds [uD ch, iD n, iD d, iD a, iD p, iD f, dm l q]))] 1 trivial ?_
 refine AW.seq ?_
 refine zr [.no, .call [] (bV true) [] 0 [] none, .no] [1, 7] [] (Fun 34 [.agg [uC ch, iC n, iC d, iC a, iC p, iC f, .d (dm l q)]] (toG []) 0 (bV true) (toG []) 0) [(1, iV x), (7, bV false)] [] 1 (by have h0 := (Q_Valid ((ch : Nat) : Int) n d a p f l q zo zo); rw [hvd] at h0; exact h0) ?_
 refine zfs ?_
 refine AW.seq ?_
 refine zr [.no, .b false, .no, .no, .b false, .no] [13] [] ((¬ (x < 0)) ∧ (¬ ((65536 : Int) < x))) [(13, bV false)] [] 1 ⟨zo, zo⟩ ?_
 refine zfs ?_
 refine zr [.no] [4] [] True [(4, iV 0)] [] 1 trivial ?_
 refine AW.ret ?_
 exact EndP.of (.inr rfl) [] (P := ((0 : Int) = 0)) zk rfl
theorem Q_Take (ch W : Nat) (n d a p f : Int) (l : List Int) (q k : Nat) (hq : List.length l = q) (hv : BV ch W l) (hp : PhV n d a p f) (hk : k ≤ 65536) (hnd : needV f (stp n a) (d * 65536) k ≤ (W : Int)) (hb : p + (mvV f (stp n a) k / (d * 65536)) ≤ 1125899906842624) : Fun 116 [.agg [iC ((ch : Nat) : Int), iC n, iC d, iC a, iC p, iC f, .d (D.sl (dI .i32 l) q)], iE ((k : Nat) : Int)] (toG []) 0 (.tup [.agg [iC ((ch : Nat) : Int), .own 0 0 (k * ch) 1 true], .agg [iC ((ch : Nat) : Int), iC n, iC d, iC a, iC (p + ((mvV f (stp n a) k) / (d * 65536))), iC ((mvV f (stp n a) k) % (d * 65536)), .own 1 0 (q - ((goneV W f (stp n a) (d * 65536) k) * ch)) 1 true], iE 0]) (toG [(0, some (21, .ds (dI .i32 (prV ch W l f (stp n a) (d * 65536) k)))), (1, some (21, .ds (dI .i32 (List.drop ((goneV W f (stp n a) (d * 65536) k) * ch) l))))]) 2 := by
 have hok : phB n d a p f = true := hp.ok
 have hob : okB ((ch : Nat) : Int) l = true := hv.ok
 have hbd : (1 ≤ n ∧ n ≤ 768000) ∧ (1 ≤ d ∧ d ≤ 768000) ∧ (-4096 ≤ a ∧ a ≤ 4096) ∧ (0 ≤ p ∧ p ≤ 1125899906842624) ∧ 0 ≤ f ∧ f < d * 65536 := hp.b
 have hst : 61440 ≤ stp n a ∧ stp n a ≤ 53477376000 := stp_in hp.b.1 hp.b.2.2.1
 have hc1 : 1 ≤ ch := hv.c1
 have hc8 : ch ≤ 8 := hv.c8
 have hlq : q = W * ch := hq.symm.trans hv.len
 have hbig : W * ch ≤ 524288 := hv.big
 have hfit : W ≤ 65536 := hv.fit
 have hqW : (q : Int) / (ch : Int) = W := by rw [hlq]; exact hv.quo
 have hk0 : k = 0 ∨ 1 ≤ W := (Nat.eq_zero_or_pos k).imp id (fun h9 => by have h8 := needV_s f (stp n a) (d * 65536) (show ¬ k = 0 by omega); have h7 := mv_in (f := f) (s := stp n a) (i := k - 1) (by omega) (by omega) (by omega); have h6 := (quo_in h7.1 (show 0 < d * 65536 by omega)).1; omega)
 refine Fun.mk (n := 37) Tryz.func116 rfl rfl (Nat.le_of_ble_eq_true rfl) ?_
 intro cx hcx
 refine zr [.no, .no, .no, .no] [1, 2, 4, 5] [0, 1, 2] True [(1, uV k), (2, rV 0 0), (4, rV 1 0), (5, rV 2 0)] [(0, some (34, .ds [uD ch, iD n, iD d, iD a, iD p, iD f, dm l q])), (1, some (77, .ds [iD 0, nl9])), (2, some (34, .ds [iD 0, iD 0, iD 0, iD 0, iD 0, iD 0, nl9]))] 3 trivial ?_
 refine AW.seq ?_
 refine zr [.no, .no, .call [] (iV 0) [] 0 [] none, .no] [1, 2, 4, 5, 7] [0, 1, 2] _ [(1, uV k), (2, rV 0 0), (4, rV 1 0), (5, rV 2 0), (7, iV 0)] [(0, some (34, .ds [uD ch, iD n, iD d, iD a, iD p, iD f, dm l q])), (1, some (77, .ds [iD 0, nl9])), (2, some (34, .ds [iD 0, iD 0, iD 0, iD 0, iD 0, iD 0, nl9]))] 3 (Q_check ch W n d a p f l q ((k : Nat) : Int) zo zl151 zl151 zo) ?_
 refine zr [.no, .b false] [1, 2, 4, 5, 7, 14] [0, 1, 2] (¬ ((0 : Int) ≠ 0)) [(1, uV k), (2, rV 0 0), (4, rV 1 0), (5, rV 2 0), (7, iV 0), (14, bV false)] [(0, some (34, .ds [uD ch, iD n, iD d, iD a, iD p, iD f, dm l q])), (1, some (77, .ds [iD 0, nl9])), (2, some (34, .ds [iD 0, iD 0, iD 0, iD 0, iD 0, iD 0, nl9]))] 3 zo ?_
 refine zfs ?_
 refine AW.seq ?_
 have hx1 : (((0 : Int) ≤ (needV f (stp n a) (d * 65536) k)) ∧ ((needV f (stp n a) (d * 65536) k) ≤ 3600000000000002)) := (by have h9 := PhV.b (show PhV n d a p f by assumption); have h8 := stp_in h9.1 h9.2.2.1; exact needV_in zo zo zo zo)
 refine zr [.no, .no, .no, .call [] (.tup [iE (needV f (stp n a) (d * 65536) k), iE 0]) [] 0 [] none, .no, .no, .no, .no, .no] [1, 2, 4, 5, 8] [0, 1, 2] _ [(1, uV k), (2, rV 0 0), (4, rV 1 0), (5, rV 2 0), (8, iV (needV f (stp n a) (d * 65536) k))] [(0, some (34, .ds [uD ch, iD n, iD d, iD a, iD p, iD f, dm l q])), (1, some (77, .ds [iD 0, nl9])), (2, some (34, .ds [iD 0, iD 0, iD 0, iD 0, iD 0, iD 0, nl9]))] 3 (P_Need n d a p f k zl151 zo) ?_
 refine zr [.no, .no, .call [] (uV W) [] 0 [] none, .b false] [1, 2, 4, 5, 28] [0, 1, 2] ((_) ∧ (¬ (((W : Nat) : Int) < (needV f (stp n a) (d * 65536) k)))) [(1, uV k), (2, rV 0 0), (4, rV 1 0), (5, rV 2 0), (28, bV false)] [(0, some (34, .ds [uD ch, iD n, iD d, iD a, iD p, iD f, dm l q])), (1, some (77, .ds [iD 0, nl9])), (2, some (34, .ds [iD 0, iD 0, iD 0, iD 0, iD 0, iD 0, nl9]))] 3 ⟨(Q_waiting ch W n d a p f l q zo zl151), zo⟩ ?_
 refine zfs ?_
 refine zr [.no, .no, .call [] (.tup [.agg [uC ch, .own 0 0 (k * ch) 1 true], .agg [uC ch, iC n, iC d, iC a, iC (p + ((mvV f (stp n a) k) / (d * 65536))), iC ((mvV f (stp n a) k) % (d * 65536)), .own 1 0 (q - ((goneV W f (stp n a) (d * 65536) k) * ch)) 1 true], iE 0]) [(0, some (21, .ds (dI .i32 (prV ch W l f (stp n a) (d * 65536) k)))), (1, some (21, .ds (dI .i32 (List.drop ((goneV W f (stp n a) (d * 65536) k) * ch) l))))] 2 [] none, .no, .no, .no, .no, .no, .no] [4, 5, 6] [1, 2, 3, 4] _ [(4, rV 1 0), (5, rV 2 0), (6, iV 0)] [(1, some (77, .cs [uC ch, .own 3 0 (k * ch) 1 true])), (2, some (34, .cs [uC ch, iC n, iC d, iC a, iC (p + ((mvV f (stp n a) k) / (d * 65536))), iC ((mvV f (stp n a) k) % (d * 65536)), .own 4 0 (q - ((goneV W f (stp n a) (d * 65536) k) * ch)) 1 true])), (3, some (21, .ds (dI .i32 (prV ch W l f (stp n a) (d * 65536) k)))), (4, some (21, .ds (dI .i32 (List.drop ((goneV W f (stp n a) (d * 65536) k) * ch) l))))] 5 (Q_give ch W n d a p f l q k zo zl151 zl151 zo zl151 zl151) ?_
 refine AW.ret ?_
 exact EndP.of (.inr rfl) [(0, 3), (1, 4)] (P := ((((ch : Nat) : Int) : Int) = ((ch : Nat) : Int)) ∧ ((0 : Nat) = 0) ∧ (((k * ch) : Nat) = (k * ch)) ∧ ((((ch : Nat) : Int) : Int) = ((ch : Nat) : Int)) ∧ ((n : Int) = n) ∧ ((d : Int) = d) ∧ ((a : Int) = a) ∧ (((p + ((mvV f (stp n a) k) / (d * 65536))) : Int) = (p + ((mvV f (stp n a) k) / (d * 65536)))) ∧ ((((mvV f (stp n a) k) % (d * 65536)) : Int) = ((mvV f (stp n a) k) % (d * 65536))) ∧ ((0 : Nat) = 0) ∧ (((q - ((goneV W f (stp n a) (d * 65536) k) * ch)) : Nat) = (q - ((goneV W f (stp n a) (d * 65536) k) * ch))) ∧ ((0 : Int) = 0) ∧ (((dI .i32 (prV ch W l f (stp n a) (d * 65536) k)) : List D) = (dI .i32 (prV ch W l f (stp n a) (d * 65536) k))) ∧ (((dI .i32 (List.drop ((goneV W f (stp n a) (d * 65536) k) * ch) l)) : List D) = (dI .i32 (List.drop ((goneV W f (stp n a) (d * 65536) k) * ch) l)))) zk ⟨rfl, rfl, rfl, rfl, rfl, rfl, rfl, rfl, rfl, rfl, rfl, rfl, rfl, rfl⟩
theorem Q_left (ch W : Nat) (n d a p f : Int) (l : List Int) (q k : Nat) (hq : List.length l = q) (hv : BV ch W l) (hp : PhV n d a p f) (hk : k ≤ 65536) : Fun 91 [.agg [iC ((ch : Nat) : Int), iC n, iC d, iC a, iC p, iC f, .d (D.sl (dI .i32 l) q)], iE ((k : Nat) : Int)] (toG []) 0 (iV (((leftV W f (stp n a) (d * 65536) k) : Nat) : Int)) (toG []) 0 := by
 have hok : phB n d a p f = true := hp.ok
 have hob : okB ((ch : Nat) : Int) l = true := hv.ok
 have hbd : (1 ≤ n ∧ n ≤ 768000) ∧ (1 ≤ d ∧ d ≤ 768000) ∧ (-4096 ≤ a ∧ a ≤ 4096) ∧ (0 ≤ p ∧ p ≤ 1125899906842624) ∧ 0 ≤ f ∧ f < d * 65536 := hp.b
 have hst : 61440 ≤ stp n a ∧ stp n a ≤ 53477376000 := stp_in hp.b.1 hp.b.2.2.1
 have hc1 : 1 ≤ ch := hv.c1
 have hc8 : ch ≤ 8 := hv.c8
 have hlq : q = W * ch := hq.symm.trans hv.len
 have hbig : W * ch ≤ 524288 := hv.big
 have hfit : W ≤ 65536 := hv.fit
 have hqW : (q : Int) / (ch : Int) = W := by rw [hlq]; exact hv.quo
 have hse : stp n a = n * (65536 + a) := rfl
 have hwp : 0 ≤ (W : Int) * (d * 65536) ∧ (W : Int) * (d * 65536) ≤ 3300000000000000 := by have e1 : 0 ≤ (W : Int) * (d * 65536) := Int.mul_nonneg (by omega) (by omega); have e2 : (W : Int) * (d * 65536) ≤ 65536 * (d * 65536) := Int.mul_le_mul_of_nonneg_right (by omega) (by omega); omega
 have hlq2 : ((W : Int) * (d * 65536) - f) ≤ 0 ∨ 0 ≤ (((W : Int) * (d * 65536) - f) + stp n a - 1) / stp n a ∧ (((W : Int) * (d * 65536) - f) + stp n a - 1) / stp n a ≤ ((W : Int) * (d * 65536) - f) + stp n a - 1 := (Classical.em (((W : Int) * (d * 65536) - f) ≤ 0)).elim .inl (fun h9 => .inr ⟨Int.ediv_nonneg (by omega) (by omega), Int.ediv_le_self _ (by omega)⟩)
 refine Fun.mk (n := 40) Tryz.func91 rfl rfl (Nat.le_of_ble_eq_true rfl) ?_
 intro cx hcx
 refine zr [.no, .no] [1, 2] [0] True [(1, uV k), (2, rV 0 0)] [(0, some (34, .ds [uD ch, iD n, iD d, iD a, iD p, iD f, dm l q]))] 1 trivial ?_
 refine zr [.no, .no, .no, .no, .w, .no, .no, .no, .no, .no, .no, .no, .w, .wi (stp n a), .no, .no] [1, 2, 5, 6] [0] (((-9223372036854775808) ≤ (d * 65536) ∧ (d * 65536) ≤ 9223372036854775807) ∧ ((-9223372036854775808) ≤ (65536 + a) ∧ (65536 + a) ≤ 9223372036854775807) ∧ ((-9223372036854775808) ≤ (n * (65536 + a)) ∧ (n * (65536 + a)) ≤ 9223372036854775807) ∧ (((n * (65536 + a)) : Int) = (stp n a))) [(1, uV k), (2, rV 0 0), (5, iV (d * 65536)), (6, iV (stp n a))] [(0, some (34, .ds [uD ch, iD n, iD d, iD a, iD p, iD f, dm l q]))] 1 ⟨⟨by omega, by omega⟩, ⟨by omega, by omega⟩, ⟨by omega, by omega⟩, zo⟩ ?_
 refine zr [.no, .call [] (uV W) [] 0 [] none, .no, .w, .no, .no, .no, .w, .no] [1, 6, 7] [] ((_) ∧ ((-9223372036854775808) ≤ (((W : Nat) : Int) * (d * 65536)) ∧ (((W : Nat) : Int) * (d * 65536)) ≤ 9223372036854775807) ∧ ((-9223372036854775808) ≤ ((((W : Nat) : Int) * (d * 65536)) - f) ∧ ((((W : Nat) : Int) * (d * 65536)) - f) ≤ 9223372036854775807)) [(1, uV k), (6, iV (stp n a)), (7, iV ((↑W * (d * 65536)) - f))] [] 1 ⟨(Q_waiting ch W n d a p f l q zo zl151), ⟨by omega, by omega⟩, ⟨by omega, by omega⟩⟩ ?_
 refine AW.seq ?_
 by_cases hx1 : (((((W : Nat) : Int) * (d * 65536)) - f) ≤ 0)
 ·refine zr [.no, .b true] [1, 6, 7, 31] [] ((((((W : Nat) : Int) * (d * 65536)) - f) ≤ 0)) [(1, uV k), (6, iV (stp n a)), (7, iV ((↑W * (d * 65536)) - f)), (31, bV true)] [] 1 zo ?_
  refine zt ?_
  refine zr [.no] [4] [] True [(4, iV 0)] [] 1 trivial ?_
  refine AW.ret ?_
  exact EndP.of (.inr rfl) [] (P := (((((leftV W f (stp n a) (d * 65536) k) : Nat) : Int) : Int) = 0)) zk (by unfold leftV; first | (rw [if_pos (by omega)]; rfl) | (rw [if_neg (by omega)]; omega))
 ·refine zr [.no, .b false] [1, 6, 7, 31] [] (¬ (((((W : Nat) : Int) * (d * 65536)) - f) ≤ 0)) [(1, uV k), (6, iV (stp n a)), (7, iV ((↑W * (d * 65536)) - f)), (31, bV false)] [] 1 zo ?_
  refine zfs ?_
  refine zr [.no, .no, .w, .w, .no, .ps, .no, .no, .no] [4] [] (((-9223372036854775808) ≤ (((((W : Nat) : Int) * (d * 65536)) - f) + (stp n a)) ∧ (((((W : Nat) : Int) * (d * 65536)) - f) + (stp n a)) ≤ 9223372036854775807) ∧ ((-9223372036854775808) ≤ ((((((W : Nat) : Int) * (d * 65536)) - f) + (stp n a)) - 1) ∧ ((((((W : Nat) : Int) * (d * 65536)) - f) + (stp n a)) - 1) ≤ 9223372036854775807) ∧ ((0 : Int) ≤ (((((((W : Nat) : Int) * (d * 65536)) - f) + (stp n a)) - 1) : Int)) ∧ ((0 : Int) < ((stp n a) : Int)) ∧ ((-9223372036854775808) ≤ ((((((W : Nat) : Int) * (d * 65536)) - f) + (stp n a)) - 1) ∧ ((((((W : Nat) : Int) * (d * 65536)) - f) + (stp n a)) - 1) ≤ 9223372036854775807)) [(4, iV (min (((((↑W * (d * 65536)) - f) + (stp n a)) - 1) / (stp n a)) ↑k))] [] 1 ⟨⟨by omega, by omega⟩, ⟨by omega, by omega⟩, zo, zo, ⟨by omega, by omega⟩⟩ ?_
  refine AW.ret ?_
  exact EndP.of (.inr rfl) [] (P := (((((leftV W f (stp n a) (d * 65536) k) : Nat) : Int) : Int) = (min (((((((W : Nat) : Int) * (d * 65536)) - f) + (stp n a)) - 1) / (stp n a)) ((k : Nat) : Int)))) zk (by unfold leftV; first | (rw [if_pos (by omega)]; rfl) | (rw [if_neg (by omega)]; omega))
theorem Q_Finish (ch W : Nat) (n d a p f : Int) (l : List Int) (q k : Nat) (hq : List.length l = q) (hv : BV ch W l) (hp : PhV n d a p f) (hk : k ≤ 65536) (hb : p + (mvV f (stp n a) (leftV W f (stp n a) (d * 65536) k) / (d * 65536)) ≤ 1125899906842624) : Fun 49 [.agg [iC ((ch : Nat) : Int), iC n, iC d, iC a, iC p, iC f, .d (D.sl (dI .i32 l) q)], iE ((k : Nat) : Int)] (toG []) 0 (.tup [.agg [iC ((ch : Nat) : Int), .own 0 0 ((leftV W f (stp n a) (d * 65536) k) * ch) 1 true], .agg [iC ((ch : Nat) : Int), iC n, iC d, iC a, iC (p + ((mvV f (stp n a) (leftV W f (stp n a) (d * 65536) k)) / (d * 65536))), iC ((mvV f (stp n a) (leftV W f (stp n a) (d * 65536) k)) % (d * 65536)), .own 1 0 (q - ((goneV W f (stp n a) (d * 65536) (leftV W f (stp n a) (d * 65536) k)) * ch)) 1 true], iE 0]) (toG [(0, some (21, .ds (dI .i32 (prV ch W l f (stp n a) (d * 65536) (leftV W f (stp n a) (d * 65536) k))))), (1, some (21, .ds (dI .i32 (List.drop ((goneV W f (stp n a) (d * 65536) (leftV W f (stp n a) (d * 65536) k)) * ch) l))))]) 2 := by
 have hok : phB n d a p f = true := hp.ok
 have hob : okB ((ch : Nat) : Int) l = true := hv.ok
 have hbd : (1 ≤ n ∧ n ≤ 768000) ∧ (1 ≤ d ∧ d ≤ 768000) ∧ (-4096 ≤ a ∧ a ≤ 4096) ∧ (0 ≤ p ∧ p ≤ 1125899906842624) ∧ 0 ≤ f ∧ f < d * 65536 := hp.b
 have hst : 61440 ≤ stp n a ∧ stp n a ≤ 53477376000 := stp_in hp.b.1 hp.b.2.2.1
 have hc1 : 1 ≤ ch := hv.c1
 have hc8 : ch ≤ 8 := hv.c8
 have hlq : q = W * ch := hq.symm.trans hv.len
 have hbig : W * ch ≤ 524288 := hv.big
 have hfit : W ≤ 65536 := hv.fit
 have hqW : (q : Int) / (ch : Int) = W := by rw [hlq]; exact hv.quo
 have hlk : leftV W f (stp n a) (d * 65536) k ≤ k ∧ (leftV W f (stp n a) (d * 65536) k = 0 ∨ 1 ≤ W) := leftV_le hbd.2.2.2.2.1
 refine Fun.mk (n := 24) Tryz.func49 rfl rfl (Nat.le_of_ble_eq_true rfl) ?_
 intro cx hcx
 refine zr [.no, .no, .no, .no] [1, 2, 4, 5] [0, 1, 2] True [(1, uV k), (2, rV 0 0), (4, rV 1 0), (5, rV 2 0)] [(0, some (34, .ds [uD ch, iD n, iD d, iD a, iD p, iD f, dm l q])), (1, some (77, .ds [iD 0, nl9])), (2, some (34, .ds [iD 0, iD 0, iD 0, iD 0, iD 0, iD 0, nl9]))] 3 trivial ?_
 refine AW.seq ?_
 refine zr [.no, .no, .call [] (iV 0) [] 0 [] none, .no] [1, 2, 4, 5, 7] [0, 1, 2] _ [(1, uV k), (2, rV 0 0), (4, rV 1 0), (5, rV 2 0), (7, iV 0)] [(0, some (34, .ds [uD ch, iD n, iD d, iD a, iD p, iD f, dm l q])), (1, some (77, .ds [iD 0, nl9])), (2, some (34, .ds [iD 0, iD 0, iD 0, iD 0, iD 0, iD 0, nl9]))] 3 (Q_check ch W n d a p f l q ((k : Nat) : Int) zo zl151 zl151 zo) ?_
 refine zr [.no, .b false] [1, 2, 4, 5, 7, 12] [0, 1, 2] (¬ ((0 : Int) ≠ 0)) [(1, uV k), (2, rV 0 0), (4, rV 1 0), (5, rV 2 0), (7, iV 0), (12, bV false)] [(0, some (34, .ds [uD ch, iD n, iD d, iD a, iD p, iD f, dm l q])), (1, some (77, .ds [iD 0, nl9])), (2, some (34, .ds [iD 0, iD 0, iD 0, iD 0, iD 0, iD 0, nl9]))] 3 zo ?_
 refine zfs ?_
 refine zr [.no, .no, .no, .call [] (uV (leftV W f (stp n a) (d * 65536) k)) [] 0 [] none, .call [] (.tup [.agg [uC ch, .own 0 0 ((leftV W f (stp n a) (d * 65536) k) * ch) 1 true], .agg [uC ch, iC n, iC d, iC a, iC (p + ((mvV f (stp n a) (leftV W f (stp n a) (d * 65536) k)) / (d * 65536))), iC ((mvV f (stp n a) (leftV W f (stp n a) (d * 65536) k)) % (d * 65536)), .own 1 0 (q - ((goneV W f (stp n a) (d * 65536) (leftV W f (stp n a) (d * 65536) k)) * ch)) 1 true], iE 0]) [(0, some (21, .ds (dI .i32 (prV ch W l f (stp n a) (d * 65536) (leftV W f (stp n a) (d * 65536) k))))), (1, some (21, .ds (dI .i32 (List.drop ((goneV W f (stp n a) (d * 65536) (leftV W f (stp n a) (d * 65536) k)) * ch) l))))] 2 [] none, .no, .no, .no, .no, .no, .no] [4, 5, 6] [1, 2, 3, 4] ((_) ∧ (_)) [(4, rV 1 0), (5, rV 2 0), (6, iV 0)] [(1, some (77, .cs [uC ch, .own 3 0 ((leftV W f (stp n a) (d * 65536) k) * ch) 1 true])), (2, some (34, .cs [uC ch, iC n, iC d, iC a, iC (p + ((mvV f (stp n a) (leftV W f (stp n a) (d * 65536) k)) / (d * 65536))), iC ((mvV f (stp n a) (leftV W f (stp n a) (d * 65536) k)) % (d * 65536)), .own 4 0 (q - ((goneV W f (stp n a) (d * 65536) (leftV W f (stp n a) (d * 65536) k)) * ch)) 1 true])), (3, some (21, .ds (dI .i32 (prV ch W l f (stp n a) (d * 65536) (leftV W f (stp n a) (d * 65536) k))))), (4, some (21, .ds (dI .i32 (List.drop ((goneV W f (stp n a) (d * 65536) (leftV W f (stp n a) (d * 65536) k)) * ch) l))))] 5 ⟨(Q_left ch W n d a p f l q k zo zl151 zl151 zo), (Q_give ch W n d a p f l q (leftV W f (stp n a) (d * 65536) k) zo zl151 zl151 zl151 zl151 zl151)⟩ ?_
 refine AW.ret ?_
 exact EndP.of (.inr rfl) [(0, 3), (1, 4)] (P := ((((ch : Nat) : Int) : Int) = ((ch : Nat) : Int)) ∧ ((0 : Nat) = 0) ∧ ((((leftV W f (stp n a) (d * 65536) k) * ch) : Nat) = ((leftV W f (stp n a) (d * 65536) k) * ch)) ∧ ((((ch : Nat) : Int) : Int) = ((ch : Nat) : Int)) ∧ ((n : Int) = n) ∧ ((d : Int) = d) ∧ ((a : Int) = a) ∧ (((p + ((mvV f (stp n a) (leftV W f (stp n a) (d * 65536) k)) / (d * 65536))) : Int) = (p + ((mvV f (stp n a) (leftV W f (stp n a) (d * 65536) k)) / (d * 65536)))) ∧ ((((mvV f (stp n a) (leftV W f (stp n a) (d * 65536) k)) % (d * 65536)) : Int) = ((mvV f (stp n a) (leftV W f (stp n a) (d * 65536) k)) % (d * 65536))) ∧ ((0 : Nat) = 0) ∧ (((q - ((goneV W f (stp n a) (d * 65536) (leftV W f (stp n a) (d * 65536) k)) * ch)) : Nat) = (q - ((goneV W f (stp n a) (d * 65536) (leftV W f (stp n a) (d * 65536) k)) * ch))) ∧ ((0 : Int) = 0) ∧ (((dI .i32 (prV ch W l f (stp n a) (d * 65536) (leftV W f (stp n a) (d * 65536) k))) : List D) = (dI .i32 (prV ch W l f (stp n a) (d * 65536) (leftV W f (stp n a) (d * 65536) k)))) ∧ (((dI .i32 (List.drop ((goneV W f (stp n a) (d * 65536) (leftV W f (stp n a) (d * 65536) k)) * ch) l)) : List D) = (dI .i32 (List.drop ((goneV W f (stp n a) (d * 65536) (leftV W f (stp n a) (d * 65536) k)) * ch) l)))) zk ⟨rfl, rfl, rfl, rfl, rfl, rfl, rfl, rfl, rfl, rfl, rfl, rfl, rfl, rfl⟩
theorem Q_Convert (ch W F : Nat) (n d a p f : Int) (l : List Int) (q : Nat) (m : List Int) (z : Nat) (hq : List.length l = q) (hv : BV ch W l) (hp : PhV n d a p f) (hz : List.length m = z) (hw : BV ch F m) (hWF : W + F ≤ 65536) (hb : p + (mvV f (stp n a) (mkF f (stp n a) (d * 65536) ((W + F : Nat) : Int)) / (d * 65536)) ≤ 1125899906842624) : Fun 78 [.agg [iC ((ch : Nat) : Int), iC n, iC d, iC a, iC p, iC f, .d (D.sl (dI .i32 l) q)], .agg [iC ((ch : Nat) : Int), .d (D.sl (dI .i32 m) z)]] (toG []) 0 (.tup [.agg [iC ((ch : Nat) : Int), .own 0 0 ((mkF f (stp n a) (d * 65536) (((W + F) : Nat) : Int)) * ch) 1 true], .agg [iC ((ch : Nat) : Int), iC n, iC d, iC a, iC (p + ((mvV f (stp n a) (mkF f (stp n a) (d * 65536) (((W + F) : Nat) : Int))) / (d * 65536))), iC ((mvV f (stp n a) (mkF f (stp n a) (d * 65536) (((W + F) : Nat) : Int))) % (d * 65536)), .own 1 0 ((q + z) - ((goneV (W + F) f (stp n a) (d * 65536) (mkF f (stp n a) (d * 65536) (((W + F) : Nat) : Int))) * ch)) 1 true], iE 0]) (toG [(0, some (21, .ds (dI .i32 (prV ch (W + F) (l ++ m) f (stp n a) (d * 65536) (mkF f (stp n a) (d * 65536) (((W + F) : Nat) : Int)))))), (1, some (21, .ds (dI .i32 (List.drop ((goneV (W + F) f (stp n a) (d * 65536) (mkF f (stp n a) (d * 65536) (((W + F) : Nat) : Int))) * ch) (l ++ m)))))]) 2 := by
 have hok : phB n d a p f = true := hp.ok
 have hob : okB ((ch : Nat) : Int) l = true := hv.ok
 have hbd : (1 ≤ n ∧ n ≤ 768000) ∧ (1 ≤ d ∧ d ≤ 768000) ∧ (-4096 ≤ a ∧ a ≤ 4096) ∧ (0 ≤ p ∧ p ≤ 1125899906842624) ∧ 0 ≤ f ∧ f < d * 65536 := hp.b
 have hst : 61440 ≤ stp n a ∧ stp n a ≤ 53477376000 := stp_in hp.b.1 hp.b.2.2.1
 have hc1 : 1 ≤ ch := hv.c1
 have hc8 : ch ≤ 8 := hv.c8
 have hlq : q = W * ch := hq.symm.trans hv.len
 have hbig : W * ch ≤ 524288 := hv.big
 have hfit : W ≤ 65536 := hv.fit
 have hqW : (q : Int) / (ch : Int) = W := by rw [hlq]; exact hv.quo
 have hvd : (phB n d a p f && okB ((ch : Nat) : Int) l) = true := by rw [hok, hob]; rfl
 have hok2 : okB ((ch : Nat) : Int) m = true := hw.ok
 have hzF : z = F * ch := hz.symm.trans hw.len
 have hbF : F * ch ≤ 524288 := hw.big
 have hsum : (W + F) * ch = W * ch + F * ch := Nat.add_mul _ _ _
 have hmx : (W + F) * ch ≤ 65536 * ch := Nat.mul_le_mul_right _ hWF
 have hdv : ((q : Int) + (z : Int)) / (ch : Int) = ((W + F : Nat) : Int) := by rw [hlq, hzF, ← Int.natCast_add, ← Nat.add_mul, Int.natCast_mul, Int.mul_ediv_cancel _ (by omega)]
 have hvWF : BV ch (W + F) (l ++ m) := app_BV hv hw hWF
 have hlm : List.length (l ++ m) = q + z := by rw [List.length_append, hq, hz]
 have hkn : needV f (stp n a) (d * 65536) (mkF f (stp n a) (d * 65536) ((W + F : Nat) : Int)) ≤ ((W + F : Nat) : Int) ∧ mkF f (stp n a) (d * 65536) ((W + F : Nat) : Int) ≤ 65536 := mkF_need (by omega)
 refine Fun.mk (n := 36) Tryz.func78 rfl rfl (Nat.le_of_ble_eq_true rfl) ?_
 intro cx hcx
 refine zr [.no, .no, .no, .no, .no] [2, 3, 4, 5] [0, 1, 2, 3] True [(2, rV 0 0), (3, rV 1 0), (4, rV 2 0), (5, rV 3 0)] [(0, some (34, .ds [uD ch, iD n, iD d, iD a, iD p, iD f, dm l q])), (1, some (77, .ds [uD ch, dm m z])), (2, some (77, .ds [iD 0, nl9])), (3, some (34, .ds [iD 0, iD 0, iD 0, iD 0, iD 0, iD 0, nl9]))] 4 trivial ?_
 refine zr [.no, .no, .call [] (.tup [.agg [uC ch, iC n, iC d, iC a, iC p, iC f, .own 0 0 (q + z) 1 true], iE 0]) [(0, some (21, .ds (dI .i32 (l ++ m))))] 1 [] none, .no, .no, .no, .no, .no, .no] [4, 5, 7, 8] [2, 3, 4, 5] _ [(4, rV 2 0), (5, rV 3 0), (7, rV 5 0), (8, iV 0)] [(2, some (77, .ds [iD 0, nl9])), (3, some (34, .ds [iD 0, iD 0, iD 0, iD 0, iD 0, iD 0, nl9])), (4, some (21, .ds (dI .i32 (l ++ m)))), (5, some (34, .cs [uC ch, iC n, iC d, iC a, iC p, iC f, .own 4 0 (q + z) 1 true]))] 6 (Q_Feed ch W F n d a p f l q m z zo zl151 zl151 zo zl151 zo) ?_
 refine AW.seq ?_
 refine zr [.no, .b false] [4, 5, 7, 8, 18] [2, 3, 4, 5] (¬ ((0 : Int) ≠ 0)) [(4, rV 2 0), (5, rV 3 0), (7, rV 5 0), (8, iV 0), (18, bV false)] [(2, some (77, .ds [iD 0, nl9])), (3, some (34, .ds [iD 0, iD 0, iD 0, iD 0, iD 0, iD 0, nl9])), (4, some (21, .ds (dI .i32 (l ++ m)))), (5, some (34, .cs [uC ch, iC n, iC d, iC a, iC p, iC f, .own 4 0 (q + z) 1 true]))] 6 zo ?_
 refine zfs ?_
 have hx1 : (((mkF f (stp n a) (d * 65536) (((W + F) : Nat) : Int)) ≤ 65536) ∧ ((needV f (stp n a) (d * 65536) (mkF f (stp n a) (d * 65536) (((W + F) : Nat) : Int))) ≤ (((W + F) : Nat) : Int))) := (by have h9 := @mkF_need f (stp n a) (d * 65536) (((W + F) : Nat) : Int) zo; exact ⟨h9.2, h9.1⟩)
 refine zr [.no, .no, .no, .call [] (uV (W + F)) [] 0 [none] none, .call [] (.tup [iE (((mkF f (stp n a) (d * 65536) (((W + F) : Nat) : Int)) : Nat) : Int), iE 0]) [] 0 [] none, .no, .no, .no, .no, .no] [4, 5, 7, 9] [2, 3, 4, 5] (((dI .i32 (l ++ m)).length = (q + z) * 1) ∧ (noSlPV (uV (W + F)) = true) ∧ (_) ∧ (_)) [(4, rV 2 0), (5, rV 3 0), (7, rV 5 0), (9, iV (((mkF f (stp n a) (d * 65536) (((W + F) : Nat) : Int)) : Nat) : Int))] [(2, some (77, .ds [iD 0, nl9])), (3, some (34, .ds [iD 0, iD 0, iD 0, iD 0, iD 0, iD 0, nl9])), (4, some (21, .ds (dI .i32 (l ++ m)))), (5, some (34, .cs [uC ch, iC n, iC d, iC a, iC p, iC f, .own 4 0 (q + z) 1 true]))] 6 ⟨zl150, rfl, (Q_waiting ch (W + F) n d a p f (l ++ m) (q + z) zl151 zl151), (P_Make n d a p f (((W + F) : Nat) : Int) zl151 zo)⟩ ?_
 refine zr [.no, .no, .call [] (.tup [.agg [uC ch, .own 0 0 ((mkF f (stp n a) (d * 65536) (((W + F) : Nat) : Int)) * ch) 1 true], .agg [uC ch, iC n, iC d, iC a, iC (p + ((mvV f (stp n a) (mkF f (stp n a) (d * 65536) (((W + F) : Nat) : Int))) / (d * 65536))), iC ((mvV f (stp n a) (mkF f (stp n a) (d * 65536) (((W + F) : Nat) : Int))) % (d * 65536)), .own 1 0 ((q + z) - ((goneV (W + F) f (stp n a) (d * 65536) (mkF f (stp n a) (d * 65536) (((W + F) : Nat) : Int))) * ch)) 1 true], iE 0]) [(0, some (21, .ds (dI .i32 (prV ch (W + F) (l ++ m) f (stp n a) (d * 65536) (mkF f (stp n a) (d * 65536) (((W + F) : Nat) : Int)))))), (1, some (21, .ds (dI .i32 (List.drop ((goneV (W + F) f (stp n a) (d * 65536) (mkF f (stp n a) (d * 65536) (((W + F) : Nat) : Int))) * ch) (l ++ m)))))] 2 [none] none, .no, .no, .no, .no, .no, .no] [4, 5, 6] [2, 3, 6, 7] (((dI .i32 (l ++ m)).length = (q + z) * 1) ∧ (noSlPV (.tup [.agg [uC ch, .own 0 0 ((mkF f (stp n a) (d * 65536) (((W + F) : Nat) : Int)) * ch) 1 true], .agg [uC ch, iC n, iC d, iC a, iC (p + ((mvV f (stp n a) (mkF f (stp n a) (d * 65536) (((W + F) : Nat) : Int))) / (d * 65536))), iC ((mvV f (stp n a) (mkF f (stp n a) (d * 65536) (((W + F) : Nat) : Int))) % (d * 65536)), .own 1 0 ((q + z) - ((goneV (W + F) f (stp n a) (d * 65536) (mkF f (stp n a) (d * 65536) (((W + F) : Nat) : Int))) * ch)) 1 true], iE 0]) = true) ∧ ((dI .i32 (prV ch (W + F) (l ++ m) f (stp n a) (d * 65536) (mkF f (stp n a) (d * 65536) (((W + F) : Nat) : Int)))).all noSlD = true) ∧ ((dI .i32 (List.drop ((goneV (W + F) f (stp n a) (d * 65536) (mkF f (stp n a) (d * 65536) (((W + F) : Nat) : Int))) * ch) (l ++ m))).all noSlD = true) ∧ (_)) [(4, rV 2 0), (5, rV 3 0), (6, iV 0)] [(2, some (77, .cs [uC ch, .own 6 0 ((mkF f (stp n a) (d * 65536) (((W + F) : Nat) : Int)) * ch) 1 true])), (3, some (34, .cs [uC ch, iC n, iC d, iC a, iC (p + ((mvV f (stp n a) (mkF f (stp n a) (d * 65536) (((W + F) : Nat) : Int))) / (d * 65536))), iC ((mvV f (stp n a) (mkF f (stp n a) (d * 65536) (((W + F) : Nat) : Int))) % (d * 65536)), .own 7 0 ((q + z) - ((goneV (W + F) f (stp n a) (d * 65536) (mkF f (stp n a) (d * 65536) (((W + F) : Nat) : Int))) * ch)) 1 true])), (6, some (21, .ds (dI .i32 (prV ch (W + F) (l ++ m) f (stp n a) (d * 65536) (mkF f (stp n a) (d * 65536) (((W + F) : Nat) : Int)))))), (7, some (21, .ds (dI .i32 (List.drop ((goneV (W + F) f (stp n a) (d * 65536) (mkF f (stp n a) (d * 65536) (((W + F) : Nat) : Int))) * ch) (l ++ m)))))] 8 ⟨zl150, rfl, (by first | exact dI_ns _ _ | rfl), (by first | exact dI_ns _ _ | rfl), (Q_Take ch (W + F) n d a p f (l ++ m) (q + z) (mkF f (stp n a) (d * 65536) (((W + F) : Nat) : Int)) zl151 zl151 zl151 zl151 zl151 zl151)⟩ ?_
 refine AW.ret ?_
 exact EndP.of (.inr rfl) [(0, 6), (1, 7)] (P := ((((ch : Nat) : Int) : Int) = ((ch : Nat) : Int)) ∧ ((0 : Nat) = 0) ∧ ((((mkF f (stp n a) (d * 65536) (((W + F) : Nat) : Int)) * ch) : Nat) = ((mkF f (stp n a) (d * 65536) (((W + F) : Nat) : Int)) * ch)) ∧ ((((ch : Nat) : Int) : Int) = ((ch : Nat) : Int)) ∧ ((n : Int) = n) ∧ ((d : Int) = d) ∧ ((a : Int) = a) ∧ (((p + ((mvV f (stp n a) (mkF f (stp n a) (d * 65536) (((W + F) : Nat) : Int))) / (d * 65536))) : Int) = (p + ((mvV f (stp n a) (mkF f (stp n a) (d * 65536) (((W + F) : Nat) : Int))) / (d * 65536)))) ∧ ((((mvV f (stp n a) (mkF f (stp n a) (d * 65536) (((W + F) : Nat) : Int))) % (d * 65536)) : Int) = ((mvV f (stp n a) (mkF f (stp n a) (d * 65536) (((W + F) : Nat) : Int))) % (d * 65536))) ∧ ((0 : Nat) = 0) ∧ ((((q + z) - ((goneV (W + F) f (stp n a) (d * 65536) (mkF f (stp n a) (d * 65536) (((W + F) : Nat) : Int))) * ch)) : Nat) = ((q + z) - ((goneV (W + F) f (stp n a) (d * 65536) (mkF f (stp n a) (d * 65536) (((W + F) : Nat) : Int))) * ch))) ∧ ((0 : Int) = 0) ∧ (((dI .i32 (prV ch (W + F) (l ++ m) f (stp n a) (d * 65536) (mkF f (stp n a) (d * 65536) (((W + F) : Nat) : Int)))) : List D) = (dI .i32 (prV ch (W + F) (l ++ m) f (stp n a) (d * 65536) (mkF f (stp n a) (d * 65536) (((W + F) : Nat) : Int))))) ∧ (((dI .i32 (List.drop ((goneV (W + F) f (stp n a) (d * 65536) (mkF f (stp n a) (d * 65536) (((W + F) : Nat) : Int))) * ch) (l ++ m))) : List D) = (dI .i32 (List.drop ((goneV (W + F) f (stp n a) (d * 65536) (mkF f (stp n a) (d * 65536) (((W + F) : Nat) : Int))) * ch) (l ++ m))))) zk ⟨rfl, rfl, rfl, rfl, rfl, rfl, rfl, rfl, rfl, rfl, rfl, rfl, rfl, rfl⟩
end Go.Proofs.YtigiolfloefjnaaGreatDoor
