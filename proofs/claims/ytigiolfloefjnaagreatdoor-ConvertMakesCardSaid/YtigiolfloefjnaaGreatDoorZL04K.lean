/- Encodings of samples. No statement is proved here. -/
import Derived.Test.YtigiolfloefjnaaGreatDoorZLMade
namespace Go.Proofs.YtigiolfloefjnaaGreatDoor
open Go.ChangeShapes Go.WideShapes Go.ChangeAt Go.RowKit
set_option linter.unusedVariables false
set_option linter.unusedSimpArgs false
set_option maxHeartbeats 4000000
set_option maxRecDepth 100000
theorem wrap_u8 (x : Int) : IntKind.u8.wrap x = x % 256 := by simp [IntKind.wrap, IntKind.bits, IntKind.signed]
theorem wrap_i64_hi {x : Int} (h : 9223372036854775808 ≤ x ∧ x < 18446744073709551616) : IntKind.i64.wrap x = x - 18446744073709551616 := by
 have h2 := wrap_in (k := .i64) (x := x - 18446744073709551616) (by simp only [inK]; omega)
 rw [← h2]
 simp [IntKind.wrap, IntKind.bits, IntKind.signed]
theorem or_nat {a c i : Nat} (hc : c < 2 ^ i) (hs : a * 2 ^ i + c < 2 ^ 63) : ((BitVec.ofInt 64 ((a * 2 ^ i : Nat) : Int)) ||| (BitVec.ofInt 64 (c : Int))).toNat = a * 2 ^ i + c := by
 have h1 : a * 2 ^ i < 2 ^ 64 := by omega
 have h2 : c < 2 ^ 64 := by omega
 rw [BitVec.toNat_or, BitVec.toNat_ofInt, BitVec.toNat_ofInt]
 have e1 : (((a * 2 ^ i : Nat) : Int) % (2 ^ 64 : Nat)).toNat = a * 2 ^ i := by
  rw [← Int.natCast_emod, Int.toNat_natCast]; exact Nat.mod_eq_of_lt h1
 have e2 : ((c : Int) % (2 ^ 64 : Nat)).toNat = c := by
  rw [← Int.natCast_emod, Int.toNat_natCast]; exact Nat.mod_eq_of_lt h2
 rw [e1, e2, ← Nat.shiftLeft_eq, ← Nat.shiftLeft_add_eq_or_of_lt hc]
theorem or_hi {k : IntKind} (hk : k = .i64 ∨ k = .u64) {a c : Int} {i : Nat} (p : Int) (hp : p = 2 ^ i) (ha : 0 ≤ a) (hc : 0 ≤ c ∧ c < p) (hs : a * p + c < 9223372036854775808) : bitsI .or k (a * p) c = a * p + c := by
 obtain ⟨a, rfl⟩ := Int.eq_ofNat_of_zero_le ha
 obtain ⟨c, rfl⟩ := Int.eq_ofNat_of_zero_le hc.1
 have e0 : (a : Int) * p = ((a * 2 ^ i : Nat) : Int) := by rw [hp]; simp
 rw [e0] at hs ⊢
 have hc2 : c < 2 ^ i := by have := hc.2; rw [hp] at this; exact_mod_cast this
 have h9 := or_nat (a := a) hc2 (by omega)
 rcases hk with rfl | rfl
 ·show IntKind.i64.wrap (((BitVec.ofInt 64 _) ||| (BitVec.ofInt 64 _)).toNat : Int) = _
  rw [h9, wrap_in (by simp only [inK]; omega)]; simp
 ·show IntKind.u64.wrap (((BitVec.ofInt 64 _) ||| (BitVec.ofInt 64 _)).toNat : Int) = _
  rw [h9, wrap_in (by simp only [inK]; omega)]; simp
theorem bitsI_or_comm (k : IntKind) (x y : Int) : bitsI .or k x y = bitsI .or k y x := by
 show k.wrap ((BitVec.ofInt k.bits x) ||| (BitVec.ofInt k.bits y)).toNat = k.wrap ((BitVec.ofInt k.bits y) ||| (BitVec.ofInt k.bits x)).toNat
 rw [BitVec.or_comm]
theorem or_lo {k : IntKind} (hk : k = .i64 ∨ k = .u64) {a c : Int} {i : Nat} (p : Int) (hp : p = 2 ^ i) (ha : 0 ≤ a) (hc : 0 ≤ c ∧ c < p) (hs : a * p + c < 9223372036854775808) : bitsI .or k c (a * p) = c + a * p := by
 rw [bitsI_or_comm, or_hi hk p hp ha hc hs, Int.add_comm]
theorem or_z (k : IntKind) (hk : k = .i64 ∨ k = .u64) {c : Int} (hc : 0 ≤ c ∧ c < 9223372036854775808) : bitsI .or k 0 c = c ∧ bitsI .or k c 0 = c := by
 have h := or_hi (k := k) hk (a := 0) (c := c) (i := 63) 9223372036854775808 (by decide) (by omega) hc (by omega)
 rw [Int.zero_mul, Int.zero_add] at h
 exact ⟨h, (bitsI_or_comm k c 0).trans h⟩
def sgn (h x : Int) : Int := if x < h then x else x - 2 * h
def dec1 (l : List Int) : Int := (List.getD l 0 0 - 128) * 65536
def dec2 (l : List Int) : Int := sgn 32768 (List.getD l 0 0 + List.getD l 1 0 * 256) * 256
def dec3 (l : List Int) : Int := sgn 32768 (List.getD l 1 0 + List.getD l 0 0 * 256) * 256
def dec4 (l : List Int) : Int := sgn 8388608 (List.getD l 0 0 + List.getD l 1 0 * 256 + List.getD l 2 0 * 65536)
def dec5 (l : List Int) : Int := sgn 8388608 (List.getD l 2 0 + List.getD l 1 0 * 256 + List.getD l 0 0 * 65536)
def dec6 (l : List Int) : Int := satI ((sgn 2147483648 (List.getD l 0 0 + List.getD l 1 0 * 256 + List.getD l 2 0 * 65536 + List.getD l 3 0 * 16777216) + 128) / 256)
def dec7 (l : List Int) : Int := satI ((sgn 2147483648 (List.getD l 3 0 + List.getD l 2 0 * 256 + List.getD l 1 0 * 65536 + List.getD l 0 0 * 16777216) + 128) / 256)
def enc1 (x : Int) : List Int := [(min (128 + (x + 32768) / 65536) 255) / 1 % 256]
def enc2 (x : Int) : List Int := [(min ((x + 128) / 256) 32767) / 1 % 256, (min ((x + 128) / 256) 32767) / 256 % 256]
def enc3 (x : Int) : List Int := [(min ((x + 128) / 256) 32767) / 256 % 256, (min ((x + 128) / 256) 32767) / 1 % 256]
def enc4 (x : Int) : List Int := [x / 1 % 256, x / 256 % 256, x / 65536 % 256]
def enc5 (x : Int) : List Int := [x / 65536 % 256, x / 256 % 256, x / 1 % 256]
def enc6 (x : Int) : List Int := [(x * 256) / 1 % 256, (x * 256) / 256 % 256, (x * 256) / 65536 % 256, (x * 256) / 16777216 % 256]
def enc7 (x : Int) : List Int := [(x * 256) / 16777216 % 256, (x * 256) / 65536 % 256, (x * 256) / 256 % 256, (x * 256) / 1 % 256]
theorem kin2 (l : List Int) (hb : Byt l) (hn : List.length l = 2) : -32768 ≤ sgn 32768 (List.getD l 0 0 + List.getD l 1 0 * 256) ∧ sgn 32768 (List.getD l 0 0 + List.getD l 1 0 * 256) ≤ 32767 := by
 have h0 := hb.at 0 (by omega)
 have h1 := hb.at 1 (by omega)
 unfold sgn; split <;> omega
def decL (f : List Int → Int) (s : Nat) (l : List Int) : Nat → List Int
 | 0 => []
 | j + 1 => decL f s l j ++ [f (List.take s (List.drop (j * s) l))]
theorem decL_len (f : List Int → Int) (s : Nat) (l : List Int) : ∀ j, List.length (decL f s l j) = j
 | 0 => rfl
 | j + 1 => by show (decL f s l j ++ [_]).length = _; rw [List.length_append, decL_len f s l j]; rfl
def encL (f : Int → List Int) (l : List Int) : Nat → List Int
 | 0 => []
 | j + 1 => encL f l j ++ f (List.getD l j 0)
theorem encL_len {f : Int → List Int} {s : Nat} (hf : ∀ x, List.length (f x) = s) (l : List Int) : ∀ j, List.length (encL f l j) = j * s
 | 0 => by simp [encL]
 | j + 1 => by show (encL f l j ++ _).length = _; rw [List.length_append, encL_len hf l j, hf, Nat.succ_mul]
theorem set_mid {p m R : List Int} {o j : Nat} {x : Int} (h : o = p.length + j) (hj : j < m.length) : List.set (p ++ (m ++ R)) o x = p ++ ((m.set j x) ++ R) := by
 subst h
 rw [List.set_append_right _ _ (by omega), show p.length + j - p.length = j by omega, List.set_append_left _ _ hj]
theorem rep_split (s r : Nat) : List.replicate (r + s) (0 : Int) = List.replicate s 0 ++ List.replicate r 0 := by
 rw [Nat.add_comm, ← List.replicate_append_replicate]
theorem decL_set {f : List Int → Int} {s n j : Nat} {l : List Int} {v : Int} (hj : j < n) (hv : v = f (List.take s (List.drop (j * s) l))) : dI .i32 (decL f s l (j + 1) ++ List.replicate (n - (j + 1)) 0) = dI .i32 (List.set (decL f s l j ++ List.replicate (n - j) 0) j v) := by
 subst hv
 rw [show n - j = (n - (j + 1)) + 1 by omega, rep_split 1, set_mid (j := 0) (by rw [decL_len]; rfl) (by simp)]
 show dI .i32 ((decL f s l j ++ [_]) ++ _) = _
 rw [List.append_assoc]; rfl
def smpsB (l : List Int) : Bool := l.all smpB
theorem smpsB_at {l : List Int} (h : smpsB l = true) (i : Nat) (hi : i < List.length l) : smpB (List.getD l i 0) = true := all_at h i hi
theorem smps_of {l : List Int} (h : ∀ j, j < List.length l → -8388608 ≤ List.getD l j 0 ∧ List.getD l j 0 ≤ 8388607) : smpsB l = true := all_of (fun j hj => smp_of (h j hj))
theorem smps_at {l : List Int} (h : smpsB l = true) (i : Nat) (hi : i < List.length l) : -8388608 ≤ List.getD l i 0 ∧ List.getD l i 0 ≤ 8388607 := smp_yes (all_at h i hi)
theorem decL_at {f : List Int → Int} {s : Nat} {l : List Int} : ∀ m j, j < m → List.getD (decL f s l m) j 0 = f (List.take s (List.drop (j * s) l))
 | m + 1, j, hj => by
  show List.getD (decL f s l m ++ [_]) j 0 = _
  by_cases hk : j = m
  ·subst hk
   rw [getD_app_r (by rw [decL_len]; omega), decL_len, Nat.sub_self]; rfl
  ·rw [getD_app_l (by rw [decL_len]; omega)]; exact decL_at m j (by omega)
theorem decL_smp {f : List Int → Int} {s : Nat} {l : List Int} (hb : Byt l) (hf : ∀ c, Byt c → List.length c = s → -8388608 ≤ f c ∧ f c ≤ 8388607) (m : Nat) (hm : m * s ≤ List.length l) : smpsB (decL f s l m) = true := by
 refine smps_of fun j hj => ?_
 rw [decL_len] at hj
 rw [decL_at m j hj]
 have h1 : (j + 1) * s ≤ m * s := Nat.mul_le_mul_right _ (by omega)
 rw [Nat.succ_mul] at h1
 exact hf _ ((hb.drop _).take _) (by rw [List.length_take, List.length_drop]; omega)
theorem dec1_in (c : List Int) (hb : Byt c) (hn : List.length c = 1) : -8388608 ≤ dec1 c ∧ dec1 c ≤ 8388607 := by
 have h0 := hb.at 0 (by omega)
 unfold dec1
 omega
theorem dec2_in (c : List Int) (hb : Byt c) (hn : List.length c = 2) : -8388608 ≤ dec2 c ∧ dec2 c ≤ 8388607 := by
 have h0 := hb.at 0 (by omega)
 have h1 := hb.at 1 (by omega)
 unfold dec2 sgn
 split <;> omega
theorem dec3_in (c : List Int) (hb : Byt c) (hn : List.length c = 2) : -8388608 ≤ dec3 c ∧ dec3 c ≤ 8388607 := by
 have h0 := hb.at 0 (by omega)
 have h1 := hb.at 1 (by omega)
 unfold dec3 sgn
 split <;> omega
theorem dec4_in (c : List Int) (hb : Byt c) (hn : List.length c = 3) : -8388608 ≤ dec4 c ∧ dec4 c ≤ 8388607 := by
 have h0 := hb.at 0 (by omega)
 have h1 := hb.at 1 (by omega)
 have h2 := hb.at 2 (by omega)
 unfold dec4 sgn
 split <;> omega
theorem dec5_in (c : List Int) (hb : Byt c) (hn : List.length c = 3) : -8388608 ≤ dec5 c ∧ dec5 c ≤ 8388607 := by
 have h0 := hb.at 0 (by omega)
 have h1 := hb.at 1 (by omega)
 have h2 := hb.at 2 (by omega)
 unfold dec5 sgn
 split <;> omega
theorem dec6_in (c : List Int) (hb : Byt c) (hn : List.length c = 4) : -8388608 ≤ dec6 c ∧ dec6 c ≤ 8388607 := by
 have h0 := hb.at 0 (by omega)
 have h1 := hb.at 1 (by omega)
 have h2 := hb.at 2 (by omega)
 have h3 := hb.at 3 (by omega)
 unfold dec6
 exact satI_smp _
theorem dec7_in (c : List Int) (hb : Byt c) (hn : List.length c = 4) : -8388608 ≤ dec7 c ∧ dec7 c ≤ 8388607 := by
 have h0 := hb.at 0 (by omega)
 have h1 := hb.at 1 (by omega)
 have h2 := hb.at 2 (by omega)
 have h3 := hb.at 3 (by omega)
 unfold dec7
 exact satI_smp _
theorem enc2_len (x : Int) : List.length (enc2 x) = 2 := rfl
theorem encL_set2 {l : List Int} {n i : Nat} (hi : i < n) : dI .u8 (encL enc2 l (i + 1) ++ List.replicate ((n - (i + 1)) * 2) 0) = dI .u8 ((List.set (List.set (encL enc2 l i ++ List.replicate ((n - i) * 2) 0) ((i * 2) + 0) ((min (((List.getD l i 0) + 128) / 256) 32767) / 1 % 256)) ((i * 2) + 1) ((min (((List.getD l i 0) + 128) / 256) 32767) / 256 % 256))) := by
 have hl : List.length (encL enc2 l i) = i * 2 := encL_len enc2_len l i
 rw [show (n - i) * 2 = (n - (i + 1)) * 2 + 2 by omega, rep_split 2, set_mid (j := 0) (by rw [hl]) (by simp), set_mid (j := 1) (by rw [hl]) (by simp)]
 show dI .u8 ((encL enc2 l i ++ enc2 (List.getD l i 0)) ++ _) = _
 rw [List.append_assoc]; rfl
theorem K_place_l (s i : Int) (hs : 0 ≤ s ∧ s ≤ 8) (hi : 0 ≤ i ∧ i ≤ 8) : Fun 120 [.agg [iC s, .d (D.lit (.bool false))], iE i] (toG []) 0 (iV i) (toG []) 0 := by
 refine Fun.mk (n := 13) Tryz.func120 rfl rfl (Nat.le_of_ble_eq_true rfl) ?_
 intro cx hcx
 refine zr [.no, .no] [1, 2] [0] True [(1, iV i), (2, rV 0 0)] [(0, some (111, .ds [iD s, D.lit (.bool false)]))] 1 trivial ?_
 refine AW.seq ?_
 refine zr [.no, .no] [1, 2, 6] [0] True [(1, iV i), (2, rV 0 0), (6, .e (.c (.d (D.lit (.bool false)))))] [(0, some (111, .ds [iD s, D.lit (.bool false)]))] 1 trivial ?_
 refine zfs ?_
 refine zr [.no, .no] [4] [] True [(4, iV i)] [] 1 trivial ?_
 refine AW.ret ?_
 exact EndP.of (.inr rfl) [] (P := ((i : Int) = i)) zk rfl
theorem K_size1   : Fun 37 [iE 1] (toG []) 0 (iV 1) (toG []) 0 := by
 refine Fun.mk (n := 13) Tryz.func37 rfl rfl (Nat.le_of_ble_eq_true rfl) ?_
 intro cx hcx
 refine zr [.no] [0] [] True [(0, iV 1)] [] 0 trivial ?_
 refine AW.seq ?_
 refine zr [.no, .b false, .no, .no, .b false, .no] [0, 8] [] ((¬ ((1 : Int) < 0)) ∧ (¬ ((8 : Int) ≤ 1))) [(0, iV 1), (8, .e (.c (.d (D.lit (.bool false)))))] [] 0 ⟨zo, zo⟩ ?_
 refine zfs ?_
 refine zr [.no, .n 1, .no, .no, .no] [2] [] (((1 : Int) = 1) ∧ ((1 : Nat) < 8)) [(2, iV 1)] [] 0 ⟨rfl, zo⟩ ?_
 refine AW.ret ?_
 exact EndP.of (.inr rfl) [] (P := ((1 : Int) = 1)) zk rfl
theorem K_rsize1   : Fun 39 [iE 1] (toG []) 0 (iV 1) (toG []) 0 := by
 refine Fun.mk (n := 15) Tryz.func39 rfl rfl (Nat.le_of_ble_eq_true rfl) ?_
 intro cx hcx
 refine zr [.no] [0] [] True [(0, iV 1)] [] 0 trivial ?_
 refine AW.seq ?_
 refine zr [.no] [3] [] True [(3, iV 1)] [] 0 trivial ?_
 refine AW.block ?_
 refine zr [.b true, .no] [3, 4] [] (((1 : Int) = 1)) [(3, iV 1), (4, .e (.c (.d (D.lit (.bool true)))))] [] 0 zo ?_
 refine zt ?_
 refine zr [.no] [2] [] True [(2, iV 1)] [] 0 trivial ?_
 refine AW.ret ?_
 exact EndP.of (.inr rfl) [] (P := ((1 : Int) = 1)) zk rfl
theorem K_size2   : Fun 37 [iE 2] (toG []) 0 (iV 2) (toG []) 0 := by
 refine Fun.mk (n := 13) Tryz.func37 rfl rfl (Nat.le_of_ble_eq_true rfl) ?_
 intro cx hcx
 refine zr [.no] [0] [] True [(0, iV 2)] [] 0 trivial ?_
 refine AW.seq ?_
 refine zr [.no, .b false, .no, .no, .b false, .no] [0, 8] [] ((¬ ((2 : Int) < 0)) ∧ (¬ ((8 : Int) ≤ 2))) [(0, iV 2), (8, .e (.c (.d (D.lit (.bool false)))))] [] 0 ⟨zo, zo⟩ ?_
 refine zfs ?_
 refine zr [.no, .n 2, .no, .no, .no] [2] [] (((2 : Int) = 2) ∧ ((2 : Nat) < 8)) [(2, iV 2)] [] 0 ⟨rfl, zo⟩ ?_
 refine AW.ret ?_
 exact EndP.of (.inr rfl) [] (P := ((2 : Int) = 2)) zk rfl
theorem K_rsize2   : Fun 39 [iE 2] (toG []) 0 (iV 2) (toG []) 0 := by
 refine Fun.mk (n := 15) Tryz.func39 rfl rfl (Nat.le_of_ble_eq_true rfl) ?_
 intro cx hcx
 refine zr [.no] [0] [] True [(0, iV 2)] [] 0 trivial ?_
 refine AW.seq ?_
 refine zr [.no] [3] [] True [(3, iV 2)] [] 0 trivial ?_
 refine AW.block ?_
 refine zr [.b false, .no] [3, 4] [] (¬ ((2 : Int) = 1)) [(3, iV 2), (4, .e (.c (.d (D.lit (.bool false)))))] [] 0 zo ?_
 refine zf ?_
 refine AW.seq ?_
 refine zr [.b true, .no] [3, 6] [] (((2 : Int) = 2)) [(3, iV 2), (6, .e (.c (.d (D.lit (.bool true)))))] [] 0 zo ?_
 refine zts ?_
 refine zt ?_
 refine zr [.no] [2] [] True [(2, iV 2)] [] 0 trivial ?_
 refine AW.ret ?_
 exact EndP.of (.inr rfl) [] (P := ((2 : Int) = 2)) zk rfl
theorem K_size3   : Fun 37 [iE 3] (toG []) 0 (iV 2) (toG []) 0 := by
 refine Fun.mk (n := 13) Tryz.func37 rfl rfl (Nat.le_of_ble_eq_true rfl) ?_
 intro cx hcx
 refine zr [.no] [0] [] True [(0, iV 3)] [] 0 trivial ?_
 refine AW.seq ?_
 refine zr [.no, .b false, .no, .no, .b false, .no] [0, 8] [] ((¬ ((3 : Int) < 0)) ∧ (¬ ((8 : Int) ≤ 3))) [(0, iV 3), (8, .e (.c (.d (D.lit (.bool false)))))] [] 0 ⟨zo, zo⟩ ?_
 refine zfs ?_
 refine zr [.no, .n 3, .no, .no, .no] [2] [] (((3 : Int) = 3) ∧ ((3 : Nat) < 8)) [(2, iV 2)] [] 0 ⟨rfl, zo⟩ ?_
 refine AW.ret ?_
 exact EndP.of (.inr rfl) [] (P := ((2 : Int) = 2)) zk rfl
theorem K_rsize3   : Fun 39 [iE 3] (toG []) 0 (iV 2) (toG []) 0 := by
 refine Fun.mk (n := 15) Tryz.func39 rfl rfl (Nat.le_of_ble_eq_true rfl) ?_
 intro cx hcx
 refine zr [.no] [0] [] True [(0, iV 3)] [] 0 trivial ?_
 refine AW.seq ?_
 refine zr [.no] [3] [] True [(3, iV 3)] [] 0 trivial ?_
 refine AW.block ?_
 refine zr [.b false, .no] [3, 4] [] (¬ ((3 : Int) = 1)) [(3, iV 3), (4, .e (.c (.d (D.lit (.bool false)))))] [] 0 zo ?_
 refine zf ?_
 refine AW.seq ?_
 refine zr [.b false, .no] [3, 6] [] (¬ ((3 : Int) = 2)) [(3, iV 3), (6, .e (.c (.d (D.lit (.bool false)))))] [] 0 zo ?_
 refine zf ?_
 refine zg [.b true, .no] [3, 6] [] (((3 : Int) = 3)) [(3, iV 3), (6, .e (.c (.d (D.lit (.bool true)))))] [] 0 zo ?_
 refine zt ?_
 refine zr [.no] [2] [] True [(2, iV 2)] [] 0 trivial ?_
 refine AW.ret ?_
 exact EndP.of (.inr rfl) [] (P := ((2 : Int) = 2)) zk rfl
theorem K_size4   : Fun 37 [iE 4] (toG []) 0 (iV 3) (toG []) 0 := by
 refine Fun.mk (n := 13) Tryz.func37 rfl rfl (Nat.le_of_ble_eq_true rfl) ?_
 intro cx hcx
 refine zr [.no] [0] [] True [(0, iV 4)] [] 0 trivial ?_
 refine AW.seq ?_
 refine zr [.no, .b false, .no, .no, .b false, .no] [0, 8] [] ((¬ ((4 : Int) < 0)) ∧ (¬ ((8 : Int) ≤ 4))) [(0, iV 4), (8, .e (.c (.d (D.lit (.bool false)))))] [] 0 ⟨zo, zo⟩ ?_
 refine zfs ?_
 refine zr [.no, .n 4, .no, .no, .no] [2] [] (((4 : Int) = 4) ∧ ((4 : Nat) < 8)) [(2, iV 3)] [] 0 ⟨rfl, zo⟩ ?_
 refine AW.ret ?_
 exact EndP.of (.inr rfl) [] (P := ((3 : Int) = 3)) zk rfl
theorem K_rsize4   : Fun 39 [iE 4] (toG []) 0 (iV 3) (toG []) 0 := by
 refine Fun.mk (n := 15) Tryz.func39 rfl rfl (Nat.le_of_ble_eq_true rfl) ?_
 intro cx hcx
 refine zr [.no] [0] [] True [(0, iV 4)] [] 0 trivial ?_
 refine AW.seq ?_
 refine zr [.no] [3] [] True [(3, iV 4)] [] 0 trivial ?_
 refine AW.block ?_
 refine zr [.b false, .no] [3, 4] [] (¬ ((4 : Int) = 1)) [(3, iV 4), (4, .e (.c (.d (D.lit (.bool false)))))] [] 0 zo ?_
 refine zf ?_
 refine AW.seq ?_
 refine zr [.b false, .no] [3, 6] [] (¬ ((4 : Int) = 2)) [(3, iV 4), (6, .e (.c (.d (D.lit (.bool false)))))] [] 0 zo ?_
 refine zf ?_
 refine zg [.b false, .no] [3, 6] [] (¬ ((4 : Int) = 3)) [(3, iV 4), (6, .e (.c (.d (D.lit (.bool false)))))] [] 0 zo ?_
 refine zf ?_
 refine AW.seq ?_
 refine zr [.b true, .no] [3, 9] [] (((4 : Int) = 4)) [(3, iV 4), (9, .e (.c (.d (D.lit (.bool true)))))] [] 0 zo ?_
 refine zts ?_
 refine zt ?_
 refine zr [.no] [2] [] True [(2, iV 3)] [] 0 trivial ?_
 refine AW.ret ?_
 exact EndP.of (.inr rfl) [] (P := ((3 : Int) = 3)) zk rfl
theorem K_size5   : Fun 37 [iE 5] (toG []) 0 (iV 3) (toG []) 0 := by
 refine Fun.mk (n := 13) Tryz.func37 rfl rfl (Nat.le_of_ble_eq_true rfl) ?_
 intro cx hcx
 refine zr [.no] [0] [] True [(0, iV 5)] [] 0 trivial ?_
 refine AW.seq ?_
 refine zr [.no, .b false, .no, .no, .b false, .no] [0, 8] [] ((¬ ((5 : Int) < 0)) ∧ (¬ ((8 : Int) ≤ 5))) [(0, iV 5), (8, .e (.c (.d (D.lit (.bool false)))))] [] 0 ⟨zo, zo⟩ ?_
 refine zfs ?_
 refine zr [.no, .n 5, .no, .no, .no] [2] [] (((5 : Int) = 5) ∧ ((5 : Nat) < 8)) [(2, iV 3)] [] 0 ⟨rfl, zo⟩ ?_
 refine AW.ret ?_
 exact EndP.of (.inr rfl) [] (P := ((3 : Int) = 3)) zk rfl
theorem K_rsize5   : Fun 39 [iE 5] (toG []) 0 (iV 3) (toG []) 0 := by
 refine Fun.mk (n := 15) Tryz.func39 rfl rfl (Nat.le_of_ble_eq_true rfl) ?_
 intro cx hcx
 refine zr [.no] [0] [] True [(0, iV 5)] [] 0 trivial ?_
 refine AW.seq ?_
 refine zr [.no] [3] [] True [(3, iV 5)] [] 0 trivial ?_
 refine AW.block ?_
 refine zr [.b false, .no] [3, 4] [] (¬ ((5 : Int) = 1)) [(3, iV 5), (4, .e (.c (.d (D.lit (.bool false)))))] [] 0 zo ?_
 refine zf ?_
 refine AW.seq ?_
 refine zr [.b false, .no] [3, 6] [] (¬ ((5 : Int) = 2)) [(3, iV 5), (6, .e (.c (.d (D.lit (.bool false)))))] [] 0 zo ?_
 refine zf ?_
 refine zg [.b false, .no] [3, 6] [] (¬ ((5 : Int) = 3)) [(3, iV 5), (6, .e (.c (.d (D.lit (.bool false)))))] [] 0 zo ?_
 refine zf ?_
 refine AW.seq ?_
 refine zr [.b false, .no] [3, 9] [] (¬ ((5 : Int) = 4)) [(3, iV 5), (9, .e (.c (.d (D.lit (.bool false)))))] [] 0 zo ?_
 refine zf ?_
 refine zg [.b true, .no] [3, 9] [] (((5 : Int) = 5)) [(3, iV 5), (9, .e (.c (.d (D.lit (.bool true)))))] [] 0 zo ?_
 refine zt ?_
 refine zr [.no] [2] [] True [(2, iV 3)] [] 0 trivial ?_
 refine AW.ret ?_
 exact EndP.of (.inr rfl) [] (P := ((3 : Int) = 3)) zk rfl
theorem K_size6   : Fun 37 [iE 6] (toG []) 0 (iV 4) (toG []) 0 := by
 refine Fun.mk (n := 13) Tryz.func37 rfl rfl (Nat.le_of_ble_eq_true rfl) ?_
 intro cx hcx
 refine zr [.no] [0] [] True [(0, iV 6)] [] 0 trivial ?_
 refine AW.seq ?_
 refine zr [.no, .b false, .no, .no, .b false, .no] [0, 8] [] ((¬ ((6 : Int) < 0)) ∧ (¬ ((8 : Int) ≤ 6))) [(0, iV 6), (8, .e (.c (.d (D.lit (.bool false)))))] [] 0 ⟨zo, zo⟩ ?_
 refine zfs ?_
 refine zr [.no, .n 6, .no, .no, .no] [2] [] (((6 : Int) = 6) ∧ ((6 : Nat) < 8)) [(2, iV 4)] [] 0 ⟨rfl, zo⟩ ?_
 refine AW.ret ?_
 exact EndP.of (.inr rfl) [] (P := ((4 : Int) = 4)) zk rfl
theorem K_rsize6   : Fun 39 [iE 6] (toG []) 0 (iV 4) (toG []) 0 := by
 refine Fun.mk (n := 15) Tryz.func39 rfl rfl (Nat.le_of_ble_eq_true rfl) ?_
 intro cx hcx
 refine zr [.no] [0] [] True [(0, iV 6)] [] 0 trivial ?_
 refine AW.seq ?_
 refine zr [.no] [3] [] True [(3, iV 6)] [] 0 trivial ?_
 refine AW.block ?_
 refine zr [.b false, .no] [3, 4] [] (¬ ((6 : Int) = 1)) [(3, iV 6), (4, .e (.c (.d (D.lit (.bool false)))))] [] 0 zo ?_
 refine zf ?_
 refine AW.seq ?_
 refine zr [.b false, .no] [3, 6] [] (¬ ((6 : Int) = 2)) [(3, iV 6), (6, .e (.c (.d (D.lit (.bool false)))))] [] 0 zo ?_
 refine zf ?_
 refine zg [.b false, .no] [3, 6] [] (¬ ((6 : Int) = 3)) [(3, iV 6), (6, .e (.c (.d (D.lit (.bool false)))))] [] 0 zo ?_
 refine zf ?_
 refine AW.seq ?_
 refine zr [.b false, .no] [3, 9] [] (¬ ((6 : Int) = 4)) [(3, iV 6), (9, .e (.c (.d (D.lit (.bool false)))))] [] 0 zo ?_
 refine zf ?_
 refine zg [.b false, .no] [3, 9] [] (¬ ((6 : Int) = 5)) [(3, iV 6), (9, .e (.c (.d (D.lit (.bool false)))))] [] 0 zo ?_
 refine zf ?_
 refine AW.seq ?_
 refine zr [.b true, .no] [3, 12] [] (((6 : Int) = 6)) [(3, iV 6), (12, .e (.c (.d (D.lit (.bool true)))))] [] 0 zo ?_
 refine zts ?_
 refine zt ?_
 refine zr [.no] [2] [] True [(2, iV 4)] [] 0 trivial ?_
 refine AW.ret ?_
 exact EndP.of (.inr rfl) [] (P := ((4 : Int) = 4)) zk rfl
theorem K_size7   : Fun 37 [iE 7] (toG []) 0 (iV 4) (toG []) 0 := by
 refine Fun.mk (n := 13) Tryz.func37 rfl rfl (Nat.le_of_ble_eq_true rfl) ?_
 intro cx hcx
 refine zr [.no] [0] [] True [(0, iV 7)] [] 0 trivial ?_
 refine AW.seq ?_
 refine zr [.no, .b false, .no, .no, .b false, .no] [0, 8] [] ((¬ ((7 : Int) < 0)) ∧ (¬ ((8 : Int) ≤ 7))) [(0, iV 7), (8, .e (.c (.d (D.lit (.bool false)))))] [] 0 ⟨zo, zo⟩ ?_
 refine zfs ?_
 refine zr [.no, .n 7, .no, .no, .no] [2] [] (((7 : Int) = 7) ∧ ((7 : Nat) < 8)) [(2, iV 4)] [] 0 ⟨rfl, zo⟩ ?_
 refine AW.ret ?_
 exact EndP.of (.inr rfl) [] (P := ((4 : Int) = 4)) zk rfl
theorem K_rsize7   : Fun 39 [iE 7] (toG []) 0 (iV 4) (toG []) 0 := by
 refine Fun.mk (n := 15) Tryz.func39 rfl rfl (Nat.le_of_ble_eq_true rfl) ?_
 intro cx hcx
 refine zr [.no] [0] [] True [(0, iV 7)] [] 0 trivial ?_
 refine AW.seq ?_
 refine zr [.no] [3] [] True [(3, iV 7)] [] 0 trivial ?_
 refine AW.block ?_
 refine zr [.b false, .no] [3, 4] [] (¬ ((7 : Int) = 1)) [(3, iV 7), (4, .e (.c (.d (D.lit (.bool false)))))] [] 0 zo ?_
 refine zf ?_
 refine AW.seq ?_
 refine zr [.b false, .no] [3, 6] [] (¬ ((7 : Int) = 2)) [(3, iV 7), (6, .e (.c (.d (D.lit (.bool false)))))] [] 0 zo ?_
 refine zf ?_
 refine zg [.b false, .no] [3, 6] [] (¬ ((7 : Int) = 3)) [(3, iV 7), (6, .e (.c (.d (D.lit (.bool false)))))] [] 0 zo ?_
 refine zf ?_
 refine AW.seq ?_
 refine zr [.b false, .no] [3, 9] [] (¬ ((7 : Int) = 4)) [(3, iV 7), (9, .e (.c (.d (D.lit (.bool false)))))] [] 0 zo ?_
 refine zf ?_
 refine zg [.b false, .no] [3, 9] [] (¬ ((7 : Int) = 5)) [(3, iV 7), (9, .e (.c (.d (D.lit (.bool false)))))] [] 0 zo ?_
 refine zf ?_
 refine AW.seq ?_
 refine zr [.b false, .no] [3, 12] [] (¬ ((7 : Int) = 6)) [(3, iV 7), (12, .e (.c (.d (D.lit (.bool false)))))] [] 0 zo ?_
 refine zf ?_
 refine zg [.b true, .no] [12] [] (((7 : Int) = 7)) [(12, .e (.c (.d (D.lit (.bool true)))))] [] 0 zo ?_
 refine zt ?_
 refine zr [.no] [2] [] True [(2, iV 4)] [] 0 trivial ?_
 refine AW.ret ?_
 exact EndP.of (.inr rfl) [] (P := ((4 : Int) = 4)) zk rfl
theorem K_size_no (k : Int) (h : k < 1 ∨ 7 < k) : Fun 37 [iE k] (toG []) 0 (iV 0) (toG []) 0 := by
 refine Fun.mk (n := 13) Tryz.func37 rfl rfl (Nat.le_of_ble_eq_true rfl) ?_
 intro cx hcx
 refine zr [.no] [0] [] True [(0, iV k)] [] 0 trivial ?_
 refine AW.seq ?_
 by_cases hx1 : (k < 0)
 ·refine zr [.no, .b true, .no, .no] [0, 8] [] ((k < 0)) [(0, iV k), (8, .e (.c (.d (D.lit (.bool true)))))] [] 0 zo ?_
  refine zt ?_
  refine zr [.no] [2] [] True [(2, iV 0)] [] 0 trivial ?_
  refine AW.ret ?_
  exact EndP.of (.inr rfl) [] (P := ((0 : Int) = 0)) zk rfl
 ·by_cases hx2 : ((8 : Int) ≤ k)
  ·refine zr [.no, .b false, .no, .no, .b true, .no] [0, 8] [] ((¬ (k < 0)) ∧ (((8 : Int) ≤ k))) [(0, iV k), (8, .e (.c (.d (D.lit (.bool true)))))] [] 0 ⟨zo, zo⟩ ?_
   refine zt ?_
   refine zr [.no] [2] [] True [(2, iV 0)] [] 0 trivial ?_
   refine AW.ret ?_
   exact EndP.of (.inr rfl) [] (P := ((0 : Int) = 0)) zk rfl
  ·refine zr [.no, .b false, .no, .no, .b false, .no] [0, 8] [] ((¬ (k < 0)) ∧ (¬ ((8 : Int) ≤ k))) [(0, iV k), (8, .e (.c (.d (D.lit (.bool false)))))] [] 0 ⟨zo, zo⟩ ?_
   refine zfs ?_
   refine zr [.no, .n 0, .no, .no, .no] [2] [] (((k : Int) = 0) ∧ ((0 : Nat) < 8)) [(2, iV 0)] [] 0 ⟨(by first | rfl | omega), zo⟩ ?_
   refine AW.ret ?_
   exact EndP.of (.inr rfl) [] (P := ((0 : Int) = 0)) zk rfl
theorem K_rsize_no (k : Int) (h : k < 1 ∨ 7 < k) : Fun 39 [iE k] (toG []) 0 (iV 0) (toG []) 0 := by
 refine Fun.mk (n := 15) Tryz.func39 rfl rfl (Nat.le_of_ble_eq_true rfl) ?_
 intro cx hcx
 refine zr [.no] [0] [] True [(0, iV k)] [] 0 trivial ?_
 refine AW.seq ?_
 refine zr [.no] [3] [] True [(3, iV k)] [] 0 trivial ?_
 refine AW.block ?_
 refine zr [.b false, .no] [3, 4] [] (¬ (k = 1)) [(3, iV k), (4, .e (.c (.d (D.lit (.bool false)))))] [] 0 zo ?_
 refine zf ?_
 refine AW.seq ?_
 refine zr [.b false, .no] [3, 6] [] (¬ (k = 2)) [(3, iV k), (6, .e (.c (.d (D.lit (.bool false)))))] [] 0 zo ?_
 refine zf ?_
 refine zg [.b false, .no] [3, 6] [] (¬ (k = 3)) [(3, iV k), (6, .e (.c (.d (D.lit (.bool false)))))] [] 0 zo ?_
 refine zf ?_
 refine AW.seq ?_
 refine zr [.b false, .no] [3, 9] [] (¬ (k = 4)) [(3, iV k), (9, .e (.c (.d (D.lit (.bool false)))))] [] 0 zo ?_
 refine zf ?_
 refine zg [.b false, .no] [3, 9] [] (¬ (k = 5)) [(3, iV k), (9, .e (.c (.d (D.lit (.bool false)))))] [] 0 zo ?_
 refine zf ?_
 refine AW.seq ?_
 refine zr [.b false, .no] [3, 12] [] (¬ (k = 6)) [(3, iV k), (12, .e (.c (.d (D.lit (.bool false)))))] [] 0 zo ?_
 refine zf ?_
 refine zg [.b false, .no] [12] [] (¬ (k = 7)) [(12, .e (.c (.d (D.lit (.bool false)))))] [] 0 zo ?_
 refine zfs ?_
 refine zr [.no] [2] [] True [(2, iV 0)] [] 0 trivial ?_
 refine AW.ret ?_
 exact EndP.of (.inr rfl) [] (P := ((0 : Int) = 0)) zk rfl
end Go.Proofs.YtigiolfloefjnaaGreatDoor
