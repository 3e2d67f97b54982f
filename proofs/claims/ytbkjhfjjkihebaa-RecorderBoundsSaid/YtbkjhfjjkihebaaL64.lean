/- Bits. No statement is proved here. -/
import Derived.Test.YtbkjhfjjkihebaaAmV
namespace Go.Proofs.Ytbkjhfjjkihebaa
open Go.ChangeShapes Go.WideShapes Go.ChangeAt Go.RowKit
set_option linter.unusedVariables false
set_option linter.unusedSimpArgs false

theorem wrap_u64 (x : Int) : IntKind.u64.wrap x = x % 18446744073709551616 := by simp [IntKind.wrap, IntKind.bits, IntKind.signed]
theorem ofInt_nat {x : Nat} (h : x < 2 ^ 64) : (BitVec.ofInt 64 (x : Int)).toNat = x := by
  rw [BitVec.toNat_ofInt, ← Int.natCast_emod, Int.toNat_natCast]; exact Nat.mod_eq_of_lt h
theorem and_mask {x : Int} (h : 0 ≤ x ∧ x < 18446744073709551616) : bitsI .and .u64 x 4294967295 = x % 4294967296 := by
  obtain ⟨n, rfl⟩ := Int.eq_ofNat_of_zero_le h.1
  show IntKind.u64.wrap (((BitVec.ofInt 64 (n : Int)) &&& (BitVec.ofInt 64 ((4294967295 : Nat) : Int))).toNat : Int) = _
  rw [BitVec.toNat_and, ofInt_nat (by omega), ofInt_nat (by decide), show (4294967295 : Nat) = 2 ^ 32 - 1 from rfl, Nat.and_two_pow_sub_one_eq_mod, wrap_u64]
  omega
theorem or_sh {a c : Int} {s : Nat} (ha : 0 ≤ a) (hc : 0 ≤ c ∧ c < ((2 ^ s : Nat) : Int)) (hs : a * ((2 ^ s : Nat) : Int) + c < 18446744073709551616) : bitsI .or .u64 (a * ((2 ^ s : Nat) : Int)) c = a * ((2 ^ s : Nat) : Int) + c := by
  obtain ⟨a, rfl⟩ := Int.eq_ofNat_of_zero_le ha
  obtain ⟨c, rfl⟩ := Int.eq_ofNat_of_zero_le hc.1
  have e0 : (a : Int) * ((2 ^ s : Nat) : Int) = ((a * 2 ^ s : Nat) : Int) := (Int.natCast_mul _ _).symm
  rw [e0] at hs ⊢
  have hc2 : c < 2 ^ s := by omega
  have h1 : a * 2 ^ s + c < 2 ^ 64 := by omega
  show IntKind.u64.wrap (((BitVec.ofInt 64 ((a * 2 ^ s : Nat) : Int)) ||| (BitVec.ofInt 64 (c : Int))).toNat : Int) = _
  rw [BitVec.toNat_or, ofInt_nat (by omega), ofInt_nat (by omega), ← Nat.shiftLeft_eq, ← Nat.shiftLeft_add_eq_or_of_lt hc2, wrap_u64]
  omega
/-! the digits of a quotient -/
theorem dg_first {U W a b V Q : Int} (ha : 2147483648 ≤ a ∧ a < 4294967296) (hb : 0 ≤ b ∧ b < 4294967296) (hV : V = a * 4294967296 + b) (hU : 0 ≤ U ∧ U < V) (hW : 0 ≤ W ∧ W < 4294967296) (hQ : Q = U / a) : (0 ≤ Q ∧ Q ≤ 4294967297) ∧ (0 ≤ U - Q * a ∧ U - Q * a < a) ∧ U * 4294967296 + W < (Q + 1) * V ∧ 0 ≤ Q * a ∧ Q * a ≤ U := by
  have h1 := Int.mul_ediv_add_emod U a
  have h2 := Int.emod_nonneg U (show a ≠ 0 by omega)
  have h3 := Int.emod_lt_of_pos U (show 0 < a by omega)
  rw [← hQ, Int.mul_comm] at h1
  have hQ0 : 0 ≤ Q := by rw [hQ]; exact Int.ediv_nonneg hU.1 (by omega)
  have h5 : (Q + 1) * V = Q * a * 4294967296 + a * 4294967296 + (Q + 1) * b := by
    rw [hV, Int.mul_add, Int.add_mul Q 1 (a * 4294967296), Int.one_mul, Int.mul_assoc]
  have h6 : 0 ≤ (Q + 1) * b := Int.mul_nonneg (by omega) hb.1
  have h7 : 0 ≤ Q * a := Int.mul_nonneg hQ0 (by omega)
  have hQ1 : Q ≤ 4294967297 := by
    apply Int.le_of_not_gt
    intro h8
    have h9 : 4294967298 * a ≤ Q * a := Int.mul_le_mul_of_nonneg_right (by omega) (by omega)
    omega
  omega
theorem dg_mul {U W a b V Q R : Int} (hV : V = a * 4294967296 + b) (h : Q * a + R = U) : Q * V = (U - R) * 4294967296 + Q * b := by
  rw [hV, Int.mul_add, ← Int.mul_assoc, show Q * a = U - R by omega]
theorem dg_step {U W a b V Q R : Int} (hV : V = a * 4294967296 + b) (hU : 0 ≤ U ∧ U < V) (hW : 0 ≤ W ∧ W < 4294967296) (h : Q * a + R = U) (hc : 4294967296 ≤ Q ∨ 4294967296 * R + W < Q * b) : U * 4294967296 + W < Q * V ∧ (Q - 1) * a + (R + a) = U := by
  refine ⟨?_, by rw [Int.sub_mul, Int.one_mul]; omega⟩
  rcases hc with hc | hc
  · have h1 : 4294967296 * V ≤ Q * V := Int.mul_le_mul_of_nonneg_right hc (by omega)
    omega
  · rw [dg_mul (W := W) hV h]; omega
theorem dg_end {U W a b V Q R : Int} (hb : 0 ≤ b ∧ b < 4294967296) (hV : V = a * 4294967296 + b) (hU : 0 ≤ U ∧ U < V) (hW : 0 ≤ W ∧ W < 4294967296) (h : Q * a + R = U) (h0 : 0 ≤ Q) (hlt : U * 4294967296 + W < (Q + 1) * V) (he : Q * b ≤ 4294967296 * R + W) : (0 ≤ U * 4294967296 + W - Q * V ∧ U * 4294967296 + W - Q * V < V) ∧ Q < 4294967296 := by
  have h1 := dg_mul (W := W) hV h
  rw [Int.add_mul, Int.one_mul] at hlt
  refine ⟨by omega, ?_⟩
  apply Int.lt_of_not_ge
  intro h2
  have h3 : 4294967296 * V ≤ Q * V := Int.mul_le_mul_of_nonneg_right h2 (by omega)
  omega
theorem dg_qb {Q b : Int} (h : 0 ≤ Q ∧ Q ≤ 4294967297) (hb : 0 ≤ b ∧ b < 4294967296) : 0 ≤ Q * b ∧ Q * b ≤ 18446744073709551615 := by
  have h1 : 0 ≤ Q * b := Int.mul_nonneg h.1 hb.1
  have h2 : Q * b ≤ 4294967297 * b := Int.mul_le_mul_of_nonneg_right h.2 hb.1
  omega
theorem dg_brk {q b r W : Int} (hq : 0 ≤ q ∧ q ≤ 4294967296) (hb : 0 ≤ b ∧ b < 4294967296) (hr : 4294967296 ≤ r) (hW : 0 ≤ W) : q * b ≤ 4294967296 * r + W := by
  have h2 : q * b ≤ 4294967296 * b := Int.mul_le_mul_of_nonneg_right hq.2 hb.1
  omega
theorem dg_one {q b r W : Int} (hq : 0 ≤ q) (hr : 0 ≤ r) (hW : 0 ≤ W) (hc : 4294967296 ≤ q ∨ 4294967296 * r + W < q * b) : 1 ≤ q := by
  rcases hc with hc | hc
  · omega
  · apply Classical.byContradiction
    intro h
    have h0 : q = 0 := by omega
    rw [h0, Int.zero_mul] at hc
    omega
theorem d64_pre {H L Y : Int} {s : Nat} (hH : 0 ≤ H ∧ H < Y) (hL : 0 ≤ L ∧ L < 18446744073709551616) (hs : s ≤ 63) (hT : 9223372036854775808 ≤ Y * ((2 ^ s : Nat) : Int) ∧ Y * ((2 ^ s : Nat) : Int) < 18446744073709551616) :
    (0 ≤ H * ((2 ^ s : Nat) : Int) ∧ H * ((2 ^ s : Nat) : Int) < 18446744073709551616) ∧ (0 ≤ L / ((2 ^ (64 - s) : Nat) : Int) ∧ L / ((2 ^ (64 - s) : Nat) : Int) < ((2 ^ s : Nat) : Int)) ∧ H * ((2 ^ s : Nat) : Int) + L / ((2 ^ (64 - s) : Nat) : Int) < Y * ((2 ^ s : Nat) : Int) ∧ 0 < ((2 ^ (64 - s) : Nat) : Int) ∧ ((2 ^ s : Nat) : Int) * ((2 ^ (64 - s) : Nat) : Int) = 18446744073709551616 ∧ 1 ≤ ((2 ^ s : Nat) : Int) := by
  have p1 : 0 < 2 ^ s := Nat.two_pow_pos s
  have p2 : 0 < 2 ^ (64 - s) := Nat.two_pow_pos _
  have p3 : 2 ^ s * 2 ^ (64 - s) = 2 ^ 64 := by rw [← Nat.pow_add]; congr 1; omega
  have p4 : ((2 ^ s : Nat) : Int) * ((2 ^ (64 - s) : Nat) : Int) = 18446744073709551616 := by rw [← Int.natCast_mul, p3]; rfl
  generalize ((2 ^ s : Nat) : Int) = T at *
  generalize ((2 ^ (64 - s) : Nat) : Int) = K at *
  have hTp0 : 0 < T := by
    apply Int.lt_of_not_ge
    intro h
    have : Y * T ≤ 0 := Int.mul_nonpos_of_nonneg_of_nonpos (by omega) h
    omega
  have hTp : 1 ≤ T := by omega
  have hK : 0 < K := by
    apply Int.lt_of_not_ge
    intro h
    have : T * K ≤ 0 := Int.mul_nonpos_of_nonneg_of_nonpos (by omega) h
    omega
  have h1 : (H + 1) * T ≤ Y * T := Int.mul_le_mul_of_nonneg_right (by omega) (by omega)
  rw [Int.add_mul, Int.one_mul] at h1
  have h2 : 0 ≤ H * T := Int.mul_nonneg hH.1 (by omega)
  have h3 : 0 ≤ L / K := Int.ediv_nonneg hL.1 (by omega)
  have h4 : L / K < T := by rw [Int.ediv_lt_iff_lt_mul hK, p4]; exact hL.2
  omega
theorem d64_fin {H L Y V U M W1 W0 X X2 Q1 Q0 T K : Int} (hTK : T * K = 18446744073709551616) (hK : 0 < K) (hT : 1 ≤ T) (hV : Y * T = V) (hU : H * T + L / K = U) (hM : L * T % 18446744073709551616 = M) (hM2 : M = W1 * 4294967296 + W0) (hX : X = U * 4294967296 + W1 - Q1 * V) (hX2 : X2 = X * 4294967296 + W0 - Q0 * V) (h0 : 0 ≤ X2 ∧ X2 < V) (hY : 0 < Y) : Q1 * 4294967296 + Q0 = (H * 18446744073709551616 + L) / Y ∧ X2 / T = (H * 18446744073709551616 + L) % Y := by
  have e1 := Int.mul_ediv_add_emod L K
  have e2 : L * T = L / K * 18446744073709551616 + (L % K) * T := by
    have : L * T = (K * (L / K) + L % K) * T := by rw [e1]
    rw [this, Int.add_mul, Int.mul_comm K, Int.mul_assoc, Int.mul_comm K T, hTK]
  have e3 : 0 ≤ (L % K) * T := Int.mul_nonneg (Int.emod_nonneg _ (by omega)) (by omega)
  have e4 : (L % K) * T < 18446744073709551616 := by
    have := Int.mul_lt_mul_of_pos_right (Int.emod_lt_of_pos L hK) (show 0 < T by omega)
    rw [Int.mul_comm K T, hTK] at this; exact this
  have e5 : M = (L % K) * T := by rw [← hM, e2]; omega
  have e6 : (H * 18446744073709551616 + L) * T = (Q1 * 4294967296 + Q0) * V + X2 := by
    have a1 : (H * 18446744073709551616 + L) * T = H * T * 18446744073709551616 + L * T := by rw [Int.add_mul, Int.mul_right_comm]
    have a2 : (Q1 * 4294967296 + Q0) * V = Q1 * V * 4294967296 + Q0 * V := by rw [Int.add_mul, Int.mul_right_comm]
    rw [a1, a2, e2]
    omega
  have e7 : (H * 18446744073709551616 + L - (Q1 * 4294967296 + Q0) * Y) * T = X2 := by
    rw [Int.sub_mul, e6, Int.mul_assoc, hV]; omega
  have e8 : X2 / T = H * 18446744073709551616 + L - (Q1 * 4294967296 + Q0) * Y := by rw [← e7]; exact Int.mul_ediv_cancel _ (by omega)
  have e9 : 0 ≤ H * 18446744073709551616 + L - (Q1 * 4294967296 + Q0) * Y := by rw [← e8]; exact Int.ediv_nonneg h0.1 (by omega)
  have e10 : H * 18446744073709551616 + L - (Q1 * 4294967296 + Q0) * Y < Y := by
    rw [← e8, Int.ediv_lt_iff_lt_mul (by omega), hV]; exact h0.2
  have e11 := (Int.ediv_emod_unique hY).2 (⟨by rw [Int.mul_comm Y]; omega, e9, e10⟩ : (H * 18446744073709551616 + L - (Q1 * 4294967296 + Q0) * Y) + Y * (Q1 * 4294967296 + Q0) = H * 18446744073709551616 + L ∧ 0 ≤ H * 18446744073709551616 + L - (Q1 * 4294967296 + Q0) * Y ∧ H * 18446744073709551616 + L - (Q1 * 4294967296 + Q0) * Y < Y)
  exact ⟨e11.1.symm, e8.trans e11.2.symm⟩

def tabL : List Int := [0, 1, 2, 2, 3, 3, 3, 3, 4, 4, 4, 4, 4, 4, 4, 4, 5, 5, 5, 5, 5, 5, 5, 5, 5, 5, 5, 5, 5, 5, 5, 5, 6, 6, 6, 6, 6, 6, 6, 6, 6, 6, 6, 6, 6, 6, 6, 6, 6, 6, 6, 6, 6, 6, 6, 6, 6, 6, 6, 6, 6, 6, 6, 6, 7, 7, 7, 7, 7, 7, 7, 7, 7, 7, 7, 7, 7, 7, 7, 7, 7, 7, 7, 7, 7, 7, 7, 7, 7, 7, 7, 7, 7, 7, 7, 7, 7, 7, 7, 7, 7, 7, 7, 7, 7, 7, 7, 7, 7, 7, 7, 7, 7, 7, 7, 7, 7, 7, 7, 7, 7, 7, 7, 7, 7, 7, 7, 7, 8, 8, 8, 8, 8, 8, 8, 8, 8, 8, 8, 8, 8, 8, 8, 8, 8, 8, 8, 8, 8, 8, 8, 8, 8, 8, 8, 8, 8, 8, 8, 8, 8, 8, 8, 8, 8, 8, 8, 8, 8, 8, 8, 8, 8, 8, 8, 8, 8, 8, 8, 8, 8, 8, 8, 8, 8, 8, 8, 8, 8, 8, 8, 8, 8, 8, 8, 8, 8, 8, 8, 8, 8, 8, 8, 8, 8, 8, 8, 8, 8, 8, 8, 8, 8, 8, 8, 8, 8, 8, 8, 8, 8, 8, 8, 8, 8, 8, 8, 8, 8, 8, 8, 8, 8, 8, 8, 8, 8, 8, 8, 8, 8, 8, 8, 8, 8, 8, 8, 8, 8, 8, 8, 8, 8, 8, 8, 8]
theorem tab_all : (List.range 256).all (fun i => decide (((i : Nat) : Int) < 2 ^ (List.getD tabL i 0).toNat ∧ (i = 0 ∨ 2 ^ ((List.getD tabL i 0).toNat - 1) ≤ ((i : Nat) : Int)) ∧ 0 ≤ List.getD tabL i 0 ∧ List.getD tabL i 0 ≤ 8)) = true := by decide +kernel
theorem tab_at {y : Int} (h : 0 ≤ y ∧ y < 256) : ∃ t : Nat, List.getD tabL y.toNat 0 = ((t : Nat) : Int) ∧ t ≤ 8 ∧ y < ((2 ^ t : Nat) : Int) ∧ (y = 0 ∨ ((2 ^ (t - 1) : Nat) : Int) ≤ y) := by
  have h1 := of_decide_eq_true (List.all_eq_true.1 tab_all y.toNat (List.mem_range.2 (by omega)))
  refine ⟨(List.getD tabL y.toNat 0).toNat, by omega, by omega, ?_, ?_⟩
  · have := h1.1; rw [Int.toNat_of_nonneg h.1] at this; rw [Int.natCast_pow]; exact this
  · rcases h1.2.1 with h2 | h2
    · left; omega
    · right; rw [Int.toNat_of_nonneg h.1] at h2; rw [Int.natCast_pow]; exact h2
theorem len_fin {x y : Int} {k t : Nat} (hy : y = x / ((2 ^ k : Nat) : Int)) (h1 : y < ((2 ^ t : Nat) : Int)) (h2 : ((2 ^ (t - 1) : Nat) : Int) ≤ y) (h3 : 1 ≤ y) : x < ((2 ^ (k + t) : Nat) : Int) ∧ ((2 ^ (k + t - 1) : Nat) : Int) ≤ x ∧ 1 ≤ t := by
  have p : 0 < ((2 ^ k : Nat) : Int) := by have := Nat.two_pow_pos k; omega
  have ht : 1 ≤ t := by
    apply Nat.pos_of_ne_zero
    intro e
    rw [e] at h1
    have : ((2 ^ 0 : Nat) : Int) = 1 := rfl
    omega
  rw [hy, Int.ediv_lt_iff_lt_mul p] at h1
  rw [hy, Int.le_ediv_iff_mul_le p] at h2
  refine ⟨?_, ?_, ht⟩
  · rw [Nat.add_comm, Nat.pow_add, Int.natCast_mul]; exact h1
  · rw [show k + t - 1 = (t - 1) + k by omega, Nat.pow_add, Int.natCast_mul]; exact h2
theorem lz_fin {Y : Int} {z : Nat} (h1 : Y < ((2 ^ z : Nat) : Int)) (h2 : ((2 ^ (z - 1) : Nat) : Int) ≤ Y) (h3 : 1 ≤ z) (h4 : z ≤ 64) : 9223372036854775808 ≤ Y * ((2 ^ (64 - z) : Nat) : Int) ∧ Y * ((2 ^ (64 - z) : Nat) : Int) < 18446744073709551616 := by
  have p : 0 < ((2 ^ (64 - z) : Nat) : Int) := by have := Nat.two_pow_pos (64 - z); omega
  have e1 : ((2 ^ z : Nat) : Int) * ((2 ^ (64 - z) : Nat) : Int) = 18446744073709551616 := by rw [← Int.natCast_mul, ← Nat.pow_add, show z + (64 - z) = 64 by omega]; rfl
  have e2 : ((2 ^ (z - 1) : Nat) : Int) * ((2 ^ (64 - z) : Nat) : Int) = 9223372036854775808 := by rw [← Int.natCast_mul, ← Nat.pow_add, show z - 1 + (64 - z) = 63 by omega]; rfl
  have a1 := Int.mul_lt_mul_of_pos_right h1 p
  have a2 := Int.mul_le_mul_of_nonneg_right h2 (Int.le_of_lt p)
  omega
theorem mul_parts {x y x0 x1 y0 y1 : Int} (hx : x = x1 * 4294967296 + x0) (hy : y = y1 * 4294967296 + y0) : x * y = x1 * y1 * 18446744073709551616 + (x1 * y0 + x0 * y1) * 4294967296 + x0 * y0 := by
  subst hx hy
  rw [Int.add_mul, Int.mul_add, Int.mul_add, ← Int.mul_assoc, Int.mul_right_comm x1 4294967296 y1, Int.mul_assoc (x1 * y1), Int.mul_right_comm x1 4294967296 y0, ← Int.mul_assoc x0 y1, Int.add_mul (x1 * y0)]
  omega
theorem mul_lt32 {a b : Int} (ha : 0 ≤ a ∧ a < 4294967296) (hb : 0 ≤ b ∧ b < 4294967296) : 0 ≤ a * b ∧ a * b ≤ 18446744065119617025 := by
  have h1 : 0 ≤ a * b := Int.mul_nonneg ha.1 hb.1
  have h2 : a * b ≤ 4294967295 * b := Int.mul_le_mul_of_nonneg_right (by omega) hb.1
  omega

theorem tab_all2 : (List.range 256).all (fun i => decide (strAt (ByteArray.mk #[0, 1, 2, 2, 3, 3, 3, 3, 4, 4, 4, 4, 4, 4, 4, 4, 5, 5, 5, 5, 5, 5, 5, 5, 5, 5, 5, 5, 5, 5, 5, 5, 6, 6, 6, 6, 6, 6, 6, 6, 6, 6, 6, 6, 6, 6, 6, 6, 6, 6, 6, 6, 6, 6, 6, 6, 6, 6, 6, 6, 6, 6, 6, 6, 7, 7, 7, 7, 7, 7, 7, 7, 7, 7, 7, 7, 7, 7, 7, 7, 7, 7, 7, 7, 7, 7, 7, 7, 7, 7, 7, 7, 7, 7, 7, 7, 7, 7, 7, 7, 7, 7, 7, 7, 7, 7, 7, 7, 7, 7, 7, 7, 7, 7, 7, 7, 7, 7, 7, 7, 7, 7, 7, 7, 7, 7, 7, 7, 8, 8, 8, 8, 8, 8, 8, 8, 8, 8, 8, 8, 8, 8, 8, 8, 8, 8, 8, 8, 8, 8, 8, 8, 8, 8, 8, 8, 8, 8, 8, 8, 8, 8, 8, 8, 8, 8, 8, 8, 8, 8, 8, 8, 8, 8, 8, 8, 8, 8, 8, 8, 8, 8, 8, 8, 8, 8, 8, 8, 8, 8, 8, 8, 8, 8, 8, 8, 8, 8, 8, 8, 8, 8, 8, 8, 8, 8, 8, 8, 8, 8, 8, 8, 8, 8, 8, 8, 8, 8, 8, 8, 8, 8, 8, 8, 8, 8, 8, 8, 8, 8, 8, 8, 8, 8, 8, 8, 8, 8, 8, 8, 8, 8, 8, 8, 8, 8, 8, 8, 8, 8, 8, 8, 8, 8, 8, 8]) ((i : Nat) : Int) = some (List.getD tabL i 0))) = true := by decide +kernel
theorem tab_str {y : Int} (h : 0 ≤ y ∧ y < 256) : strAt (ByteArray.mk #[0, 1, 2, 2, 3, 3, 3, 3, 4, 4, 4, 4, 4, 4, 4, 4, 5, 5, 5, 5, 5, 5, 5, 5, 5, 5, 5, 5, 5, 5, 5, 5, 6, 6, 6, 6, 6, 6, 6, 6, 6, 6, 6, 6, 6, 6, 6, 6, 6, 6, 6, 6, 6, 6, 6, 6, 6, 6, 6, 6, 6, 6, 6, 6, 7, 7, 7, 7, 7, 7, 7, 7, 7, 7, 7, 7, 7, 7, 7, 7, 7, 7, 7, 7, 7, 7, 7, 7, 7, 7, 7, 7, 7, 7, 7, 7, 7, 7, 7, 7, 7, 7, 7, 7, 7, 7, 7, 7, 7, 7, 7, 7, 7, 7, 7, 7, 7, 7, 7, 7, 7, 7, 7, 7, 7, 7, 7, 7, 8, 8, 8, 8, 8, 8, 8, 8, 8, 8, 8, 8, 8, 8, 8, 8, 8, 8, 8, 8, 8, 8, 8, 8, 8, 8, 8, 8, 8, 8, 8, 8, 8, 8, 8, 8, 8, 8, 8, 8, 8, 8, 8, 8, 8, 8, 8, 8, 8, 8, 8, 8, 8, 8, 8, 8, 8, 8, 8, 8, 8, 8, 8, 8, 8, 8, 8, 8, 8, 8, 8, 8, 8, 8, 8, 8, 8, 8, 8, 8, 8, 8, 8, 8, 8, 8, 8, 8, 8, 8, 8, 8, 8, 8, 8, 8, 8, 8, 8, 8, 8, 8, 8, 8, 8, 8, 8, 8, 8, 8, 8, 8, 8, 8, 8, 8, 8, 8, 8, 8, 8, 8, 8, 8, 8, 8, 8, 8]) y = some (List.getD tabL y.toNat 0) := by
  have h1 := of_decide_eq_true (List.all_eq_true.1 tab_all2 y.toNat (List.mem_range.2 (by omega)))
  rw [Int.toNat_of_nonneg h.1] at h1; exact h1

set_option maxHeartbeats 4000000 in
set_option maxRecDepth 100000 in
theorem X_Len64 (x : Int) (hx : 1 ≤ x ∧ x < 18446744073709551616) : ∃ (z : Nat), (x < ((2 ^ z : Nat) : Int) ∧ ((2 ^ (z - 1) : Nat) : Int) ≤ x) ∧ (1 ≤ z ∧ z ≤ 64) ∧ (Fun 20 [.c (.d (D.lit (.int .u64 x)))] (toG []) 0 (iV ((z : Nat) : Int)) (toG []) 0) := by
  by_cases hx1 : ((4294967296 : Int) ≤ x)
  · by_cases hx2 : ((65536 : Int) ≤ (x / 4294967296))
    · by_cases hx3 : ((256 : Int) ≤ ((x / 4294967296) / 65536))
      · obtain ⟨tb1, hx4a, hx4b, hx4c, hx4d⟩ := tab_at (y := (((x / 4294967296) / 65536) / 256)) (by omega)
        have hfin : x < ((2 ^ (56 + tb1) : Nat) : Int) ∧ ((2 ^ (56 + tb1 - 1) : Nat) : Int) ≤ x ∧ 1 ≤ tb1 := len_fin (y := (((x / 4294967296) / 65536) / 256)) (by omega) hx4c (hx4d.resolve_left (by omega)) (by omega)
        refine ⟨(56 + tb1), (by first | exact ⟨hfin.1, hfin.2.1⟩ | (have h9 := hfin; simp only [Nat.zero_add] at h9; exact ⟨h9.1, h9.2.1⟩)), (by have h9 := hfin.2.2; omega), ?_⟩
        refine Fun.mk (n := 25) Try.func20 rfl rfl (Nat.le_of_ble_eq_true rfl) ?_
        intro cx hcx
        refine AW.rgs [.no] [0, 2] [] (P := True) (l' := [(0, .e (.c (.d (D.lit (.int .u64 x))))), (2, iV 0)]) (g' := []) (nx' := 0) (by kernel_rfl) trivial ?_
        refine AW.seq ?_
        refine AW.rgs [.no, .b true] [0, 2, 4] [] (P := (((4294967296 : Int) ≤ x))) (l' := [(0, .e (.c (.d (D.lit (.int .u64 x))))), (2, iV 0), (4, bV true)]) (g' := []) (nx' := 0) (by kernel_rfl) (by omega) ?_
        refine AW.cond_t (.tmp (Look.of rfl)) ?_
        refine AW.rgs [.no, .n 32, .no] [0] [] (P := ((32 : Int) = 32) ∧ ((32 : Nat) ≤ 64)) (l' := [(0, .e (.c (.d (D.lit (.int .u64 (x / 4294967296))))))]) (g' := []) (nx' := 0) (by kernel_rfl) ⟨rfl, (by omega)⟩ ?_
        refine AW.rg [.no] [0, 2] [] (P := True) (l' := [(0, .e (.c (.d (D.lit (.int .u64 (x / 4294967296)))))), (2, iV 32)]) (g' := []) (nx' := 0) (by kernel_rfl) trivial ?_
        refine AW.seq ?_
        refine AW.rgs [.no, .b true] [0, 2, 8] [] (P := (((65536 : Int) ≤ (x / 4294967296)))) (l' := [(0, .e (.c (.d (D.lit (.int .u64 (x / 4294967296)))))), (2, iV 32), (8, bV true)]) (g' := []) (nx' := 0) (by kernel_rfl) (by omega) ?_
        refine AW.cond_t (.tmp (Look.of rfl)) ?_
        refine AW.rgs [.no, .n 16, .no] [0, 2] [] (P := ((16 : Int) = 16) ∧ ((16 : Nat) ≤ 64)) (l' := [(0, .e (.c (.d (D.lit (.int .u64 ((x / 4294967296) / 65536)))))), (2, iV 32)]) (g' := []) (nx' := 0) (by kernel_rfl) ⟨rfl, (by omega)⟩ ?_
        refine AW.rg [.no, .w, .no] [0, 2] [] (P := ((-9223372036854775808) ≤ (48 : Int) ∧ (48 : Int) ≤ 9223372036854775807)) (l' := [(0, .e (.c (.d (D.lit (.int .u64 ((x / 4294967296) / 65536)))))), (2, iV 48)]) (g' := []) (nx' := 0) (by kernel_rfl) ⟨by omega, by omega⟩ ?_
        refine AW.seq ?_
        refine AW.rgs [.no, .b true] [0, 2, 14] [] (P := (((256 : Int) ≤ ((x / 4294967296) / 65536)))) (l' := [(0, .e (.c (.d (D.lit (.int .u64 ((x / 4294967296) / 65536)))))), (2, iV 48), (14, bV true)]) (g' := []) (nx' := 0) (by kernel_rfl) (by omega) ?_
        refine AW.cond_t (.tmp (Look.of rfl)) ?_
        refine AW.rgs [.no, .n 8, .no] [0, 2] [] (P := ((8 : Int) = 8) ∧ ((8 : Nat) ≤ 64)) (l' := [(0, .e (.c (.d (D.lit (.int .u64 (((x / 4294967296) / 65536) / 256)))))), (2, iV 48)]) (g' := []) (nx' := 0) (by kernel_rfl) ⟨rfl, (by omega)⟩ ?_
        refine AW.rg [.no, .w, .no] [0, 2] [] (P := ((-9223372036854775808) ≤ (56 : Int) ∧ (56 : Int) ≤ 9223372036854775807)) (l' := [(0, .e (.c (.d (D.lit (.int .u64 (((x / 4294967296) / 65536) / 256)))))), (2, iV 56)]) (g' := []) (nx' := 0) (by kernel_rfl) ⟨by omega, by omega⟩ ?_
        refine AW.rgs [.no, .no, .w, .i ((tb1 : Nat) : Int), .w, .w, .no] [2] [] (P := (0 ≤ (((x / 4294967296) / 65536) / 256) ∧ (((x / 4294967296) / 65536) / 256) ≤ 255) ∧ (strAt (ByteArray.mk #[0, 1, 2, 2, 3, 3, 3, 3, 4, 4, 4, 4, 4, 4, 4, 4, 5, 5, 5, 5, 5, 5, 5, 5, 5, 5, 5, 5, 5, 5, 5, 5, 6, 6, 6, 6, 6, 6, 6, 6, 6, 6, 6, 6, 6, 6, 6, 6, 6, 6, 6, 6, 6, 6, 6, 6, 6, 6, 6, 6, 6, 6, 6, 6, 7, 7, 7, 7, 7, 7, 7, 7, 7, 7, 7, 7, 7, 7, 7, 7, 7, 7, 7, 7, 7, 7, 7, 7, 7, 7, 7, 7, 7, 7, 7, 7, 7, 7, 7, 7, 7, 7, 7, 7, 7, 7, 7, 7, 7, 7, 7, 7, 7, 7, 7, 7, 7, 7, 7, 7, 7, 7, 7, 7, 7, 7, 7, 7, 8, 8, 8, 8, 8, 8, 8, 8, 8, 8, 8, 8, 8, 8, 8, 8, 8, 8, 8, 8, 8, 8, 8, 8, 8, 8, 8, 8, 8, 8, 8, 8, 8, 8, 8, 8, 8, 8, 8, 8, 8, 8, 8, 8, 8, 8, 8, 8, 8, 8, 8, 8, 8, 8, 8, 8, 8, 8, 8, 8, 8, 8, 8, 8, 8, 8, 8, 8, 8, 8, 8, 8, 8, 8, 8, 8, 8, 8, 8, 8, 8, 8, 8, 8, 8, 8, 8, 8, 8, 8, 8, 8, 8, 8, 8, 8, 8, 8, 8, 8, 8, 8, 8, 8, 8, 8, 8, 8, 8, 8, 8, 8, 8, 8, 8, 8, 8, 8, 8, 8, 8, 8, 8, 8, 8, 8, 8, 8]) ((((x / 4294967296) / 65536) / 256) : Int) = some (((tb1 : Nat) : Int) : Int)) ∧ ((-9223372036854775808) ≤ ((tb1 : Nat) : Int) ∧ ((tb1 : Nat) : Int) ≤ 9223372036854775807) ∧ ((-9223372036854775808) ≤ (56 + ((tb1 : Nat) : Int)) ∧ (56 + ((tb1 : Nat) : Int)) ≤ 9223372036854775807)) (l' := [(2, iV (56 + ↑tb1))]) (g' := []) (nx' := 0) (by kernel_rfl) ⟨⟨by omega, by omega⟩, (by have h9 : strAt (ByteArray.mk #[0, 1, 2, 2, 3, 3, 3, 3, 4, 4, 4, 4, 4, 4, 4, 4, 5, 5, 5, 5, 5, 5, 5, 5, 5, 5, 5, 5, 5, 5, 5, 5, 6, 6, 6, 6, 6, 6, 6, 6, 6, 6, 6, 6, 6, 6, 6, 6, 6, 6, 6, 6, 6, 6, 6, 6, 6, 6, 6, 6, 6, 6, 6, 6, 7, 7, 7, 7, 7, 7, 7, 7, 7, 7, 7, 7, 7, 7, 7, 7, 7, 7, 7, 7, 7, 7, 7, 7, 7, 7, 7, 7, 7, 7, 7, 7, 7, 7, 7, 7, 7, 7, 7, 7, 7, 7, 7, 7, 7, 7, 7, 7, 7, 7, 7, 7, 7, 7, 7, 7, 7, 7, 7, 7, 7, 7, 7, 7, 8, 8, 8, 8, 8, 8, 8, 8, 8, 8, 8, 8, 8, 8, 8, 8, 8, 8, 8, 8, 8, 8, 8, 8, 8, 8, 8, 8, 8, 8, 8, 8, 8, 8, 8, 8, 8, 8, 8, 8, 8, 8, 8, 8, 8, 8, 8, 8, 8, 8, 8, 8, 8, 8, 8, 8, 8, 8, 8, 8, 8, 8, 8, 8, 8, 8, 8, 8, 8, 8, 8, 8, 8, 8, 8, 8, 8, 8, 8, 8, 8, 8, 8, 8, 8, 8, 8, 8, 8, 8, 8, 8, 8, 8, 8, 8, 8, 8, 8, 8, 8, 8, 8, 8, 8, 8, 8, 8, 8, 8, 8, 8, 8, 8, 8, 8, 8, 8, 8, 8, 8, 8, 8, 8, 8, 8, 8, 8]) ((((x / 4294967296) / 65536) / 256) : Int) = some (List.getD tabL (Int.toNat (((x / 4294967296) / 65536) / 256)) 0) := tab_str (by omega); rw [hx4a] at h9; exact h9), ⟨by omega, by omega⟩, ⟨by omega, by omega⟩⟩ ?_
        refine AW.ret ?_
        exact EndP.of (.inr rfl) [] (P := (((((56 + tb1) : Nat) : Int) : Int) = (56 + ((tb1 : Nat) : Int)))) (by kernel_rfl) (by first | omega | rfl | assumption | (simp; done) | (simp; omega))
      · obtain ⟨tb1, hx4a, hx4b, hx4c, hx4d⟩ := tab_at (y := ((x / 4294967296) / 65536)) (by omega)
        have hfin : x < ((2 ^ (48 + tb1) : Nat) : Int) ∧ ((2 ^ (48 + tb1 - 1) : Nat) : Int) ≤ x ∧ 1 ≤ tb1 := len_fin (y := ((x / 4294967296) / 65536)) (by omega) hx4c (hx4d.resolve_left (by omega)) (by omega)
        refine ⟨(48 + tb1), (by first | exact ⟨hfin.1, hfin.2.1⟩ | (have h9 := hfin; simp only [Nat.zero_add] at h9; exact ⟨h9.1, h9.2.1⟩)), (by have h9 := hfin.2.2; omega), ?_⟩
        refine Fun.mk (n := 25) Try.func20 rfl rfl (Nat.le_of_ble_eq_true rfl) ?_
        intro cx hcx
        refine AW.rgs [.no] [0, 2] [] (P := True) (l' := [(0, .e (.c (.d (D.lit (.int .u64 x))))), (2, iV 0)]) (g' := []) (nx' := 0) (by kernel_rfl) trivial ?_
        refine AW.seq ?_
        refine AW.rgs [.no, .b true] [0, 2, 4] [] (P := (((4294967296 : Int) ≤ x))) (l' := [(0, .e (.c (.d (D.lit (.int .u64 x))))), (2, iV 0), (4, bV true)]) (g' := []) (nx' := 0) (by kernel_rfl) (by omega) ?_
        refine AW.cond_t (.tmp (Look.of rfl)) ?_
        refine AW.rgs [.no, .n 32, .no] [0] [] (P := ((32 : Int) = 32) ∧ ((32 : Nat) ≤ 64)) (l' := [(0, .e (.c (.d (D.lit (.int .u64 (x / 4294967296))))))]) (g' := []) (nx' := 0) (by kernel_rfl) ⟨rfl, (by omega)⟩ ?_
        refine AW.rg [.no] [0, 2] [] (P := True) (l' := [(0, .e (.c (.d (D.lit (.int .u64 (x / 4294967296)))))), (2, iV 32)]) (g' := []) (nx' := 0) (by kernel_rfl) trivial ?_
        refine AW.seq ?_
        refine AW.rgs [.no, .b true] [0, 2, 8] [] (P := (((65536 : Int) ≤ (x / 4294967296)))) (l' := [(0, .e (.c (.d (D.lit (.int .u64 (x / 4294967296)))))), (2, iV 32), (8, bV true)]) (g' := []) (nx' := 0) (by kernel_rfl) (by omega) ?_
        refine AW.cond_t (.tmp (Look.of rfl)) ?_
        refine AW.rgs [.no, .n 16, .no] [0, 2] [] (P := ((16 : Int) = 16) ∧ ((16 : Nat) ≤ 64)) (l' := [(0, .e (.c (.d (D.lit (.int .u64 ((x / 4294967296) / 65536)))))), (2, iV 32)]) (g' := []) (nx' := 0) (by kernel_rfl) ⟨rfl, (by omega)⟩ ?_
        refine AW.rg [.no, .w, .no] [0, 2] [] (P := ((-9223372036854775808) ≤ (48 : Int) ∧ (48 : Int) ≤ 9223372036854775807)) (l' := [(0, .e (.c (.d (D.lit (.int .u64 ((x / 4294967296) / 65536)))))), (2, iV 48)]) (g' := []) (nx' := 0) (by kernel_rfl) ⟨by omega, by omega⟩ ?_
        refine AW.seq ?_
        refine AW.rgs [.no, .b false] [0, 2, 14] [] (P := (¬ ((256 : Int) ≤ ((x / 4294967296) / 65536)))) (l' := [(0, .e (.c (.d (D.lit (.int .u64 ((x / 4294967296) / 65536)))))), (2, iV 48), (14, bV false)]) (g' := []) (nx' := 0) (by kernel_rfl) (by omega) ?_
        refine AW.cond_f (.tmp (Look.of rfl)) ?_
        refine AW.skip ?_
        refine AW.rgs [.no, .no, .w, .i ((tb1 : Nat) : Int), .w, .w, .no] [2] [] (P := (0 ≤ ((x / 4294967296) / 65536) ∧ ((x / 4294967296) / 65536) ≤ 255) ∧ (strAt (ByteArray.mk #[0, 1, 2, 2, 3, 3, 3, 3, 4, 4, 4, 4, 4, 4, 4, 4, 5, 5, 5, 5, 5, 5, 5, 5, 5, 5, 5, 5, 5, 5, 5, 5, 6, 6, 6, 6, 6, 6, 6, 6, 6, 6, 6, 6, 6, 6, 6, 6, 6, 6, 6, 6, 6, 6, 6, 6, 6, 6, 6, 6, 6, 6, 6, 6, 7, 7, 7, 7, 7, 7, 7, 7, 7, 7, 7, 7, 7, 7, 7, 7, 7, 7, 7, 7, 7, 7, 7, 7, 7, 7, 7, 7, 7, 7, 7, 7, 7, 7, 7, 7, 7, 7, 7, 7, 7, 7, 7, 7, 7, 7, 7, 7, 7, 7, 7, 7, 7, 7, 7, 7, 7, 7, 7, 7, 7, 7, 7, 7, 8, 8, 8, 8, 8, 8, 8, 8, 8, 8, 8, 8, 8, 8, 8, 8, 8, 8, 8, 8, 8, 8, 8, 8, 8, 8, 8, 8, 8, 8, 8, 8, 8, 8, 8, 8, 8, 8, 8, 8, 8, 8, 8, 8, 8, 8, 8, 8, 8, 8, 8, 8, 8, 8, 8, 8, 8, 8, 8, 8, 8, 8, 8, 8, 8, 8, 8, 8, 8, 8, 8, 8, 8, 8, 8, 8, 8, 8, 8, 8, 8, 8, 8, 8, 8, 8, 8, 8, 8, 8, 8, 8, 8, 8, 8, 8, 8, 8, 8, 8, 8, 8, 8, 8, 8, 8, 8, 8, 8, 8, 8, 8, 8, 8, 8, 8, 8, 8, 8, 8, 8, 8, 8, 8, 8, 8, 8, 8]) (((x / 4294967296) / 65536) : Int) = some (((tb1 : Nat) : Int) : Int)) ∧ ((-9223372036854775808) ≤ ((tb1 : Nat) : Int) ∧ ((tb1 : Nat) : Int) ≤ 9223372036854775807) ∧ ((-9223372036854775808) ≤ (48 + ((tb1 : Nat) : Int)) ∧ (48 + ((tb1 : Nat) : Int)) ≤ 9223372036854775807)) (l' := [(2, iV (48 + ↑tb1))]) (g' := []) (nx' := 0) (by kernel_rfl) ⟨⟨by omega, by omega⟩, (by have h9 : strAt (ByteArray.mk #[0, 1, 2, 2, 3, 3, 3, 3, 4, 4, 4, 4, 4, 4, 4, 4, 5, 5, 5, 5, 5, 5, 5, 5, 5, 5, 5, 5, 5, 5, 5, 5, 6, 6, 6, 6, 6, 6, 6, 6, 6, 6, 6, 6, 6, 6, 6, 6, 6, 6, 6, 6, 6, 6, 6, 6, 6, 6, 6, 6, 6, 6, 6, 6, 7, 7, 7, 7, 7, 7, 7, 7, 7, 7, 7, 7, 7, 7, 7, 7, 7, 7, 7, 7, 7, 7, 7, 7, 7, 7, 7, 7, 7, 7, 7, 7, 7, 7, 7, 7, 7, 7, 7, 7, 7, 7, 7, 7, 7, 7, 7, 7, 7, 7, 7, 7, 7, 7, 7, 7, 7, 7, 7, 7, 7, 7, 7, 7, 8, 8, 8, 8, 8, 8, 8, 8, 8, 8, 8, 8, 8, 8, 8, 8, 8, 8, 8, 8, 8, 8, 8, 8, 8, 8, 8, 8, 8, 8, 8, 8, 8, 8, 8, 8, 8, 8, 8, 8, 8, 8, 8, 8, 8, 8, 8, 8, 8, 8, 8, 8, 8, 8, 8, 8, 8, 8, 8, 8, 8, 8, 8, 8, 8, 8, 8, 8, 8, 8, 8, 8, 8, 8, 8, 8, 8, 8, 8, 8, 8, 8, 8, 8, 8, 8, 8, 8, 8, 8, 8, 8, 8, 8, 8, 8, 8, 8, 8, 8, 8, 8, 8, 8, 8, 8, 8, 8, 8, 8, 8, 8, 8, 8, 8, 8, 8, 8, 8, 8, 8, 8, 8, 8, 8, 8, 8, 8]) (((x / 4294967296) / 65536) : Int) = some (List.getD tabL (Int.toNat ((x / 4294967296) / 65536)) 0) := tab_str (by omega); rw [hx4a] at h9; exact h9), ⟨by omega, by omega⟩, ⟨by omega, by omega⟩⟩ ?_
        refine AW.ret ?_
        exact EndP.of (.inr rfl) [] (P := (((((48 + tb1) : Nat) : Int) : Int) = (48 + ((tb1 : Nat) : Int)))) (by kernel_rfl) (by first | omega | rfl | assumption | (simp; done) | (simp; omega))
    · by_cases hx3 : ((256 : Int) ≤ (x / 4294967296))
      · obtain ⟨tb1, hx4a, hx4b, hx4c, hx4d⟩ := tab_at (y := ((x / 4294967296) / 256)) (by omega)
        have hfin : x < ((2 ^ (40 + tb1) : Nat) : Int) ∧ ((2 ^ (40 + tb1 - 1) : Nat) : Int) ≤ x ∧ 1 ≤ tb1 := len_fin (y := ((x / 4294967296) / 256)) (by omega) hx4c (hx4d.resolve_left (by omega)) (by omega)
        refine ⟨(40 + tb1), (by first | exact ⟨hfin.1, hfin.2.1⟩ | (have h9 := hfin; simp only [Nat.zero_add] at h9; exact ⟨h9.1, h9.2.1⟩)), (by have h9 := hfin.2.2; omega), ?_⟩
        refine Fun.mk (n := 25) Try.func20 rfl rfl (Nat.le_of_ble_eq_true rfl) ?_
        intro cx hcx
        refine AW.rgs [.no] [0, 2] [] (P := True) (l' := [(0, .e (.c (.d (D.lit (.int .u64 x))))), (2, iV 0)]) (g' := []) (nx' := 0) (by kernel_rfl) trivial ?_
        refine AW.seq ?_
        refine AW.rgs [.no, .b true] [0, 2, 4] [] (P := (((4294967296 : Int) ≤ x))) (l' := [(0, .e (.c (.d (D.lit (.int .u64 x))))), (2, iV 0), (4, bV true)]) (g' := []) (nx' := 0) (by kernel_rfl) (by omega) ?_
        refine AW.cond_t (.tmp (Look.of rfl)) ?_
        refine AW.rgs [.no, .n 32, .no] [0] [] (P := ((32 : Int) = 32) ∧ ((32 : Nat) ≤ 64)) (l' := [(0, .e (.c (.d (D.lit (.int .u64 (x / 4294967296))))))]) (g' := []) (nx' := 0) (by kernel_rfl) ⟨rfl, (by omega)⟩ ?_
        refine AW.rg [.no] [0, 2] [] (P := True) (l' := [(0, .e (.c (.d (D.lit (.int .u64 (x / 4294967296)))))), (2, iV 32)]) (g' := []) (nx' := 0) (by kernel_rfl) trivial ?_
        refine AW.seq ?_
        refine AW.rgs [.no, .b false] [0, 2, 8] [] (P := (¬ ((65536 : Int) ≤ (x / 4294967296)))) (l' := [(0, .e (.c (.d (D.lit (.int .u64 (x / 4294967296)))))), (2, iV 32), (8, bV false)]) (g' := []) (nx' := 0) (by kernel_rfl) (by omega) ?_
        refine AW.cond_f (.tmp (Look.of rfl)) ?_
        refine AW.skip ?_
        refine AW.seq ?_
        refine AW.rgs [.no, .b true] [0, 2, 14] [] (P := (((256 : Int) ≤ (x / 4294967296)))) (l' := [(0, .e (.c (.d (D.lit (.int .u64 (x / 4294967296)))))), (2, iV 32), (14, bV true)]) (g' := []) (nx' := 0) (by kernel_rfl) (by omega) ?_
        refine AW.cond_t (.tmp (Look.of rfl)) ?_
        refine AW.rgs [.no, .n 8, .no] [0, 2] [] (P := ((8 : Int) = 8) ∧ ((8 : Nat) ≤ 64)) (l' := [(0, .e (.c (.d (D.lit (.int .u64 ((x / 4294967296) / 256)))))), (2, iV 32)]) (g' := []) (nx' := 0) (by kernel_rfl) ⟨rfl, (by omega)⟩ ?_
        refine AW.rg [.no, .w, .no] [0, 2] [] (P := ((-9223372036854775808) ≤ (40 : Int) ∧ (40 : Int) ≤ 9223372036854775807)) (l' := [(0, .e (.c (.d (D.lit (.int .u64 ((x / 4294967296) / 256)))))), (2, iV 40)]) (g' := []) (nx' := 0) (by kernel_rfl) ⟨by omega, by omega⟩ ?_
        refine AW.rgs [.no, .no, .w, .i ((tb1 : Nat) : Int), .w, .w, .no] [2] [] (P := (0 ≤ ((x / 4294967296) / 256) ∧ ((x / 4294967296) / 256) ≤ 255) ∧ (strAt (ByteArray.mk #[0, 1, 2, 2, 3, 3, 3, 3, 4, 4, 4, 4, 4, 4, 4, 4, 5, 5, 5, 5, 5, 5, 5, 5, 5, 5, 5, 5, 5, 5, 5, 5, 6, 6, 6, 6, 6, 6, 6, 6, 6, 6, 6, 6, 6, 6, 6, 6, 6, 6, 6, 6, 6, 6, 6, 6, 6, 6, 6, 6, 6, 6, 6, 6, 7, 7, 7, 7, 7, 7, 7, 7, 7, 7, 7, 7, 7, 7, 7, 7, 7, 7, 7, 7, 7, 7, 7, 7, 7, 7, 7, 7, 7, 7, 7, 7, 7, 7, 7, 7, 7, 7, 7, 7, 7, 7, 7, 7, 7, 7, 7, 7, 7, 7, 7, 7, 7, 7, 7, 7, 7, 7, 7, 7, 7, 7, 7, 7, 8, 8, 8, 8, 8, 8, 8, 8, 8, 8, 8, 8, 8, 8, 8, 8, 8, 8, 8, 8, 8, 8, 8, 8, 8, 8, 8, 8, 8, 8, 8, 8, 8, 8, 8, 8, 8, 8, 8, 8, 8, 8, 8, 8, 8, 8, 8, 8, 8, 8, 8, 8, 8, 8, 8, 8, 8, 8, 8, 8, 8, 8, 8, 8, 8, 8, 8, 8, 8, 8, 8, 8, 8, 8, 8, 8, 8, 8, 8, 8, 8, 8, 8, 8, 8, 8, 8, 8, 8, 8, 8, 8, 8, 8, 8, 8, 8, 8, 8, 8, 8, 8, 8, 8, 8, 8, 8, 8, 8, 8, 8, 8, 8, 8, 8, 8, 8, 8, 8, 8, 8, 8, 8, 8, 8, 8, 8, 8]) (((x / 4294967296) / 256) : Int) = some (((tb1 : Nat) : Int) : Int)) ∧ ((-9223372036854775808) ≤ ((tb1 : Nat) : Int) ∧ ((tb1 : Nat) : Int) ≤ 9223372036854775807) ∧ ((-9223372036854775808) ≤ (40 + ((tb1 : Nat) : Int)) ∧ (40 + ((tb1 : Nat) : Int)) ≤ 9223372036854775807)) (l' := [(2, iV (40 + ↑tb1))]) (g' := []) (nx' := 0) (by kernel_rfl) ⟨⟨by omega, by omega⟩, (by have h9 : strAt (ByteArray.mk #[0, 1, 2, 2, 3, 3, 3, 3, 4, 4, 4, 4, 4, 4, 4, 4, 5, 5, 5, 5, 5, 5, 5, 5, 5, 5, 5, 5, 5, 5, 5, 5, 6, 6, 6, 6, 6, 6, 6, 6, 6, 6, 6, 6, 6, 6, 6, 6, 6, 6, 6, 6, 6, 6, 6, 6, 6, 6, 6, 6, 6, 6, 6, 6, 7, 7, 7, 7, 7, 7, 7, 7, 7, 7, 7, 7, 7, 7, 7, 7, 7, 7, 7, 7, 7, 7, 7, 7, 7, 7, 7, 7, 7, 7, 7, 7, 7, 7, 7, 7, 7, 7, 7, 7, 7, 7, 7, 7, 7, 7, 7, 7, 7, 7, 7, 7, 7, 7, 7, 7, 7, 7, 7, 7, 7, 7, 7, 7, 8, 8, 8, 8, 8, 8, 8, 8, 8, 8, 8, 8, 8, 8, 8, 8, 8, 8, 8, 8, 8, 8, 8, 8, 8, 8, 8, 8, 8, 8, 8, 8, 8, 8, 8, 8, 8, 8, 8, 8, 8, 8, 8, 8, 8, 8, 8, 8, 8, 8, 8, 8, 8, 8, 8, 8, 8, 8, 8, 8, 8, 8, 8, 8, 8, 8, 8, 8, 8, 8, 8, 8, 8, 8, 8, 8, 8, 8, 8, 8, 8, 8, 8, 8, 8, 8, 8, 8, 8, 8, 8, 8, 8, 8, 8, 8, 8, 8, 8, 8, 8, 8, 8, 8, 8, 8, 8, 8, 8, 8, 8, 8, 8, 8, 8, 8, 8, 8, 8, 8, 8, 8, 8, 8, 8, 8, 8, 8]) (((x / 4294967296) / 256) : Int) = some (List.getD tabL (Int.toNat ((x / 4294967296) / 256)) 0) := tab_str (by omega); rw [hx4a] at h9; exact h9), ⟨by omega, by omega⟩, ⟨by omega, by omega⟩⟩ ?_
        refine AW.ret ?_
        exact EndP.of (.inr rfl) [] (P := (((((40 + tb1) : Nat) : Int) : Int) = (40 + ((tb1 : Nat) : Int)))) (by kernel_rfl) (by first | omega | rfl | assumption | (simp; done) | (simp; omega))
      · obtain ⟨tb1, hx4a, hx4b, hx4c, hx4d⟩ := tab_at (y := (x / 4294967296)) (by omega)
        have hfin : x < ((2 ^ (32 + tb1) : Nat) : Int) ∧ ((2 ^ (32 + tb1 - 1) : Nat) : Int) ≤ x ∧ 1 ≤ tb1 := len_fin (y := (x / 4294967296)) (by omega) hx4c (hx4d.resolve_left (by omega)) (by omega)
        refine ⟨(32 + tb1), (by first | exact ⟨hfin.1, hfin.2.1⟩ | (have h9 := hfin; simp only [Nat.zero_add] at h9; exact ⟨h9.1, h9.2.1⟩)), (by have h9 := hfin.2.2; omega), ?_⟩
        refine Fun.mk (n := 25) Try.func20 rfl rfl (Nat.le_of_ble_eq_true rfl) ?_
        intro cx hcx
        refine AW.rgs [.no] [0, 2] [] (P := True) (l' := [(0, .e (.c (.d (D.lit (.int .u64 x))))), (2, iV 0)]) (g' := []) (nx' := 0) (by kernel_rfl) trivial ?_
        refine AW.seq ?_
        refine AW.rgs [.no, .b true] [0, 2, 4] [] (P := (((4294967296 : Int) ≤ x))) (l' := [(0, .e (.c (.d (D.lit (.int .u64 x))))), (2, iV 0), (4, bV true)]) (g' := []) (nx' := 0) (by kernel_rfl) (by omega) ?_
        refine AW.cond_t (.tmp (Look.of rfl)) ?_
        refine AW.rgs [.no, .n 32, .no] [0] [] (P := ((32 : Int) = 32) ∧ ((32 : Nat) ≤ 64)) (l' := [(0, .e (.c (.d (D.lit (.int .u64 (x / 4294967296))))))]) (g' := []) (nx' := 0) (by kernel_rfl) ⟨rfl, (by omega)⟩ ?_
        refine AW.rg [.no] [0, 2] [] (P := True) (l' := [(0, .e (.c (.d (D.lit (.int .u64 (x / 4294967296)))))), (2, iV 32)]) (g' := []) (nx' := 0) (by kernel_rfl) trivial ?_
        refine AW.seq ?_
        refine AW.rgs [.no, .b false] [0, 2, 8] [] (P := (¬ ((65536 : Int) ≤ (x / 4294967296)))) (l' := [(0, .e (.c (.d (D.lit (.int .u64 (x / 4294967296)))))), (2, iV 32), (8, bV false)]) (g' := []) (nx' := 0) (by kernel_rfl) (by omega) ?_
        refine AW.cond_f (.tmp (Look.of rfl)) ?_
        refine AW.skip ?_
        refine AW.seq ?_
        refine AW.rgs [.no, .b false] [0, 2, 14] [] (P := (¬ ((256 : Int) ≤ (x / 4294967296)))) (l' := [(0, .e (.c (.d (D.lit (.int .u64 (x / 4294967296)))))), (2, iV 32), (14, bV false)]) (g' := []) (nx' := 0) (by kernel_rfl) (by omega) ?_
        refine AW.cond_f (.tmp (Look.of rfl)) ?_
        refine AW.skip ?_
        refine AW.rgs [.no, .no, .w, .i ((tb1 : Nat) : Int), .w, .w, .no] [2] [] (P := (0 ≤ (x / 4294967296) ∧ (x / 4294967296) ≤ 255) ∧ (strAt (ByteArray.mk #[0, 1, 2, 2, 3, 3, 3, 3, 4, 4, 4, 4, 4, 4, 4, 4, 5, 5, 5, 5, 5, 5, 5, 5, 5, 5, 5, 5, 5, 5, 5, 5, 6, 6, 6, 6, 6, 6, 6, 6, 6, 6, 6, 6, 6, 6, 6, 6, 6, 6, 6, 6, 6, 6, 6, 6, 6, 6, 6, 6, 6, 6, 6, 6, 7, 7, 7, 7, 7, 7, 7, 7, 7, 7, 7, 7, 7, 7, 7, 7, 7, 7, 7, 7, 7, 7, 7, 7, 7, 7, 7, 7, 7, 7, 7, 7, 7, 7, 7, 7, 7, 7, 7, 7, 7, 7, 7, 7, 7, 7, 7, 7, 7, 7, 7, 7, 7, 7, 7, 7, 7, 7, 7, 7, 7, 7, 7, 7, 8, 8, 8, 8, 8, 8, 8, 8, 8, 8, 8, 8, 8, 8, 8, 8, 8, 8, 8, 8, 8, 8, 8, 8, 8, 8, 8, 8, 8, 8, 8, 8, 8, 8, 8, 8, 8, 8, 8, 8, 8, 8, 8, 8, 8, 8, 8, 8, 8, 8, 8, 8, 8, 8, 8, 8, 8, 8, 8, 8, 8, 8, 8, 8, 8, 8, 8, 8, 8, 8, 8, 8, 8, 8, 8, 8, 8, 8, 8, 8, 8, 8, 8, 8, 8, 8, 8, 8, 8, 8, 8, 8, 8, 8, 8, 8, 8, 8, 8, 8, 8, 8, 8, 8, 8, 8, 8, 8, 8, 8, 8, 8, 8, 8, 8, 8, 8, 8, 8, 8, 8, 8, 8, 8, 8, 8, 8, 8]) ((x / 4294967296) : Int) = some (((tb1 : Nat) : Int) : Int)) ∧ ((-9223372036854775808) ≤ ((tb1 : Nat) : Int) ∧ ((tb1 : Nat) : Int) ≤ 9223372036854775807) ∧ ((-9223372036854775808) ≤ (32 + ((tb1 : Nat) : Int)) ∧ (32 + ((tb1 : Nat) : Int)) ≤ 9223372036854775807)) (l' := [(2, iV (32 + ↑tb1))]) (g' := []) (nx' := 0) (by kernel_rfl) ⟨⟨by omega, by omega⟩, (by have h9 : strAt (ByteArray.mk #[0, 1, 2, 2, 3, 3, 3, 3, 4, 4, 4, 4, 4, 4, 4, 4, 5, 5, 5, 5, 5, 5, 5, 5, 5, 5, 5, 5, 5, 5, 5, 5, 6, 6, 6, 6, 6, 6, 6, 6, 6, 6, 6, 6, 6, 6, 6, 6, 6, 6, 6, 6, 6, 6, 6, 6, 6, 6, 6, 6, 6, 6, 6, 6, 7, 7, 7, 7, 7, 7, 7, 7, 7, 7, 7, 7, 7, 7, 7, 7, 7, 7, 7, 7, 7, 7, 7, 7, 7, 7, 7, 7, 7, 7, 7, 7, 7, 7, 7, 7, 7, 7, 7, 7, 7, 7, 7, 7, 7, 7, 7, 7, 7, 7, 7, 7, 7, 7, 7, 7, 7, 7, 7, 7, 7, 7, 7, 7, 8, 8, 8, 8, 8, 8, 8, 8, 8, 8, 8, 8, 8, 8, 8, 8, 8, 8, 8, 8, 8, 8, 8, 8, 8, 8, 8, 8, 8, 8, 8, 8, 8, 8, 8, 8, 8, 8, 8, 8, 8, 8, 8, 8, 8, 8, 8, 8, 8, 8, 8, 8, 8, 8, 8, 8, 8, 8, 8, 8, 8, 8, 8, 8, 8, 8, 8, 8, 8, 8, 8, 8, 8, 8, 8, 8, 8, 8, 8, 8, 8, 8, 8, 8, 8, 8, 8, 8, 8, 8, 8, 8, 8, 8, 8, 8, 8, 8, 8, 8, 8, 8, 8, 8, 8, 8, 8, 8, 8, 8, 8, 8, 8, 8, 8, 8, 8, 8, 8, 8, 8, 8, 8, 8, 8, 8, 8, 8]) ((x / 4294967296) : Int) = some (List.getD tabL (Int.toNat (x / 4294967296)) 0) := tab_str (by omega); rw [hx4a] at h9; exact h9), ⟨by omega, by omega⟩, ⟨by omega, by omega⟩⟩ ?_
        refine AW.ret ?_
        exact EndP.of (.inr rfl) [] (P := (((((32 + tb1) : Nat) : Int) : Int) = (32 + ((tb1 : Nat) : Int)))) (by kernel_rfl) (by first | omega | rfl | assumption | (simp; done) | (simp; omega))
  · by_cases hx2 : ((65536 : Int) ≤ x)
    · by_cases hx3 : ((256 : Int) ≤ (x / 65536))
      · obtain ⟨tb1, hx4a, hx4b, hx4c, hx4d⟩ := tab_at (y := ((x / 65536) / 256)) (by omega)
        have hfin : x < ((2 ^ (24 + tb1) : Nat) : Int) ∧ ((2 ^ (24 + tb1 - 1) : Nat) : Int) ≤ x ∧ 1 ≤ tb1 := len_fin (y := ((x / 65536) / 256)) (by omega) hx4c (hx4d.resolve_left (by omega)) (by omega)
        refine ⟨(24 + tb1), (by first | exact ⟨hfin.1, hfin.2.1⟩ | (have h9 := hfin; simp only [Nat.zero_add] at h9; exact ⟨h9.1, h9.2.1⟩)), (by have h9 := hfin.2.2; omega), ?_⟩
        refine Fun.mk (n := 25) Try.func20 rfl rfl (Nat.le_of_ble_eq_true rfl) ?_
        intro cx hcx
        refine AW.rgs [.no] [0, 2] [] (P := True) (l' := [(0, .e (.c (.d (D.lit (.int .u64 x))))), (2, iV 0)]) (g' := []) (nx' := 0) (by kernel_rfl) trivial ?_
        refine AW.seq ?_
        refine AW.rgs [.no, .b false] [0, 2, 4] [] (P := (¬ ((4294967296 : Int) ≤ x))) (l' := [(0, .e (.c (.d (D.lit (.int .u64 x))))), (2, iV 0), (4, bV false)]) (g' := []) (nx' := 0) (by kernel_rfl) (by omega) ?_
        refine AW.cond_f (.tmp (Look.of rfl)) ?_
        refine AW.skip ?_
        refine AW.seq ?_
        refine AW.rgs [.no, .b true] [0, 2, 8] [] (P := (((65536 : Int) ≤ x))) (l' := [(0, .e (.c (.d (D.lit (.int .u64 x))))), (2, iV 0), (8, bV true)]) (g' := []) (nx' := 0) (by kernel_rfl) (by omega) ?_
        refine AW.cond_t (.tmp (Look.of rfl)) ?_
        refine AW.rgs [.no, .n 16, .no] [0, 2] [] (P := ((16 : Int) = 16) ∧ ((16 : Nat) ≤ 64)) (l' := [(0, .e (.c (.d (D.lit (.int .u64 (x / 65536)))))), (2, iV 0)]) (g' := []) (nx' := 0) (by kernel_rfl) ⟨rfl, (by omega)⟩ ?_
        refine AW.rg [.no, .w, .no] [0, 2] [] (P := ((-9223372036854775808) ≤ (16 : Int) ∧ (16 : Int) ≤ 9223372036854775807)) (l' := [(0, .e (.c (.d (D.lit (.int .u64 (x / 65536)))))), (2, iV 16)]) (g' := []) (nx' := 0) (by kernel_rfl) ⟨by omega, by omega⟩ ?_
        refine AW.seq ?_
        refine AW.rgs [.no, .b true] [0, 2, 14] [] (P := (((256 : Int) ≤ (x / 65536)))) (l' := [(0, .e (.c (.d (D.lit (.int .u64 (x / 65536)))))), (2, iV 16), (14, bV true)]) (g' := []) (nx' := 0) (by kernel_rfl) (by omega) ?_
        refine AW.cond_t (.tmp (Look.of rfl)) ?_
        refine AW.rgs [.no, .n 8, .no] [0, 2] [] (P := ((8 : Int) = 8) ∧ ((8 : Nat) ≤ 64)) (l' := [(0, .e (.c (.d (D.lit (.int .u64 ((x / 65536) / 256)))))), (2, iV 16)]) (g' := []) (nx' := 0) (by kernel_rfl) ⟨rfl, (by omega)⟩ ?_
        refine AW.rg [.no, .w, .no] [0, 2] [] (P := ((-9223372036854775808) ≤ (24 : Int) ∧ (24 : Int) ≤ 9223372036854775807)) (l' := [(0, .e (.c (.d (D.lit (.int .u64 ((x / 65536) / 256)))))), (2, iV 24)]) (g' := []) (nx' := 0) (by kernel_rfl) ⟨by omega, by omega⟩ ?_
        refine AW.rgs [.no, .no, .w, .i ((tb1 : Nat) : Int), .w, .w, .no] [2] [] (P := (0 ≤ ((x / 65536) / 256) ∧ ((x / 65536) / 256) ≤ 255) ∧ (strAt (ByteArray.mk #[0, 1, 2, 2, 3, 3, 3, 3, 4, 4, 4, 4, 4, 4, 4, 4, 5, 5, 5, 5, 5, 5, 5, 5, 5, 5, 5, 5, 5, 5, 5, 5, 6, 6, 6, 6, 6, 6, 6, 6, 6, 6, 6, 6, 6, 6, 6, 6, 6, 6, 6, 6, 6, 6, 6, 6, 6, 6, 6, 6, 6, 6, 6, 6, 7, 7, 7, 7, 7, 7, 7, 7, 7, 7, 7, 7, 7, 7, 7, 7, 7, 7, 7, 7, 7, 7, 7, 7, 7, 7, 7, 7, 7, 7, 7, 7, 7, 7, 7, 7, 7, 7, 7, 7, 7, 7, 7, 7, 7, 7, 7, 7, 7, 7, 7, 7, 7, 7, 7, 7, 7, 7, 7, 7, 7, 7, 7, 7, 8, 8, 8, 8, 8, 8, 8, 8, 8, 8, 8, 8, 8, 8, 8, 8, 8, 8, 8, 8, 8, 8, 8, 8, 8, 8, 8, 8, 8, 8, 8, 8, 8, 8, 8, 8, 8, 8, 8, 8, 8, 8, 8, 8, 8, 8, 8, 8, 8, 8, 8, 8, 8, 8, 8, 8, 8, 8, 8, 8, 8, 8, 8, 8, 8, 8, 8, 8, 8, 8, 8, 8, 8, 8, 8, 8, 8, 8, 8, 8, 8, 8, 8, 8, 8, 8, 8, 8, 8, 8, 8, 8, 8, 8, 8, 8, 8, 8, 8, 8, 8, 8, 8, 8, 8, 8, 8, 8, 8, 8, 8, 8, 8, 8, 8, 8, 8, 8, 8, 8, 8, 8, 8, 8, 8, 8, 8, 8]) (((x / 65536) / 256) : Int) = some (((tb1 : Nat) : Int) : Int)) ∧ ((-9223372036854775808) ≤ ((tb1 : Nat) : Int) ∧ ((tb1 : Nat) : Int) ≤ 9223372036854775807) ∧ ((-9223372036854775808) ≤ (24 + ((tb1 : Nat) : Int)) ∧ (24 + ((tb1 : Nat) : Int)) ≤ 9223372036854775807)) (l' := [(2, iV (24 + ↑tb1))]) (g' := []) (nx' := 0) (by kernel_rfl) ⟨⟨by omega, by omega⟩, (by have h9 : strAt (ByteArray.mk #[0, 1, 2, 2, 3, 3, 3, 3, 4, 4, 4, 4, 4, 4, 4, 4, 5, 5, 5, 5, 5, 5, 5, 5, 5, 5, 5, 5, 5, 5, 5, 5, 6, 6, 6, 6, 6, 6, 6, 6, 6, 6, 6, 6, 6, 6, 6, 6, 6, 6, 6, 6, 6, 6, 6, 6, 6, 6, 6, 6, 6, 6, 6, 6, 7, 7, 7, 7, 7, 7, 7, 7, 7, 7, 7, 7, 7, 7, 7, 7, 7, 7, 7, 7, 7, 7, 7, 7, 7, 7, 7, 7, 7, 7, 7, 7, 7, 7, 7, 7, 7, 7, 7, 7, 7, 7, 7, 7, 7, 7, 7, 7, 7, 7, 7, 7, 7, 7, 7, 7, 7, 7, 7, 7, 7, 7, 7, 7, 8, 8, 8, 8, 8, 8, 8, 8, 8, 8, 8, 8, 8, 8, 8, 8, 8, 8, 8, 8, 8, 8, 8, 8, 8, 8, 8, 8, 8, 8, 8, 8, 8, 8, 8, 8, 8, 8, 8, 8, 8, 8, 8, 8, 8, 8, 8, 8, 8, 8, 8, 8, 8, 8, 8, 8, 8, 8, 8, 8, 8, 8, 8, 8, 8, 8, 8, 8, 8, 8, 8, 8, 8, 8, 8, 8, 8, 8, 8, 8, 8, 8, 8, 8, 8, 8, 8, 8, 8, 8, 8, 8, 8, 8, 8, 8, 8, 8, 8, 8, 8, 8, 8, 8, 8, 8, 8, 8, 8, 8, 8, 8, 8, 8, 8, 8, 8, 8, 8, 8, 8, 8, 8, 8, 8, 8, 8, 8]) (((x / 65536) / 256) : Int) = some (List.getD tabL (Int.toNat ((x / 65536) / 256)) 0) := tab_str (by omega); rw [hx4a] at h9; exact h9), ⟨by omega, by omega⟩, ⟨by omega, by omega⟩⟩ ?_
        refine AW.ret ?_
        exact EndP.of (.inr rfl) [] (P := (((((24 + tb1) : Nat) : Int) : Int) = (24 + ((tb1 : Nat) : Int)))) (by kernel_rfl) (by first | omega | rfl | assumption | (simp; done) | (simp; omega))
      · obtain ⟨tb1, hx4a, hx4b, hx4c, hx4d⟩ := tab_at (y := (x / 65536)) (by omega)
        have hfin : x < ((2 ^ (16 + tb1) : Nat) : Int) ∧ ((2 ^ (16 + tb1 - 1) : Nat) : Int) ≤ x ∧ 1 ≤ tb1 := len_fin (y := (x / 65536)) (by omega) hx4c (hx4d.resolve_left (by omega)) (by omega)
        refine ⟨(16 + tb1), (by first | exact ⟨hfin.1, hfin.2.1⟩ | (have h9 := hfin; simp only [Nat.zero_add] at h9; exact ⟨h9.1, h9.2.1⟩)), (by have h9 := hfin.2.2; omega), ?_⟩
        refine Fun.mk (n := 25) Try.func20 rfl rfl (Nat.le_of_ble_eq_true rfl) ?_
        intro cx hcx
        refine AW.rgs [.no] [0, 2] [] (P := True) (l' := [(0, .e (.c (.d (D.lit (.int .u64 x))))), (2, iV 0)]) (g' := []) (nx' := 0) (by kernel_rfl) trivial ?_
        refine AW.seq ?_
        refine AW.rgs [.no, .b false] [0, 2, 4] [] (P := (¬ ((4294967296 : Int) ≤ x))) (l' := [(0, .e (.c (.d (D.lit (.int .u64 x))))), (2, iV 0), (4, bV false)]) (g' := []) (nx' := 0) (by kernel_rfl) (by omega) ?_
        refine AW.cond_f (.tmp (Look.of rfl)) ?_
        refine AW.skip ?_
        refine AW.seq ?_
        refine AW.rgs [.no, .b true] [0, 2, 8] [] (P := (((65536 : Int) ≤ x))) (l' := [(0, .e (.c (.d (D.lit (.int .u64 x))))), (2, iV 0), (8, bV true)]) (g' := []) (nx' := 0) (by kernel_rfl) (by omega) ?_
        refine AW.cond_t (.tmp (Look.of rfl)) ?_
        refine AW.rgs [.no, .n 16, .no] [0, 2] [] (P := ((16 : Int) = 16) ∧ ((16 : Nat) ≤ 64)) (l' := [(0, .e (.c (.d (D.lit (.int .u64 (x / 65536)))))), (2, iV 0)]) (g' := []) (nx' := 0) (by kernel_rfl) ⟨rfl, (by omega)⟩ ?_
        refine AW.rg [.no, .w, .no] [0, 2] [] (P := ((-9223372036854775808) ≤ (16 : Int) ∧ (16 : Int) ≤ 9223372036854775807)) (l' := [(0, .e (.c (.d (D.lit (.int .u64 (x / 65536)))))), (2, iV 16)]) (g' := []) (nx' := 0) (by kernel_rfl) ⟨by omega, by omega⟩ ?_
        refine AW.seq ?_
        refine AW.rgs [.no, .b false] [0, 2, 14] [] (P := (¬ ((256 : Int) ≤ (x / 65536)))) (l' := [(0, .e (.c (.d (D.lit (.int .u64 (x / 65536)))))), (2, iV 16), (14, bV false)]) (g' := []) (nx' := 0) (by kernel_rfl) (by omega) ?_
        refine AW.cond_f (.tmp (Look.of rfl)) ?_
        refine AW.skip ?_
        refine AW.rgs [.no, .no, .w, .i ((tb1 : Nat) : Int), .w, .w, .no] [2] [] (P := (0 ≤ (x / 65536) ∧ (x / 65536) ≤ 255) ∧ (strAt (ByteArray.mk #[0, 1, 2, 2, 3, 3, 3, 3, 4, 4, 4, 4, 4, 4, 4, 4, 5, 5, 5, 5, 5, 5, 5, 5, 5, 5, 5, 5, 5, 5, 5, 5, 6, 6, 6, 6, 6, 6, 6, 6, 6, 6, 6, 6, 6, 6, 6, 6, 6, 6, 6, 6, 6, 6, 6, 6, 6, 6, 6, 6, 6, 6, 6, 6, 7, 7, 7, 7, 7, 7, 7, 7, 7, 7, 7, 7, 7, 7, 7, 7, 7, 7, 7, 7, 7, 7, 7, 7, 7, 7, 7, 7, 7, 7, 7, 7, 7, 7, 7, 7, 7, 7, 7, 7, 7, 7, 7, 7, 7, 7, 7, 7, 7, 7, 7, 7, 7, 7, 7, 7, 7, 7, 7, 7, 7, 7, 7, 7, 8, 8, 8, 8, 8, 8, 8, 8, 8, 8, 8, 8, 8, 8, 8, 8, 8, 8, 8, 8, 8, 8, 8, 8, 8, 8, 8, 8, 8, 8, 8, 8, 8, 8, 8, 8, 8, 8, 8, 8, 8, 8, 8, 8, 8, 8, 8, 8, 8, 8, 8, 8, 8, 8, 8, 8, 8, 8, 8, 8, 8, 8, 8, 8, 8, 8, 8, 8, 8, 8, 8, 8, 8, 8, 8, 8, 8, 8, 8, 8, 8, 8, 8, 8, 8, 8, 8, 8, 8, 8, 8, 8, 8, 8, 8, 8, 8, 8, 8, 8, 8, 8, 8, 8, 8, 8, 8, 8, 8, 8, 8, 8, 8, 8, 8, 8, 8, 8, 8, 8, 8, 8, 8, 8, 8, 8, 8, 8]) ((x / 65536) : Int) = some (((tb1 : Nat) : Int) : Int)) ∧ ((-9223372036854775808) ≤ ((tb1 : Nat) : Int) ∧ ((tb1 : Nat) : Int) ≤ 9223372036854775807) ∧ ((-9223372036854775808) ≤ (16 + ((tb1 : Nat) : Int)) ∧ (16 + ((tb1 : Nat) : Int)) ≤ 9223372036854775807)) (l' := [(2, iV (16 + ↑tb1))]) (g' := []) (nx' := 0) (by kernel_rfl) ⟨⟨by omega, by omega⟩, (by have h9 : strAt (ByteArray.mk #[0, 1, 2, 2, 3, 3, 3, 3, 4, 4, 4, 4, 4, 4, 4, 4, 5, 5, 5, 5, 5, 5, 5, 5, 5, 5, 5, 5, 5, 5, 5, 5, 6, 6, 6, 6, 6, 6, 6, 6, 6, 6, 6, 6, 6, 6, 6, 6, 6, 6, 6, 6, 6, 6, 6, 6, 6, 6, 6, 6, 6, 6, 6, 6, 7, 7, 7, 7, 7, 7, 7, 7, 7, 7, 7, 7, 7, 7, 7, 7, 7, 7, 7, 7, 7, 7, 7, 7, 7, 7, 7, 7, 7, 7, 7, 7, 7, 7, 7, 7, 7, 7, 7, 7, 7, 7, 7, 7, 7, 7, 7, 7, 7, 7, 7, 7, 7, 7, 7, 7, 7, 7, 7, 7, 7, 7, 7, 7, 8, 8, 8, 8, 8, 8, 8, 8, 8, 8, 8, 8, 8, 8, 8, 8, 8, 8, 8, 8, 8, 8, 8, 8, 8, 8, 8, 8, 8, 8, 8, 8, 8, 8, 8, 8, 8, 8, 8, 8, 8, 8, 8, 8, 8, 8, 8, 8, 8, 8, 8, 8, 8, 8, 8, 8, 8, 8, 8, 8, 8, 8, 8, 8, 8, 8, 8, 8, 8, 8, 8, 8, 8, 8, 8, 8, 8, 8, 8, 8, 8, 8, 8, 8, 8, 8, 8, 8, 8, 8, 8, 8, 8, 8, 8, 8, 8, 8, 8, 8, 8, 8, 8, 8, 8, 8, 8, 8, 8, 8, 8, 8, 8, 8, 8, 8, 8, 8, 8, 8, 8, 8, 8, 8, 8, 8, 8, 8]) ((x / 65536) : Int) = some (List.getD tabL (Int.toNat (x / 65536)) 0) := tab_str (by omega); rw [hx4a] at h9; exact h9), ⟨by omega, by omega⟩, ⟨by omega, by omega⟩⟩ ?_
        refine AW.ret ?_
        exact EndP.of (.inr rfl) [] (P := (((((16 + tb1) : Nat) : Int) : Int) = (16 + ((tb1 : Nat) : Int)))) (by kernel_rfl) (by first | omega | rfl | assumption | (simp; done) | (simp; omega))
    · by_cases hx3 : ((256 : Int) ≤ x)
      · obtain ⟨tb1, hx4a, hx4b, hx4c, hx4d⟩ := tab_at (y := (x / 256)) (by omega)
        have hfin : x < ((2 ^ (8 + tb1) : Nat) : Int) ∧ ((2 ^ (8 + tb1 - 1) : Nat) : Int) ≤ x ∧ 1 ≤ tb1 := len_fin (y := (x / 256)) (by omega) hx4c (hx4d.resolve_left (by omega)) (by omega)
        refine ⟨(8 + tb1), (by first | exact ⟨hfin.1, hfin.2.1⟩ | (have h9 := hfin; simp only [Nat.zero_add] at h9; exact ⟨h9.1, h9.2.1⟩)), (by have h9 := hfin.2.2; omega), ?_⟩
        refine Fun.mk (n := 25) Try.func20 rfl rfl (Nat.le_of_ble_eq_true rfl) ?_
        intro cx hcx
        refine AW.rgs [.no] [0, 2] [] (P := True) (l' := [(0, .e (.c (.d (D.lit (.int .u64 x))))), (2, iV 0)]) (g' := []) (nx' := 0) (by kernel_rfl) trivial ?_
        refine AW.seq ?_
        refine AW.rgs [.no, .b false] [0, 2, 4] [] (P := (¬ ((4294967296 : Int) ≤ x))) (l' := [(0, .e (.c (.d (D.lit (.int .u64 x))))), (2, iV 0), (4, bV false)]) (g' := []) (nx' := 0) (by kernel_rfl) (by omega) ?_
        refine AW.cond_f (.tmp (Look.of rfl)) ?_
        refine AW.skip ?_
        refine AW.seq ?_
        refine AW.rgs [.no, .b false] [0, 2, 8] [] (P := (¬ ((65536 : Int) ≤ x))) (l' := [(0, .e (.c (.d (D.lit (.int .u64 x))))), (2, iV 0), (8, bV false)]) (g' := []) (nx' := 0) (by kernel_rfl) (by omega) ?_
        refine AW.cond_f (.tmp (Look.of rfl)) ?_
        refine AW.skip ?_
        refine AW.seq ?_
        refine AW.rgs [.no, .b true] [0, 2, 14] [] (P := (((256 : Int) ≤ x))) (l' := [(0, .e (.c (.d (D.lit (.int .u64 x))))), (2, iV 0), (14, bV true)]) (g' := []) (nx' := 0) (by kernel_rfl) (by omega) ?_
        refine AW.cond_t (.tmp (Look.of rfl)) ?_
        refine AW.rgs [.no, .n 8, .no] [0, 2] [] (P := ((8 : Int) = 8) ∧ ((8 : Nat) ≤ 64)) (l' := [(0, .e (.c (.d (D.lit (.int .u64 (x / 256)))))), (2, iV 0)]) (g' := []) (nx' := 0) (by kernel_rfl) ⟨rfl, (by omega)⟩ ?_
        refine AW.rg [.no, .w, .no] [0, 2] [] (P := ((-9223372036854775808) ≤ (8 : Int) ∧ (8 : Int) ≤ 9223372036854775807)) (l' := [(0, .e (.c (.d (D.lit (.int .u64 (x / 256)))))), (2, iV 8)]) (g' := []) (nx' := 0) (by kernel_rfl) ⟨by omega, by omega⟩ ?_
        refine AW.rgs [.no, .no, .w, .i ((tb1 : Nat) : Int), .w, .w, .no] [2] [] (P := (0 ≤ (x / 256) ∧ (x / 256) ≤ 255) ∧ (strAt (ByteArray.mk #[0, 1, 2, 2, 3, 3, 3, 3, 4, 4, 4, 4, 4, 4, 4, 4, 5, 5, 5, 5, 5, 5, 5, 5, 5, 5, 5, 5, 5, 5, 5, 5, 6, 6, 6, 6, 6, 6, 6, 6, 6, 6, 6, 6, 6, 6, 6, 6, 6, 6, 6, 6, 6, 6, 6, 6, 6, 6, 6, 6, 6, 6, 6, 6, 7, 7, 7, 7, 7, 7, 7, 7, 7, 7, 7, 7, 7, 7, 7, 7, 7, 7, 7, 7, 7, 7, 7, 7, 7, 7, 7, 7, 7, 7, 7, 7, 7, 7, 7, 7, 7, 7, 7, 7, 7, 7, 7, 7, 7, 7, 7, 7, 7, 7, 7, 7, 7, 7, 7, 7, 7, 7, 7, 7, 7, 7, 7, 7, 8, 8, 8, 8, 8, 8, 8, 8, 8, 8, 8, 8, 8, 8, 8, 8, 8, 8, 8, 8, 8, 8, 8, 8, 8, 8, 8, 8, 8, 8, 8, 8, 8, 8, 8, 8, 8, 8, 8, 8, 8, 8, 8, 8, 8, 8, 8, 8, 8, 8, 8, 8, 8, 8, 8, 8, 8, 8, 8, 8, 8, 8, 8, 8, 8, 8, 8, 8, 8, 8, 8, 8, 8, 8, 8, 8, 8, 8, 8, 8, 8, 8, 8, 8, 8, 8, 8, 8, 8, 8, 8, 8, 8, 8, 8, 8, 8, 8, 8, 8, 8, 8, 8, 8, 8, 8, 8, 8, 8, 8, 8, 8, 8, 8, 8, 8, 8, 8, 8, 8, 8, 8, 8, 8, 8, 8, 8, 8]) ((x / 256) : Int) = some (((tb1 : Nat) : Int) : Int)) ∧ ((-9223372036854775808) ≤ ((tb1 : Nat) : Int) ∧ ((tb1 : Nat) : Int) ≤ 9223372036854775807) ∧ ((-9223372036854775808) ≤ (8 + ((tb1 : Nat) : Int)) ∧ (8 + ((tb1 : Nat) : Int)) ≤ 9223372036854775807)) (l' := [(2, iV (8 + ↑tb1))]) (g' := []) (nx' := 0) (by kernel_rfl) ⟨⟨by omega, by omega⟩, (by have h9 : strAt (ByteArray.mk #[0, 1, 2, 2, 3, 3, 3, 3, 4, 4, 4, 4, 4, 4, 4, 4, 5, 5, 5, 5, 5, 5, 5, 5, 5, 5, 5, 5, 5, 5, 5, 5, 6, 6, 6, 6, 6, 6, 6, 6, 6, 6, 6, 6, 6, 6, 6, 6, 6, 6, 6, 6, 6, 6, 6, 6, 6, 6, 6, 6, 6, 6, 6, 6, 7, 7, 7, 7, 7, 7, 7, 7, 7, 7, 7, 7, 7, 7, 7, 7, 7, 7, 7, 7, 7, 7, 7, 7, 7, 7, 7, 7, 7, 7, 7, 7, 7, 7, 7, 7, 7, 7, 7, 7, 7, 7, 7, 7, 7, 7, 7, 7, 7, 7, 7, 7, 7, 7, 7, 7, 7, 7, 7, 7, 7, 7, 7, 7, 8, 8, 8, 8, 8, 8, 8, 8, 8, 8, 8, 8, 8, 8, 8, 8, 8, 8, 8, 8, 8, 8, 8, 8, 8, 8, 8, 8, 8, 8, 8, 8, 8, 8, 8, 8, 8, 8, 8, 8, 8, 8, 8, 8, 8, 8, 8, 8, 8, 8, 8, 8, 8, 8, 8, 8, 8, 8, 8, 8, 8, 8, 8, 8, 8, 8, 8, 8, 8, 8, 8, 8, 8, 8, 8, 8, 8, 8, 8, 8, 8, 8, 8, 8, 8, 8, 8, 8, 8, 8, 8, 8, 8, 8, 8, 8, 8, 8, 8, 8, 8, 8, 8, 8, 8, 8, 8, 8, 8, 8, 8, 8, 8, 8, 8, 8, 8, 8, 8, 8, 8, 8, 8, 8, 8, 8, 8, 8]) ((x / 256) : Int) = some (List.getD tabL (Int.toNat (x / 256)) 0) := tab_str (by omega); rw [hx4a] at h9; exact h9), ⟨by omega, by omega⟩, ⟨by omega, by omega⟩⟩ ?_
        refine AW.ret ?_
        exact EndP.of (.inr rfl) [] (P := (((((8 + tb1) : Nat) : Int) : Int) = (8 + ((tb1 : Nat) : Int)))) (by kernel_rfl) (by first | omega | rfl | assumption | (simp; done) | (simp; omega))
      · obtain ⟨tb1, hx4a, hx4b, hx4c, hx4d⟩ := tab_at (y := x) (by omega)
        have hfin : x < ((2 ^ (0 + tb1) : Nat) : Int) ∧ ((2 ^ (0 + tb1 - 1) : Nat) : Int) ≤ x ∧ 1 ≤ tb1 := len_fin (y := x) (by omega) hx4c (hx4d.resolve_left (by omega)) (by omega)
        refine ⟨(0 + tb1), (by first | exact ⟨hfin.1, hfin.2.1⟩ | (have h9 := hfin; simp only [Nat.zero_add] at h9; exact ⟨h9.1, h9.2.1⟩)), (by have h9 := hfin.2.2; omega), ?_⟩
        refine Fun.mk (n := 25) Try.func20 rfl rfl (Nat.le_of_ble_eq_true rfl) ?_
        intro cx hcx
        refine AW.rgs [.no] [0, 2] [] (P := True) (l' := [(0, .e (.c (.d (D.lit (.int .u64 x))))), (2, iV 0)]) (g' := []) (nx' := 0) (by kernel_rfl) trivial ?_
        refine AW.seq ?_
        refine AW.rgs [.no, .b false] [0, 2, 4] [] (P := (¬ ((4294967296 : Int) ≤ x))) (l' := [(0, .e (.c (.d (D.lit (.int .u64 x))))), (2, iV 0), (4, bV false)]) (g' := []) (nx' := 0) (by kernel_rfl) (by omega) ?_
        refine AW.cond_f (.tmp (Look.of rfl)) ?_
        refine AW.skip ?_
        refine AW.seq ?_
        refine AW.rgs [.no, .b false] [0, 2, 8] [] (P := (¬ ((65536 : Int) ≤ x))) (l' := [(0, .e (.c (.d (D.lit (.int .u64 x))))), (2, iV 0), (8, bV false)]) (g' := []) (nx' := 0) (by kernel_rfl) (by omega) ?_
        refine AW.cond_f (.tmp (Look.of rfl)) ?_
        refine AW.skip ?_
        refine AW.seq ?_
        refine AW.rgs [.no, .b false] [0, 2, 14] [] (P := (¬ ((256 : Int) ≤ x))) (l' := [(0, .e (.c (.d (D.lit (.int .u64 x))))), (2, iV 0), (14, bV false)]) (g' := []) (nx' := 0) (by kernel_rfl) (by omega) ?_
        refine AW.cond_f (.tmp (Look.of rfl)) ?_
        refine AW.skip ?_
        refine AW.rgs [.no, .no, .w, .i ((tb1 : Nat) : Int), .w, .w, .no] [2] [] (P := (0 ≤ x ∧ x ≤ 255) ∧ (strAt (ByteArray.mk #[0, 1, 2, 2, 3, 3, 3, 3, 4, 4, 4, 4, 4, 4, 4, 4, 5, 5, 5, 5, 5, 5, 5, 5, 5, 5, 5, 5, 5, 5, 5, 5, 6, 6, 6, 6, 6, 6, 6, 6, 6, 6, 6, 6, 6, 6, 6, 6, 6, 6, 6, 6, 6, 6, 6, 6, 6, 6, 6, 6, 6, 6, 6, 6, 7, 7, 7, 7, 7, 7, 7, 7, 7, 7, 7, 7, 7, 7, 7, 7, 7, 7, 7, 7, 7, 7, 7, 7, 7, 7, 7, 7, 7, 7, 7, 7, 7, 7, 7, 7, 7, 7, 7, 7, 7, 7, 7, 7, 7, 7, 7, 7, 7, 7, 7, 7, 7, 7, 7, 7, 7, 7, 7, 7, 7, 7, 7, 7, 8, 8, 8, 8, 8, 8, 8, 8, 8, 8, 8, 8, 8, 8, 8, 8, 8, 8, 8, 8, 8, 8, 8, 8, 8, 8, 8, 8, 8, 8, 8, 8, 8, 8, 8, 8, 8, 8, 8, 8, 8, 8, 8, 8, 8, 8, 8, 8, 8, 8, 8, 8, 8, 8, 8, 8, 8, 8, 8, 8, 8, 8, 8, 8, 8, 8, 8, 8, 8, 8, 8, 8, 8, 8, 8, 8, 8, 8, 8, 8, 8, 8, 8, 8, 8, 8, 8, 8, 8, 8, 8, 8, 8, 8, 8, 8, 8, 8, 8, 8, 8, 8, 8, 8, 8, 8, 8, 8, 8, 8, 8, 8, 8, 8, 8, 8, 8, 8, 8, 8, 8, 8, 8, 8, 8, 8, 8, 8]) (x : Int) = some (((tb1 : Nat) : Int) : Int)) ∧ ((-9223372036854775808) ≤ ((tb1 : Nat) : Int) ∧ ((tb1 : Nat) : Int) ≤ 9223372036854775807) ∧ ((-9223372036854775808) ≤ (0 + ((tb1 : Nat) : Int)) ∧ (0 + ((tb1 : Nat) : Int)) ≤ 9223372036854775807)) (l' := [(2, iV (0 + ↑tb1))]) (g' := []) (nx' := 0) (by kernel_rfl) ⟨⟨by omega, by omega⟩, (by have h9 : strAt (ByteArray.mk #[0, 1, 2, 2, 3, 3, 3, 3, 4, 4, 4, 4, 4, 4, 4, 4, 5, 5, 5, 5, 5, 5, 5, 5, 5, 5, 5, 5, 5, 5, 5, 5, 6, 6, 6, 6, 6, 6, 6, 6, 6, 6, 6, 6, 6, 6, 6, 6, 6, 6, 6, 6, 6, 6, 6, 6, 6, 6, 6, 6, 6, 6, 6, 6, 7, 7, 7, 7, 7, 7, 7, 7, 7, 7, 7, 7, 7, 7, 7, 7, 7, 7, 7, 7, 7, 7, 7, 7, 7, 7, 7, 7, 7, 7, 7, 7, 7, 7, 7, 7, 7, 7, 7, 7, 7, 7, 7, 7, 7, 7, 7, 7, 7, 7, 7, 7, 7, 7, 7, 7, 7, 7, 7, 7, 7, 7, 7, 7, 8, 8, 8, 8, 8, 8, 8, 8, 8, 8, 8, 8, 8, 8, 8, 8, 8, 8, 8, 8, 8, 8, 8, 8, 8, 8, 8, 8, 8, 8, 8, 8, 8, 8, 8, 8, 8, 8, 8, 8, 8, 8, 8, 8, 8, 8, 8, 8, 8, 8, 8, 8, 8, 8, 8, 8, 8, 8, 8, 8, 8, 8, 8, 8, 8, 8, 8, 8, 8, 8, 8, 8, 8, 8, 8, 8, 8, 8, 8, 8, 8, 8, 8, 8, 8, 8, 8, 8, 8, 8, 8, 8, 8, 8, 8, 8, 8, 8, 8, 8, 8, 8, 8, 8, 8, 8, 8, 8, 8, 8, 8, 8, 8, 8, 8, 8, 8, 8, 8, 8, 8, 8, 8, 8, 8, 8, 8, 8]) (x : Int) = some (List.getD tabL (Int.toNat x) 0) := tab_str (by omega); rw [hx4a] at h9; exact h9), ⟨by omega, by omega⟩, ⟨by omega, by omega⟩⟩ ?_
        refine AW.ret ?_
        exact EndP.of (.inr rfl) [] (P := (((((0 + tb1) : Nat) : Int) : Int) = (0 + ((tb1 : Nat) : Int)))) (by kernel_rfl) (by first | omega | rfl | assumption | (simp; done) | (simp; omega))

end Go.Proofs.Ytbkjhfjjkihebaa
