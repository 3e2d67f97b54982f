/- What the functions that get numbers and texts return: no statement is proved here. -/
import Derived.Test.YtimogkkkpkcblaaWireSpec
namespace Go.Proofs.Ytimogkkkpkcblaa
open Go.ChangeShapes Go.WideShapes Go.ChangeAt Go.RowKit
set_option linter.unusedVariables false

/-- the number of bytes, the least significant one first -/
def leNat : List Int → Nat
  | [] => 0
  | x :: l => x.toNat + 256 * leNat l
theorem leNat_snoc (t : List Int) (x : Int) : leNat (t ++ [x]) = leNat t + x.toNat * 2 ^ (8 * t.length) := by
  induction t with
  | nil => simp [leNat]
  | cons y t ih =>
    rw [List.cons_append, leNat, ih, leNat, List.length_cons, Nat.mul_add, Nat.mul_add, Nat.pow_add, Nat.mul_one, ← Nat.mul_assoc, ← Nat.mul_assoc, Nat.mul_comm 256 x.toNat]
    have : x.toNat * 256 * 2 ^ (8 * t.length) = x.toNat * 2 ^ (8 * t.length) * 2 ^ 8 := by
      rw [Nat.mul_assoc, Nat.mul_assoc, Nat.mul_comm 256]
    omega
theorem leNat_lt (t : List Int) (h : Byte t) : leNat t < 2 ^ (8 * t.length) := by
  induction t with
  | nil => simp [leNat]
  | cons y t ih =>
    have h1 := ih (fun n hn => h n (by simp [hn]))
    have h2 := h y (by simp)
    rw [leNat, List.length_cons, Nat.mul_add, Nat.pow_add]
    have : y.toNat ≤ 255 := by omega
    omega
theorem byte_drop {l : List Int} (h : Byte l) (k : Nat) : Byte (l.drop k) := fun n hn => h n (List.mem_of_mem_drop hn)
theorem take_drop_snoc (l : List Int) (i j : Nat) (h : i + j < l.length) : (l.drop i).take (j + 1) = (l.drop i).take j ++ [l.getD (i + j) 0] := by
  have e := take_snoc' (l.drop i) j (by simp; omega)
  rw [e]
  simp [List.getD_eq_getElem?_getD]
theorem leNat_step {l : List Int} (hb : Byte l) (i j : Nat) (x : Nat) (h : i + j < l.length) (hx : l.getD (i + j) 0 = (x : Int)) : leNat ((l.drop i).take (j + 1)) = leNat ((l.drop i).take j) + x * 2 ^ (8 * j) := by
  rw [take_drop_snoc l i j h, leNat_snoc, hx, Int.toNat_natCast]
  congr 4
  simp; omega
theorem leNat_take_lt {l : List Int} (hb : Byte l) (i j : Nat) : leNat ((l.drop i).take j) < 2 ^ (8 * j) := by
  refine Nat.lt_of_lt_of_le (leNat_lt _ (byte_take (byte_drop hb i) j)) (Nat.pow_le_pow_right (by omega) ?_)
  simp; omega
theorem or_join (m x j : Nat) (hm : m < 2 ^ (8 * j)) : m ||| x * 2 ^ (8 * j) = m + x * 2 ^ (8 * j) := by
  rw [Nat.or_comm, nat_join (8 * j) _ m (by simp) hm, Nat.add_comm]
theorem or_u16 (m x j : Nat) (hj : j < 2) (hm : m < 2 ^ (8 * j)) (hx : x < 256) : bits BinOp.or IntKind.u16 (m : Int) (IntKind.u16.wrap ((x : Int) * 2 ^ (8 * j))) = ((m + x * 2 ^ (8 * j) : Nat) : Int) := by
  have h : x * 2 ^ (8 * j) < 65536 ∧ m < 65536 := by
    rcases (by omega : j = 0 ∨ j = 1) with rfl | rfl <;> simp at * <;> omega
  have e : IntKind.u16.wrap ((x : Int) * 2 ^ (8 * j)) = ((x * 2 ^ (8 * j) : Nat) : Int) := by
    have e0 : (x : Int) * 2 ^ (8 * j) = ((x * 2 ^ (8 * j) : Nat) : Int) := by simp
    rw [e0, IntKind.wrap_u16]; have := h.1; omega
  rw [e, u16_or_nat m _ h.2 h.1, or_join m x j hm]
theorem or_u32 (m x j : Nat) (hj : j < 4) (hm : m < 2 ^ (8 * j)) (hx : x < 256) : bits BinOp.or IntKind.u32 (m : Int) ((x : Int) * 2 ^ (8 * j) % 4294967296) = ((m + x * 2 ^ (8 * j) : Nat) : Int) := by
  have h : x * 2 ^ (8 * j) < 4294967296 ∧ m < 4294967296 := by
    rcases (by omega : j = 0 ∨ j = 1 ∨ j = 2 ∨ j = 3) with rfl | rfl | rfl | rfl <;> simp at * <;> omega
  have e : ((x : Int) * 2 ^ (8 * j)) % 4294967296 = ((x * 2 ^ (8 * j) : Nat) : Int) := by
    have e0 : (x : Int) * 2 ^ (8 * j) = ((x * 2 ^ (8 * j) : Nat) : Int) := by simp
    rw [e0]; have := h.1; omega
  rw [e, u32_or_nat m _ h.2 h.1, or_join m x j hm]
theorem wrap_u64'' (z : Int) : IntKind.u64.wrap z = z % 18446744073709551616 := by simp [IntKind.wrap, IntKind.bits, IntKind.signed]
theorem or_u64 (m x j : Nat) (hj : j < 8) (hm : m < 2 ^ (8 * j)) (hx : x < 256) : bits BinOp.or IntKind.u64 (m : Int) (IntKind.u64.wrap ((x : Int) * 2 ^ (8 * j))) = ((m + x * 2 ^ (8 * j) : Nat) : Int) := by
  have h : x * 2 ^ (8 * j) < 18446744073709551616 ∧ m < 18446744073709551616 := by
    rcases (by omega : j = 0 ∨ j = 1 ∨ j = 2 ∨ j = 3 ∨ j = 4 ∨ j = 5 ∨ j = 6 ∨ j = 7) with rfl | rfl | rfl | rfl | rfl | rfl | rfl | rfl <;> simp at * <;> omega
  have e : IntKind.u64.wrap ((x : Int) * 2 ^ (8 * j)) = ((x * 2 ^ (8 * j) : Nat) : Int) := by
    have e0 : (x : Int) * 2 ^ (8 * j) = ((x * 2 ^ (8 * j) : Nat) : Int) := by simp
    rw [e0, wrap_u64'']; have := h.1; omega
  rw [e, u64_or_nat m _ h.2 h.1, or_join m x j hm]

theorem ret_tup3 {k : IntKind} {a b : Int} {y z : Value} (h : a = b) : Ending.returned (.tuple #[.int k a, y, z]) = .returned (.tuple #[.int k b, y, z]) := by rw [h]

/-- the number of so many bytes at an offset, the offset after it, the error -/
def getN (l : List Int) (at' : Int) (size : Nat) : Nat × Int × Int :=
  if at' < 0 ∨ (l.length : Int) < at' then (0, 0, 2)
  else if (l.length : Int) - at' < size then (0, 0, 4)
  else (leNat ((l.drop at'.toNat).take size), at' + size, 0)
theorem getN_range {l : List Int} {at' : Int} {size : Nat} (h : at' < 0 ∨ (l.length : Int) < at') : getN l at' size = (0, 0, 2) := by unfold getN; rw [if_pos h]
theorem getN_short {l : List Int} {at' : Int} {size : Nat} (h : ¬ (at' < 0 ∨ (l.length : Int) < at')) (h2 : (l.length : Int) - at' < size) : getN l at' size = (0, 0, 4) := by unfold getN; rw [if_neg h, if_pos h2]
theorem getN_ok {l : List Int} {i size : Nat} (h : i + size ≤ l.length) : getN l i size = (leNat ((l.drop i).take size), (i : Int) + size, 0) := by
  unfold getN; rw [if_neg (by omega), if_neg (by omega), Int.toNat_natCast]

theorem get16_ok (b off len cap : Nat) (l : List Int) (w : World) (i : Nat) (hi : i + 2 ≤ len) (hm : len ≤ 9223372036854775807) (hz : Hid (l.length = len)) (HC : Hid (∀ j, j < len → w.cell? ⟨b, off + j, none⟩ = some (.int .u8 (l.getD j 0)))) (hb : Hid (Byte l)) :
    Calls Try.prog 35 #[.slice (some ⟨b, off, none⟩) len cap, .int .i64 i, .int .i64 2] w fun e w' => e = .returned (.tuple #[.int .u16 (leNat ((l.drop i).take 2)), .int .i64 (i + 2), .int .i64 0]) ∧ w = w' := by
  have h1 : decide ((len : Int) < (i : Int)) = false := by simp; omega
  go_enter Try.func35, Try.ntmps35
  go_wp2
  go_loop [9, 10, 26] (fun n _ k => ∃ j m : Nat, j ≤ 2 ∧ Hid (m = leNat ((l.drop i).take j)) ∧ k = .int .i64 j ∧ n = .int .u16 m) (fun _ _ k => 2 - (intOf k).toNat)
  case atStart => exact ⟨0, 0, by omega, rfl, rfl, rfl⟩
  case round =>
    obtain ⟨j, m, hj, hm', rfl, rfl⟩ := hrel
    by_cases hlt : j < 2
    · obtain ⟨x, hc, hx⟩ := row_at HC.out (i + j) (by omega)
      have hbk : 0 ≤ x ∧ x ≤ 255 := by rw [← hx.out]; exact byte_getD hb.out _
      obtain ⟨hx0, hx1⟩ := hbk
      obtain ⟨x, rfl⟩ : ∃ y : Nat, x = y := ⟨x.toNat, by omega⟩
      have hst : Hid (leNat ((l.drop i).take (j + 1)) = m + x * 2 ^ (8 * j) ∧ m < 2 ^ (8 * j)) :=
        ⟨by rw [hm'.out]; exact leNat_step hb.out i j x (by have := hz.out; omega) hx.out, by rw [hm'.out]; exact leNat_take_lt hb.out i j⟩
      clear hm' hx
      go_wp2
      go_round
      case rel => exact ⟨j + 1, m + x * 2 ^ (8 * j), by omega, hst.out.1.symm, by go_num, by rw [or_u16 m x j hlt hst.out.2 (by omega)]⟩
      case measure => simp [intOf]; omega
    · go_wp2
      go_ret3
      exact ⟨ret_tup3 (by rw [hm'.out, show j = 2 by omega]), rfl⟩

set_option maxHeartbeats 1000000 in
theorem get16_any (a : Option Addr) (len cap : Nat) (l : List Int) (w : World) (at' : Int) (hs : Sl .u8 w a len cap l) (h0 : -9223372036854775808 ≤ at') (h63 : at' ≤ 9223372036854775807) :
    Calls Try.prog 35 #[.slice a len cap, .int .i64 at', .int .i64 2] w fun e w' => e = .returned (.tuple #[.int .u16 (getN l at' 2).1, .int .i64 (getN l at' 2).2.1, .int .i64 (getN l at' 2).2.2]) ∧ w = w' := by
  obtain ⟨hz, hl, hm, hw, hnn, h1⟩ := hs
  have hb := byte_of_wf hw
  unfold maxLen at hm
  by_cases hneg : at' < 0
  · rw [getN_range (.inl hneg)]
    clear h1 hw hb hz hnn
    go_enter Try.func35, Try.ntmps35
    go_wp2
    go_ret3
    exact ⟨rfl, rfl⟩
  · obtain ⟨i, rfl⟩ : ∃ i : Nat, at' = i := ⟨at'.toNat, by omega⟩
    by_cases hgt : len < i
    · rw [getN_range (.inr (by omega))]
      have hd : decide ((len : Int) < (i : Int)) = true := by simp; omega
      clear h1 hw hb hz hnn
      go_enter Try.func35, Try.ntmps35
      go_wp2
      go_ret3
      exact ⟨rfl, rfl⟩
    · by_cases hsh : len < i + 2
      · rw [getN_short (by omega) (by omega)]
        have hd : decide ((len : Int) < (i : Int)) = false := by simp; omega
        have hd2 : (len : Int) - (i : Int) < 2 := by omega
        clear h1 hw hb hz hnn
        go_enter Try.func35, Try.ntmps35
        go_wp2
        go_ret3
        exact ⟨rfl, rfl⟩
      · rw [getN_ok (by omega)]
        rcases h1 with h1 | ⟨b, off, rfl, hlt, hc⟩
        · omega
        · exact get16_ok b off len cap l w i (by omega) (by omega) hz hc hb

theorem get32_ok (b off len cap : Nat) (l : List Int) (w : World) (i : Nat) (hi : i + 4 ≤ len) (hm : len ≤ 9223372036854775807) (hz : Hid (l.length = len)) (HC : Hid (∀ j, j < len → w.cell? ⟨b, off + j, none⟩ = some (.int .u8 (l.getD j 0)))) (hb : Hid (Byte l)) :
    Calls Try.prog 37 #[.slice (some ⟨b, off, none⟩) len cap, .int .i64 i, .int .i64 4] w fun e w' => e = .returned (.tuple #[.int .u32 (leNat ((l.drop i).take 4)), .int .i64 (i + 4), .int .i64 0]) ∧ w = w' := by
  have h1 : decide ((len : Int) < (i : Int)) = false := by simp; omega
  go_enter Try.func37, Try.ntmps37
  go_wp2
  go_loop [9, 10, 26] (fun n _ k => ∃ j m : Nat, j ≤ 4 ∧ Hid (m = leNat ((l.drop i).take j)) ∧ k = .int .i64 j ∧ n = .int .u32 m) (fun _ _ k => 4 - (intOf k).toNat)
  case atStart => exact ⟨0, 0, by omega, rfl, rfl, rfl⟩
  case round =>
    obtain ⟨j, m, hj, hm', rfl, rfl⟩ := hrel
    by_cases hlt : j < 4
    · obtain ⟨x, hc, hx⟩ := row_at HC.out (i + j) (by omega)
      have hbk : 0 ≤ x ∧ x ≤ 255 := by rw [← hx.out]; exact byte_getD hb.out _
      obtain ⟨hx0, hx1⟩ := hbk
      obtain ⟨x, rfl⟩ : ∃ y : Nat, x = y := ⟨x.toNat, by omega⟩
      have hst : Hid (leNat ((l.drop i).take (j + 1)) = m + x * 2 ^ (8 * j) ∧ m < 2 ^ (8 * j)) :=
        ⟨by rw [hm'.out]; exact leNat_step hb.out i j x (by have := hz.out; omega) hx.out, by rw [hm'.out]; exact leNat_take_lt hb.out i j⟩
      clear hm' hx
      go_wp2
      go_round
      case rel => exact ⟨j + 1, m + x * 2 ^ (8 * j), by omega, hst.out.1.symm, by go_num, by rw [or_u32 m x j hlt hst.out.2 (by omega)]⟩
      case measure => simp [intOf]; omega
    · go_wp2
      go_ret3
      exact ⟨ret_tup3 (by rw [hm'.out, show j = 4 by omega]), rfl⟩

set_option maxHeartbeats 1000000 in
theorem get32_any (a : Option Addr) (len cap : Nat) (l : List Int) (w : World) (at' : Int) (hs : Sl .u8 w a len cap l) (h0 : -9223372036854775808 ≤ at') (h63 : at' ≤ 9223372036854775807) :
    Calls Try.prog 37 #[.slice a len cap, .int .i64 at', .int .i64 4] w fun e w' => e = .returned (.tuple #[.int .u32 (getN l at' 4).1, .int .i64 (getN l at' 4).2.1, .int .i64 (getN l at' 4).2.2]) ∧ w = w' := by
  obtain ⟨hz, hl, hm, hw, hnn, h1⟩ := hs
  have hb := byte_of_wf hw
  unfold maxLen at hm
  by_cases hneg : at' < 0
  · rw [getN_range (.inl hneg)]
    clear h1 hw hb hz hnn
    go_enter Try.func37, Try.ntmps37
    go_wp2
    go_ret3
    exact ⟨rfl, rfl⟩
  · obtain ⟨i, rfl⟩ : ∃ i : Nat, at' = i := ⟨at'.toNat, by omega⟩
    by_cases hgt : len < i
    · rw [getN_range (.inr (by omega))]
      have hd : decide ((len : Int) < (i : Int)) = true := by simp; omega
      clear h1 hw hb hz hnn
      go_enter Try.func37, Try.ntmps37
      go_wp2
      go_ret3
      exact ⟨rfl, rfl⟩
    · by_cases hsh : len < i + 4
      · rw [getN_short (by omega) (by omega)]
        have hd : decide ((len : Int) < (i : Int)) = false := by simp; omega
        have hd2 : (len : Int) - (i : Int) < 4 := by omega
        clear h1 hw hb hz hnn
        go_enter Try.func37, Try.ntmps37
        go_wp2
        go_ret3
        exact ⟨rfl, rfl⟩
      · rw [getN_ok (by omega)]
        rcases h1 with h1 | ⟨b, off, rfl, hlt, hc⟩
        · omega
        · exact get32_ok b off len cap l w i (by omega) (by omega) hz hc hb

theorem get64_ok (b off len cap : Nat) (l : List Int) (w : World) (i : Nat) (hi : i + 8 ≤ len) (hm : len ≤ 9223372036854775807) (hz : Hid (l.length = len)) (HC : Hid (∀ j, j < len → w.cell? ⟨b, off + j, none⟩ = some (.int .u8 (l.getD j 0)))) (hb : Hid (Byte l)) :
    Calls Try.prog 38 #[.slice (some ⟨b, off, none⟩) len cap, .int .i64 i, .int .i64 8] w fun e w' => e = .returned (.tuple #[.int .u64 (leNat ((l.drop i).take 8)), .int .i64 (i + 8), .int .i64 0]) ∧ w = w' := by
  have h1 : decide ((len : Int) < (i : Int)) = false := by simp; omega
  go_enter Try.func38, Try.ntmps38
  go_wp2
  go_loop [9, 10, 26] (fun n _ k => ∃ j m : Nat, j ≤ 8 ∧ Hid (m = leNat ((l.drop i).take j)) ∧ k = .int .i64 j ∧ n = .int .u64 m) (fun _ _ k => 8 - (intOf k).toNat)
  case atStart => exact ⟨0, 0, by omega, rfl, rfl, rfl⟩
  case round =>
    obtain ⟨j, m, hj, hm', rfl, rfl⟩ := hrel
    by_cases hlt : j < 8
    · obtain ⟨x, hc, hx⟩ := row_at HC.out (i + j) (by omega)
      have hbk : 0 ≤ x ∧ x ≤ 255 := by rw [← hx.out]; exact byte_getD hb.out _
      obtain ⟨hx0, hx1⟩ := hbk
      obtain ⟨x, rfl⟩ : ∃ y : Nat, x = y := ⟨x.toNat, by omega⟩
      have hst : Hid (leNat ((l.drop i).take (j + 1)) = m + x * 2 ^ (8 * j) ∧ m < 2 ^ (8 * j)) :=
        ⟨by rw [hm'.out]; exact leNat_step hb.out i j x (by have := hz.out; omega) hx.out, by rw [hm'.out]; exact leNat_take_lt hb.out i j⟩
      clear hm' hx
      go_wp2
      go_round
      case rel => exact ⟨j + 1, m + x * 2 ^ (8 * j), by omega, hst.out.1.symm, by go_num, by rw [or_u64 m x j hlt hst.out.2 (by omega)]⟩
      case measure => simp [intOf]; omega
    · go_wp2
      go_ret3
      exact ⟨ret_tup3 (by rw [hm'.out, show j = 8 by omega]), rfl⟩

set_option maxHeartbeats 1000000 in
theorem get64_any (a : Option Addr) (len cap : Nat) (l : List Int) (w : World) (at' : Int) (hs : Sl .u8 w a len cap l) (h0 : -9223372036854775808 ≤ at') (h63 : at' ≤ 9223372036854775807) :
    Calls Try.prog 38 #[.slice a len cap, .int .i64 at', .int .i64 8] w fun e w' => e = .returned (.tuple #[.int .u64 (getN l at' 8).1, .int .i64 (getN l at' 8).2.1, .int .i64 (getN l at' 8).2.2]) ∧ w = w' := by
  obtain ⟨hz, hl, hm, hw, hnn, h1⟩ := hs
  have hb := byte_of_wf hw
  unfold maxLen at hm
  by_cases hneg : at' < 0
  · rw [getN_range (.inl hneg)]
    clear h1 hw hb hz hnn
    go_enter Try.func38, Try.ntmps38
    go_wp2
    go_ret3
    exact ⟨rfl, rfl⟩
  · obtain ⟨i, rfl⟩ : ∃ i : Nat, at' = i := ⟨at'.toNat, by omega⟩
    by_cases hgt : len < i
    · rw [getN_range (.inr (by omega))]
      have hd : decide ((len : Int) < (i : Int)) = true := by simp; omega
      clear h1 hw hb hz hnn
      go_enter Try.func38, Try.ntmps38
      go_wp2
      go_ret3
      exact ⟨rfl, rfl⟩
    · by_cases hsh : len < i + 8
      · rw [getN_short (by omega) (by omega)]
        have hd : decide ((len : Int) < (i : Int)) = false := by simp; omega
        have hd2 : (len : Int) - (i : Int) < 8 := by omega
        clear h1 hw hb hz hnn
        go_enter Try.func38, Try.ntmps38
        go_wp2
        go_ret3
        exact ⟨rfl, rfl⟩
      · rw [getN_ok (by omega)]
        rcases h1 with h1 | ⟨b, off, rfl, hlt, hc⟩
        · omega
        · exact get64_ok b off len cap l w i (by omega) (by omega) hz hc hb

theorem rget_step {l : List Int} (hb : Byte l) (i j sz x : Nat) (hj : j < sz) (hlen : i + sz ≤ l.length) (hx : l.getD (i + j) 0 = (x : Int)) :
    leNat ((l.drop (i + j)).take (sz - j)) = x + 256 * leNat ((l.drop (i + (j + 1))).take (sz - (j + 1))) := by
  have h1 : i + j < l.length := by omega
  rw [List.drop_eq_getElem_cons h1]
  obtain ⟨d, hd⟩ : ∃ d, sz - j = d + 1 := ⟨sz - j - 1, by omega⟩
  rw [hd, List.take_succ_cons, leNat]
  have e1 : (l[i + j]).toNat = x := by
    rw [List.getD_eq_getElem?_getD, List.getElem?_eq_getElem h1] at hx
    simp at hx; omega
  rw [e1, show sz - (j + 1) = d by omega, Nat.add_assoc]
theorem rget_or (m x : Nat) (hm : m < 72057594037927936) (hx : x < 256) : bits BinOp.or IntKind.u64 (IntKind.u64.wrap ((m : Int) * 256)) (x : Int) = ((x + 256 * m : Nat) : Int) := by
  have e : IntKind.u64.wrap ((m : Int) * 256) = ((m * 256 : Nat) : Int) := by rw [wrap_u64'']; omega
  rw [e, u64_or_nat _ x (by omega) (by omega), nat_join 8 _ x (by omega) (by omega)]
  omega
set_option maxHeartbeats 1000000 in
theorem rget_ok (b off len cap : Nat) (l : List Int) (w : World) (i sz : Nat) (hsz : sz ≤ 8) (h0 : 0 < sz) (hi : i + sz ≤ len) (hm : len ≤ 9223372036854775807) (hz : Hid (l.length = len)) (HC : Hid (∀ j, j < len → w.cell? ⟨b, off + j, none⟩ = some (.int .u8 (l.getD j 0)))) (hb : Hid (Byte l)) :
    Calls Try.prog 36 #[.slice (some ⟨b, off, none⟩) len cap, .int .i64 i, .int .i64 sz] w fun e w' => e = .returned (.tuple #[.int .u64 (leNat ((l.drop i).take sz)), .int .i64 (i + sz), .int .i64 0]) ∧ w = w' := by
  have h1 : decide ((len : Int) < (i : Int)) = false := by simp; omega
  have h2 : ¬ ((len : Int) - (i : Int) < sz) := by omega
  go_enter Try.func36, Try.ntmps36
  go_wp2
  go_loop [9, 10] (fun n k => ∃ j m : Nat, j ≤ sz ∧ Hid (m = leNat ((l.drop (i + j)).take (sz - j))) ∧ k = .int .i64 ((j : Int) - 1) ∧ n = .int .u64 m) (fun _ k => (intOf k + 1).toNat)
  case atStart => exact ⟨sz, 0, by omega, by show _ = _; simp [leNat], rfl, rfl⟩
  case round =>
    obtain ⟨j, m, hj, hm', rfl, rfl⟩ := hrel
    by_cases hlt : 0 < j
    · obtain ⟨j, rfl⟩ : ∃ j', j = j' + 1 := ⟨j - 1, by omega⟩
      obtain ⟨x, hc, hx⟩ := row_at HC.out (i + j) (by omega)
      have hbk : 0 ≤ x ∧ x ≤ 255 := by rw [← hx.out]; exact byte_getD hb.out _
      obtain ⟨hx0, hx1⟩ := hbk
      obtain ⟨x, rfl⟩ : ∃ y : Nat, x = y := ⟨x.toNat, by omega⟩
      have hst : Hid (leNat ((l.drop (i + j)).take (sz - j)) = x + 256 * m) := by
        show _ = _
        rw [hm'.out]; exact rget_step hb.out i j sz x (by omega) (by have := hz.out; omega) hx.out
      have hml : Hid (m < 72057594037927936) := by
        show _ < _
        rw [hm'.out]
        exact Nat.lt_of_lt_of_le (leNat_take_lt hb.out _ _) (Nat.le_trans (Nat.pow_le_pow_right (by omega) (show 8 * (sz - (j + 1)) ≤ 56 by omega)) (by omega))
      clear hm' hx
      have e1 : ((j + 1 : Nat) : Int) - 1 = (j : Int) := by omega
      rw [e1]
      go_wp2
      go_round
      case rel => exact ⟨j, x + 256 * m, by omega, hst.out.symm, rfl, by rw [rget_or m x hml.out (by omega)]⟩
      case measure => simp [intOf]
    · obtain rfl : j = 0 := by omega
      go_wp2
      go_ret3
      exact ⟨ret_tup3 (by rw [hm'.out]; rfl), rfl⟩

set_option maxHeartbeats 1000000 in
theorem rget_any (a : Option Addr) (len cap : Nat) (l : List Int) (w : World) (at' : Int) (sz : Nat) (hsz : sz ≤ 8) (hp : 0 < sz) (hs : Sl .u8 w a len cap l) (h0 : -9223372036854775808 ≤ at') (h63 : at' ≤ 9223372036854775807) :
    Calls Try.prog 36 #[.slice a len cap, .int .i64 at', .int .i64 sz] w fun e w' => e = .returned (.tuple #[.int .u64 (getN l at' sz).1, .int .i64 (getN l at' sz).2.1, .int .i64 (getN l at' sz).2.2]) ∧ w = w' := by
  obtain ⟨hz, hl, hm, hw, hnn, h1⟩ := hs
  have hb := byte_of_wf hw
  unfold maxLen at hm
  by_cases hneg : at' < 0
  · rw [getN_range (.inl hneg)]
    clear h1 hw hb hz hnn
    go_enter Try.func36, Try.ntmps36
    go_wp2
    go_ret3
    exact ⟨rfl, rfl⟩
  · obtain ⟨i, rfl⟩ : ∃ i : Nat, at' = i := ⟨at'.toNat, by omega⟩
    by_cases hgt : len < i
    · rw [getN_range (.inr (by omega))]
      have hd : decide ((len : Int) < (i : Int)) = true := by simp; omega
      clear h1 hw hb hz hnn
      go_enter Try.func36, Try.ntmps36
      go_wp2
      go_ret3
      exact ⟨rfl, rfl⟩
    · by_cases hsh : len < i + sz
      · rw [getN_short (by omega) (by omega)]
        have hd : decide ((len : Int) < (i : Int)) = false := by simp; omega
        have hd2 : (len : Int) - (i : Int) < sz := by omega
        clear h1 hw hb hz hnn
        go_enter Try.func36, Try.ntmps36
        go_wp2
        go_ret3
        exact ⟨rfl, rfl⟩
      · rw [getN_ok (by omega)]
        rcases h1 with h1 | ⟨b, off, rfl, hlt, hc⟩
        · omega
        · exact rget_ok b off len cap l w i sz hsz hp (by omega) (by omega) hz hc hb

theorem getN_lt {w : World} {a : Option Addr} {len cap : Nat} {l : List Int} (hs : Sl .u8 w a len cap l) (at' : Int) (size : Nat) : (getN l at' size).1 < 2 ^ (8 * size) := by
  unfold getN
  have : 0 < 2 ^ (8 * size) := Nat.pow_pos (by omega)
  split
  · exact this
  · split
    · exact this
    · exact leNat_take_lt (byte_of_wf hs.2.2.2.1) _ _

theorem Get16_any (a : Option Addr) (len cap : Nat) (l : List Int) (w : World) (at' : Int) (hs : Sl .u8 w a len cap l) (h0 : -9223372036854775808 ≤ at') (h63 : at' ≤ 9223372036854775807) :
    Calls Try.prog 18 #[.slice a len cap, .int .i64 at'] w fun e w' => e = .returned (.tuple #[.int .u16 (getN l at' 2).1, .int .i64 (getN l at' 2).2.1, .int .i64 (getN l at' 2).2.2]) ∧ w = w' := by
  go_enter Try.func18, Try.ntmps18
  go_wp2_with (go_at_call 35; refine (get16_any a len cap l w at' hs h0 h63).mono ?_; rintro e w' ⟨rfl, rfl⟩)
  go_ret3
  exact ⟨rfl, rfl⟩
theorem rGet16_any (a : Option Addr) (len cap : Nat) (l : List Int) (w : World) (at' : Int) (hs : Sl .u8 w a len cap l) (h0 : -9223372036854775808 ≤ at') (h63 : at' ≤ 9223372036854775807) :
    Calls Try.prog 19 #[.slice a len cap, .int .i64 at'] w fun e w' => e = .returned (.tuple #[.int .u16 (getN l at' 2).1, .int .i64 (getN l at' 2).2.1, .int .i64 (getN l at' 2).2.2]) ∧ w = w' := by
  have hlt := getN_lt hs at' 2
  obtain ⟨N, hN⟩ : ∃ N, getN l at' 2 = N := ⟨_, rfl⟩
  rw [hN] at hlt
  have hr := rget_any a len cap l w at' 2 (by omega) (by omega) hs h0 h63
  rw [hN] at hr ⊢
  obtain ⟨n, k, e⟩ := N
  have HL := hid hlt
  clear hlt hN
  go_enter Try.func19, Try.ntmps19
  go_wp2_with (go_at_call 36; refine hr.mono ?_; rintro e w' ⟨rfl, rfl⟩)
  go_ret3
  exact ⟨ret_tup3 (by have h := HL.out; simp at h; rw [IntKind.wrap_u16, Int.emod_eq_of_lt (by omega) (by omega)]), rfl⟩

theorem Get32_any (a : Option Addr) (len cap : Nat) (l : List Int) (w : World) (at' : Int) (hs : Sl .u8 w a len cap l) (h0 : -9223372036854775808 ≤ at') (h63 : at' ≤ 9223372036854775807) :
    Calls Try.prog 20 #[.slice a len cap, .int .i64 at'] w fun e w' => e = .returned (.tuple #[.int .u32 (getN l at' 4).1, .int .i64 (getN l at' 4).2.1, .int .i64 (getN l at' 4).2.2]) ∧ w = w' := by
  go_enter Try.func20, Try.ntmps20
  go_wp2_with (go_at_call 37; refine (get32_any a len cap l w at' hs h0 h63).mono ?_; rintro e w' ⟨rfl, rfl⟩)
  go_ret3
  exact ⟨rfl, rfl⟩
theorem rGet32_any (a : Option Addr) (len cap : Nat) (l : List Int) (w : World) (at' : Int) (hs : Sl .u8 w a len cap l) (h0 : -9223372036854775808 ≤ at') (h63 : at' ≤ 9223372036854775807) :
    Calls Try.prog 21 #[.slice a len cap, .int .i64 at'] w fun e w' => e = .returned (.tuple #[.int .u32 (getN l at' 4).1, .int .i64 (getN l at' 4).2.1, .int .i64 (getN l at' 4).2.2]) ∧ w = w' := by
  have hlt := getN_lt hs at' 4
  obtain ⟨N, hN⟩ : ∃ N, getN l at' 4 = N := ⟨_, rfl⟩
  rw [hN] at hlt
  have hr := rget_any a len cap l w at' 4 (by omega) (by omega) hs h0 h63
  rw [hN] at hr ⊢
  obtain ⟨n, k, e⟩ := N
  have HL := hid hlt
  clear hlt hN
  go_enter Try.func21, Try.ntmps21
  go_wp2_with (go_at_call 36; refine hr.mono ?_; rintro e w' ⟨rfl, rfl⟩)
  go_ret3
  exact ⟨ret_tup3 (by have h := HL.out; simp at h; rw [Int.emod_eq_of_lt (by omega) (by omega)]), rfl⟩

theorem Get64_any (a : Option Addr) (len cap : Nat) (l : List Int) (w : World) (at' : Int) (hs : Sl .u8 w a len cap l) (h0 : -9223372036854775808 ≤ at') (h63 : at' ≤ 9223372036854775807) :
    Calls Try.prog 22 #[.slice a len cap, .int .i64 at'] w fun e w' => e = .returned (.tuple #[.int .u64 (getN l at' 8).1, .int .i64 (getN l at' 8).2.1, .int .i64 (getN l at' 8).2.2]) ∧ w = w' := by
  go_enter Try.func22, Try.ntmps22
  go_wp2_with (go_at_call 38; refine (get64_any a len cap l w at' hs h0 h63).mono ?_; rintro e w' ⟨rfl, rfl⟩)
  go_ret3
  exact ⟨rfl, rfl⟩
theorem rGet64_any (a : Option Addr) (len cap : Nat) (l : List Int) (w : World) (at' : Int) (hs : Sl .u8 w a len cap l) (h0 : -9223372036854775808 ≤ at') (h63 : at' ≤ 9223372036854775807) :
    Calls Try.prog 23 #[.slice a len cap, .int .i64 at'] w fun e w' => e = .returned (.tuple #[.int .u64 (getN l at' 8).1, .int .i64 (getN l at' 8).2.1, .int .i64 (getN l at' 8).2.2]) ∧ w = w' := by
  have hlt := getN_lt hs at' 8
  obtain ⟨N, hN⟩ : ∃ N, getN l at' 8 = N := ⟨_, rfl⟩
  rw [hN] at hlt
  have hr := rget_any a len cap l w at' 8 (by omega) (by omega) hs h0 h63
  rw [hN] at hr ⊢
  obtain ⟨n, k, e⟩ := N
  have HL := hid hlt
  clear hlt hN
  go_enter Try.func23, Try.ntmps23
  go_wp2_with (go_at_call 36; refine hr.mono ?_; rintro e w' ⟨rfl, rfl⟩)
  go_ret3
  exact ⟨rfl, rfl⟩

end Go.Proofs.Ytimogkkkpkcblaa
