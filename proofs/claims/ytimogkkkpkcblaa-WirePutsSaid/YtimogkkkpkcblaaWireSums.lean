/- What wire.Sum, wire.Hash and their references return: no statement is proved here. -/
import Derived.Test.YtimogkkkpkcblaaWireSpec
namespace Go.Proofs.Ytimogkkkpkcblaa
open Go.ChangeShapes Go.WideShapes Go.ChangeAt Go.RowKit
set_option linter.unusedVariables false

set_option maxHeartbeats 1000000 in
theorem sum_any (a : Option Addr) (len cap : Nat) (l : List Int) (w : World) (hs : Sl .u8 w a len cap l) :
    Calls Try.prog 26 #[.slice a len cap] w fun e w' => e = .returned (.int .u32 (crc l : Nat)) ∧ w = w' := by
  obtain ⟨hz, hl, hm, hw, hn, h0⟩ := hs
  have hb := byte_of_wf hw
  clear hw
  unfold maxLen at hm
  rcases h0 with h0 | ⟨b, off, rfl, hlt, hcell⟩
  · subst h0
    obtain rfl : l = [] := List.eq_nil_of_length_eq_zero hz
    go_enter Try.func26, Try.ntmps26
    go_wp2
    refine wp_loop_rounds 1 ?_
    rw [rounds_succ]
    go_wp2
    go_ret
    exact ⟨ret_int (flip32 4294967295 (by omega)), rfl⟩
  · have HC : Hid _ := hcell
    clear hcell hn hlt
    go_enter Try.func26, Try.ntmps26
    go_wp2
    go_loop [3, 5, 6, 9, 17] (fun r _ _ i _ => ∃ k n : Nat, k ≤ len ∧ Hid (n = crcReg (l.take k)) ∧ i = .int .i64 k ∧ r = .int .u32 n) (fun _ _ _ i _ => len - (intOf i).toNat)
    case atStart => exact ⟨0, 4294967295, Nat.zero_le _, rfl, rfl, rfl⟩
    case round =>
      obtain ⟨k, n, hk, hn, rfl, rfl⟩ := hrel
      have hlt0 : n < 4294967296 := by rw [hn.out]; exact crcReg_lt _ (byte_take hb k)
      by_cases hlt : k < len
      · obtain ⟨x, hc, hx⟩ := row_at HC.out k hlt
        have hbk : 0 ≤ x ∧ x ≤ 255 := by rw [← hx.out]; exact byte_getD hb k
        obtain ⟨hx0, hx1⟩ := hbk
        obtain ⟨x, rfl⟩ : ∃ y : Nat, x = y := ⟨x.toNat, by omega⟩
        have hsn : Hid (crcReg (l.take (k + 1)) = crcStep n x) := by
          have e := take_snoc' l k (by omega)
          show _ = _
          rw [e, crcReg_snoc, ← hn.out, hx.out]; rfl
        have hn0 : Hid (bits BinOp.xor IntKind.u32 (n : Int) (x : Int) = ((n ^^^ x : Nat) : Int)) := u32_xor_nat n x hlt0 (by omega)
        have hnx : n ^^^ x < 4294967296 := Nat.xor_lt_two_pow (n := 32) (by omega) (by omega)
        clear hn hx
        go_wp2
        go_loop [3, 6, 17] (fun r _ i => ∃ j m : Nat, j ≤ 8 ∧ Hid (m = iter8 j (n ^^^ x)) ∧ i = .int .i64 j ∧ r = .int .u32 m) (fun _ _ i => 8 - (intOf i).toNat)
        case atStart => exact ⟨0, n ^^^ x, by omega, rfl, rfl, by rw [hn0.out]⟩
        case round =>
          obtain ⟨j, m, hj, hm, rfl, rfl⟩ := hrel
          have hml : m < 4294967296 := by rw [hm.out]; exact iter8_lt _ _ hnx
          by_cases hlt : j < 8
          · have hs : Hid (iter8 (j + 1) (n ^^^ x) = bit1 m) := by show _ = _; rw [iter8_succ, ← hm.out]
            clear hm
            go_wp2
            · go_round
              case rel => exact ⟨j + 1, bit1 m, by omega, hs.out.symm, by go_num, by rw [bit_odd m hml (by assumption)]⟩
              case measure => simp [intOf]; omega
            · go_round
              case rel => exact ⟨j + 1, bit1 m, by omega, hs.out.symm, by go_num, by rw [bit_even m hml (by assumption)]⟩
              case measure => simp [intOf]; omega
          · obtain rfl : j = 8 := by omega
            go_wp2
            go_round
            case rel => exact ⟨k + 1, m, by omega, by show _ = _; rw [hsn.out, hm.out]; rfl, by go_num, rfl⟩
            case measure => simp [intOf]; omega
      · obtain rfl : k = len := by omega
        go_wp2
        go_ret
        exact ⟨ret_int (by rw [flip32 n hlt0]; unfold crc; rw [hn.out, List.take_of_length_le (by omega)]), rfl⟩

set_option maxHeartbeats 1000000 in
theorem rsum_any (a : Option Addr) (len cap : Nat) (l : List Int) (w : World) (hs : Sl .u8 w a len cap l) :
    Calls Try.prog 27 #[.slice a len cap] w fun e w' => e = .returned (.int .u32 (crc l : Nat)) ∧ w = w' := by
  obtain ⟨hz, hl, hm, hw, hn, h0⟩ := hs
  have hb := byte_of_wf hw
  clear hw
  unfold maxLen at hm
  rcases h0 with h0 | ⟨b, off, rfl, hlt, hcell⟩
  · subst h0
    obtain rfl : l = [] := List.eq_nil_of_length_eq_zero hz
    go_enter Try.func27, Try.ntmps27
    go_wp2
    refine wp_loop_rounds 1 ?_
    rw [rounds_succ]
    go_wp2
    go_ret
    exact ⟨ret_int (flip32 4294967295 (by omega)), rfl⟩
  · have HC : Hid _ := hcell
    clear hcell hn hlt
    go_enter Try.func27, Try.ntmps27
    go_wp2
    go_loop [3, 5, 6, 7, 10] (fun r _ _ _ i => ∃ k n : Nat, k ≤ len ∧ Hid (n = crcReg (l.take k)) ∧ i = .int .i64 k ∧ r = .int .u32 n) (fun _ _ _ _ i => len - (intOf i).toNat)
    case atStart => exact ⟨0, 4294967295, Nat.zero_le _, rfl, rfl, rfl⟩
    case round =>
      obtain ⟨k, n, hk, hn, rfl, rfl⟩ := hrel
      have hlt0 : n < 4294967296 := by rw [hn.out]; exact crcReg_lt _ (byte_take hb k)
      by_cases hlt : k < len
      · obtain ⟨x, hc, hx⟩ := row_at HC.out k hlt
        have hbk : 0 ≤ x ∧ x ≤ 255 := by rw [← hx.out]; exact byte_getD hb k
        obtain ⟨hx0, hx1⟩ := hbk
        obtain ⟨x, rfl⟩ : ∃ y : Nat, x = y := ⟨x.toNat, by omega⟩
        have hsn : Hid (crcReg (l.take (k + 1)) = crcStep n x) := by
          have e := take_snoc' l k (by omega)
          show _ = _
          rw [e, crcReg_snoc, ← hn.out, hx.out]; rfl
        have hn0 : Hid (bits BinOp.xor IntKind.u32 (n : Int) (x : Int) = ((n ^^^ x : Nat) : Int)) := u32_xor_nat n x hlt0 (by omega)
        have hnx : n ^^^ x < 4294967296 := Nat.xor_lt_two_pow (n := 32) (by omega) (by omega)
        clear hn hx
        go_wp2
        go_loop [3, 6, 7] (fun r i _ => ∃ j m : Nat, j ≤ 8 ∧ Hid (m = iter8 j (n ^^^ x)) ∧ i = .int .i64 j ∧ r = .int .u32 m) (fun _ i _ => 8 - (intOf i).toNat)
        case atStart => exact ⟨0, n ^^^ x, by omega, rfl, rfl, by rw [hn0.out]⟩
        case round =>
          obtain ⟨j, m, hj, hm, rfl, rfl⟩ := hrel
          have hml : m < 4294967296 := by rw [hm.out]; exact iter8_lt _ _ hnx
          by_cases hlt : j < 8
          · have hs : Hid (iter8 (j + 1) (n ^^^ x) = bit1 m) := by show _ = _; rw [iter8_succ, ← hm.out]
            clear hm
            go_wp2
            · go_round
              case rel => exact ⟨j + 1, bit1 m, by omega, hs.out.symm, by go_num, by rw [bit_odd m hml (by assumption)]⟩
              case measure => simp [intOf]; omega
            · go_round
              case rel => exact ⟨j + 1, bit1 m, by omega, hs.out.symm, by go_num, by rw [bit_even m hml (by assumption)]⟩
              case measure => simp [intOf]; omega
          · obtain rfl : j = 8 := by omega
            go_wp2
            go_round
            case rel => exact ⟨k + 1, m, by omega, by show _ = _; rw [hsn.out, hm.out]; rfl, by go_num, rfl⟩
            case measure => simp [intOf]; omega
      · obtain rfl : k = len := by omega
        go_wp2
        go_ret
        exact ⟨ret_int (by rw [flip32 n hlt0]; unfold crc; rw [hn.out, List.take_of_length_le (by omega)]), rfl⟩

set_option maxHeartbeats 1000000 in
theorem hash_any (a : Option Addr) (len cap : Nat) (l : List Int) (w : World) (hs : Sl .u8 w a len cap l) :
    Calls Try.prog 28 #[.slice a len cap] w fun e w' => e = .returned (.int .u64 (fnv l : Nat)) ∧ w = w' := by
  obtain ⟨hz, hl, hm, hw, hn, h0⟩ := hs
  have hb := byte_of_wf hw
  clear hw
  unfold maxLen at hm
  rcases h0 with h0 | ⟨b, off, rfl, hlt, hcell⟩
  · subst h0
    obtain rfl : l = [] := List.eq_nil_of_length_eq_zero hz
    go_enter Try.func28, Try.ntmps28
    go_wp2
    refine wp_loop_rounds 1 ?_
    rw [rounds_succ]
    go_wp2
    go_ret
    exact ⟨rfl, rfl⟩
  · have HC : Hid _ := hcell
    clear hcell hn hlt
    go_enter Try.func28, Try.ntmps28
    go_wp2
    go_loop [3, 5, 8] (fun r _ i => ∃ k n : Nat, k ≤ len ∧ Hid (n = fnv (l.take k)) ∧ i = .int .i64 k ∧ r = .int .u64 n) (fun _ _ i => len - (intOf i).toNat)
    case atStart => exact ⟨0, 14695981039346656037, Nat.zero_le _, rfl, rfl, rfl⟩
    case round =>
      obtain ⟨k, n, hk, hn, rfl, rfl⟩ := hrel
      by_cases hlt : k < len
      · obtain ⟨x, hc, hx⟩ := row_at HC.out k hlt
        have hbk : 0 ≤ x ∧ x ≤ 255 := by rw [← hx.out]; exact byte_getD hb k
        obtain ⟨hx0, hx1⟩ := hbk
        obtain ⟨x, rfl⟩ : ∃ y : Nat, x = y := ⟨x.toNat, by omega⟩
        have hsn : Hid (fnv (l.take (k + 1)) = fnvStep n x ∧ n < 18446744073709551616) := by
          have e := take_snoc' l k (by omega)
          refine ⟨?_, by rw [hn.out]; exact fnv_lt _⟩
          rw [e, fnv_snoc, ← hn.out, hx.out, Int.toNat_natCast]
        clear hn hx
        go_wp2
        go_round
        case rel => exact ⟨k + 1, fnvStep n x, by omega, hsn.out.1.symm, by go_num, by rw [fnv_step n x hsn.out.2 (by omega)]⟩
        case measure => simp [intOf]; omega
      · obtain rfl : k = len := by omega
        go_wp2
        go_ret
        exact ⟨ret_int (by rw [hn.out, List.take_of_length_le (by omega)]), rfl⟩

set_option maxHeartbeats 1000000 in
theorem rhash_any (a : Option Addr) (len cap : Nat) (l : List Int) (w : World) (hs : Sl .u8 w a len cap l) :
    Calls Try.prog 29 #[.slice a len cap] w fun e w' => e = .returned (.int .u64 (fnv l : Nat)) ∧ w = w' := by
  obtain ⟨hz, hl, hm, hw, hn, h0⟩ := hs
  have hb := byte_of_wf hw
  clear hw
  unfold maxLen at hm
  rcases h0 with h0 | ⟨b, off, rfl, hlt, hcell⟩
  · subst h0
    obtain rfl : l = [] := List.eq_nil_of_length_eq_zero hz
    go_enter Try.func29, Try.ntmps29
    go_wp2
    refine wp_loop_rounds 1 ?_
    rw [rounds_succ]
    go_wp2
    go_ret
    exact ⟨rfl, rfl⟩
  · have HC : Hid _ := hcell
    clear hcell hn hlt
    go_enter Try.func29, Try.ntmps29
    go_wp2
    go_loop [3, 5, 8] (fun r _ i => ∃ k n : Nat, k ≤ len ∧ Hid (n = fnv (l.take k)) ∧ i = .int .i64 k ∧ r = .int .u64 n) (fun _ _ i => len - (intOf i).toNat)
    case atStart => exact ⟨0, 14695981039346656037, Nat.zero_le _, rfl, rfl, rfl⟩
    case round =>
      obtain ⟨k, n, hk, hn, rfl, rfl⟩ := hrel
      by_cases hlt : k < len
      · obtain ⟨x, hc, hx⟩ := row_at HC.out k hlt
        have hbk : 0 ≤ x ∧ x ≤ 255 := by rw [← hx.out]; exact byte_getD hb k
        obtain ⟨hx0, hx1⟩ := hbk
        obtain ⟨x, rfl⟩ : ∃ y : Nat, x = y := ⟨x.toNat, by omega⟩
        have hsn : Hid (fnv (l.take (k + 1)) = fnvStep n x ∧ n < 18446744073709551616) := by
          have e := take_snoc' l k (by omega)
          refine ⟨?_, by rw [hn.out]; exact fnv_lt _⟩
          rw [e, fnv_snoc, ← hn.out, hx.out, Int.toNat_natCast]
        clear hn hx
        go_wp2
        go_round
        case rel => exact ⟨k + 1, fnvStep n x, by omega, hsn.out.1.symm, by go_num, by rw [fnv_step n x hsn.out.2 (by omega)]⟩
        case measure => simp [intOf]; omega
      · obtain rfl : k = len := by omega
        go_wp2
        go_ret
        exact ⟨ret_int (by rw [hn.out, List.take_of_length_le (by omega)]), rfl⟩

end Go.Proofs.Ytimogkkkpkcblaa
