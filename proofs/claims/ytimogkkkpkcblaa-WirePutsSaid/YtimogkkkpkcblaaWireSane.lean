/- The sanity check of layer 1 returns true: no statement is proved here. -/
import Derived.Test.YtimogkkkpkcblaaWirePut
import Derived.Test.YtimogkkkpkcblaaWireSums
namespace Go.Proofs.Ytimogkkkpkcblaa
open Go.ChangeShapes Go.WideShapes Go.ChangeAt Go.RowKit
set_option linter.unusedVariables false

theorem Put16_any (a : Option Addr) (len cap : Nat) (l : List Int) (n : Nat) (hn : n < 65536) (w : World) (hs : Sl .u8 w a len cap l) (hlen : len ≤ 100000) :
    Calls Try.prog 12 #[.slice a len cap, .int .u16 n] w fun e w' => ∃ v, e = .returned v ∧ Hid (Made w.heap.size .u8 w' v (l ++ le n 2)) ∧ Below w.heap.size w w' := by
  go_enter Try.func12, Try.ntmps12
  go_wp2_with (go_at_call 32; refine (put16_any a len cap l n hn w hs hlen).mono ?_; rintro e w' ⟨v, rfl, hv, hb⟩)
  go_ret
  exact ⟨_, rfl, by assumption, by assumption⟩

theorem crc_check : crc [49, 50, 51, 52, 53, 54, 55, 56, 57] = 3421780262 := by kernel_rfl
theorem crc_nil : crc [] = 0 := by kernel_rfl
theorem put_check : strOfNums ([] ++ le 258 2) = ⟨#[2, 1]⟩ := by kernel_rfl
theorem put_nil (w : World) :
    Calls Try.prog 12 #[.slice none 0 0, .int .u16 258] w fun e w' => ∃ a cap, e = .returned (.slice a 2 cap) ∧ (convert 22 9 (.slice a 2 cap)).run Try.prog w' = .ok (.string ⟨#[2, 1]⟩) w' ∧ Below w.heap.size w w' := by
  refine (Put16_any none 0 0 [] 258 (by omega) w (sl_nil _ _) (by omega)).mono ?_
  rintro e w1 ⟨v, rfl, hv, hb⟩
  obtain ⟨a, cap, rfl, hsl, _⟩ := hv.out
  have h := run_string_sl (P := Try.prog) Try.underlying22 Try.underlying5 hsl 9 Try.underlying9
  rw [put_check] at h
  exact ⟨a, cap, rfl, h, hb⟩
theorem sum_nine (w : World) :
    Calls Try.prog 26 #[.slice (some ⟨w.heap.size, 0, none⟩) 9 9] (w.alloc (.cells #[.int .u8 49, .int .u8 50, .int .u8 51, .int .u8 52, .int .u8 53, .int .u8 54, .int .u8 55, .int .u8 56, .int .u8 57] 5 (9, 10))) fun e w' => e = .returned (.int .u32 3421780262) ∧ w.alloc (.cells #[.int .u8 49, .int .u8 50, .int .u8 51, .int .u8 52, .int .u8 53, .int .u8 54, .int .u8 55, .int .u8 56, .int .u8 57] 5 (9, 10)) = w' := by
  refine (sum_any _ 9 9 [49, 50, 51, 52, 53, 54, 55, 56, 57] _ (sl_lit [49, 50, 51, 52, 53, 54, 55, 56, 57] (by decide) (by decide))).mono ?_
  rintro e w1 ⟨rfl, rfl⟩
  exact ⟨ret_int (by rw [crc_check]; rfl), rfl⟩
theorem sum_nil (w : World) : Calls Try.prog 26 #[.slice none 0 0] w fun e w' => e = .returned (.int .u32 0) ∧ w = w' := by
  refine (sum_any none 0 0 [] w (sl_nil _ _)).mono ?_
  rintro e w1 ⟨rfl, rfl⟩
  exact ⟨ret_int (by rw [crc_nil]; rfl), rfl⟩
theorem hash_nil (w : World) : Calls Try.prog 28 #[.slice none 0 0] w fun e w' => e = .returned (.int .u64 14695981039346656037) ∧ w = w' := by
  refine (hash_any none 0 0 [] w (sl_nil _ _)).mono ?_
  rintro e w1 ⟨rfl, rfl⟩
  exact ⟨rfl, rfl⟩

set_option maxHeartbeats 1000000 in
theorem sane_any (w : World) : Calls Try.prog 9 #[] w fun e w' => e = .returned (.bool true) ∧ Below w.heap.size w w' := by
  have kc := fun (w : World) (C : Array Value) (n c : Nat) => Lib.run_convert_bytes_const (P := Try.prog) w 22 5 C n c Try.underlying22 Try.underlying5
  go_enter Try.func9, Try.ntmps9
  go_wp2_with (first
    | (go_at_call 12; refine (put_nil w).mono ?_; rintro e w1 ⟨a, cap, rfl, hcv, hb⟩)
    | (go_at_call 26; ((with_reducible refine (sum_nine _).mono ?_); rintro e w2 ⟨rfl, rfl⟩))
    | (go_at_call 26; ((with_reducible refine (sum_nil _).mono ?_); rintro e w2 ⟨rfl, rfl⟩))
    | (go_at_call 28; ((with_reducible refine (hash_nil _).mono ?_); rintro e w2 ⟨rfl, rfl⟩)))
  go_ret
  exact ⟨rfl, hb.alloc hb.size _⟩

set_option maxHeartbeats 1000000 in
theorem wireSums_walk (a : Option Addr) (len cap : Nat) (l : List Int) (w : World) (hs : Sl .u8 w a len cap l) :
    Calls Try.prog 5 #[.slice a len cap] w fun e w' => e = .returned (.bool true) ∧ Below w.heap.size w w' := by
  have HS := hid hs
  have hm : Hid (len ≤ 9223372036854775807) := by have h1 := hs.2.1; have h2 := hs.2.2.1; unfold maxLen at h2; show _ ≤ _; omega
  clear hs
  by_cases hlen : len ≤ 500
  · have hd : decide (500 < (len : Int)) = false := by simp; omega
    go_enter Try.func5, Try.ntmps5
    go_wp2_with (first
      | (go_at_call 9; refine (sane_any w).mono ?_; rintro e w1 ⟨rfl, hb⟩; have HB := hid hb; clear hb)
      | (go_at_call 26; ((with_reducible refine (sum_any a len cap l _ (HS.out.below HB.out)).mono ?_); rintro e w2 ⟨rfl, rfl⟩))
      | (go_at_call 27; ((with_reducible refine (rsum_any a len cap l _ (HS.out.below HB.out)).mono ?_); rintro e w2 ⟨rfl, rfl⟩))
      | (go_at_call 28; ((with_reducible refine (hash_any a len cap l _ (HS.out.below HB.out)).mono ?_); rintro e w2 ⟨rfl, rfl⟩))
      | (go_at_call 29; ((with_reducible refine (rhash_any a len cap l _ (HS.out.below HB.out)).mono ?_); rintro e w2 ⟨rfl, rfl⟩)))
    go_ret
    exact ⟨rfl, HB.out⟩
  · have hd : decide (500 < (len : Int)) = true := by simp; omega
    go_enter Try.func5, Try.ntmps5
    go_wp2_with (go_at_call 9; refine (sane_any w).mono ?_; rintro e w1 ⟨rfl, hb⟩; have HB := hid hb; clear hb)
    go_ret
    exact ⟨rfl, HB.out⟩

end Go.Proofs.Ytimogkkkpkcblaa
