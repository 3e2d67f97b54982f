/- What put and its reference make: no statement is proved here. -/
import Derived.Test.YtimogkkkpkcblaaWireSpec
namespace Go.Proofs.Ytimogkkkpkcblaa
open Go.ChangeShapes Go.WideShapes Go.ChangeAt Go.RowKit
set_option linter.unusedVariables false

set_option maxHeartbeats 2000000 in
theorem put16_any (a : Option Addr) (len cap : Nat) (l : List Int) (n : Nat) (hn : n < 65536) (w : World) (hs : Sl .u8 w a len cap l) (hlen : len ≤ 100000) :
    Calls Try.prog 32 #[.slice a len cap, .int .u16 n, .int .i64 2] w fun e w' => ∃ v, e = .returned v ∧ Hid (Made w.heap.size .u8 w' v (l ++ le n 2)) ∧ Below w.heap.size w w' := by
  obtain ⟨hz, hl, hm, hw, hnn, h0⟩ := id hs
  unfold maxLen at hm
  have hmk : ∀ w : World, (Instr.makeSlice 22 (.int .i64 (len : Int)) (.int .i64 ((len : Int) + 2))).run Try.prog w = .ok (.slice (some ⟨w.heap.size, 0, none⟩) len (len + 2)) (w.alloc (.cells (madeCells #[.int .u8 0] (len + 2)) 5)) :=
    run_make_lc Try.underlying22 info_u8 _ _ len (len + 2) rfl rfl (by omega) (by omega) (by omega)
  obtain ⟨w2, hcp, hrow, hgr⟩ := run_copy_sl (P := Try.prog) (sT := 22) (ty := 3) (dCap := len + 2) Try.underlying22 (by kernel_rfl) (hs.below ((Below.refl _ w).alloc (Nat.le_refl _) (.cells (madeCells #[.int .u8 0] (len + 2)) 5))) (heap_alloc_new w _) (by simp [size_madeCells])
  have hbel : Below w.heap.size w w2 := ((Below.refl _ w).alloc (Nat.le_refl _) _).grown hgr (by simp) (by intro k hk; cases hk; exact Nat.le_refl _)
  have hown : w2.ownsRow w.heap.size 5 1 (.slice (some ⟨w.heap.size, 0, none⟩) len (len + 2)) len (l.map (Value.int .u8)) :=
    owns_row hrow (by omega) (by unfold maxLen; omega) (by simp [size_madeCells, hz]) (by simpa using hz) (by simp [hz])
  have HB := hid hbel
  have HO := hid hown
  have HW := hid hw
  have HZ := hid hz
  clear hs hz hw hnn h0 hrow hgr hbel hown
  obtain ⟨i0, hi, hz0, hz1, hz2⟩ := info_parts info_u8
  have HI := hid hi
  have HZ1 := hid hz1
  clear hi hz0 hz1 hz2
  go_enter Try.func32, Try.ntmps32
  go_wp2
  go_loopw [7, 8, 20] (fun v _ i wr => ∃ k : Nat, k ≤ 2 ∧ i = .int .i64 k ∧ v = .slice (some ⟨w.heap.size, 0, none⟩) (len + k) (len + 2) ∧ Hid (wr.ownsRow w.heap.size 5 1 v (len + k) ((l ++ le n k).map (Value.int .u8))) ∧ Hid (Below w.heap.size w wr)) (fun _ _ i _ => 2 - (intOf i).toNat)
  case atStart => exact ⟨0, Nat.zero_le _, rfl, rfl, by rw [le, List.append_nil]; exact HO, HB⟩
  case round =>
    obtain ⟨k, hk, rfl, rfl, hown, hbel⟩ := hrel
    by_cases hlt : k < 2
    · go_wp2_with (at_builtin; refine wpList_append_fits _ rfl (.tmp 23) (.tmp 29) 22 rfl w.heap.size 5 i0 1 Try.underlying22 HI.out HZ1.out w.heap.size (len + k) (len + 2) _ rfl (hown.out.alloc _) ⟨wr.heap.size, 0, none⟩ 1 1 [.int .u8 ((n : Int) / 2 ^ (8 * k) % 256)] rfl rfl one_cell_at (by intro u hu; simp at hu; subst hu; rfl) (by omega) ?_)
      intro w3 hown3 hgr3
      have H3 := hid hown3
      have hb3 : Below w.heap.size w w3 := (hbel.out.alloc (Nat.le_of_lt (owns_lt hown.out).2) _).grown hgr3 (by have := (owns_lt hown.out).2; simp; omega) (by intro k' hk'; cases hk'; exact Nat.le_refl _)
      have H4 := hid hb3
      clear hown3 hgr3 hown hbel hb3
      go_wp2
      go_roundw
      case rel => exact ⟨k + 1, by omega, by go_num, rfl, by rw [le_map_succ, List.map_append, List.append_assoc]; exact H3, H4⟩
      case measure => simp [intOf]; omega
    · obtain rfl : k = 2 := by omega
      go_wp2
      go_ret
      exact ⟨_, rfl, made_of_own rfl (wf_append HW.out (le_byte _ _)) (by rw [List.length_append, le_length, HZ.out]) hown.out, hbel.out⟩

set_option maxHeartbeats 2000000 in
theorem put32_any (a : Option Addr) (len cap : Nat) (l : List Int) (n : Nat) (hn : n < 4294967296) (w : World) (hs : Sl .u8 w a len cap l) (hlen : len ≤ 100000) :
    Calls Try.prog 33 #[.slice a len cap, .int .u32 n, .int .i64 4] w fun e w' => ∃ v, e = .returned v ∧ Hid (Made w.heap.size .u8 w' v (l ++ le n 4)) ∧ Below w.heap.size w w' := by
  obtain ⟨hz, hl, hm, hw, hnn, h0⟩ := id hs
  unfold maxLen at hm
  have hmk : ∀ w : World, (Instr.makeSlice 22 (.int .i64 (len : Int)) (.int .i64 ((len : Int) + 4))).run Try.prog w = .ok (.slice (some ⟨w.heap.size, 0, none⟩) len (len + 4)) (w.alloc (.cells (madeCells #[.int .u8 0] (len + 4)) 5)) :=
    run_make_lc Try.underlying22 info_u8 _ _ len (len + 4) rfl rfl (by omega) (by omega) (by omega)
  obtain ⟨w2, hcp, hrow, hgr⟩ := run_copy_sl (P := Try.prog) (sT := 22) (ty := 3) (dCap := len + 4) Try.underlying22 (by kernel_rfl) (hs.below ((Below.refl _ w).alloc (Nat.le_refl _) (.cells (madeCells #[.int .u8 0] (len + 4)) 5))) (heap_alloc_new w _) (by simp [size_madeCells])
  have hbel : Below w.heap.size w w2 := ((Below.refl _ w).alloc (Nat.le_refl _) _).grown hgr (by simp) (by intro k hk; cases hk; exact Nat.le_refl _)
  have hown : w2.ownsRow w.heap.size 5 1 (.slice (some ⟨w.heap.size, 0, none⟩) len (len + 4)) len (l.map (Value.int .u8)) :=
    owns_row hrow (by omega) (by unfold maxLen; omega) (by simp [size_madeCells, hz]) (by simpa using hz) (by simp [hz])
  have HB := hid hbel
  have HO := hid hown
  have HW := hid hw
  have HZ := hid hz
  clear hs hz hw hnn h0 hrow hgr hbel hown
  obtain ⟨i0, hi, hz0, hz1, hz2⟩ := info_parts info_u8
  have HI := hid hi
  have HZ1 := hid hz1
  clear hi hz0 hz1 hz2
  go_enter Try.func33, Try.ntmps33
  go_wp2
  go_loopw [7, 8, 20] (fun v _ i wr => ∃ k : Nat, k ≤ 4 ∧ i = .int .i64 k ∧ v = .slice (some ⟨w.heap.size, 0, none⟩) (len + k) (len + 4) ∧ Hid (wr.ownsRow w.heap.size 5 1 v (len + k) ((l ++ le n k).map (Value.int .u8))) ∧ Hid (Below w.heap.size w wr)) (fun _ _ i _ => 4 - (intOf i).toNat)
  case atStart => exact ⟨0, Nat.zero_le _, rfl, rfl, by rw [le, List.append_nil]; exact HO, HB⟩
  case round =>
    obtain ⟨k, hk, rfl, rfl, hown, hbel⟩ := hrel
    by_cases hlt : k < 4
    · go_wp2_with (at_builtin; refine wpList_append_fits _ rfl (.tmp 23) (.tmp 29) 22 rfl w.heap.size 5 i0 1 Try.underlying22 HI.out HZ1.out w.heap.size (len + k) (len + 4) _ rfl (hown.out.alloc _) ⟨wr.heap.size, 0, none⟩ 1 1 [.int .u8 ((n : Int) / 2 ^ (8 * k) % 256)] rfl rfl one_cell_at (by intro u hu; simp at hu; subst hu; rfl) (by omega) ?_)
      intro w3 hown3 hgr3
      have H3 := hid hown3
      have hb3 : Below w.heap.size w w3 := (hbel.out.alloc (Nat.le_of_lt (owns_lt hown.out).2) _).grown hgr3 (by have := (owns_lt hown.out).2; simp; omega) (by intro k' hk'; cases hk'; exact Nat.le_refl _)
      have H4 := hid hb3
      clear hown3 hgr3 hown hbel hb3
      go_wp2
      go_roundw
      case rel => exact ⟨k + 1, by omega, by go_num, rfl, by rw [le_map_succ, List.map_append, List.append_assoc]; exact H3, H4⟩
      case measure => simp [intOf]; omega
    · obtain rfl : k = 4 := by omega
      go_wp2
      go_ret
      exact ⟨_, rfl, made_of_own rfl (wf_append HW.out (le_byte _ _)) (by rw [List.length_append, le_length, HZ.out]) hown.out, hbel.out⟩

set_option maxHeartbeats 2000000 in
theorem put64_any (a : Option Addr) (len cap : Nat) (l : List Int) (n : Nat) (hn : n < 18446744073709551616) (w : World) (hs : Sl .u8 w a len cap l) (hlen : len ≤ 100000) :
    Calls Try.prog 34 #[.slice a len cap, .int .u64 n, .int .i64 8] w fun e w' => ∃ v, e = .returned v ∧ Hid (Made w.heap.size .u8 w' v (l ++ le n 8)) ∧ Below w.heap.size w w' := by
  obtain ⟨hz, hl, hm, hw, hnn, h0⟩ := id hs
  unfold maxLen at hm
  have hmk : ∀ w : World, (Instr.makeSlice 22 (.int .i64 (len : Int)) (.int .i64 ((len : Int) + 8))).run Try.prog w = .ok (.slice (some ⟨w.heap.size, 0, none⟩) len (len + 8)) (w.alloc (.cells (madeCells #[.int .u8 0] (len + 8)) 5)) :=
    run_make_lc Try.underlying22 info_u8 _ _ len (len + 8) rfl rfl (by omega) (by omega) (by omega)
  obtain ⟨w2, hcp, hrow, hgr⟩ := run_copy_sl (P := Try.prog) (sT := 22) (ty := 3) (dCap := len + 8) Try.underlying22 (by kernel_rfl) (hs.below ((Below.refl _ w).alloc (Nat.le_refl _) (.cells (madeCells #[.int .u8 0] (len + 8)) 5))) (heap_alloc_new w _) (by simp [size_madeCells])
  have hbel : Below w.heap.size w w2 := ((Below.refl _ w).alloc (Nat.le_refl _) _).grown hgr (by simp) (by intro k hk; cases hk; exact Nat.le_refl _)
  have hown : w2.ownsRow w.heap.size 5 1 (.slice (some ⟨w.heap.size, 0, none⟩) len (len + 8)) len (l.map (Value.int .u8)) :=
    owns_row hrow (by omega) (by unfold maxLen; omega) (by simp [size_madeCells, hz]) (by simpa using hz) (by simp [hz])
  have HB := hid hbel
  have HO := hid hown
  have HW := hid hw
  have HZ := hid hz
  clear hs hz hw hnn h0 hrow hgr hbel hown
  obtain ⟨i0, hi, hz0, hz1, hz2⟩ := info_parts info_u8
  have HI := hid hi
  have HZ1 := hid hz1
  clear hi hz0 hz1 hz2
  go_enter Try.func34, Try.ntmps34
  go_wp2
  go_loopw [7, 8, 20] (fun v _ i wr => ∃ k : Nat, k ≤ 8 ∧ i = .int .i64 k ∧ v = .slice (some ⟨w.heap.size, 0, none⟩) (len + k) (len + 8) ∧ Hid (wr.ownsRow w.heap.size 5 1 v (len + k) ((l ++ le n k).map (Value.int .u8))) ∧ Hid (Below w.heap.size w wr)) (fun _ _ i _ => 8 - (intOf i).toNat)
  case atStart => exact ⟨0, Nat.zero_le _, rfl, rfl, by rw [le, List.append_nil]; exact HO, HB⟩
  case round =>
    obtain ⟨k, hk, rfl, rfl, hown, hbel⟩ := hrel
    by_cases hlt : k < 8
    · go_wp2_with (at_builtin; refine wpList_append_fits _ rfl (.tmp 23) (.tmp 29) 22 rfl w.heap.size 5 i0 1 Try.underlying22 HI.out HZ1.out w.heap.size (len + k) (len + 8) _ rfl (hown.out.alloc _) ⟨wr.heap.size, 0, none⟩ 1 1 [.int .u8 ((n : Int) / 2 ^ (8 * k) % 256)] rfl rfl one_cell_at (by intro u hu; simp at hu; subst hu; rfl) (by omega) ?_)
      intro w3 hown3 hgr3
      have H3 := hid hown3
      have hb3 : Below w.heap.size w w3 := (hbel.out.alloc (Nat.le_of_lt (owns_lt hown.out).2) _).grown hgr3 (by have := (owns_lt hown.out).2; simp; omega) (by intro k' hk'; cases hk'; exact Nat.le_refl _)
      have H4 := hid hb3
      clear hown3 hgr3 hown hbel hb3
      go_wp2
      go_roundw
      case rel => exact ⟨k + 1, by omega, by go_num, rfl, by rw [le_map_succ, List.map_append, List.append_assoc]; exact H3, H4⟩
      case measure => simp [intOf]; omega
    · obtain rfl : k = 8 := by omega
      go_wp2
      go_ret
      exact ⟨_, rfl, made_of_own rfl (wf_append HW.out (le_byte _ _)) (by rw [List.length_append, le_length, HZ.out]) hown.out, hbel.out⟩

set_option maxHeartbeats 2000000 in
theorem rput_any (a : Option Addr) (len cap : Nat) (l : List Int) (n sz : Nat) (hsz : sz ≤ 8) (w : World) (hs : Sl .u8 w a len cap l) (hlen : len ≤ 100000) :
    Calls Try.prog 31 #[.slice a len cap, .int .u64 n, .int .i64 sz] w fun e w' => ∃ v, e = .returned v ∧ Hid (Made w.heap.size .u8 w' v (l ++ le n sz)) ∧ Below w.heap.size w w' := by
  have hz := hs.1
  have hw := hs.2.2.2.1
  have HS := hid hs
  have HW := hid hw
  have HZ := hid hz
  clear hs hz hw
  go_enter Try.func31, Try.ntmps31
  go_wp2_with (at_builtin; refine wpList_append_sl w rfl (.const (.slice none 0 0)) (.tmp 9) 22 rfl .u8 5 (.int .u8 0) 1 Try.underlying22 info_u8 rfl w.heap.size (.slice none 0 0) 0 [] (World.ownsRow_nil w w.heap.size 5 1) rfl a len cap l rfl HS.out (by unfold maxLen; omega) (by omega) (Nat.le_refl _) ?_)
  intro v1 w1 hown1 hgr1
  have HB : Hid (Below w.heap.size w w1) := (Below.refl _ w).grown hgr1.out (Nat.le_refl _) (by intro k hk; cases hk)
  clear hgr1
  go_wp2
  go_loopw [7, 8] (fun v i wr => ∃ k : Nat, k ≤ sz ∧ i = .int .i64 k ∧ Hid (wr.ownsRow w.heap.size 5 1 v (len + k) ((l ++ le n k).map (Value.int .u8))) ∧ Hid (Below w.heap.size w wr)) (fun _ i _ => sz - (intOf i).toNat)
  case atStart => exact ⟨0, Nat.zero_le _, rfl, by rw [le, List.append_nil]; simpa [Hid] using hown1, HB⟩
  case round =>
    obtain ⟨k, hk, rfl, hown, hbel⟩ := hrel
    by_cases hlt : k < sz
    · go_wp2_with (at_builtin; refine wpList_append_1 wr rfl (.tmp 16) (.tmp 22) 22 rfl .u8 5 (.int .u8 0) 1 Try.underlying22 info_u8 rfl w.heap.size _ (len + k) _ hown.out rfl ((n : Int) / 2 ^ (8 * k) % 256) rfl (by unfold maxLen; omega) (by omega) hbel.out.size ?_)
      intro v3 w3 hown3 hgr3
      have hb3 : Hid (Below w.heap.size w w3) := (hbel.out.alloc hbel.out.size _).grown hgr3.out (by have := hbel.out.size; simp; omega) (fun k' hk' => (hown.out.lt k' hk').1)
      clear hgr3 hown hbel
      go_wp2
      go_roundw
      case rel => exact ⟨k + 1, by omega, by go_num, by rw [le_map_succ, List.map_append, List.append_assoc]; exact hown3, hb3⟩
      case measure => simp [intOf]; omega
    · obtain rfl : k = sz := by omega
      go_wp2
      go_ret
      exact ⟨_, rfl, made_of_own rfl (wf_append HW.out (le_byte _ _)) (by rw [List.length_append, le_length, HZ.out]) hown.out, hbel.out⟩

set_option maxHeartbeats 2000000 in
theorem rput_own (a : Option Addr) (len cap : Nat) (l : List Int) (n sz : Nat) (hsz : sz ≤ 8) (w : World) (hs : Sl .u8 w a len cap l) (hlen : len ≤ 100000) :
    Calls Try.prog 31 #[.slice a len cap, .int .u64 n, .int .i64 sz] w fun e w' => ∃ v, e = .returned v ∧ Hid (w'.ownsRow w.heap.size 5 1 v (len + sz) ((l ++ le n sz).map (Value.int .u8))) ∧ Below w.heap.size w w' := by
  have hz := hs.1
  have hw := hs.2.2.2.1
  have HS := hid hs
  have HW := hid hw
  have HZ := hid hz
  clear hs hz hw
  go_enter Try.func31, Try.ntmps31
  go_wp2_with (at_builtin; refine wpList_append_sl w rfl (.const (.slice none 0 0)) (.tmp 9) 22 rfl .u8 5 (.int .u8 0) 1 Try.underlying22 info_u8 rfl w.heap.size (.slice none 0 0) 0 [] (World.ownsRow_nil w w.heap.size 5 1) rfl a len cap l rfl HS.out (by unfold maxLen; omega) (by omega) (Nat.le_refl _) ?_)
  intro v1 w1 hown1 hgr1
  have HB : Hid (Below w.heap.size w w1) := (Below.refl _ w).grown hgr1.out (Nat.le_refl _) (by intro k hk; cases hk)
  clear hgr1
  go_wp2
  go_loopw [7, 8] (fun v i wr => ∃ k : Nat, k ≤ sz ∧ i = .int .i64 k ∧ Hid (wr.ownsRow w.heap.size 5 1 v (len + k) ((l ++ le n k).map (Value.int .u8))) ∧ Hid (Below w.heap.size w wr)) (fun _ i _ => sz - (intOf i).toNat)
  case atStart => exact ⟨0, Nat.zero_le _, rfl, by rw [le, List.append_nil]; simpa [Hid] using hown1, HB⟩
  case round =>
    obtain ⟨k, hk, rfl, hown, hbel⟩ := hrel
    by_cases hlt : k < sz
    · go_wp2_with (at_builtin; refine wpList_append_1 wr rfl (.tmp 16) (.tmp 22) 22 rfl .u8 5 (.int .u8 0) 1 Try.underlying22 info_u8 rfl w.heap.size _ (len + k) _ hown.out rfl ((n : Int) / 2 ^ (8 * k) % 256) rfl (by unfold maxLen; omega) (by omega) hbel.out.size ?_)
      intro v3 w3 hown3 hgr3
      have hb3 : Hid (Below w.heap.size w w3) := (hbel.out.alloc hbel.out.size _).grown hgr3.out (by have := hbel.out.size; simp; omega) (fun k' hk' => (hown.out.lt k' hk').1)
      clear hgr3 hown hbel
      go_wp2
      go_roundw
      case rel => exact ⟨k + 1, by omega, by go_num, by rw [le_map_succ, List.map_append, List.append_assoc]; exact hown3, hb3⟩
      case measure => simp [intOf]; omega
    · obtain rfl : k = sz := by omega
      go_wp2
      go_ret
      exact ⟨_, rfl, hown, hbel.out⟩

end Go.Proofs.Ytimogkkkpkcblaa
