/- The laws of costs return true: the walks. -/
import Derived.Test.YtehnkeiejkhocaaCost
namespace Go.Proofs.Ytehnkeiejkhocaa
open Go.ChangeShapes Go.WideShapes Go.ChangeAt Go.RowKit
set_option linter.unusedVariables false

theorem stream1 (w : World) : Calls Try.prog 8 #[.int .i64 2, .int .i64 2, .int .i64 64] w fun e w' => e = .returned (.tuple #[.int .i64 1324, .int .i64 0]) ∧ Below w.heap.size w w' := by
  have h := stream_any 2 2 64 w
  rw [show streamV 2 2 64 = (1324, 0) by decide +kernel] at h; exact h
theorem device1 (w : World) : Calls Try.prog 10 #[.int .i64 2, .int .i64 64] w fun e w' => e = .returned (.tuple #[.int .i64 1424, .int .i64 0]) ∧ Below w.heap.size w w' := by
  have h := device_any 2 64 w
  rw [show deviceV 2 64 = (1424, 0) by decide +kernel] at h; exact h
theorem total1 (w : World) : Calls Try.prog 12 #[.slice (some ⟨w.heap.size, 0, none⟩) 2 2] (w.alloc (.cells #[.int .i64 1, .int .i64 2] 3)) fun e w' => e = .returned (.int .i64 3) ∧ w.alloc (.cells #[.int .i64 1, .int .i64 2] 3) = w' := by
  have h := total_any _ 2 2 [1, 2] _ (sl_lit (w := w) (e := 3) (fr := (0, 0)) [1, 2] (by decide) (by decide))
  rw [show totalV [1, 2] = 3 by decide +kernel] at h; exact h
theorem share1 (w : World) : Calls Try.prog 14 #[.int .i64 3, .int .i64 2] w fun e w' => e = .returned (.int .i64 150) ∧ Below w.heap.size w w' := by
  have h := share_any 3 2 w
  rw [show shareV 3 2 = 150 by decide +kernel] at h; exact h

set_option maxHeartbeats 1000000 in
theorem sane_any (w : World) : Calls Try.prog 6 #[] w fun e w' => e = .returned (.bool true) ∧ Below w.heap.size w w' := by
  go_enter Try.func6, Try.ntmps6
  go_wp2_with (first
    | (go_at_call 8; ((with_reducible refine (stream1 _).mono ?_); rintro e w1 ⟨rfl, hb1⟩; have HB1 := hid hb1; clear hb1))
    | (go_at_call 10; ((with_reducible refine (device1 _).mono ?_); rintro e w2 ⟨rfl, hb2⟩; have HB2 := hid hb2; clear hb2))
    | (go_at_call 12; ((with_reducible refine (total1 _).mono ?_); rintro e w3 ⟨rfl, rfl⟩))
    | (go_at_call 14; ((with_reducible refine (share1 _).mono ?_); rintro e w4 ⟨rfl, hb4⟩; have HB4 := hid hb4; clear hb4)))
  go_ret
  exact ⟨rfl, ((HB1.out.trans (HB2.out.mono HB1.out.size)).alloc (Nat.le_trans HB1.out.size HB2.out.size) _).trans (HB4.out.mono (by have := HB1.out.size; have := HB2.out.size; simp; omega))⟩

set_option maxHeartbeats 2000000 in
theorem costSums_walk (a : Option Addr) (len cap : Nat) (l : List Int) (c k : Int) (w : World) (hs : Sl .i64 w a len cap l) :
    Calls Try.prog 4 #[.slice a len cap, .int .i64 c, .int .i64 k] w fun e w' => e = .returned (.bool true) ∧ Below w.heap.size w w' := by
  have HS := hid hs
  have hm : Hid (len ≤ 9223372036854775807) := by have h1 := hs.2.1; have h2 := hs.2.2.1; unfold maxLen at h2; show _ ≤ _; omega
  clear hs
  by_cases hlen : len ≤ 100
  · have hd : ¬ (100 < (len : Int)) := by omega
    obtain ⟨T, hT⟩ : ∃ T, totalV l = T := ⟨_, rfl⟩
    have ct : Hid (∀ w1, Below w.heap.size w w1 → Calls Try.prog 12 #[.slice a len cap] w1 fun e w' => e = .returned (.int .i64 T) ∧ w1 = w') := fun w1 hb => by rw [← hT]; exact total_any a len cap l w1 (HS.out.below hb)
    have rt : Hid (∀ w1, Below w.heap.size w w1 → Calls Try.prog 13 #[.slice a len cap] w1 fun e w' => e = .returned (.int .i64 T) ∧ w1 = w') := fun w1 hb => by rw [← hT]; exact rtotal_any a len cap l w1 (HS.out.below hb)
    have hc0 := Int.emod_nonneg c (show (5000 : Int) ≠ 0 by omega)
    have hc1 := Int.emod_lt_of_pos c (show (0 : Int) < 5000 by omega)
    have hk0 := Int.emod_nonneg k (show (5000 : Int) ≠ 0 by omega)
    have hk1 := Int.emod_lt_of_pos k (show (0 : Int) < 5000 by omega)
    have mc : Hid (∀ w, Calls Try.prog 7 #[.int .i64 c, .int .i64 5000] w fun e w' => e = .returned (.int .i64 (c % 5000)) ∧ w = w') := fun w => mod_any c 5000 (by omega) (by omega) w
    have mk : Hid (∀ w, Calls Try.prog 7 #[.int .i64 k, .int .i64 5000] w fun e w' => e = .returned (.int .i64 (k % 5000)) ∧ w = w') := fun w => mod_any k 5000 (by omega) (by omega) w
    obtain ⟨C, hC⟩ : ∃ C, c % 5000 = C := ⟨_, rfl⟩
    obtain ⟨K, hK⟩ : ∃ K, k % 5000 = K := ⟨_, rfl⟩
    rw [hC] at hc0 hc1 mc
    rw [hK] at hk0 hk1 mk
    clear hC hK hT
    go_enter Try.func4, Try.ntmps4
    go_wp2_with (first
      | (go_at_call 6; refine (sane_any w).mono ?_; rintro e w1 ⟨rfl, hb⟩; have HB := hid hb; clear hb)
      | (go_at_call 12; ((with_reducible refine (ct.out _ HB.out).mono ?_); rintro e w2 ⟨rfl, rfl⟩))
      | (go_at_call 13; ((with_reducible refine (rt.out _ HB.out).mono ?_); rintro e w2 ⟨rfl, rfl⟩))
      | (go_at_call 7; ((with_reducible refine (mc.out _).mono ?_); rintro e w2 ⟨rfl, rfl⟩))
      | (go_at_call 7; ((with_reducible refine (mk.out _).mono ?_); rintro e w2 ⟨rfl, rfl⟩))
      | (go_at_call 15; ((with_reducible refine (rshare_any _ _ _).mono ?_); rintro e w2 ⟨rfl, rfl⟩))
      | (go_at_call 14; ((with_reducible refine (share_any c k w1).mono ?_); rintro e w2 ⟨rfl, hb⟩; have HB2 := hid hb; clear hb))
      | (go_at_call 14; ((with_reducible refine (share_any C (1 + K) w2).mono ?_); rintro e w3 ⟨rfl, hb⟩; have HB3 := hid hb; clear hb)))
    go_ret
    exact ⟨ret_bool (by first | rfl | (simp; done) | (simp; omega)), (HB.out.trans (HB2.out.mono HB.out.size)).trans (HB3.out.mono (Nat.le_trans HB.out.size HB2.out.size))⟩
  · have hd : 100 < (len : Int) := by omega
    go_enter Try.func4, Try.ntmps4
    go_wp2_with (go_at_call 6; refine (sane_any w).mono ?_; rintro e w1 ⟨rfl, hb⟩; have HB := hid hb; clear hb)
    go_ret
    exact ⟨rfl, HB.out⟩

set_option maxHeartbeats 2000000 in
theorem costNumbers_walk (a b p : Int) (w : World) :
    Calls Try.prog 3 #[.int .i64 a, .int .i64 b, .int .i64 p] w fun e w' => e = .returned (.bool true) ∧ Below w.heap.size w w' := by
  have ma : Hid (∀ w, Calls Try.prog 7 #[.int .i64 a, .int .i64 10] w fun e w' => e = .returned (.int .i64 (a % 10)) ∧ w = w') := fun w => mod_any a 10 (by omega) (by omega) w
  have mb : Hid (∀ w, Calls Try.prog 7 #[.int .i64 b, .int .i64 10] w fun e w' => e = .returned (.int .i64 (b % 10)) ∧ w = w') := fun w => mod_any b 10 (by omega) (by omega) w
  have mp : Hid (∀ w, Calls Try.prog 7 #[.int .i64 p, .int .i64 8300] w fun e w' => e = .returned (.int .i64 (p % 8300)) ∧ w = w') := fun w => mod_any p 8300 (by omega) (by omega) w
  obtain ⟨A, hA⟩ : ∃ C, a % 10 = C := ⟨_, rfl⟩
  obtain ⟨B, hB⟩ : ∃ C, b % 10 = C := ⟨_, rfl⟩
  obtain ⟨P, hP⟩ : ∃ C, p % 8300 = C := ⟨_, rfl⟩
  rw [hA] at ma
  rw [hB] at mb
  rw [hP] at mp
  clear hA hB hP
  go_enter Try.func3, Try.ntmps3
  go_wp2_with (first
      | (go_at_call 6; refine (sane_any w).mono ?_; rintro e w1 ⟨rfl, hb⟩; have HB := hid hb; clear hb)
      | (go_at_call 7; ((with_reducible refine (ma.out _).mono ?_); rintro e w2 ⟨rfl, rfl⟩))
      | (go_at_call 7; ((with_reducible refine (mb.out _).mono ?_); rintro e w2 ⟨rfl, rfl⟩))
      | (go_at_call 7; ((with_reducible refine (mp.out _).mono ?_); rintro e w2 ⟨rfl, rfl⟩)))
  go_loopw [32] (fun i wr => ∃ k : Nat, k ≤ 2 ∧ i = .int .i64 k ∧ Hid (Below (w1.heap.size + 1) (w1.alloc (.cells #[.int .i64 a, .int .i64 b, .int .i64 p, .int .i64 A, .int .i64 B, .int .i64 P] 23)) wr)) (fun i _ => 2 - (intOf i).toNat)
  case atStart => exact ⟨0, by omega, rfl, Below.refl _ _⟩
  case round =>
    obtain ⟨k, hk, rfl, hbr⟩ := hrel
    have hsz : w1.heap.size < wr.heap.size := by have := hbr.out.size; simp at this; omega
    have hcl : ∀ j, wr.cell? ⟨w1.heap.size, j, none⟩ = #[Value.int .i64 a, .int .i64 b, .int .i64 p, .int .i64 A, .int .i64 B, .int .i64 P][j]? := by
      intro j
      rw [hbr.out.cell (p := ⟨w1.heap.size, j, none⟩) (by simp), cell_of_row _ w1.heap.size j _ 23 (0, 0) (heap_alloc_new w1 _)]
    have c0 := hcl 0
    have c1 := hcl 1
    have c2 := hcl 2
    have c3 := hcl 3
    have c4 := hcl 4
    have c5 := hcl 5
    simp at c0 c1 c2 c3 c4 c5
    clear hcl
    by_cases hk2 : k = 2
    · subst hk2
      go_wp2
      go_ret
      exact ⟨rfl, HB.out.trans (((Below.refl _ _).alloc HB.out.size _).trans (hbr.out.mono (by have := HB.out.size; omega)))⟩
    · rcases (by omega : k = 0 ∨ k = 1) with rfl | rfl
      · obtain ⟨⟨V, E⟩, hV⟩ : ∃ V, streamV a b p = V := ⟨_, rfl⟩
        obtain ⟨⟨D, F⟩, hD⟩ : ∃ V, deviceV a p = V := ⟨_, rfl⟩
        have sa := hid (fun w => stream_any a b p w)
        have ra := hid (fun w => rstream_any a b p w)
        have da := hid (fun w => device_any a p w)
        have ea := hid (fun w => rdevice_any a p w)
        rw [hV] at sa ra
        rw [hD] at da ea
        clear hV hD
        go_wp2_with (first
          | (go_at_call 8; ((with_reducible refine (sa.out _).mono ?_); rintro e w2 ⟨rfl, hb⟩; obtain ⟨hc2, hf2⟩ := bcell hb; have HB2 := hid hb; clear hb; have hz2 : wr.heap.size < w2.heap.size := (by have := HB2.out.size; simp at this; omega)))
          | (go_at_call 9; ((with_reducible refine (ra.out _).mono ?_); rintro e w4 ⟨rfl, rfl⟩))
          | (go_at_call 10; ((with_reducible refine (da.out _).mono ?_); rintro e w3 ⟨rfl, hb⟩; obtain ⟨hc3, hf3⟩ := bcell hb; have HB3 := hid hb; clear hb; have hz3 : wr.heap.size < w3.heap.size := (by have := HB3.out.size; omega)))
          | (go_at_call 11; ((with_reducible refine (ea.out _).mono ?_); rintro e w4 ⟨rfl, rfl⟩)))
        go_roundw
        case rel => exact ⟨1, by omega, rfl, hbr.out.trans ((((Below.refl _ _).alloc (by omega) _).trans (HB2.out.mono (by simp; omega))).trans (HB3.out.mono (by omega)))⟩
        case measure => simp [intOf]
      · obtain ⟨⟨V, E⟩, hV⟩ : ∃ V, streamV A B P = V := ⟨_, rfl⟩
        obtain ⟨⟨D, F⟩, hD⟩ : ∃ V, deviceV A P = V := ⟨_, rfl⟩
        have sa := hid (fun w => stream_any A B P w)
        have ra := hid (fun w => rstream_any A B P w)
        have da := hid (fun w => device_any A P w)
        have ea := hid (fun w => rdevice_any A P w)
        rw [hV] at sa ra
        rw [hD] at da ea
        clear hV hD
        go_wp2_with (first
          | (go_at_call 8; ((with_reducible refine (sa.out _).mono ?_); rintro e w2 ⟨rfl, hb⟩; obtain ⟨hc2, hf2⟩ := bcell hb; have HB2 := hid hb; clear hb; have hz2 : wr.heap.size < w2.heap.size := (by have := HB2.out.size; simp at this; omega)))
          | (go_at_call 9; ((with_reducible refine (ra.out _).mono ?_); rintro e w4 ⟨rfl, rfl⟩))
          | (go_at_call 10; ((with_reducible refine (da.out _).mono ?_); rintro e w3 ⟨rfl, hb⟩; obtain ⟨hc3, hf3⟩ := bcell hb; have HB3 := hid hb; clear hb; have hz3 : wr.heap.size < w3.heap.size := (by have := HB3.out.size; omega)))
          | (go_at_call 11; ((with_reducible refine (ea.out _).mono ?_); rintro e w4 ⟨rfl, rfl⟩)))
        go_roundw
        case rel => exact ⟨2, by omega, rfl, hbr.out.trans ((((Below.refl _ _).alloc (by omega) _).trans (HB2.out.mono (by simp; omega))).trans (HB3.out.mono (by omega)))⟩
        case measure => simp [intOf]
end Go.Proofs.Ytehnkeiejkhocaa
