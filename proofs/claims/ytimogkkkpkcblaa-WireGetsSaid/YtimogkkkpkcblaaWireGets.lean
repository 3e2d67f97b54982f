/- The law WireGets returns true: the walk. -/
import Derived.Test.YtimogkkkpkcblaaWireSane
import Derived.Test.YtimogkkkpkcblaaWireText
namespace Go.Proofs.Ytimogkkkpkcblaa
open Go.ChangeShapes Go.WideShapes Go.ChangeAt Go.RowKit
set_option linter.unusedVariables false

set_option maxHeartbeats 2000000 in
theorem wireGets_walk (a : Option Addr) (len cap : Nat) (l : List Int) (at' : Int) (w : World) (hs : Sl .u8 w a len cap l) (h0 : -9223372036854775808 ≤ at') (h63 : at' ≤ 9223372036854775807) :
    Calls Try.prog 4 #[.slice a len cap, .int .i64 at'] w fun e w' => e = .returned (.bool true) ∧ Below w.heap.size w w' := by
  have hm : Hid (len ≤ 9223372036854775807) := by have h1 := hs.2.1; have h2 := hs.2.2.1; unfold maxLen at h2; show _ ≤ _; omega
  by_cases hlen : len ≤ 500
  · have hd : ¬ (500 < (len : Int)) := by omega
    have K : Hid (∀ w1, Below w.heap.size w w1 → Sl .u8 w1 a len cap l) := fun w1 hb => hs.below hb
    obtain ⟨⟨n2, k2, e2⟩, hN2⟩ : ∃ N, getN l at' 2 = N := ⟨_, rfl⟩
    obtain ⟨⟨n4, k4, e4⟩, hN4⟩ : ∃ N, getN l at' 4 = N := ⟨_, rfl⟩
    obtain ⟨⟨n8, k8, e8⟩, hN8⟩ : ∃ N, getN l at' 8 = N := ⟨_, rfl⟩
    obtain ⟨⟨s, ks, es⟩, hT⟩ : ∃ N, getText l at' = N := ⟨_, rfl⟩
    have c2 : Hid (∀ w1, Below w.heap.size w w1 → Calls Try.prog 18 #[.slice a len cap, .int .i64 at'] w1 fun e w' => e = .returned (.tuple #[.int .u16 n2, .int .i64 k2, .int .i64 e2]) ∧ w1 = w') :=
      fun w1 hb => by have h := Get16_any a len cap l w1 at' (K.out w1 hb) h0 h63; rw [hN2] at h; exact h
    have r2 : Hid (∀ w1, Below w.heap.size w w1 → Calls Try.prog 19 #[.slice a len cap, .int .i64 at'] w1 fun e w' => e = .returned (.tuple #[.int .u16 n2, .int .i64 k2, .int .i64 e2]) ∧ w1 = w') :=
      fun w1 hb => by have h := rGet16_any a len cap l w1 at' (K.out w1 hb) h0 h63; rw [hN2] at h; exact h
    have c4 : Hid (∀ w1, Below w.heap.size w w1 → Calls Try.prog 20 #[.slice a len cap, .int .i64 at'] w1 fun e w' => e = .returned (.tuple #[.int .u32 n4, .int .i64 k4, .int .i64 e4]) ∧ w1 = w') :=
      fun w1 hb => by have h := Get32_any a len cap l w1 at' (K.out w1 hb) h0 h63; rw [hN4] at h; exact h
    have r4 : Hid (∀ w1, Below w.heap.size w w1 → Calls Try.prog 21 #[.slice a len cap, .int .i64 at'] w1 fun e w' => e = .returned (.tuple #[.int .u32 n4, .int .i64 k4, .int .i64 e4]) ∧ w1 = w') :=
      fun w1 hb => by have h := rGet32_any a len cap l w1 at' (K.out w1 hb) h0 h63; rw [hN4] at h; exact h
    have c8 : Hid (∀ w1, Below w.heap.size w w1 → Calls Try.prog 22 #[.slice a len cap, .int .i64 at'] w1 fun e w' => e = .returned (.tuple #[.int .u64 n8, .int .i64 k8, .int .i64 e8]) ∧ w1 = w') :=
      fun w1 hb => by have h := Get64_any a len cap l w1 at' (K.out w1 hb) h0 h63; rw [hN8] at h; exact h
    have r8 : Hid (∀ w1, Below w.heap.size w w1 → Calls Try.prog 23 #[.slice a len cap, .int .i64 at'] w1 fun e w' => e = .returned (.tuple #[.int .u64 n8, .int .i64 k8, .int .i64 e8]) ∧ w1 = w') :=
      fun w1 hb => by have h := rGet64_any a len cap l w1 at' (K.out w1 hb) h0 h63; rw [hN8] at h; exact h
    have ct : Hid (∀ w1, Below w.heap.size w w1 → Calls Try.prog 24 #[.slice a len cap, .int .i64 at'] w1 fun e w' => e = .returned (.tuple #[.string (strOfNums s), .int .i64 ks, .int .i64 es]) ∧ w1 = w') :=
      fun w1 hb => by have h := getText_any a len cap l w1 at' (K.out w1 hb) h0 h63; rw [hT] at h; exact h
    have rt : Hid (∀ w1, Below w.heap.size w w1 → Calls Try.prog 25 #[.slice a len cap, .int .i64 at'] w1 fun e w' => e = .returned (.tuple #[.string (strOfNums s), .int .i64 ks, .int .i64 es]) ∧ w1 = w') :=
      fun w1 hb => by have h := rgetText_any a len cap l w1 at' (K.out w1 hb) h0 h63; rw [hT] at h; exact h
    obtain ⟨S, hS⟩ : ∃ S, strOfNums s = S := ⟨_, rfl⟩
    rw [hS] at ct rt
    clear hs hN2 hN4 hN8 hT hS K h0 h63
    go_enter Try.func4, Try.ntmps4
    go_wp2_with (first
      | (go_at_call 9; refine (sane_any w).mono ?_; rintro e w1 ⟨rfl, hb⟩; have HB := hid hb; clear hb)
      | (go_at_call 18; ((with_reducible refine (c2.out _ HB.out).mono ?_); rintro e w2 ⟨rfl, rfl⟩))
      | (go_at_call 19; ((with_reducible refine (r2.out _ HB.out).mono ?_); rintro e w2 ⟨rfl, rfl⟩))
      | (go_at_call 20; ((with_reducible refine (c4.out _ HB.out).mono ?_); rintro e w2 ⟨rfl, rfl⟩))
      | (go_at_call 21; ((with_reducible refine (r4.out _ HB.out).mono ?_); rintro e w2 ⟨rfl, rfl⟩))
      | (go_at_call 22; ((with_reducible refine (c8.out _ HB.out).mono ?_); rintro e w2 ⟨rfl, rfl⟩))
      | (go_at_call 23; ((with_reducible refine (r8.out _ HB.out).mono ?_); rintro e w2 ⟨rfl, rfl⟩))
      | (go_at_call 24; ((with_reducible refine (ct.out _ HB.out).mono ?_); rintro e w2 ⟨rfl, rfl⟩))
      | (go_at_call 25; ((with_reducible refine (rt.out _ HB.out).mono ?_); rintro e w2 ⟨rfl, rfl⟩)))
    go_ret
    exact ⟨rfl, HB.out⟩
  · have hd : 500 < (len : Int) := by omega
    clear hs
    go_enter Try.func4, Try.ntmps4
    go_wp2_with (go_at_call 9; refine (sane_any w).mono ?_; rintro e w1 ⟨rfl, hb⟩; have HB := hid hb; clear hb)
    go_ret
    exact ⟨rfl, HB.out⟩

end Go.Proofs.Ytimogkkkpkcblaa
