/- The law GainApplies returns true: the walk. -/
import Derived.Test.YtndppaldjfggbaaGainLaws
namespace Go.Proofs.Ytndppaldjfggbaa
open Go.ChangeShapes Go.WideShapes Go.ChangeAt Go.RowKit
set_option linter.unusedVariables false

/-- the cells of a literal, in a later world -/
theorem cells_lit {k : IntKind} {w1 wr : World} {e : TypeId} (X : List Int) (hb : Below (w1.heap.size + 1) (w1.alloc (.cells (X.map (Value.int k)).toArray e)) wr) (j : Nat) (hj : j < X.length) :
    ∃ x, wr.cell? ⟨w1.heap.size, j, none⟩ = some (.int k x) ∧ x ∈ X := by
  refine ⟨X[j], ?_, List.getElem_mem hj⟩
  rw [hb.cell (p := ⟨w1.heap.size, j, none⟩) (by simp), cell_of_row _ w1.heap.size j _ e (0, 0) (heap_alloc_new w1 _)]
  simp [hj]

theorem rem_bd (s : Int) (h : -2147483648 ≤ s ∧ s ≤ 2147483647) : -2147483648 ≤ s.tmod 1000 ∧ s.tmod 1000 ≤ 2147483647 := by
  rw [Int.tmod_eq_emod]; split <;> omega

set_option maxHeartbeats 4000000 in
theorem gainApplies_walk (s g h v : Int) (hs : -2147483648 ≤ s ∧ s ≤ 2147483647) (hg : -9223372036854775808 ≤ g ∧ g ≤ 9223372036854775807) (hh : -9223372036854775808 ≤ h ∧ h ≤ 9223372036854775807) (hv : -9223372036854775808 ≤ v ∧ v ≤ 9223372036854775807) (w : World) :
    Calls Try.prog 3 #[.int .i32 s, .int .i64 g, .int .i64 h, .int .i64 v] w fun e w' => e = .returned (.bool true) ∧ Below w.heap.size w w' := by
  have HS := hid hs
  clear hs hg hh hv
  go_enter Try.func3, Try.ntmps3
  go_wp2_with (go_at_call 12; refine (sane_any w).mono ?_; rintro e w1 ⟨rfl, hb⟩; have HB := hid hb; clear hb)
  obtain ⟨G2, hG2⟩ : ∃ G2, (wrap64 (g.tmod 262144 + 262144)).tmod 262144 = G2 := ⟨_, rfl⟩
  rw [hG2]
  clear hG2
  go_loopw [22] (fun i wr => ∃ k : Nat, k ≤ 3 ∧ i = .int .i64 k ∧ Hid (Below (w1.heap.size + 1) (w1.alloc (.cells #[.int .i64 g, .int .i64 G2, .int .i64 262144] 3)) wr)) (fun i _ => 3 - (intOf i).toNat)
  case atStart => exact ⟨0, by omega, rfl, Below.refl _ _⟩
  case round =>
    obtain ⟨k, hk, rfl, hbr⟩ := hrel
    by_cases hlt : k < 3
    · obtain ⟨x, hc, hx⟩ := cells_lit [g, G2, 262144] hbr.out k hlt
      clear hx
      have hsm := HS.out
      have hw : wrap64 s = s := by unfold wrap64; omega
      obtain ⟨S3, hS3⟩ : ∃ S3, s.tmod 1000 = S3 := ⟨_, rfl⟩
      have hS3b := rem_bd s hsm
      rw [hS3] at hS3b
      have HL := hid (show ∀ y ∈ [s, sat s, S3], -2147483648 ≤ y ∧ y ≤ 2147483647 by
        intro y hy; have := sat_bd s; simp at hy; rcases hy with rfl | rfl | rfl <;> omega)
      have cs : Hid (∀ w, Calls Try.prog 13 #[.int .i64 (wrap64 s)] w fun e w' => e = .returned (.int .i32 (sat s)) ∧ w = w') := fun w => by rw [hw]; exact rsat_any s w
      obtain ⟨S2, hS2⟩ : ∃ S2, sat s = S2 := ⟨_, rfl⟩
      rw [hS2] at HL cs
      clear hsm hw hS2 hS3b
      go_wp2_with (go_at_call 13; ((with_reducible refine (cs.out _).mono ?_); rintro e w2 ⟨rfl, rfl⟩))
      go_loopw [34] (fun i wq => ∃ j : Nat, j ≤ 3 ∧ i = .int .i64 j ∧ Hid (Below (wr.heap.size + 1) (wr.alloc (.cells #[.int .i32 s, .int .i32 S2, .int .i32 S3] 21)) wq)) (fun i _ => 3 - (intOf i).toNat)
      case atStart => exact ⟨0, by omega, rfl, Below.refl _ _⟩
      case round =>
        obtain ⟨j, hj, rfl, hbq⟩ := hrel
        by_cases hlt2 : j < 3
        · obtain ⟨y, hc2, hy⟩ := cells_lit [s, S2, S3] hbq.out j hlt2
          have ca : Hid (∀ w, Calls Try.prog 14 #[.int .i32 y, .int .i64 x] w fun e w' => e = .returned (.int .i32 (applyG y x)) ∧ w = w') := fun w => apply_any y x (HL.out y hy) w
          have cr : Hid (∀ w, Calls Try.prog 15 #[.int .i32 y, .int .i64 x] w fun e w' => e = .returned (.int .i32 (applyG y x)) ∧ w = w') := fun w => rapply_any y x (HL.out y hy) w
          clear hy
          go_wp2_with (first
            | (go_at_call 14; ((with_reducible refine (ca.out _).mono ?_); rintro e w2 ⟨rfl, rfl⟩))
            | (go_at_call 15; ((with_reducible refine (cr.out _).mono ?_); rintro e w2 ⟨rfl, rfl⟩)))
          go_roundw
          case rel => exact ⟨j + 1, by omega, by go_num, hbq⟩
          case measure => simp [intOf]; omega
        · go_wp2_with (first
            | (go_at_call 16; ((with_reducible refine (mul_any _ _ _).mono ?_); rintro e w2 ⟨rfl, rfl⟩))
            | (go_at_call 17; ((with_reducible refine (rmul_any _ _ _).mono ?_); rintro e w2 ⟨rfl, rfl⟩)))
          go_roundw
          case rel => exact ⟨k + 1, by omega, by go_num, hbr.out.trans (((Below.refl _ _).alloc (by have := hbr.out.size; simp at this; omega) _).trans (hbq.out.mono (by have := hbr.out.size; simp at this; omega)))⟩
          case measure => simp [intOf]; omega
    · go_wp2_with (first
        | (go_at_call 18; ((with_reducible refine (vol_any _ _).mono ?_); rintro e w2 ⟨rfl, rfl⟩))
        | (go_at_call 19; ((with_reducible refine (rvol_any _ _).mono ?_); rintro e w2 ⟨rfl, rfl⟩)))
      go_ret
      exact ⟨ret_bool (by simp), HB.out.trans (((Below.refl _ _).alloc HB.out.size _).trans (hbr.out.mono (by have := HB.out.size; omega)))⟩
end Go.Proofs.Ytndppaldjfggbaa
