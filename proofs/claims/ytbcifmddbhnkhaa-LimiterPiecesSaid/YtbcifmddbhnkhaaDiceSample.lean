/- The samples that dice give. No statement is proved here. -/
import Derived.Test.YtbcifmddbhnkhaaDiceL
import Derived.IntWalk
namespace Go.Proofs.Ytbcifmddbhnkhaa
open Go.ChangeShapes Go.WideShapes Go.ChangeAt Go.RowKit
set_option linter.unusedVariables false
set_option linter.unusedSimpArgs false

set_option maxHeartbeats 8000000 in
theorem sample_dl (W : World) (d : Nat) (L : List (Nat × List Value × TypeId)) (w : World) (h : DL W w d L) :
    Calls Try.prog 23 #[.pointer (some ⟨d, 0, none⟩)] w fun e w' => (∃ r : Int, e = .returned (.int .i32 r) ∧ -8388608 ≤ r ∧ r ≤ 8388607) ∧ DL W w' d L := by
  have H := hid h
  clear h
  go_enter Try.func23, Try.ntmps23
  go_wp2_with fail
  (with_reducible refine (next_dl W d L 8 (by omega) (by omega) _ H.out).mono ?_); rintro e w1 ⟨⟨k, rfl, k0, k1⟩, hl⟩; have H1 := hid hl; clear hl H
  by_cases h0 : k = 0
  · subst h0
    go_wp2_with fail
    go_ret
    exact ⟨⟨_, rfl, by omega, by omega⟩, H1.out⟩
  by_cases h1 : k = 1
  · subst h1
    go_wp2_with fail
    go_ret
    exact ⟨⟨_, rfl, by omega, by omega⟩, H1.out⟩
  by_cases h2 : k = 2
  · subst h2
    go_wp2_with fail
    go_ret
    exact ⟨⟨_, rfl, by omega, by omega⟩, H1.out⟩
  have b0 : (k == 0) = false := by simp; omega
  have b1 : (k == 1) = false := by simp; omega
  have b2 : (k == 2) = false := by simp; omega
  by_cases h3 : k = 3
  · subst h3
    go_wp2_with fail
    (with_reducible refine (next_dl W d L 256 (by omega) (by omega) _ H1.out).mono ?_); rintro e w2 ⟨⟨x, rfl, x0, x1⟩, hl⟩; have H2 := hid hl; clear hl H1
    go_wp2_with fail
    go_ret
    exact ⟨⟨_, rfl, by omega, by omega⟩, H2.out⟩
  have b3 : (k == 3) = false := by simp; omega
  go_wp2_with fail
  (with_reducible refine (next_dl W d L 256 (by omega) (by omega) _ H1.out).mono ?_); rintro e w2 ⟨⟨x, rfl, x0, x1⟩, hl⟩; have H2 := hid hl; clear hl H1
  go_wp2_with fail
  (with_reducible refine (next_dl W d L 256 (by omega) (by omega) _ H2.out).mono ?_); rintro e w3 ⟨⟨y, rfl, y0, y1⟩, hl⟩; have H3 := hid hl; clear hl H2
  go_wp2_with fail
  (with_reducible refine (next_dl W d L 256 (by omega) (by omega) _ H3.out).mono ?_); rintro e w4 ⟨⟨z, rfl, z0, z1⟩, hl⟩; have H4 := hid hl; clear hl H3
  go_wp2_with fail
  trace_state
  go_ret
  exact ⟨⟨_, rfl, by omega, by omega⟩, H4.out⟩
end Go.Proofs.Ytbcifmddbhnkhaa
