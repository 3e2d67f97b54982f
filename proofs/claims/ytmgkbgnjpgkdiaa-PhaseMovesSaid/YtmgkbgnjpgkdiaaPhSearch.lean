/- Phases: the search for a number of frames. No statement is proved here. -/
import Derived.Test.YtmgkbgnjpgkdiaaPhNeed
import Derived.Deep.LoopGhost
namespace Go.Proofs.Ytmgkbgnjpgkdiaa
open Go.ChangeShapes Go.WideShapes Go.ChangeAt Go.RowKit
set_option linter.unusedVariables false
set_option linter.unusedSimpArgs false

set_option maxRecDepth 100000 in
set_option maxHeartbeats 8000000 in
theorem search_any (cb : Array Value) (q : Nat → Bool) (c : Nat) (hc : c ≤ 65536) (hq : ∀ i, i < 65536 → (q i = false ↔ i < c)) (W w : World) (L : List (Nat × List Value × TypeId)) (hl : Lv W w L)
    (hf : ∀ (i : Nat) (w' : World), i < 65536 → Lv W w' L → Calls Try.prog 36 (#[.int .i64 i] ++ cb) w' fun e w'' => e = .returned (.bool (q i)) ∧ Lv W w'' L) :
    Calls Try.prog 37 #[.int .i64 65536, .func (.func 36) #[] cb] w fun e w' => e = .returned (.int .i64 c) ∧ Lv W w' L := by
  have HF := hid hf
  have HQ := hid hq
  have HL := hid hl
  clear hf hq hl
  have eg : ∀ args w, (callFunc 36 args).run Try.prog w = .ok (.enter 36 args) w := by intro args w; kernel_rfl
  go_enter Try.func37, Try.ntmps37
  go_wp2
  go_loopw [5, 6] (fun u v wr => ∃ lo hi : Nat, lo ≤ c ∧ c ≤ hi ∧ hi ≤ 65536 ∧ u = .int .i64 lo ∧ v = .int .i64 hi ∧ Hid (Lv W wr L)) (fun u v _ => (intOf v - intOf u).toNat)
  case atStart => exact ⟨0, 65536, by omega, hc, by omega, rfl, rfl, HL⟩
  case round =>
    obtain ⟨lo, hi, h1, h2, h3, rfl, rfl, hl⟩ := hrel
    clear HL
    by_cases hlt : lo < hi
    · have hcl := HF.out ((lo + hi) / 2) wr (by omega) hl.out
      have hqc := hid (HQ.out ((lo + hi) / 2) (by omega))
      rw [show (((lo + hi) / 2 : Nat) : Int) = ((lo : Int) + (hi : Int)) / 2 by omega] at hcl
      have hb : decide ((lo : Int) < (hi : Int)) = true := decide_eq_true (by omega)
      cases hp : q ((lo + hi) / 2) <;> rw [hp] at hcl hqc
      · have hlc := hid (hqc.out.1 rfl)
        clear hqc
        go_wp2_with (go_at_call 36; (with_reducible refine hcl.mono ?_); rintro e w2 ⟨rfl, hb⟩; have HL2 := hid hb; clear hb)
        go_roundw
        case rel => exact ⟨(lo + hi) / 2 + 1, hi, by have := hlc.out; omega, h2, h3, by go_num, rfl, HL2⟩
        case measure => simp only [intOf]; omega
      · have hlc := hid (show c ≤ (lo + hi) / 2 by have := hqc.out; simp at this; exact this)
        clear hqc
        go_wp2_with (go_at_call 36; (with_reducible refine hcl.mono ?_); rintro e w2 ⟨rfl, hb⟩; have HL2 := hid hb; clear hb)
        go_roundw
        case rel => exact ⟨lo, (lo + hi) / 2, h1, hlc.out, by omega, rfl, by go_num, HL2⟩
        case measure => simp only [intOf]; omega
    · obtain rfl : lo = hi := by omega
      obtain rfl : lo = c := by omega
      have hb : decide ((lo : Int) < (lo : Int)) = false := decide_eq_false (by omega)
      go_wp2
      go_ret
      exact ⟨rfl, hl.out⟩
end Go.Proofs.Ytmgkbgnjpgkdiaa
