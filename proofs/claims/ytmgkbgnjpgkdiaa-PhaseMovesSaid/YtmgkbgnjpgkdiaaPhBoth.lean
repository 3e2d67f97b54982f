/- Phases: both sides answer alike. No statement is proved here. -/
import Derived.Test.YtmgkbgnjpgkdiaaPhLaws
namespace Go.Proofs.Ytmgkbgnjpgkdiaa
open Go.ChangeShapes Go.WideShapes Go.ChangeAt Go.RowKit
set_option linter.unusedVariables false
set_option linter.unusedSimpArgs false

theorem at_both (n d a p f i : Int) : ∃ x y er : Int, (∀ w : World, Calls Try.prog 11 #[.agg #[.int .i64 n, .int .i64 d, .int .i64 a, .int .i64 p, .int .i64 f], .int .i64 i] w fun e w' => e = .returned (.tuple #[.int .i64 x, .int .i64 y, .int .i64 er]) ∧ Below w.heap.size w w') ∧ (∀ w : World, Calls Try.prog 12 #[.agg #[.int .i64 n, .int .i64 d, .int .i64 a, .int .i64 p, .int .i64 f], .int .i64 i] w fun e w' => e = .returned (.tuple #[.int .i64 x, .int .i64 y, .int .i64 er]) ∧ Below w.heap.size w w') := by
  by_cases h : phV n d a p f = true ∧ 0 ≤ i ∧ i ≤ 65536
  · exact ⟨_, _, _, fun w => at_ok n d a p f i h.1 h.2.1 h.2.2 w, fun w => rat_ok n d a p f i h.1 h.2.1 h.2.2 w⟩
  · exact ⟨_, _, _, fun w => at_bad n d a p f i h w, fun w => rat_bad n d a p f i h w⟩
theorem adv_both (n d a p f i : Int) : ∃ n2 d2 a2 p2 f2 er : Int, (∀ w : World, Calls Try.prog 13 #[.agg #[.int .i64 n, .int .i64 d, .int .i64 a, .int .i64 p, .int .i64 f], .int .i64 i] w fun e w' => e = .returned (.tuple #[.agg #[.int .i64 n2, .int .i64 d2, .int .i64 a2, .int .i64 p2, .int .i64 f2], .int .i64 er]) ∧ Below w.heap.size w w') ∧ (∀ w : World, Calls Try.prog 14 #[.agg #[.int .i64 n, .int .i64 d, .int .i64 a, .int .i64 p, .int .i64 f], .int .i64 i] w fun e w' => e = .returned (.tuple #[.agg #[.int .i64 n2, .int .i64 d2, .int .i64 a2, .int .i64 p2, .int .i64 f2], .int .i64 er]) ∧ Below w.heap.size w w') := by
  by_cases h : phV n d a p f = true ∧ 0 ≤ i ∧ i ≤ 65536
  · by_cases hq : p + mv n a f i / (d * 65536) ≤ 1125899906842624
    · exact ⟨_, _, _, _, _, _, fun w => adv_ok n d a p f i h.1 h.2.1 h.2.2 hq w, fun w => radv_ok n d a p f i h.1 h.2.1 h.2.2 hq w⟩
    · exact ⟨_, _, _, _, _, _, fun w => adv_far n d a p f i h.1 h.2.1 h.2.2 (by omega) w, fun w => radv_far n d a p f i h.1 h.2.1 h.2.2 (by omega) w⟩
  · exact ⟨_, _, _, _, _, _, fun w => adv_bad n d a p f i h w, fun w => radv_bad n d a p f i h w⟩
theorem tune_both (n d a p f i : Int) : ∃ n2 d2 a2 p2 f2 er : Int, (∀ w : World, Calls Try.prog 15 #[.agg #[.int .i64 n, .int .i64 d, .int .i64 a, .int .i64 p, .int .i64 f], .int .i64 i] w fun e w' => e = .returned (.tuple #[.agg #[.int .i64 n2, .int .i64 d2, .int .i64 a2, .int .i64 p2, .int .i64 f2], .int .i64 er]) ∧ Below w.heap.size w w') ∧ (∀ w : World, Calls Try.prog 16 #[.agg #[.int .i64 n, .int .i64 d, .int .i64 a, .int .i64 p, .int .i64 f], .int .i64 i] w fun e w' => e = .returned (.tuple #[.agg #[.int .i64 n2, .int .i64 d2, .int .i64 a2, .int .i64 p2, .int .i64 f2], .int .i64 er]) ∧ Below w.heap.size w w') := by
  cases h : phV n d a p f
  · exact ⟨_, _, _, _, _, _, fun w => tune_bad n d a p f i h w, fun w => rtune_bad n d a p f i h w⟩
  · by_cases hq : -4096 ≤ i ∧ i ≤ 4096
    · exact ⟨_, _, _, _, _, _, fun w => tune_ok n d a p f i h hq.1 hq.2 w, fun w => rtune_ok n d a p f i h hq.1 hq.2 w⟩
    · exact ⟨_, _, _, _, _, _, fun w => tune_far n d a p f i h (by omega) w, fun w => rtune_far n d a p f i h (by omega) w⟩
theorem new_both (n d : Int) : ∃ n2 d2 a2 p2 f2 er : Int, (∀ w : World, Calls Try.prog 19 #[.agg #[.int .i64 n, .int .i64 d]] w fun e w' => e = .returned (.tuple #[.agg #[.int .i64 n2, .int .i64 d2, .int .i64 a2, .int .i64 p2, .int .i64 f2], .int .i64 er]) ∧ Below w.heap.size w w') ∧ (∀ w : World, Calls Try.prog 20 #[.agg #[.int .i64 n, .int .i64 d]] w fun e w' => e = .returned (.tuple #[.agg #[.int .i64 n2, .int .i64 d2, .int .i64 a2, .int .i64 p2, .int .i64 f2], .int .i64 er]) ∧ Below w.heap.size w w') := by
  cases h : phV n d 0 0 0
  · exact ⟨_, _, _, _, _, _, fun w => pnew_bad n d h w, fun w => rnew_bad n d h w⟩
  · exact ⟨_, _, _, _, _, _, fun w => pnew_ok n d h w, fun w => rnew_ok n d h w⟩
theorem need_both (n d a p f i : Int) : ∃ x er : Int, (∀ w : World, Calls Try.prog 21 #[.agg #[.int .i64 n, .int .i64 d, .int .i64 a, .int .i64 p, .int .i64 f], .int .i64 i] w fun e w' => e = .returned (.tuple #[.int .i64 x, .int .i64 er]) ∧ Below w.heap.size w w') ∧ (∀ w : World, Calls Try.prog 22 #[.agg #[.int .i64 n, .int .i64 d, .int .i64 a, .int .i64 p, .int .i64 f], .int .i64 i] w fun e w' => e = .returned (.tuple #[.int .i64 x, .int .i64 er]) ∧ Below w.heap.size w w') := by
  by_cases h : phV n d a p f = true ∧ 0 ≤ i ∧ i ≤ 65536
  · exact ⟨_, _, fun w => pneed_ok n d a p f i h.1 h.2.1 h.2.2 w, fun w => rneed_ok n d a p f i h.1 h.2.1 h.2.2 w⟩
  · exact ⟨_, _, fun w => pneed_bad n d a p f i h w, fun w => rneed_bad n d a p f i h w⟩
theorem make_both (n d a p f i : Int) : ∃ x er : Int, (∀ w : World, Calls Try.prog 23 #[.agg #[.int .i64 n, .int .i64 d, .int .i64 a, .int .i64 p, .int .i64 f], .int .i64 i] w fun e w' => e = .returned (.tuple #[.int .i64 x, .int .i64 er]) ∧ Below w.heap.size w w') ∧ (∀ w : World, Calls Try.prog 24 #[.agg #[.int .i64 n, .int .i64 d, .int .i64 a, .int .i64 p, .int .i64 f], .int .i64 i] w fun e w' => e = .returned (.tuple #[.int .i64 x, .int .i64 er]) ∧ Below w.heap.size w w') := by
  by_cases h : phV n d a p f = true ∧ 0 ≤ i ∧ i ≤ 1099511627776
  · exact ⟨_, _, fun w => pmake_ok n d a p f i h.1 h.2.1 h.2.2 w, fun w => rmk_ok n d a p f i h.1 h.2.1 h.2.2 w⟩
  · exact ⟨_, _, fun w => pmake_bad n d a p f i h w, fun w => rmk_bad n d a p f i h w⟩
theorem pick10 {W w : World} {b : Nat} {T : TypeId} {a0 a1 a2 a3 a4 b0 b1 b2 b3 b4 : Int} {L : List (Nat × List Value × TypeId)} (h : Lv W w ((b, [.int .i64 a0, .int .i64 a1, .int .i64 a2, .int .i64 a3, .int .i64 a4, .int .i64 b0, .int .i64 b1, .int .i64 b2, .int .i64 b3, .int .i64 b4], T) :: L)) (k : Nat) (hk : k < 2) :
    ∃ n d a p f : Int, w.cell? ⟨b, k * 5, none⟩ = some (.int .i64 n) ∧ w.cell? ⟨b, k * 5 + 1, none⟩ = some (.int .i64 d) ∧ w.cell? ⟨b, k * 5 + 2, none⟩ = some (.int .i64 a) ∧ w.cell? ⟨b, k * 5 + 3, none⟩ = some (.int .i64 p) ∧ w.cell? ⟨b, k * 5 + 4, none⟩ = some (.int .i64 f) := by
  have hL := h.facts
  simp only [liveAt, cellsAt, Nat.zero_add, Nat.reduceAdd] at hL
  obtain ⟨⟨c0, _, c1, _, c2, _, c3, _, c4, _, c5, _, c6, _, c7, _, c8, _, c9, _⟩, _⟩ := hL
  match k, hk with
  | 0, _ => exact ⟨_, _, _, _, _, c0, c1, c2, c3, c4⟩
  | 1, _ => exact ⟨_, _, _, _, _, c5, c6, c7, c8, c9⟩
theorem pick2 {W w : World} {b : Nat} {T : TypeId} {x0 x1 : Int} {L : List (Nat × List Value × TypeId)} (h : Lv W w ((b, [.int .i64 x0, .int .i64 x1], T) :: L)) (k : Nat) (hk : k < 2) : ∃ x : Int, w.cell? ⟨b, k, none⟩ = some (.int .i64 x) := by
  have hL := h.facts
  simp only [liveAt, cellsAt, Nat.zero_add] at hL
  obtain ⟨⟨y0, _, y1, _⟩, _⟩ := hL
  match k, hk with
  | 0, _ => exact ⟨x0, y0⟩
  | 1, _ => exact ⟨x1, y1⟩
theorem pick3 {W w : World} {b : Nat} {T : TypeId} {x0 x1 x2 : Int} {L : List (Nat × List Value × TypeId)} (h : Lv W w ((b, [.int .i64 x0, .int .i64 x1, .int .i64 x2], T) :: L)) (k : Nat) (hk : k < 3) : ∃ x : Int, w.cell? ⟨b, k, none⟩ = some (.int .i64 x) := by
  have hL := h.facts
  simp only [liveAt, cellsAt, Nat.zero_add, Nat.reduceAdd] at hL
  obtain ⟨⟨y0, _, y1, _, y2, _⟩, _⟩ := hL
  match k, hk with
  | 0, _ => exact ⟨x0, y0⟩
  | 1, _ => exact ⟨x1, y1⟩
  | 2, _ => exact ⟨x2, y2⟩
end Go.Proofs.Ytmgkbgnjpgkdiaa
