/- A slice of spans that is empty and has room. No statement is proved here. -/
import Derived.Test.YthnililaajkppaaS09b
namespace Go.Proofs.Ythnililaajkppaa
open Go.ChangeShapes Go.WideShapes Go.ChangeAt Go.RowKit
set_option linter.unusedVariables false
set_option linter.unusedSimpArgs false
theorem S_Grow (m : Nat) (hb : m ≤ 10000000) : Fun 44 [.c (.d (D.lit (.slice none 0 0))), .c (.d (D.lit (.int .i64 ((m : Nat) : Int))))] (toG []) 0 (.e (.c (.own 0 0 0 2 true))) (toG [(0, some (46, .ds ([] : List D)))]) 1 := by
  intro cx args hn hh ha
  rw [args_lit (vs := [.slice none 0 0, .int .i64 ((m : Nat) : Int)]) ha]
  rcases Nat.eq_zero_or_pos m with h0 | h0
  · subst h0
    refine (Any8.slices_Grow_room Try.lGrow none 0 0 0 cx.W (Nat.le_refl _) (by omega) (by omega) (Nat.le_refl _)).mono ?_
    rintro e w' ⟨rfl, rfl⟩
    have hno : ∀ b m, cx.ρ0 b = some m → False := fun b m hb => by have := cx.hn0 b m hb; omega
    refine ⟨_, cx.ρ0.set 0 ⟨0, 0, true⟩, rfl, fun b m hb => (hno b m hb).elim, fun b hb1 => ?_, ⟨fun b T cs hbs => ?_, fun b b' m m' _ _ hm _ hnl _ _ => ?_, fun b m _ hm hnl => ?_, hh.zm, hh.zl⟩, ⟨rfl, rfl, rfl, Nat.le_refl _, fun _ _ _ => rfl⟩, RepC.ownn 0 2 _ rfl rfl⟩
    · show (if b = 0 then _ else cx.ρ0 b) = none
      rw [if_neg (by omega)]
      cases e : cx.ρ0 b with
      | none => rfl
      | some q => exact (hno b q e).elim
    · match b, hbs with
      | 0, hbs =>
        have hbs : some (_, ([] : List C)) = some (T, cs) := hbs
        cases hbs
        exact ⟨_, rfl, .inl ⟨rfl, rfl⟩⟩
      | b + 1, hbs => have hbs : (none : Option Bk) = some (T, cs) := hbs; cases hbs
    · have hm : (if b = 0 then some (⟨0, 0, true⟩ : Nm) else cx.ρ0 b) = some m := hm
      by_cases hb0 : b = 0
      · rw [if_pos hb0] at hm; cases hm; cases hnl
      · rw [if_neg hb0] at hm; exact (hno b m hm).elim
    · have hm : (if b = 0 then some (⟨0, 0, true⟩ : Nm) else cx.ρ0 b) = some m := hm
      by_cases hb0 : b = 0
      · rw [if_pos hb0] at hm; cases hm; cases hnl
      · rw [if_neg hb0] at hm; exact (hno b m hm).elim
  · obtain ⟨i0, hi0, hz0, hs0, hbs⟩ : ∃ i0, Try.prog.info? 46 = some i0 ∧ i0.zero = some (.agg #[.int .i64 0, .int .i64 0]) ∧ i0.size = 2 ∧ i0.bytes = 16 := ⟨_, rfl, rfl, rfl, rfl⟩
    refine (Any8.slices_Grow_grow Try.lGrow i0 _ hi0 hz0 (by omega) none 0 0 m [] cx.W (Nat.le_refl _) (by omega) (by rw [hbs]; omega) (by omega) (by simp) (fun _ => rfl) (fun a h => by cases h)).mono ?_
    rintro e w' ⟨rfl, rfl⟩
    have hge := grownCap_ge cx.W (0 + m) 0 46
    have hcm := grownCap_le_maxLen cx.W (0 + m) 0 46 (by first | omega | (unfold maxLen; omega))
    generalize hq : grownCap cx.W (0 + m) 0 46 = q at *
    have hq' : grownCap cx.W (0 + m) 0 (Try.lGrow_ren.t 25) = q := hq
    rw [hq']
    obtain ⟨arr, harr⟩ : ∃ arr : List Value, ([].toArray ++ Builtin.zeroCells (Value.agg #[.int .i64 0, .int .i64 0]).cells (0 + m - 0) ++ Builtin.zeroCells (Value.agg #[.int .i64 0, .int .i64 0]).cells (q - (0 + m))) = arr.toArray := ⟨_, (Array.toArray_toList).symm⟩
    have hlen : arr.length = q * 2 := by
      have h9 := congrArg Array.size harr
      simp only [Array.size_append, size_zeroCells, List.size_toArray] at h9
      have h8 : (Value.agg #[.int .i64 0, .int .i64 0]).cells.size = 2 := rfl
      rw [h8] at h9
      simp only [List.length_nil] at h9
      omega
    rw [harr]
    have hno : ∀ b m, cx.ρ0 b = some m → False := fun b m hb => by have := cx.hn0 b m hb; omega
    have hsz : (cx.W.drew.alloc (.cells arr.toArray (Try.lGrow_ren.t 25))).heap.size = cx.W.heap.size + 1 := Array.size_push _
    have hnew : (cx.W.drew.alloc (.cells arr.toArray (Try.lGrow_ren.t 25))).heap[cx.W.heap.size]? = some (.cells arr.toArray (Try.lGrow_ren.t 25) (0, 0)) := Array.getElem?_push_size
    have hold : ∀ k, k < cx.W.heap.size → (cx.W.drew.alloc (.cells arr.toArray (Try.lGrow_ren.t 25))).heap[k]? = cx.W.heap[k]? := fun k hk => by
      show (Array.push cx.W.heap _)[k]? = _
      rw [Array.getElem?_push_lt hk]
      exact (Array.getElem?_eq_getElem hk).symm
    have hz : ¬ cx.ρ0.z cx.W.heap.size := fun h => by have := hh.zl _ h; omega
    refine ⟨_, cx.ρ0.set 0 ⟨cx.W.heap.size, q * 2, false⟩, rfl, fun b m hb => (hno b m hb).elim, fun b hb1 => ?_, ⟨fun b T cs hbs => ?_, fun b b' m m' hbn hbn' _ _ _ _ _ => ?_, fun b m hbn hm hnl => ?_, hh.zm, fun k hk => by have := hh.zl k hk; omega⟩, ⟨rfl, rfl, rfl, by omega, fun k hk _ => hold k hk⟩, ?_⟩
    · show (if b = 0 then _ else cx.ρ0 b) = none
      rw [if_neg (by omega)]
      cases e : cx.ρ0 b with
      | none => rfl
      | some q => exact (hno b q e).elim
    · match b, hbs with
      | 0, hbs =>
        have hbs : some (46, ([] : List C)) = some (T, cs) := hbs
        cases hbs
        refine ⟨_, rfl, .inr ⟨rfl, ⟨[], arr, ⟨(0, 0), hnew, .inl rfl⟩, hlen, trivial⟩, cx.mayNew _ (Nat.le_refl _)⟩⟩
      | b + 1, hbs => have hbs : (none : Option Bk) = some (T, cs) := hbs; cases hbs
    · match b, b', hbn, hbn' with
      | 0, 0, _, _ => rfl
      | b + 1, _, hbn, _ => exact absurd rfl hbn
      | 0, b + 1, _, hbn => exact absurd rfl hbn
    · match b, hbn with
      | 0, _ =>
        have hm : some (⟨cx.W.heap.size, q * 2, false⟩ : Nm) = some m := hm
        cases hm
        exact hz
      | b + 1, hbn => exact absurd rfl hbn
    · exact RepC.own 0 0 0 2 true ⟨cx.W.heap.size, q * 2, false⟩ q rfl rfl (Nat.zero_le _) hcm (fun _ => ⟨rfl, rfl⟩)
end Go.Proofs.Ythnililaajkppaa
