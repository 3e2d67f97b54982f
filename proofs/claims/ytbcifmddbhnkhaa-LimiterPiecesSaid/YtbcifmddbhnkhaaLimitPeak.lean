/- Limiters: peaks of frames, and sums that fit. No statement is proved here. -/
import Derived.Test.YtbcifmddbhnkhaaLimit
import Derived.Laws.Cover1
namespace Go.Proofs.Ytbcifmddbhnkhaa
open Go.ChangeShapes Go.WideShapes Go.ChangeAt Go.RowKit
set_option linter.unusedVariables false
set_option linter.unusedSimpArgs false

/-- the greatest absolute value of some sums, and of p -/
def peakF (p : Int) : List Int → Int
  | [] => p
  | s :: t => peakF (max (max p s) (-s)) t
theorem peakF_snoc (a : List Int) : ∀ (p x : Int), peakF p (a ++ [x]) = max (max (peakF p a) x) (-x) := by
  induction a with
  | nil => intro p x; rfl
  | cons s t ih => intro p x; exact ih _ x
theorem peakF_bd (l : List Int) : ∀ (p : Int), 0 ≤ p → p ≤ 1099511627776 → (∀ s ∈ l, -1099511627776 ≤ s ∧ s ≤ 1099511627776) → 0 ≤ peakF p l ∧ peakF p l ≤ 1099511627776 ∧ p ≤ peakF p l := by
  induction l with
  | nil => intro p h0 h1 _; exact ⟨h0, h1, Int.le_refl _⟩
  | cons s t ih =>
    intro p h0 h1 hs
    have h2 := hs s (List.mem_cons_self ..)
    obtain ⟨a, b, c⟩ := ih (max (max p s) (-s)) (by omega) (by omega) (fun x hx => hs x (List.mem_cons_of_mem _ hx))
    exact ⟨a, b, by show p ≤ peakF _ t; omega⟩
theorem peakF_ge (l : List Int) : ∀ (p : Int), 0 ≤ p → ∀ s ∈ l, s ≤ peakF p l ∧ -s ≤ peakF p l ∧ p ≤ peakF p l := by
  induction l with
  | nil => intro p _ s hs; cases hs
  | cons x t ih =>
    intro p h0 s hs
    have hx : ∀ q : Int, 0 ≤ q → q ≤ peakF q t := by
      intro q hq
      cases t with
      | nil => exact Int.le_refl _
      | cons y u => exact (ih q hq y (List.mem_cons_self ..)).2.2
    have h1 := hx (max (max p x) (-x)) (by omega)
    have e : peakF p (x :: t) = peakF (max (max p x) (-x)) t := rfl
    rw [e]
    rcases List.mem_cons.1 hs with rfl | hs
    · omega
    · have := ih (max (max p x) (-x)) (by omega) s hs
      omega
set_option maxHeartbeats 4000000 in
theorem peakOf_any (a : Option Addr) (len cap : Nat) (l : List Int) (w : World) (hs : Sl .i64 w a len cap l) (hb : ∀ s ∈ l, -1099511627776 ≤ s ∧ s ≤ 1099511627776) :
    Calls Try.prog 26 #[.slice a len cap] w fun e w' => e = .returned (.int .i64 (peakF 0 l)) ∧ w = w' := by
  have HS := hid hs
  have HB := hid hb
  have hz := hs.1
  have hm : len ≤ 9223372036854775807 := by have k1 := hs.2.1; have k2 := hs.2.2.1; unfold maxLen at k2; omega
  clear hs hb
  go_enter Try.func26, Try.ntmps26
  go_wp2
  go_loopw [3, 8] (fun u v wr => ∃ (k : Nat) (p : Int), k ≤ len ∧ v = .int .i64 k ∧ u = .int .i64 p ∧ Hid (p = peakF 0 (l.take k)) ∧ (0 ≤ p ∧ p ≤ 1099511627776) ∧ wr = w) (fun _ v _ => len - (intOf v).toNat)
  case atStart => exact ⟨0, 0, by omega, rfl, rfl, by simp [peakF, Hid], by omega, rfl⟩
  case round =>
    obtain ⟨k, p, hk, rfl, rfl, hp, ⟨p0, p1⟩, rfl⟩ := hrel
    by_cases hlt : k < len
    · have hkb : decide ((k : Int) < (len : Int)) = true := by simp; omega
      have hkz : (k : Int) < (len : Int) := by omega
      rcases HS.out.2.2.2.2.2 with h | ⟨b, off, rfl, hbl, hc⟩
      · omega
      have g0 := hc k hlt
      have hmem : l.getD k 0 ∈ l := by rw [List.getD_eq_getElem?_getD, List.getElem?_eq_getElem (by omega)]; exact List.getElem_mem _
      obtain ⟨x0, x1⟩ := HB.out _ hmem
      have hsn := hid (show peakF 0 (l.take (k + 1)) = max (max p (l.getD k 0)) (-(l.getD k 0)) by rw [take_snoc' l k (by omega), peakF_snoc, ← hp.out])
      generalize l.getD k 0 = x at *
      have HC := hid hc
      clear hc hmem hp
      go_wp2
      have key : (if (if p < x then x else p) < -x then -x else if p < x then x else p) = max (max p x) (-x) := by (repeat' split) <;> omega
      go_roundw
      case rel => exact ⟨k + 1, _, by omega, by go_num, rfl, hid (by rw [hsn.out]; exact key), by rw [key]; omega, trivial⟩
      case measure => simp [intOf] <;> omega
    · obtain rfl : k = len := by omega
      have hkb : decide ((k : Int) < (k : Int)) = false := by simp
      have e : peakF 0 l = p := by rw [hp.out, ← hz, List.take_length]
      go_wp2
      go_ret
      exact ⟨ret_int e.symm, rfl⟩
set_option maxHeartbeats 4000000 in
theorem fits_ok (c : Int) (hc : 1 ≤ c) (hc8 : c ≤ 8) (a : Option Addr) (len cap : Nat) (l : List Int) (w : World) (hs : Sl .i64 w a len cap l) (hmod : (len : Int).tmod c = 0) (hquo : (len : Int) / c ≤ 65536) (hb : ∀ s ∈ l, -1099511627776 ≤ s ∧ s ≤ 1099511627776) :
    Calls Try.prog 24 #[.int .i64 c, .slice a len cap] w fun e w' => e = .returned (.bool true) ∧ w = w' := by
  have HS := hid hs
  have HB := hid hb
  have hz := hs.1
  have hm : len ≤ 9223372036854775807 := by have k1 := hs.2.1; have k2 := hs.2.2.1; unfold maxLen at k2; omega
  have q0 : 0 ≤ (len : Int) / c := Int.ediv_nonneg (by omega) (by omega)
  have q1 : wrap64 ((len : Int) / c) = (len : Int) / c := by unfold wrap64; omega
  have c0 : (c == 0) = false := by simp; omega
  have c1 : ¬ c = 0 := by omega
  have d1 : decide (c < 1) = false := decide_eq_false (by omega)
  have d2 : decide (8 < c) = false := decide_eq_false (by omega)
  have d3 : decide (65536 < (len : Int) / c) = false := decide_eq_false (by omega)
  clear hs hb
  go_enter Try.func24, Try.ntmps24
  go_wp2
  go_loopw [29] (fun v wr => ∃ k : Nat, k ≤ len ∧ v = .int .i64 k ∧ wr = w) (fun v _ => len - (intOf v).toNat)
  case atStart => exact ⟨0, by omega, rfl, rfl⟩
  case round =>
    obtain ⟨k, hk, rfl, rfl⟩ := hrel
    by_cases hlt : k < len
    · have hkb : decide ((k : Int) < (len : Int)) = true := by simp; omega
      have hkz : (k : Int) < (len : Int) := by omega
      rcases HS.out.2.2.2.2.2 with h | ⟨b, off, rfl, hbl, hcs⟩
      · omega
      have g0 := hcs k hlt
      have hmem : l.getD k 0 ∈ l := by rw [List.getD_eq_getElem?_getD, List.getElem?_eq_getElem (by omega)]; exact List.getElem_mem _
      obtain ⟨x0, x1⟩ := HB.out _ hmem
      generalize l.getD k 0 = x at *
      have HC := hid hcs
      clear hcs hmem
      have d4 : decide (x < -1099511627776) = false := decide_eq_false (by omega)
      have d5 : decide (1099511627776 < x) = false := decide_eq_false (by omega)
      go_wp2
      go_roundw
      case rel => exact ⟨k + 1, by omega, by go_num, trivial⟩
      case measure => simp [intOf] <;> omega
    · obtain rfl : k = len := by omega
      have hkb : decide ((k : Int) < (k : Int)) = false := by simp
      go_wp2
      go_ret
      exact ⟨rfl, rfl⟩
end Go.Proofs.Ytbcifmddbhnkhaa
