/- Equal data and equal blocks, by the reference. No statement is proved here. -/
import Derived.Test.YtbcifmddbhnkhaaLx
import Derived.Deep.QuietTactic
import Derived.BigQuiet
import Derived.Deep.DeepCutAuto
namespace Go.Proofs.Ytbcifmddbhnkhaa
open Go.ChangeShapes Go.WideShapes Go.ChangeAt Go.RowKit
set_option linter.unusedVariables false
set_option linter.unusedSimpArgs false

theorem ret_lb' {a b : Bool} (h : a = b) : Ending.returned (.bool a) = .returned (.bool b) := by rw [h]
theorem drewN_below (w : World) (n : Nat) : Below w.heap.size w (w.drewN n) := ⟨rfl, rfl, rfl, Nat.le_refl _, fun _ _ => rfl⟩
set_option maxHeartbeats 8000000 in
theorem sameData_any (a1 : Option Addr) (n1 c1 : Nat) (l1 : List Int) (a2 : Option Addr) (n2 c2 : Nat) (l2 : List Int) (w : World) (h1 : Sl .i32 w a1 n1 c1 l1) (h2 : Sl .i32 w a2 n2 c2 l2) :
    Calls Try.prog 29 #[.slice a1 n1 c1, .slice a2 n2 c2] w fun e w' => e = .returned (.bool (decide (l1 = l2))) ∧ Below w.heap.size w w' := by
  have H1 := hid h1
  have H2 := hid h2
  have hz1 := h1.1
  have hz2 := h2.1
  have hm : n1 ≤ 9223372036854775807 ∧ n2 ≤ 9223372036854775807 := by have k1 := h1.2.1; have k2 := h1.2.2.1; have k3 := h2.2.1; have k4 := h2.2.2.1; unfold maxLen at k2 k4; exact ⟨by omega, by omega⟩
  obtain ⟨m1, m2⟩ := hm
  clear h1 h2
  by_cases hn : n1 = n2
  · subst hn
    have HZ1 := hid hz1
    have HZ2 := hid hz2
    clear hz1 hz2
    go_enter Try.func29, Try.ntmps29
    go_wp2
    go_loopw [13] (fun v wr => ∃ x : Nat, x ≤ n1 ∧ v = .int .i64 x ∧ Hid (∀ i, i < x → l1.getD i 0 = l2.getD i 0) ∧ Hid (Below w.heap.size w wr)) (fun v _ => n1 - (intOf v).toNat)
    case atStart => exact ⟨0, by omega, rfl, hid (fun i hi => by omega), hid (Below.refl _ _)⟩
    case round =>
      obtain ⟨x, hx, rfl, HE, HW⟩ := hrel
      obtain ⟨wo, rfl⟩ : ∃ wo : World, wo = wr := ⟨_, rfl⟩
      by_cases hlt : x < n1
      · have hkb : decide ((x : Int) < (n1 : Int)) = true := by simp; omega
        have hkz : (x : Int) < (n1 : Int) := by omega
        rcases (H1.out.below HW.out).2.2.2.2.2 with h | ⟨b1, o1, rfl, hb1, hc1⟩
        · omega
        rcases (H2.out.below HW.out).2.2.2.2.2 with h | ⟨b2, o2, rfl, hb2, hc2⟩
        · omega
        have g1 := hc1 x hlt
        have g2 := hc2 x hlt
        obtain ⟨y, hy⟩ : ∃ y, l1.getD x 0 = y := ⟨_, rfl⟩
        obtain ⟨z, hz⟩ : ∃ z, l2.getD x 0 = z := ⟨_, rfl⟩
        rw [hy] at g1
        rw [hz] at g2
        have HY := hid hy
        have HZ := hid hz
        clear hc1 hc2 hy hz
        by_cases hyz : y = z
        · subst hyz
          go_upto_region 6 with (fail)
          go_quiet (fail)
          have K := hid (HW.out.trans ((drewN_below wo nq).mono HW.out.size))
          go_wp2_with fail
          go_roundw
          case rel => exact ⟨x + 1, by omega, by go_num, hid (fun i hi => by
            by_cases hix : i = x
            · subst hix; rw [HY.out, HZ.out]
            · exact HE.out i (by omega)), K⟩
          case measure => simp [intOf] <;> omega
        · have q1 : (y == z) = false := by simpa using hyz
          have q2 : (y != z) = true := by simpa using hyz
          have HN := hid hyz
          clear hyz
          go_upto_region 6 with (fail)
          go_quiet (fail)
          have K := HW.out.trans ((drewN_below wo nq).mono HW.out.size)
          go_wp2_with fail
          go_ret
          refine ⟨?_, K⟩
          have : decide (l1 = l2) = false := decide_eq_false (fun e => HN.out (by rw [← HY.out, ← HZ.out, e]))
          rw [this]; rfl
      · have hkb : decide ((x : Int) < (n1 : Int)) = false := by simp; omega
        obtain rfl : x = n1 := by omega
        go_wp2
        go_ret
        refine ⟨?_, HW.out⟩
        have : l1 = l2 := by
          apply List.ext_getElem?
          intro i
          by_cases hi : i < x
          · have := HE.out i hi
            rw [List.getD_eq_getElem?_getD, List.getD_eq_getElem?_getD, List.getElem?_eq_getElem (by rw [HZ1.out]; exact hi), List.getElem?_eq_getElem (by rw [HZ2.out]; exact hi)] at this
            rw [List.getElem?_eq_getElem (by rw [HZ1.out]; exact hi), List.getElem?_eq_getElem (by rw [HZ2.out]; exact hi)]
            simpa using this
          · rw [List.getElem?_eq_none (by rw [HZ1.out]; omega), List.getElem?_eq_none (by rw [HZ2.out]; omega)]
        rw [decide_eq_true this]; rfl
  · have q1 : ((n1 : Int) == (n2 : Int)) = false := by simp; omega
    have q2 : ((n1 : Int) != (n2 : Int)) = true := by simp; omega
    have q3 : (n1 == n2) = false := by simp; omega
    have q4 : (n1 != n2) = true := by simp; omega
    have e : decide (l1 = l2) = false := decide_eq_false (fun e => hn (by rw [← hz1, ← hz2, e]))
    rw [e]
    clear e hz1 hz2
    go_enter Try.func29, Try.ntmps29
    go_wp2
    go_ret
    exact ⟨rfl, Below.refl _ _⟩
set_option maxHeartbeats 8000000 in
theorem same_any (x1 x2 : Int) (a1 : Option Addr) (n1 c1 : Nat) (l1 : List Int) (a2 : Option Addr) (n2 c2 : Nat) (l2 : List Int) (w : World) (h1 : Sl .i32 w a1 n1 c1 l1) (h2 : Sl .i32 w a2 n2 c2 l2) :
    Calls Try.prog 14 #[.agg #[.int .i64 x1, .slice a1 n1 c1], .agg #[.int .i64 x2, .slice a2 n2 c2]] w fun e w' => e = .returned (.bool (decide (x1 = x2 ∧ l1 = l2))) ∧ Below w.heap.size w w' := by
  have c := hid (fun (w' : World) (hb : Below w.heap.size w w') => sameData_any a1 n1 c1 l1 a2 n2 c2 l2 w' (h1.below hb) (h2.below hb))
  clear h1 h2
  by_cases hx : x1 = x2
  · subst hx
    rw [show decide (x1 = x1 ∧ l1 = l2) = decide (l1 = l2) by simp]
    generalize decide (l1 = l2) = D at *
    go_enter Try.func14, Try.ntmps14
    go_wp2_with fail
    (with_reducible refine (c.out _ (by go_grown)).mono ?_); rintro e w1 ⟨rfl, hb⟩
    have hB := (show Below w.heap.size w _ by go_grown : Below w.heap.size w ((w.alloc (.cells #[.int .i64 x1, .slice a1 n1 c1] 36)).alloc (.cells #[.int .i64 x1, .slice a2 n2 c2] 36))).trans (hb.mono (by simp; omega))
    clear hb c
    go_wp2_with fail
    go_ret
    exact ⟨ret_lb' (by simp), hB⟩
  · have q1 : (x1 == x2) = false := by simpa using hx
    rw [show decide (x1 = x2 ∧ l1 = l2) = false from decide_eq_false (fun h => hx h.1)]
    clear c hx
    go_enter Try.func14, Try.ntmps14
    go_wp2_with fail
    go_ret
    exact ⟨rfl, by go_grown⟩
end Go.Proofs.Ytbcifmddbhnkhaa
