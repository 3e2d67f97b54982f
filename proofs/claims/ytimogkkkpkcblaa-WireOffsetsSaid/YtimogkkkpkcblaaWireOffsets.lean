/- The law WireOffsets returns true: the walk. -/
import Derived.Test.YtimogkkkpkcblaaWireSane
import Derived.Test.YtimogkkkpkcblaaWireText
namespace Go.Proofs.Ytimogkkkpkcblaa
open Go.ChangeShapes Go.WideShapes Go.ChangeAt Go.RowKit
set_option linter.unusedVariables false

theorem getN_shift (b c : List Int) (size : Nat) : (∃ e : Int, getN (b ++ c) b.length size = (0, 0, e) ∧ getN c (0 : Nat) size = (0, 0, e) ∧ ¬ e = 0 ∧ 0 < e ∧ e ≤ 9) ∨
    ∃ n : Nat, getN (b ++ c) b.length size = (n, (b.length : Int) + (size : Int), 0) ∧ getN c (0 : Nat) size = (n, (0 : Nat) + (size : Int), 0) := by
  by_cases h : c.length < size
  · exact .inl ⟨4, getN_short (by rw [List.length_append]; omega) (by rw [List.length_append]; omega), getN_short (by omega) (by omega), by omega, by omega, by omega⟩
  · refine .inr ⟨leNat (c.take size), ?_, ?_⟩
    · rw [getN_ok (by rw [List.length_append]; omega), List.drop_left]
    · rw [getN_ok (by omega), List.drop_zero]

theorem getText_shift (b c : List Int) (hb : Byte c) : (∃ e : Int, getText (b ++ c) b.length = ([], 0, e) ∧ getText c (0 : Nat) = ([], 0, e) ∧ ¬ e = 0 ∧ 0 < e ∧ e ≤ 9) ∨
    ∃ (t : List Int) (x : Nat), getText (b ++ c) b.length = (t, (b.length : Int) + 1 + (x : Int), 0) ∧ getText c (0 : Nat) = (t, (0 : Nat) + 1 + (x : Int), 0) ∧ x ≤ 64 := by
  have e0 : (b ++ c).getD b.length 0 = c.getD 0 0 := by
    rw [List.getD_eq_getElem?_getD, List.getElem?_append_right (Nat.le_refl _), Nat.sub_self, ← List.getD_eq_getElem?_getD]
  have hx := byte_getD hb 0
  by_cases h : c.length = 0
  · refine .inl ⟨4, ?_, ?_, by omega, by omega, by omega⟩
    · unfold getText; rw [if_neg (by rw [List.length_append]; omega), if_pos (by rw [List.length_append]; omega)]
    · unfold getText; rw [if_neg (by omega), if_pos (by omega)]
  by_cases h64 : 64 < c.getD 0 0
  · refine .inl ⟨3, ?_, ?_, by omega, by omega, by omega⟩
    · unfold getText; rw [if_neg (by rw [List.length_append]; omega), if_neg (by rw [List.length_append]; omega), Int.toNat_natCast, e0, if_pos h64]
    · unfold getText; rw [if_neg (by omega), if_neg (by omega), Int.toNat_natCast, if_pos h64]
  by_cases hsh : (c.length : Int) - 1 < c.getD 0 0
  · refine .inl ⟨4, ?_, ?_, by omega, by omega, by omega⟩
    · unfold getText; rw [if_neg (by rw [List.length_append]; omega), if_neg (by rw [List.length_append]; omega), Int.toNat_natCast, e0, if_neg h64, if_pos (by rw [List.length_append]; omega)]
    · unfold getText; rw [if_neg (by omega), if_neg (by omega), Int.toNat_natCast, if_neg h64, if_pos (by omega)]
  obtain ⟨x, hxx⟩ : ∃ x : Nat, c.getD 0 0 = x := ⟨(c.getD 0 0).toNat, by omega⟩
  refine .inr ⟨(c.drop 1).take x, x, ?_, ?_, by omega⟩
  · rw [getText_ok (e0.trans hxx) (by omega) (by rw [List.length_append]; omega)]
    rw [← List.drop_drop, List.drop_left]
  · rw [getText_ok hxx (by omega) (by omega)]

set_option maxHeartbeats 4000000 in
theorem wireOffsets_walk (a : Option Addr) (len cap : Nat) (l : List Int) (a1 : Option Addr) (len1 cap1 : Nat) (m : List Int) (w : World) (hs : Sl .u8 w a len cap l) (ht : Sl .u8 w a1 len1 cap1 m) :
    Calls Try.prog 8 #[.slice a len cap, .slice a1 len1 cap1] w fun e w' => e = .returned (.bool true) ∧ Below w.heap.size w w' := by
  have hm : Hid (len ≤ 9223372036854775807 ∧ len1 ≤ 9223372036854775807) := by
    have h1 := hs.2.1; have h2 := hs.2.2.1; have h3 := ht.2.1; have h4 := ht.2.2.1; unfold maxLen at h2 h4; exact ⟨by omega, by omega⟩
  by_cases hlen : len ≤ 100
  · by_cases hlen1 : len1 ≤ 200
    · have hd : ¬ (100 < (len : Int)) := by omega
      have hd1 : ¬ (200 < (len1 : Int)) := by omega
      have HS := hid hs
      have HT := hid ht
      have hz := hs.1
      have hz1 := ht.1
      have hw : ∀ n ∈ l ++ m, (Lit.int .u8 n).wf = true := by
        intro n hn; rcases List.mem_append.1 hn with h | h
        · exact hs.2.2.2.1 n h
        · exact ht.2.2.2.1 n h
      have g1 := getN_shift l m 4
      have g2 := getText_shift l m (byte_of_wf ht.2.2.2.1)
      rw [hz] at g1 g2
      have HZ := hid hz
      have HZ1 := hid hz1
      have HW := hid hw
      have H32 : ∀ N, getN (l ++ m) len 4 = N → Hid (∀ w1 v, Made w.heap.size .u8 w1 v (l ++ m) → Calls Try.prog 20 #[v, .int .i64 len] w1 fun e w' => e = .returned (.tuple #[.int .u32 N.1, .int .i64 N.2.1, .int .i64 N.2.2]) ∧ w1 = w') := by
        intro N hN w1 v hv
        obtain ⟨a, cap, rfl, hsl, _⟩ := hv
        have h := Get32_any a _ cap (l ++ m) w1 len hsl (by omega) (by have := hm.out.1; omega)
        rw [hN] at h; exact h
      have HTX : ∀ N, getText (l ++ m) len = N → Hid (∀ w1 v, Made w.heap.size .u8 w1 v (l ++ m) → Calls Try.prog 24 #[v, .int .i64 len] w1 fun e w' => e = .returned (.tuple #[.string (strOfNums N.1), .int .i64 N.2.1, .int .i64 N.2.2]) ∧ w1 = w') := by
        intro N hN w1 v hv
        obtain ⟨a, cap, rfl, hsl, _⟩ := hv
        have h := getText_any a _ cap (l ++ m) w1 len hsl (by omega) (by have := hm.out.1; omega)
        rw [hN] at h; exact h
      have H32' : ∀ N, getN m (0 : Nat) 4 = N → Hid (∀ w1, Below w.heap.size w w1 → Calls Try.prog 20 #[.slice a1 len1 cap1, .int .i64 0] w1 fun e w' => e = .returned (.tuple #[.int .u32 N.1, .int .i64 N.2.1, .int .i64 N.2.2]) ∧ w1 = w') := by
        intro N hN w1 hb
        have h := Get32_any a1 len1 cap1 m w1 (0 : Nat) (HT.out.below hb) (by omega) (by omega)
        rw [hN] at h; exact h
      have HTX' : ∀ N, getText m (0 : Nat) = N → Hid (∀ w1, Below w.heap.size w w1 → Calls Try.prog 24 #[.slice a1 len1 cap1, .int .i64 0] w1 fun e w' => e = .returned (.tuple #[.string (strOfNums N.1), .int .i64 N.2.1, .int .i64 N.2.2]) ∧ w1 = w') := by
        intro N hN w1 hb
        have h := getText_any a1 len1 cap1 m w1 (0 : Nat) (HT.out.below hb) (by omega) (by omega)
        rw [hN] at h; exact h
      clear hs ht hz hz1 hw hm
      rcases g1 with ⟨e, p1, p2, hne, hpos, hle⟩ | ⟨n, p1, p2⟩ <;> rcases g2 with ⟨f, q1, q2, hnf, hpf, hlf⟩ | ⟨t, x, q1, q2, hx⟩
      all_goals
        have C1 := H32 _ p1
        have C2 := HTX _ q1
        have C3 := H32' _ p2
        have C4 := HTX' _ q2
        clear H32 HTX H32' HTX' p1 p2 q1 q2
        go_enter Try.func8, Try.ntmps8
        go_wp2_with (first
          | (go_at_call 9; refine (sane_any w).mono ?_; rintro e w1 ⟨rfl, hb⟩; have HB := hid hb; clear hb)
          | (at_builtin; refine wpList_append_sl _ rfl (.const (.slice none 0 0)) (.tmp 28) 22 rfl .u8 5 (.int .u8 0) 1 Try.underlying22 info_u8 rfl w.heap.size (.slice none 0 0) 0 [] (World.ownsRow_nil _ w.heap.size 5 1) rfl a len cap l rfl (HS.out.below HB.out) (by unfold maxLen; omega) (by omega) HB.out.size ?_; intro v2 w2 ho2 hg2; have HB2 := hid (HB.out.grown hg2.out HB.out.size (by intro k hk; cases hk)); clear hg2)
          | (at_builtin; refine wpList_append_sl _ rfl (.tmp 29) (.tmp 30) 22 rfl .u8 5 (.int .u8 0) 1 Try.underlying22 info_u8 rfl w.heap.size v2 (0 + len) _ ho2.out rfl a1 len1 cap1 m rfl (HT.out.below HB2.out) (by unfold maxLen; omega) (by omega) HB2.out.size ?_; intro v3 w3 ho3 hg3; have HB3 := hid (HB2.out.grown hg3.out HB2.out.size (fun k hk => (ho2.out.lt k hk).1)); have HM := hid (made_of_own (l := l ++ m) (by simp) HW.out (by rw [List.length_append, HZ.out, HZ1.out]; omega) ho3.out); clear ho2 ho3 hg3)
          | (go_at_call 20; ((with_reducible refine (C1.out _ _ HM.out).mono ?_); rintro e w4 ⟨rfl, rfl⟩))
          | (go_at_call 20; ((with_reducible refine (C3.out _ HB3.out).mono ?_); rintro e w4 ⟨rfl, rfl⟩))
          | (go_at_call 24; ((with_reducible refine (C2.out _ _ HM.out).mono ?_); rintro e w4 ⟨rfl, rfl⟩))
          | (go_at_call 24; ((with_reducible refine (C4.out _ HB3.out).mono ?_); rintro e w4 ⟨rfl, rfl⟩)))
        go_ret
        exact ⟨ret_bool (by first | rfl | (simp; done) | (simp; omega)), HB3.out⟩
    · have hd : ¬ (100 < (len : Int)) := by omega
      have hd1 : 200 < (len1 : Int) := by omega
      clear hs ht
      go_enter Try.func8, Try.ntmps8
      go_wp2_with (go_at_call 9; refine (sane_any w).mono ?_; rintro e w1 ⟨rfl, hb⟩; have HB := hid hb; clear hb)
      go_ret
      exact ⟨rfl, HB.out⟩
  · have hd : 100 < (len : Int) := by omega
    clear hs ht
    go_enter Try.func8, Try.ntmps8
    go_wp2_with (go_at_call 9; refine (sane_any w).mono ?_; rintro e w1 ⟨rfl, hb⟩; have HB := hid hb; clear hb)
    go_ret
    exact ⟨rfl, HB.out⟩

end Go.Proofs.Ytimogkkkpkcblaa
