/- What GetText and its reference return: no statement is proved here. -/
import Derived.Test.YtimogkkkpkcblaaWireGet
namespace Go.Proofs.Ytimogkkkpkcblaa
open Go.ChangeShapes Go.WideShapes Go.ChangeAt Go.RowKit
set_option linter.unusedVariables false

def getText (l : List Int) (at' : Int) : List Int × Int × Int :=
  if at' < 0 ∨ (l.length : Int) < at' then ([], 0, 2)
  else if at' = l.length then ([], 0, 4)
  else if 64 < l.getD at'.toNat 0 then ([], 0, 3)
  else if (l.length : Int) - at' - 1 < l.getD at'.toNat 0 then ([], 0, 4)
  else ((l.drop (at'.toNat + 1)).take (l.getD at'.toNat 0).toNat, at' + 1 + l.getD at'.toNat 0, 0)

theorem getText_ok {l : List Int} {i x : Nat} (hx : l.getD i 0 = (x : Int)) (h64 : x ≤ 64) (hi : i + 1 + x ≤ l.length) : getText l i = ((l.drop (i + 1)).take x, (i : Int) + 1 + x, 0) := by
  unfold getText; rw [Int.toNat_natCast, hx, if_neg (by omega), if_neg (by omega), if_neg (by omega), if_neg (by omega), Int.toNat_natCast]

theorem leNat_one {l : List Int} {i x : Nat} (hx : l.getD i 0 = (x : Int)) (hi : i < l.length) : leNat ((l.drop i).take 1) = x := by
  rw [List.drop_eq_getElem_cons hi, List.take_succ_cons, List.take_zero]
  rw [List.getD_eq_getElem?_getD, List.getElem?_eq_getElem hi] at hx
  simp at hx
  simp [leNat]; omega

theorem ret_str {a b : ByteArray} {y z : Value} (h : a = b) : Ending.returned (.tuple #[.string a, y, z]) = .returned (.tuple #[.string b, y, z]) := by rw [h]

set_option maxHeartbeats 1000000 in
theorem getText_any (a : Option Addr) (len cap : Nat) (l : List Int) (w : World) (at' : Int) (hs : Sl .u8 w a len cap l) (h0 : -9223372036854775808 ≤ at') (h63 : at' ≤ 9223372036854775807) :
    Calls Try.prog 24 #[.slice a len cap, .int .i64 at'] w fun e w' => e = .returned (.tuple #[.string (strOfNums (getText l at').1), .int .i64 (getText l at').2.1, .int .i64 (getText l at').2.2]) ∧ w = w' := by
  have HS := hid hs
  obtain ⟨hz, hl, hm, hw, hnn, h1⟩ := hs
  have hb := byte_of_wf hw
  unfold maxLen at hm
  by_cases hneg : at' < 0
  · have e : getText l at' = ([], 0, 2) := by unfold getText; rw [if_pos (.inl hneg)]
    rw [e]
    clear h1 hw hb hz hnn e
    go_enter Try.func24, Try.ntmps24
    go_wp2
    go_ret3
    exact ⟨rfl, rfl⟩
  · obtain ⟨i, rfl⟩ : ∃ i : Nat, at' = i := ⟨at'.toNat, by omega⟩
    by_cases hgt : len < i
    · have e : getText l i = ([], 0, 2) := by unfold getText; rw [if_pos (.inr (by omega))]
      rw [e]
      have hd : decide ((len : Int) < (i : Int)) = true := by simp; omega
      clear h1 hw hb hz hnn e
      go_enter Try.func24, Try.ntmps24
      go_wp2
      go_ret3
      exact ⟨rfl, rfl⟩
    · by_cases heq : i = len
      · have e : getText l i = ([], 0, 4) := by unfold getText; rw [if_neg (by omega), if_pos (by omega)]
        rw [e]
        subst heq
        have hd : decide ((i : Int) < (i : Int)) = false := by simp
        have hd2 : ((i : Int) == (i : Int)) = true := by simp
        clear h1 hw hb hz hnn e
        go_enter Try.func24, Try.ntmps24
        go_wp2
        go_ret3
        exact ⟨rfl, rfl⟩
      · rcases h1 with h1 | ⟨b, off, rfl, hlt, hcell⟩
        · omega
        obtain ⟨x, hc, hx⟩ := row_at hcell i (by omega)
        have hbk : 0 ≤ x ∧ x ≤ 255 := by rw [← hx.out]; exact byte_getD hb _
        obtain ⟨hx0, hx1⟩ := hbk
        obtain ⟨x, rfl⟩ : ∃ y : Nat, x = y := ⟨x.toNat, by omega⟩
        have hd : decide ((len : Int) < (i : Int)) = false := by simp; omega
        have hd2 : ((i : Int) == (len : Int)) = false := by simp; omega
        by_cases h64 : 64 < x
        · have e : getText l i = ([], 0, 3) := by
            unfold getText; rw [if_neg (by omega), if_neg (by omega), Int.toNat_natCast, hx.out, if_pos (by omega)]
          rw [e]
          clear hw hb hz hnn e hcell hx
          go_enter Try.func24, Try.ntmps24
          go_wp2
          go_ret3
          exact ⟨rfl, rfl⟩
        · by_cases hsh : len < i + 1 + x
          · have e : getText l i = ([], 0, 4) := by
              unfold getText; rw [if_neg (by omega), if_neg (by omega), Int.toNat_natCast, hx.out, if_neg (by omega), if_pos (by omega)]
            rw [e]
            have h3 : (len : Int) - (i : Int) - 1 < (x : Int) := by omega
            clear hw hb hz hnn e hcell hx
            go_enter Try.func24, Try.ntmps24
            go_wp2
            go_ret3
            exact ⟨rfl, rfl⟩
          · rw [getText_ok hx.out (by omega) (by omega)]
            have h3 : ¬ ((len : Int) - (i : Int) - 1 < (x : Int)) := by omega
            by_cases hcap : cap = i + 1
            · obtain rfl : x = 0 := by omega
              obtain rfl : len = i + 1 := by omega
              subst hcap
              have hcv := run_string_sl (P := Try.prog) Try.underlying22 Try.underlying5 (sl_sub HS.out 0 0 0 (by omega) (by omega) (by unfold maxLen; omega)) 9 Try.underlying9
              simp only [Nat.add_zero, List.take_zero] at hcv
              clear hw hb hz hnn hcell hx hd hd2 h3
              have h1 : decide (((i + 1 : Nat) : Int) < (i : Int)) = false := by simp; omega
              have h2 : ((i : Int) == ((i + 1 : Nat) : Int)) = false := by simp; omega
              have h3 : ¬ (((i + 1 : Nat) : Int) - (i : Int) - 1 < 0) := by omega
              go_enter Try.func24, Try.ntmps24
              go_wp2
              go_ret3
              exact ⟨by simp, rfl⟩
            · have hcv := run_string_sl (P := Try.prog) Try.underlying22 Try.underlying5 (sl_sub HS.out (i + 1) x (cap - (i + 1)) (by omega) (by omega) (by unfold maxLen; omega)) 9 Try.underlying9
              clear hw hb hz hnn hcell hx
              go_enter Try.func24, Try.ntmps24
              go_wp2
              go_ret3
              exact ⟨rfl, rfl⟩

theorem getText_byN {w : World} {a : Option Addr} {len cap : Nat} {l : List Int} (hs : Sl .u8 w a len cap l) (at' : Int) :
    ((getN l at' 1).2.2 = 2 ∧ getN l at' 1 = (0, 0, 2) ∧ getText l at' = ([], 0, 2)) ∨ ((getN l at' 1).2.2 = 4 ∧ getN l at' 1 = (0, 0, 4) ∧ getText l at' = ([], 0, 4)) ∨
    ∃ i x : Nat, at' = i ∧ i < len ∧ x ≤ 255 ∧ l.getD i 0 = (x : Int) ∧ getN l at' 1 = (x, (i : Int) + 1, 0) := by
  by_cases h : at' < 0 ∨ (l.length : Int) < at'
  · have e := getN_range (size := 1) h
    refine .inl ⟨by rw [e], e, by unfold getText; rw [if_pos h]⟩
  · obtain ⟨i, rfl⟩ : ∃ i : Nat, at' = i := ⟨at'.toNat, by omega⟩
    by_cases h2 : i = l.length
    · have e := getN_short (size := 1) h (by omega)
      refine .inr (.inl ⟨by rw [e], e, by unfold getText; rw [if_neg h, if_pos (by omega)]⟩)
    · have hb := byte_getD (byte_of_wf hs.2.2.2.1) i
      have hi : i < l.length := by omega
      refine .inr (.inr ⟨i, (l.getD i 0).toNat, rfl, by have := hs.1; omega, by omega, by omega, ?_⟩)
      rw [getN_ok (by omega), leNat_one (x := (l.getD i 0).toNat) (by omega) hi]
      rfl

set_option maxHeartbeats 1000000 in
theorem rgetText_any (a : Option Addr) (len cap : Nat) (l : List Int) (w : World) (at' : Int) (hs : Sl .u8 w a len cap l) (h0 : -9223372036854775808 ≤ at') (h63 : at' ≤ 9223372036854775807) :
    Calls Try.prog 25 #[.slice a len cap, .int .i64 at'] w fun e w' => e = .returned (.tuple #[.string (strOfNums (getText l at').1), .int .i64 (getText l at').2.1, .int .i64 (getText l at').2.2]) ∧ w = w' := by
  have HS := hid hs
  have hr := rget_any a len cap l w at' 1 (by omega) (by omega) hs h0 h63
  have hl := hs.2.1
  have hm := hs.2.2.1
  unfold maxLen at hm
  rcases getText_byN hs at' with ⟨_, e1, e2⟩ | ⟨_, e1, e2⟩ | ⟨i, x, rfl, hi, hx1, hx, e1⟩
  · rw [e1] at hr; rw [e2]
    clear e1 e2 hs
    go_enter Try.func25, Try.ntmps25
    go_wp2_with (go_at_call 36; refine hr.mono ?_; rintro e w' ⟨rfl, rfl⟩)
    go_ret3
    exact ⟨rfl, rfl⟩
  · rw [e1] at hr; rw [e2]
    clear e1 e2 hs
    go_enter Try.func25, Try.ntmps25
    go_wp2_with (go_at_call 36; refine hr.mono ?_; rintro e w' ⟨rfl, rfl⟩)
    go_ret3
    exact ⟨rfl, rfl⟩
  · rw [e1] at hr
    have hz := hs.1
    rcases hs.2.2.2.2.2 with h0 | ⟨b, off, rfl, _, _⟩
    · omega
    by_cases h64 : 64 < x
    · have e : getText l i = ([], 0, 3) := by
        unfold getText; rw [if_neg (by omega), if_neg (by omega), Int.toNat_natCast, hx, if_pos (by omega)]
      rw [e]
      clear e1 hs hz hx e
      go_enter Try.func25, Try.ntmps25
      go_wp2_with (go_at_call 36; refine hr.mono ?_; rintro e w' ⟨rfl, rfl⟩)
      go_ret3
      exact ⟨rfl, rfl⟩
    · by_cases hsh : len < i + 1 + x
      · have e : getText l i = ([], 0, 4) := by
          unfold getText; rw [if_neg (by omega), if_neg (by omega), Int.toNat_natCast, hx, if_neg (by omega), if_pos (by omega)]
        rw [e]
        have h3 : (len : Int) - ((i : Int) + 1) < (x : Int) := by omega
        clear e1 hs hz hx e
        go_enter Try.func25, Try.ntmps25
        go_wp2_with (go_at_call 36; refine hr.mono ?_; rintro e w' ⟨rfl, rfl⟩)
        go_ret3
        exact ⟨rfl, rfl⟩
      · rw [getText_ok hx (by omega) (by omega)]
        have h3 : ¬ ((len : Int) - ((i : Int) + 1) < (x : Int)) := by omega
        by_cases hcap : cap = i + 1
        · obtain rfl : x = 0 := by omega
          obtain rfl : len = i + 1 := by omega
          subst hcap
          have hcv := run_string_sl (P := Try.prog) Try.underlying22 Try.underlying5 (sl_sub HS.out 0 0 0 (by omega) (by omega) (by unfold maxLen; omega)) 9 Try.underlying9
          simp only [Nat.add_zero, List.take_zero] at hcv
          clear e1 hs hz hx h3
          go_enter Try.func25, Try.ntmps25
          go_wp2_with (go_at_call 36; refine hr.mono ?_; rintro e w' ⟨rfl, rfl⟩)
          go_ret3
          exact ⟨by simp, rfl⟩
        · have hcv := run_string_sl (P := Try.prog) Try.underlying22 Try.underlying5 (sl_sub HS.out (i + 1) x (cap - (i + 1)) (by omega) (by omega) (by unfold maxLen; omega)) 9 Try.underlying9
          clear e1 hs hz hx
          go_enter Try.func25, Try.ntmps25
          go_wp2_with (go_at_call 36; refine hr.mono ?_; rintro e w' ⟨rfl, rfl⟩)
          go_ret3
          exact ⟨rfl, rfl⟩

end Go.Proofs.Ytimogkkkpkcblaa
