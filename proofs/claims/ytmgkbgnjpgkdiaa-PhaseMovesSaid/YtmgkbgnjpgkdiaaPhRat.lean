/- Divisors, valid ratios, and ratios that the reference makes. No statement is proved here. -/
import Derived.Test.YtmgkbgnjpgkdiaaLive
import Derived.Handy
import Derived.IntWalk
import Derived.PlainAid
import Derived.Deep.RegionHeld3
namespace Go.Proofs.Ytmgkbgnjpgkdiaa
open Go.ChangeShapes Go.WideShapes Go.ChangeAt Go.RowKit
set_option linter.unusedVariables false
set_option linter.unusedSimpArgs false

theorem ret_bb {a b : Bool} (h : a = b) : Ending.returned (.bool a) = .returned (.bool b) := by rw [h]
theorem gcd_step (x y : Int) (hx : 0 ≤ x) (hy : 0 < y) : Int.gcd y (x % y) = Int.gcd x y := by
  obtain ⟨m, rfl⟩ := Int.eq_ofNat_of_zero_le hx
  obtain ⟨n, rfl⟩ := Int.eq_ofNat_of_zero_le (Int.le_of_lt hy)
  have e : ((m : Int) % (n : Int)) = ((m % n : Nat) : Int) := by omega
  rw [e]
  show Nat.gcd n (m % n) = Nat.gcd m n
  rw [Nat.gcd_comm m n, Nat.gcd_rec n m, Nat.gcd_comm]
set_option maxHeartbeats 1000000 in
theorem divisor_any (a b : Int) (ha : 0 ≤ a) (ha2 : a ≤ 9223372036854775807) (hb : 0 ≤ b) (hb2 : b ≤ 9223372036854775807) (w : World) :
    Calls Try.prog 42 #[.int .i64 a, .int .i64 b] w fun e w' => e = .returned (.int .i64 (Int.gcd a b)) ∧ Below w.heap.size w w' := by
  go_enter Try.func42, Try.ntmps42
  go_wp2
  go_loopw [0, 1] (fun u v wr => ∃ x y : Int, 0 ≤ x ∧ x ≤ 9223372036854775807 ∧ 0 ≤ y ∧ y ≤ 9223372036854775807 ∧ u = .int .i64 x ∧ v = .int .i64 y ∧ Hid (Int.gcd x y = Int.gcd a b) ∧ Hid (Below w.heap.size w wr)) (fun _ v _ => (intOf v).toNat)
  case atStart => exact ⟨a, b, ha, ha2, hb, hb2, rfl, rfl, hid rfl, Below.refl _ _⟩
  case round =>
    obtain ⟨x, y, hx, hx2, hy, hy2, rfl, rfl, hg, hbw⟩ := hrel
    by_cases h0 : y = 0
    · subst h0
      go_wp2
      go_ret
      refine ⟨ret_int ?_, hbw.out⟩
      rw [← hg.out]; simp [Int.gcd]; omega
    · have hy0 : 0 < y := by omega
      have hyb : (y == 0) = false := by simp; omega
      have hyb2 : (y != 0) = true := by simp; omega
      have r1 := Int.emod_nonneg x h0
      have r2 := Int.emod_lt_of_pos x hy0
      have HS := hid (gcd_step x y hx hy0)
      clear h0
      go_wp2
      go_quiet (fail)
      go_wp2
      go_roundw
      case rel => exact ⟨y, x % y, hy, hy2, r1, by omega, rfl, rfl, hid (HS.out.trans hg.out), hbw.out.trans ⟨rfl, rfl, rfl, by have := hbw.out.size; exact Nat.le_refl _, fun _ _ => rfl⟩⟩
      case measure => simp [intOf]; omega
set_option maxHeartbeats 1000000 in
theorem rgcd_any (a b : Int) (ha : 0 ≤ a) (ha2 : a ≤ 9223372036854775807) (hb : 0 ≤ b) (hb2 : b ≤ 9223372036854775807) (w : World) :
    Calls Try.prog 43 #[.int .i64 a, .int .i64 b] w fun e w' => e = .returned (.int .i64 (Int.gcd a b)) ∧ Below w.heap.size w w' := by
  go_enter Try.func43, Try.ntmps43
  go_wp2
  go_loopw [0, 1] (fun u v wr => ∃ x y : Int, 0 ≤ x ∧ x ≤ 9223372036854775807 ∧ 0 ≤ y ∧ y ≤ 9223372036854775807 ∧ u = .int .i64 x ∧ v = .int .i64 y ∧ Hid (Int.gcd x y = Int.gcd a b) ∧ Hid (Below w.heap.size w wr)) (fun _ v _ => (intOf v).toNat)
  case atStart => exact ⟨a, b, ha, ha2, hb, hb2, rfl, rfl, hid rfl, Below.refl _ _⟩
  case round =>
    obtain ⟨x, y, hx, hx2, hy, hy2, rfl, rfl, hg, hbw⟩ := hrel
    by_cases h0 : y = 0
    · subst h0
      go_wp2
      go_ret
      refine ⟨ret_int ?_, hbw.out⟩
      rw [← hg.out]; simp [Int.gcd]; omega
    · have hy0 : 0 < y := by omega
      have hyb : (y == 0) = false := by simp; omega
      have hyb2 : (y != 0) = true := by simp; omega
      have r1 := Int.emod_nonneg x h0
      have r2 := Int.emod_lt_of_pos x hy0
      have HS := hid (gcd_step x y hx hy0)
      clear h0
      go_wp2
      go_quiet (fail)
      go_wp2
      go_roundw
      case rel => exact ⟨y, x % y, hy, hy2, r1, by omega, rfl, rfl, hid (HS.out.trans hg.out), hbw.out.trans ⟨rfl, rfl, rfl, by have := hbw.out.size; exact Nat.le_refl _, fun _ _ => rfl⟩⟩
      case measure => simp [intOf]; omega
theorem isTerm_any (n : Int) (w : World) : Calls Try.prog 41 #[.int .i64 n] w fun e w' => e = .returned (.bool (decide (1 ≤ n ∧ n ≤ 68719476736))) ∧ w = w' := by
  go_enter Try.func41, Try.ntmps41
  go_wp2
  all_goals (go_ret; exact ⟨ret_bb (by rw [Bool.eq_iff_iff]; simp; try omega), rfl⟩)
def ratV (n d : Int) : Bool := decide ((1 ≤ n ∧ n ≤ 68719476736) ∧ (1 ≤ d ∧ d ≤ 68719476736) ∧ Int.gcd n d = 1)
theorem ratV_true {n d : Int} : ratV n d = true ↔ (1 ≤ n ∧ n ≤ 68719476736) ∧ (1 ≤ d ∧ d ≤ 68719476736) ∧ Int.gcd n d = 1 := by unfold ratV; simp
theorem ratv_any (n d : Int) (w : World) :
    Calls Try.prog 33 #[.agg #[.int .i64 n, .int .i64 d]] w fun e w' => e = .returned (.bool (ratV n d)) ∧ Below w.heap.size w w' := by
  by_cases h : (1 ≤ n ∧ n ≤ 68719476736) ∧ (1 ≤ d ∧ d ≤ 68719476736)
  · obtain ⟨⟨n1, n2⟩, d1, d2⟩ := h
    have hv : ratV n d = decide (((Int.gcd n d : Nat) : Int) = 1) := by unfold ratV; rw [decide_eq_decide]; omega
    rw [hv]
    clear hv
    go_enter Try.func33, Try.ntmps33
    go_wp2_with (first | (go_at_call 42; (with_reducible refine (divisor_any n d (by omega) (by omega) (by omega) (by omega) _).mono ?_); rintro e w1 ⟨rfl, hb⟩; have HB := hid hb; clear hb) | (go_at_call 41; (with_reducible refine (isTerm_any _ _).mono ?_); rintro e w1 ⟨rfl, rfl⟩))
    go_ret
    exact ⟨ret_bb (by rw [Bool.eq_iff_iff]; simp), by have h := HB.out; exact ((Below.refl _ _).alloc (Nat.le_refl _) _).trans (h.mono (by simp))⟩
  · have hv : ratV n d = false := by unfold ratV; simp; intros; omega
    rw [hv]
    clear hv
    have H := hid h
    clear h
    go_enter Try.func33, Try.ntmps33
    go_wp2_with (first | (go_at_call 42; exfalso; apply H.out; (try simp only [decide_eq_true_eq] at *); omega) | (go_at_call 41; (with_reducible refine (isTerm_any _ _).mono ?_); rintro e w1 ⟨rfl, rfl⟩))
    all_goals first
      | (go_ret; exact ⟨rfl, by go_grown⟩)
      | (exfalso; apply H.out; (try simp only [decide_eq_true_eq] at *); omega)
theorem rratv_any (n d : Int) (w : World) :
    Calls Try.prog 34 #[.agg #[.int .i64 n, .int .i64 d]] w fun e w' => e = .returned (.bool (ratV n d)) ∧ Below w.heap.size w w' := by
  by_cases h : (1 ≤ n ∧ n ≤ 68719476736) ∧ (1 ≤ d ∧ d ≤ 68719476736)
  · obtain ⟨⟨n1, n2⟩, d1, d2⟩ := h
    have hv : ratV n d = decide (((Int.gcd n d : Nat) : Int) = 1) := by unfold ratV; rw [decide_eq_decide]; omega
    rw [hv]
    clear hv
    go_enter Try.func34, Try.ntmps34
    go_wp2_with (first | (go_at_call 43; (with_reducible refine (rgcd_any n d (by omega) (by omega) (by omega) (by omega) _).mono ?_); rintro e w1 ⟨rfl, hb⟩; have HB := hid hb; clear hb))
    go_ret
    exact ⟨ret_bb (by rw [Bool.eq_iff_iff]; simp), by have h := HB.out; exact ((Below.refl _ _).alloc (Nat.le_refl _) _).trans (h.mono (by simp))⟩
  · have hv : ratV n d = false := by unfold ratV; simp; intros; omega
    rw [hv]
    clear hv
    have H := hid h
    clear h
    go_enter Try.func34, Try.ntmps34
    go_wp2_with (first | (go_at_call 43; exfalso; apply H.out; (try simp only [decide_eq_true_eq] at *); omega))
    all_goals first
      | (go_ret; exact ⟨rfl, by go_grown⟩)
      | (exfalso; apply H.out; (try simp only [decide_eq_true_eq] at *); omega)
def mkV (a b : Int) : (Int × Int) × Int := if a < 1 ∨ b < 1 then ((0, 0), 1) else if a / Int.gcd a b ≤ 68719476736 ∧ b / Int.gcd a b ≤ 68719476736 then ((a / Int.gcd a b, b / Int.gcd a b), 0) else ((0, 0), 2)
theorem gcd_pos {a b : Int} (ha : 1 ≤ a) : 1 ≤ ((Int.gcd a b : Nat) : Int) := by
  have : Int.gcd a b ≠ 0 := by intro h; have := (Int.gcd_eq_zero_iff.1 h).1; omega
  omega
theorem quot_pos {a b : Int} (ha : 1 ≤ a) (hb : 1 ≤ b) : 1 ≤ a / Int.gcd a b ∧ 1 ≤ b / Int.gcd a b ∧ a / Int.gcd a b ≤ a ∧ b / Int.gcd a b ≤ b := by
  have hg := gcd_pos (b := b) ha
  have h1 : ((Int.gcd a b : Nat) : Int) ∣ a := Int.gcd_dvd_left ..
  have h2 : ((Int.gcd a b : Nat) : Int) ∣ b := Int.gcd_dvd_right ..
  refine ⟨?_, ?_, Int.ediv_le_self _ (by omega), Int.ediv_le_self _ (by omega)⟩
  · have := Int.ediv_pos_of_pos_of_dvd (by omega : 0 < a) (by omega) h1; omega
  · have := Int.ediv_pos_of_pos_of_dvd (by omega : 0 < b) (by omega) h2; omega
theorem quot_coprime {a b : Int} (ha : 1 ≤ a) : Int.gcd (a / Int.gcd a b) (b / Int.gcd a b) = 1 := by
  have hg := gcd_pos (b := b) ha
  exact Int.gcd_ediv_gcd_ediv_gcd (by omega)
set_option maxHeartbeats 4000000 in
theorem rmake_any (a b : Int) (ha : a ≤ 9223372036854775807) (hb : b ≤ 9223372036854775807) (w : World) :
    Calls Try.prog 44 #[.int .i64 a, .int .i64 b] w fun e w' => e = .returned (.tuple #[.agg #[.int .i64 (mkV a b).1.1, .int .i64 (mkV a b).1.2], .int .i64 (mkV a b).2]) ∧ Below w.heap.size w w' := by
  by_cases h : a < 1 ∨ b < 1
  · have e : mkV a b = ((0, 0), 1) := by unfold mkV; rw [if_pos h]
    rw [e]
    have H := hid h
    clear h e
    go_enter Try.func44, Try.ntmps44
    go_wp2_with (go_at_call 43; exfalso; have := H.out; omega)
    all_goals (go_returns; exact ⟨rfl, by go_grown⟩)
  · have ha1 : 1 ≤ a := by omega
    have hb1 : 1 ≤ b := by omega
    obtain ⟨q1, q2, q3, q4⟩ := quot_pos ha1 hb1
    have hg := gcd_pos (b := b) ha1
    have e : mkV a b = if a / Int.gcd a b ≤ 68719476736 ∧ b / Int.gcd a b ≤ 68719476736 then ((a / Int.gcd a b, b / Int.gcd a b), 0) else ((0, 0), 2) := by unfold mkV; rw [if_neg h]
    have c1 := hid (fun w => rgcd_any a b (by omega) ha (by omega) hb w)
    rw [e]
    clear e h
    generalize ((Int.gcd a b : Nat) : Int) = G at *
    have d1 : a.tdiv G = a / G := Int.tdiv_eq_ediv_of_nonneg (by omega)
    have d2 : b.tdiv G = b / G := Int.tdiv_eq_ediv_of_nonneg (by omega)
    generalize a / G = X at *
    generalize b / G = Y at *
    have g0 : (G == 0) = false := by simp; omega
    have g1 : ¬ G = 0 := by omega
    have u1 : IntKind.i64.wrap X = X := IntWalk.i64_in _ (by omega)
    have u2 : IntKind.i64.wrap Y = Y := IntWalk.i64_in _ (by omega)
    have u3 : wrap64 X = X := by simp only [wrap64]; omega
    have u4 : wrap64 Y = Y := by simp only [wrap64]; omega
    go_enter Try.func44, Try.ntmps44
    go_wp2_with (first | (go_at_call 43; (with_reducible refine (c1.out _).mono ?_); rintro e w1 ⟨rfl, hb⟩; have HL := hid (Lv.kept (Lv.alloc (vs := [.int .i64 0, .int .i64 0]) (T := 23) (Lv.start w)) hb); clear hb) | go_in)
    have hS := HL.out.drew
    go_region_held3 (fun w' => Lv w w' [(w.heap.size, [.int .i64 0, .int .i64 0], 23)]) (first | assumption | exact HL.out.kept (by go_grown)) (fail)
    clear u1 u2 u3 u4 d1 d2 g0 g1 c1
    have hL := HL.out.facts
    simp only [liveAt, cellsAt, and_true, Nat.zero_add, Nat.reduceAdd, World.size_alloc] at hL
    have hz := HL.out.lt
    go_wp2
    all_goals try go_region_held3 (fun w' => Lv w w' [(w.heap.size, [.int .i64 0, .int .i64 0], 23)]) (first | assumption | exact HL.out.kept (by go_grown)) (fail)
    all_goals try go_wp2
    all_goals have hbl := HL.out.below
    all_goals clear hS
    all_goals first
      | (exfalso; (try simp only [Bool.not_eq_false', Bool.not_eq_true', decide_eq_true_eq, decide_eq_false_iff_not] at *); omega)
      | (refine bodyPost_ret (by simp [results, Try.results44, go_sem, *]; try rfl) rfl ?_; exact ⟨rfl, by go_grown⟩)
      | trace_state
end Go.Proofs.Ytmgkbgnjpgkdiaa
