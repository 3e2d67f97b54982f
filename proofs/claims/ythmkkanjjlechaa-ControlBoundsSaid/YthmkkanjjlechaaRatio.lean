/- Ratios: divisors, validity, products, comparisons. No statement is proved here. -/
import Derived.Test.YthmkkanjjlechaaLive
import Derived.Handy
import Derived.IntWalk
import Derived.Shelf.Bits.Mul64
import Derived.WalkLawsBesides
namespace Go.Proofs.Ythmkkanjjlechaa
open Go.ChangeShapes Go.WideShapes Go.ChangeAt Go.RowKit
set_option linter.unusedVariables false
set_option linter.unusedSimpArgs false

theorem ret_bb {a b : Bool} (h : a = b) : Ending.returned (.bool a) = .returned (.bool b) := by rw [h]
theorem gcd_step (x y : Int) (hx : 0 ≤ x) (hy : 0 < y) : Int.gcd y (x % y) = Int.gcd x y := by
  obtain ⟨m, rfl⟩ := Int.eq_ofNat_of_zero_le hx
  obtain ⟨n, rfl⟩ := Int.eq_ofNat_of_zero_le (Int.le_of_lt hy)
  have e : ((m : Int) % (n : Int)) = ((m % n : Nat) : Int) := by omega
  rw [e]
  show Nat.gcd n (m % n) = Nat.gcd m n
  rw [Nat.gcd_comm m n, Nat.gcd_rec n m, Nat.gcd_comm]
set_option maxHeartbeats 1000000 in
theorem divisor_any (a b : Int) (ha : 0 ≤ a) (ha2 : a ≤ 9223372036854775807) (hb : 0 ≤ b) (hb2 : b ≤ 9223372036854775807) (w : World) :
    Calls Try.prog 73 #[.int .i64 a, .int .i64 b] w fun e w' => e = .returned (.int .i64 (Int.gcd a b)) ∧ Below w.heap.size w w' := by
  go_enter Try.func73, Try.ntmps73
  go_wp2
  go_loopw [0, 1] (fun u v wr => ∃ x y : Int, 0 ≤ x ∧ x ≤ 9223372036854775807 ∧ 0 ≤ y ∧ y ≤ 9223372036854775807 ∧ u = .int .i64 x ∧ v = .int .i64 y ∧ Hid (Int.gcd x y = Int.gcd a b) ∧ Hid (Below w.heap.size w wr)) (fun _ v _ => (intOf v).toNat)
  case atStart => exact ⟨a, b, ha, ha2, hb, hb2, rfl, rfl, hid rfl, Below.refl _ _⟩
  case round =>
    obtain ⟨x, y, hx, hx2, hy, hy2, rfl, rfl, hg, hbw⟩ := hrel
    by_cases h0 : y = 0
    · subst h0
      go_wp2
      go_ret
      refine ⟨ret_int ?_, hbw.out⟩
      rw [← hg.out]; simp [Int.gcd]; omega
    · have hy0 : 0 < y := by omega
      have hyb : (y == 0) = false := by simp; omega
      have hyb2 : (y != 0) = true := by simp; omega
      have r1 := Int.emod_nonneg x h0
      have r2 := Int.emod_lt_of_pos x hy0
      have HS := hid (gcd_step x y hx hy0)
      clear h0
      go_wp2
      go_quiet (fail)
      go_wp2
      go_roundw
      case rel => exact ⟨y, x % y, hy, hy2, r1, by omega, rfl, rfl, hid (HS.out.trans hg.out), hbw.out.trans ⟨rfl, rfl, rfl, by have := hbw.out.size; exact Nat.le_refl _, fun _ _ => rfl⟩⟩
      case measure => simp [intOf]; omega
set_option maxHeartbeats 1000000 in
theorem rgcd_any (a b : Int) (ha : 0 ≤ a) (ha2 : a ≤ 9223372036854775807) (hb : 0 ≤ b) (hb2 : b ≤ 9223372036854775807) (w : World) :
    Calls Try.prog 78 #[.int .i64 a, .int .i64 b] w fun e w' => e = .returned (.int .i64 (Int.gcd a b)) ∧ Below w.heap.size w w' := by
  go_enter Try.func78, Try.ntmps78
  go_wp2
  go_loopw [0, 1] (fun u v wr => ∃ x y : Int, 0 ≤ x ∧ x ≤ 9223372036854775807 ∧ 0 ≤ y ∧ y ≤ 9223372036854775807 ∧ u = .int .i64 x ∧ v = .int .i64 y ∧ Hid (Int.gcd x y = Int.gcd a b) ∧ Hid (Below w.heap.size w wr)) (fun _ v _ => (intOf v).toNat)
  case atStart => exact ⟨a, b, ha, ha2, hb, hb2, rfl, rfl, hid rfl, Below.refl _ _⟩
  case round =>
    obtain ⟨x, y, hx, hx2, hy, hy2, rfl, rfl, hg, hbw⟩ := hrel
    by_cases h0 : y = 0
    · subst h0
      go_wp2
      go_ret
      refine ⟨ret_int ?_, hbw.out⟩
      rw [← hg.out]; simp [Int.gcd]; omega
    · have hy0 : 0 < y := by omega
      have hyb : (y == 0) = false := by simp; omega
      have hyb2 : (y != 0) = true := by simp; omega
      have r1 := Int.emod_nonneg x h0
      have r2 := Int.emod_lt_of_pos x hy0
      have HS := hid (gcd_step x y hx hy0)
      clear h0
      go_wp2
      go_quiet (fail)
      go_wp2
      go_roundw
      case rel => exact ⟨y, x % y, hy, hy2, r1, by omega, rfl, rfl, hid (HS.out.trans hg.out), hbw.out.trans ⟨rfl, rfl, rfl, by have := hbw.out.size; exact Nat.le_refl _, fun _ _ => rfl⟩⟩
      case measure => simp [intOf]; omega
theorem isTerm_any (n : Int) (w : World) : Calls Try.prog 72 #[.int .i64 n] w fun e w' => e = .returned (.bool (decide (1 ≤ n ∧ n ≤ 68719476736))) ∧ w = w' := by
  go_enter Try.func72, Try.ntmps72
  go_wp2
  all_goals (go_ret; exact ⟨ret_bb (by rw [Bool.eq_iff_iff]; simp; try omega), rfl⟩)
def ratV (n d : Int) : Bool := decide ((1 ≤ n ∧ n ≤ 68719476736) ∧ (1 ≤ d ∧ d ≤ 68719476736) ∧ Int.gcd n d = 1)
theorem ratV_true {n d : Int} : ratV n d = true ↔ (1 ≤ n ∧ n ≤ 68719476736) ∧ (1 ≤ d ∧ d ≤ 68719476736) ∧ Int.gcd n d = 1 := by unfold ratV; simp
theorem ratv_any (n d : Int) (w : World) :
    Calls Try.prog 48 #[.agg #[.int .i64 n, .int .i64 d]] w fun e w' => e = .returned (.bool (ratV n d)) ∧ Below w.heap.size w w' := by
  by_cases h : (1 ≤ n ∧ n ≤ 68719476736) ∧ (1 ≤ d ∧ d ≤ 68719476736)
  · obtain ⟨⟨n1, n2⟩, d1, d2⟩ := h
    have hv : ratV n d = decide (((Int.gcd n d : Nat) : Int) = 1) := by unfold ratV; rw [decide_eq_decide]; omega
    rw [hv]
    clear hv
    go_enter Try.func48, Try.ntmps48
    go_wp2_with (first | (go_at_call 73; (with_reducible refine (divisor_any n d (by omega) (by omega) (by omega) (by omega) _).mono ?_); rintro e w1 ⟨rfl, hb⟩; have HB := hid hb; clear hb) | (go_at_call 72; (with_reducible refine (isTerm_any _ _).mono ?_); rintro e w1 ⟨rfl, rfl⟩))
    go_ret
    exact ⟨ret_bb (by rw [Bool.eq_iff_iff]; simp), by have h := HB.out; exact ((Below.refl _ _).alloc (Nat.le_refl _) _).trans (h.mono (by simp))⟩
  · have hv : ratV n d = false := by unfold ratV; simp; intros; omega
    rw [hv]
    clear hv
    have H := hid h
    clear h
    go_enter Try.func48, Try.ntmps48
    go_wp2_with (first | (go_at_call 73; exfalso; apply H.out; (try simp only [decide_eq_true_eq] at *); omega) | (go_at_call 72; (with_reducible refine (isTerm_any _ _).mono ?_); rintro e w1 ⟨rfl, rfl⟩))
    all_goals first
      | (go_ret; exact ⟨rfl, by go_grown⟩)
      | (exfalso; apply H.out; (try simp only [decide_eq_true_eq] at *); omega)
theorem rratv_any (n d : Int) (w : World) :
    Calls Try.prog 58 #[.agg #[.int .i64 n, .int .i64 d]] w fun e w' => e = .returned (.bool (ratV n d)) ∧ Below w.heap.size w w' := by
  by_cases h : (1 ≤ n ∧ n ≤ 68719476736) ∧ (1 ≤ d ∧ d ≤ 68719476736)
  · obtain ⟨⟨n1, n2⟩, d1, d2⟩ := h
    have hv : ratV n d = decide (((Int.gcd n d : Nat) : Int) = 1) := by unfold ratV; rw [decide_eq_decide]; omega
    rw [hv]
    clear hv
    go_enter Try.func58, Try.ntmps58
    go_wp2_with (first | (go_at_call 78; (with_reducible refine (rgcd_any n d (by omega) (by omega) (by omega) (by omega) _).mono ?_); rintro e w1 ⟨rfl, hb⟩; have HB := hid hb; clear hb))
    go_ret
    exact ⟨ret_bb (by rw [Bool.eq_iff_iff]; simp), by have h := HB.out; exact ((Below.refl _ _).alloc (Nat.le_refl _) _).trans (h.mono (by simp))⟩
  · have hv : ratV n d = false := by unfold ratV; simp; intros; omega
    rw [hv]
    clear hv
    have H := hid h
    clear h
    go_enter Try.func58, Try.ntmps58
    go_wp2_with (first | (go_at_call 78; exfalso; apply H.out; (try simp only [decide_eq_true_eq] at *); omega))
    all_goals first
      | (go_ret; exact ⟨rfl, by go_grown⟩)
      | (exfalso; apply H.out; (try simp only [decide_eq_true_eq] at *); omega)
set_option maxHeartbeats 1000000 in
theorem mul64_nat (x y : Nat) (hx : x < 18446744073709551616) (hy : y < 18446744073709551616) (w : World) :
    Calls Try.prog 74 #[.int .u64 x, .int .u64 y] w fun e w' => e = .returned (.tuple #[.int .u64 ((x * y / 18446744073709551616 : Nat) : Int), .int .u64 ((x * y % 18446744073709551616 : Nat) : Int)]) ∧ w' = w := by
  obtain ⟨bd, bt, bw, hhi⟩ := Lib.mul64_hi x y hx hy
  have ba := Lib.half_mul_le (a := x / 4294967296) (b := y / 4294967296) (by omega) (by omega)
  have bb := Lib.half_mul_le (a := x / 4294967296) (b := y % 4294967296) (by omega) (by omega)
  have bc := Lib.half_mul_le (a := x % 4294967296) (b := y / 4294967296) (by omega) (by omega)
  have ba' : x / 4294967296 * (y / 4294967296) < 18446744073709551616 := by omega
  have bb' : x / 4294967296 * (y % 4294967296) < 18446744073709551616 := by omega
  have bc' : x % 4294967296 * (y / 4294967296) < 18446744073709551616 := by omega
  have bh1 : x / 4294967296 * (y / 4294967296) + (x / 4294967296 * (y % 4294967296) + x % 4294967296 * (y % 4294967296) / 4294967296) / 4294967296 < 18446744073709551616 := by omega
  have bh : x / 4294967296 * (y / 4294967296) + (x / 4294967296 * (y % 4294967296) + x % 4294967296 * (y % 4294967296) / 4294967296) / 4294967296 + ((x / 4294967296 * (y % 4294967296) + x % 4294967296 * (y % 4294967296) / 4294967296) % 4294967296 + x % 4294967296 * (y / 4294967296)) / 4294967296 < 18446744073709551616 := by omega
  go_enter Try.func74, Try.ntmps74
  go_wp2
  simp only [Mul64.maskN x hx, Mul64.maskN y hy, Mul64.divN, Mul64.mulN, Mul64.addN, Mul64.wrapN _ bd, Mul64.wrapN _ bb', Mul64.wrapN _ bt, Mul64.maskN _ bt, Mul64.wrapN _ bc', Mul64.wrapN _ bw, Mul64.wrapN _ ba', Mul64.wrapN _ bh1, Mul64.wrapN _ bh, Mul64.wrapM (x * y)]
  rw [hhi]
  go_ret2
  exact ⟨rfl, rfl⟩
theorem mul64_any (x y : Int) (hx : 0 ≤ x) (hx2 : x < 18446744073709551616) (hy : 0 ≤ y) (hy2 : y < 18446744073709551616) (w : World) :
    Calls Try.prog 74 #[.int .u64 x, .int .u64 y] w fun e w' => e = .returned (.tuple #[.int .u64 (x * y / 18446744073709551616), .int .u64 (x * y % 18446744073709551616)]) ∧ w = w' := by
  obtain ⟨m, rfl⟩ := Int.eq_ofNat_of_zero_le hx
  obtain ⟨n, rfl⟩ := Int.eq_ofNat_of_zero_le hy
  refine (mul64_nat m n (by omega) (by omega) w).mono fun e w' ⟨h1, h2⟩ => ⟨?_, h2.symm⟩
  rw [h1, ← Int.natCast_mul]
  rfl
theorem product_any (x y : Int) (hx : 0 ≤ x) (hx2 : x < 9223372036854775808) (hy : 0 ≤ y) (hy2 : y < 9223372036854775808) (w : World) :
    Calls Try.prog 83 #[.int .i64 x, .int .i64 y] w fun e w' => e = .returned (.tuple #[.int .u64 (x * y / 18446744073709551616), .int .u64 (x * y % 18446744073709551616)]) ∧ w = w' := by
  have m := hid (fun w => mul64_any x y hx (by omega) hy (by omega) w)
  go_enter Try.func83, Try.ntmps83
  go_wp2_with (go_at_call 74; (with_reducible refine (m.out _).mono ?_); rintro e w3 ⟨rfl, rfl⟩)
  go_ret2
  exact ⟨rfl, rfl⟩
def cmpR (an ad bn bd : Int) : Int := if ratV an ad = true ∧ ratV bn bd = true then (if an * bd = bn * ad then 0 else if an * bd < bn * ad then -1 else 1) else 0
set_option maxHeartbeats 4000000 in
theorem cmp_any (an ad bn bd : Int) (w : World) :
    Calls Try.prog 82 #[.agg #[.int .i64 an, .int .i64 ad], .agg #[.int .i64 bn, .int .i64 bd]] w fun e w' => e = .returned (.int .i64 (cmpR an ad bn bd)) ∧ Below w.heap.size w w' := by
  cases h1 : ratV an ad
  · have e : cmpR an ad bn bd = 0 := by unfold cmpR; rw [h1]; simp
    rw [e]
    clear e
    have c1 := hid (fun w => ratv_any an ad w)
    rw [h1] at c1
    go_enter Try.func82, Try.ntmps82
    go_wp2_with (go_at_call 48; (with_reducible refine (c1.out _).mono ?_); rintro e w1 ⟨rfl, hb⟩; have HB := hid hb; clear hb)
    go_ret
    exact ⟨rfl, by have h := HB.out; exact (((Below.refl _ _).alloc (Nat.le_refl _) _).alloc (by simp) _).trans (h.mono (by simp; try omega))⟩
  cases h2 : ratV bn bd
  · have e : cmpR an ad bn bd = 0 := by unfold cmpR; rw [h2]; simp
    rw [e]
    clear e
    have c1 := hid (fun w => ratv_any an ad w)
    rw [h1] at c1
    have c2 := hid (fun w => ratv_any bn bd w)
    rw [h2] at c2
    go_enter Try.func82, Try.ntmps82
    go_wp2_with fail
    (with_reducible refine (c1.out _).mono ?_); rintro e w1 ⟨rfl, hb⟩; have HL := hid (Lv.kept (Lv.alloc (vs := [.int .i64 bn, .int .i64 bd]) (T := 27) (Lv.alloc (vs := [.int .i64 an, .int .i64 ad]) (T := 27) (Lv.start w))) hb); clear hb
    have hL := HL.out.facts
    simp only [liveAt, cellsAt, and_true, Nat.zero_add, Nat.reduceAdd, World.size_alloc] at hL
    go_wp2_with fail
    (with_reducible refine (c2.out _).mono ?_); rintro e w2 ⟨rfl, hb⟩; have HL2 := hid (HL.out.kept hb); clear hb
    go_wp2
    go_ret
    exact ⟨rfl, HL2.out.below⟩
  · obtain ⟨⟨n1, n2⟩, ⟨d1, d2⟩, _⟩ := ratV_true.1 h1
    obtain ⟨⟨n3, n4⟩, ⟨d3, d4⟩, _⟩ := ratV_true.1 h2
    have e : cmpR an ad bn bd = if an * bd = bn * ad then 0 else if an * bd < bn * ad then -1 else 1 := by unfold cmpR; rw [h1, h2]; simp
    have m1 := hid (fun w => product_any an bd (by omega) (by omega) (by omega) (by omega) w)
    have m2 := hid (fun w => product_any bn ad (by omega) (by omega) (by omega) (by omega) w)
    have p1 : 0 ≤ an * bd := Int.mul_nonneg (by omega) (by omega)
    have p2 : 0 ≤ bn * ad := Int.mul_nonneg (by omega) (by omega)
    rw [e]
    clear e
    generalize an * bd = P at *
    generalize bn * ad = Q at *
    have q1 : 0 ≤ P / 18446744073709551616 := by omega
    have q2 : 0 ≤ Q / 18446744073709551616 := by omega
    have HP := hid (show (P / 18446744073709551616 = Q / 18446744073709551616 ∧ P % 18446744073709551616 = Q % 18446744073709551616 → P = Q) ∧ (P / 18446744073709551616 < Q / 18446744073709551616 → P < Q) ∧ (Q / 18446744073709551616 < P / 18446744073709551616 → Q < P) ∧ (P / 18446744073709551616 = Q / 18446744073709551616 → P % 18446744073709551616 < Q % 18446744073709551616 → P < Q) ∧ (P / 18446744073709551616 = Q / 18446744073709551616 → Q % 18446744073709551616 < P % 18446744073709551616 → Q < P) by omega)
    generalize P / 18446744073709551616 = PH at *
    generalize Q / 18446744073709551616 = QH at *
    generalize P % 18446744073709551616 = PL at *
    generalize Q % 18446744073709551616 = QL at *
    have c1 := hid (fun w => ratv_any an ad w)
    rw [h1] at c1
    have c2 := hid (fun w => ratv_any bn bd w)
    rw [h2] at c2
    clear h1 h2
    go_enter Try.func82, Try.ntmps82
    go_wp2_with fail
    (with_reducible refine (c1.out _).mono ?_); rintro e w1 ⟨rfl, hb⟩; have HL := hid (Lv.kept (Lv.alloc (vs := [.int .i64 bn, .int .i64 bd]) (T := 27) (Lv.alloc (vs := [.int .i64 an, .int .i64 ad]) (T := 27) (Lv.start w))) hb); clear hb
    have hL := HL.out.facts
    simp only [liveAt, cellsAt, and_true, Nat.zero_add, Nat.reduceAdd, World.size_alloc] at hL
    go_wp2_with fail
    (with_reducible refine (c2.out _).mono ?_); rintro e w2 ⟨rfl, hb⟩; have HL2 := hid (HL.out.kept hb); clear hb hL
    have hL := HL2.out.facts
    simp only [liveAt, cellsAt, and_true, Nat.zero_add, Nat.reduceAdd, World.size_alloc] at hL
    go_wp2_with (first | (go_at_call 83; (with_reducible refine (m1.out _).mono ?_); rintro e w3 ⟨rfl, rfl⟩) | (go_at_call 83; (with_reducible refine (m2.out _).mono ?_); rintro e w3 ⟨rfl, rfl⟩))
    all_goals go_ret
    all_goals (refine ⟨ret_int ?_, HL2.out.below⟩; have hp := HP.out; clear hL)
    all_goals first
      | rfl
      | (simp_all; done)
      | ((repeat' split) <;> first | rfl | omega | (exfalso; simp_all; done) | (exfalso; simp_all; omega))
      | trace_state
end Go.Proofs.Ythmkkanjjlechaa
