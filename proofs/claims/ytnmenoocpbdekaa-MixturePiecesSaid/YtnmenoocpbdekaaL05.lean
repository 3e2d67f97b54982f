/- Gains and ramps. No statement is proved here. -/
import Derived.Test.YtnmenoocpbdekaaLMade
namespace Go.Proofs.Ytnmenoocpbdekaa
open Go.ChangeShapes Go.WideShapes Go.ChangeAt Go.RowKit
set_option linter.unusedVariables false
set_option linter.unusedSimpArgs false


def gainB (g : Int) : Bool := decide (0 ≤ g ∧ g ≤ 262144)
def applyV (s g : Int) : Int := if -8388608 ≤ s ∧ s ≤ 8388607 ∧ 0 ≤ g ∧ g ≤ 262144 then satI ((s * g + 32768) / 65536) else 0
theorem applyV_yes {s g : Int} (h : -8388608 ≤ s ∧ s ≤ 8388607 ∧ 0 ≤ g ∧ g ≤ 262144) : applyV s g = satI ((s * g + 32768) / 65536) := if_pos h
theorem applyV_no {s g : Int} (h : ¬ (-8388608 ≤ s ∧ s ≤ 8388607 ∧ 0 ≤ g ∧ g ≤ 262144)) : applyV s g = 0 := if_neg h
theorem applyV_smp (s g : Int) : -8388608 ≤ applyV s g ∧ applyV s g ≤ 8388607 := by
  unfold applyV; split
  · exact satI_smp _
  · omega
theorem mul_bnd {s g a b : Int} (h1 : -a ≤ s) (h2 : s ≤ a) (h3 : 0 ≤ g) (h4 : g ≤ b) (ha : 0 ≤ a) : -(a * b) ≤ s * g ∧ s * g ≤ a * b := by
  have e1 : s * g ≤ a * g := Int.mul_le_mul_of_nonneg_right h2 h3
  have e2 : a * g ≤ a * b := Int.mul_le_mul_of_nonneg_left h4 ha
  have e3 : (-a) * g ≤ s * g := Int.mul_le_mul_of_nonneg_right h1 h3
  rw [Int.neg_mul] at e3
  omega
theorem tdiv_fl1 {n b : Int} (hb : 0 < b) (h : n.tmod b < 0) : n.tdiv b - 1 = n / b := by
  have h0 : ¬ 0 ≤ n := fun h0 => by have := Int.tmod_nonneg b h0; omega
  have e1 : n.tmod b = -((-n) % b) := by
    have := Int.neg_tmod (-n) b; rw [Int.neg_neg] at this; rw [this, Int.tmod_eq_emod_of_nonneg (by omega)]
  have e2 : n.tdiv b = -((-n) / b) := by
    have := Int.neg_tdiv (-n) b; rw [Int.neg_neg] at this; rw [this, Int.tdiv_eq_ediv_of_nonneg (by omega)]
  have e3 := Int.mul_ediv_add_emod (-n) b
  have e4 := Int.emod_lt_of_pos (-n) hb
  rw [e2]
  symm
  rw [Int.ediv_eq_iff_of_pos hb]
  generalize (-n) / b = q at *
  generalize (-n) % b = r at *
  have e5 : (-q - 1) * b = -(b * q) - b := by rw [Int.sub_mul, Int.neg_mul, Int.mul_comm q b]; omega
  have e6 : (-q - 1 + 1) * b = -(b * q) := by rw [show -q - 1 + 1 = -q by omega, Int.neg_mul, Int.mul_comm q b]
  rw [e5]
  omega
theorem tdiv_fl2 {n b : Int} (hb : 0 < b) (h : ¬ n.tmod b < 0) : n.tdiv b = n / b := by
  by_cases h0 : 0 ≤ n
  · exact Int.tdiv_eq_ediv_of_nonneg h0
  · have e1 : n.tmod b = -((-n) % b) := by
      have := Int.neg_tmod (-n) b; rw [Int.neg_neg] at this; rw [this, Int.tmod_eq_emod_of_nonneg (by omega)]
    have e2 : n.tdiv b = -((-n) / b) := by
      have := Int.neg_tdiv (-n) b; rw [Int.neg_neg] at this; rw [this, Int.tdiv_eq_ediv_of_nonneg (by omega)]
    have e3 := Int.mul_ediv_add_emod (-n) b
    have e4 := Int.emod_nonneg (-n) (show b ≠ 0 by omega)
    rw [e2]
    symm
    rw [Int.ediv_eq_iff_of_pos hb]
    generalize (-n) / b = q at *
    generalize (-n) % b = r at *
    have e5 : (-q) * b = -(b * q) := by rw [Int.neg_mul, Int.mul_comm q b]
    rw [e5]
    omega
theorem tdiv_bnd {n b : Int} (hb : 0 < b) : (0 ≤ n → 0 ≤ n.tdiv b ∧ n.tdiv b ≤ n) ∧ (n ≤ 0 → n ≤ n.tdiv b ∧ n.tdiv b ≤ 0) := by
  constructor
  · intro h
    rw [Int.tdiv_eq_ediv_of_nonneg h]
    exact ⟨Int.ediv_nonneg h (by omega), Int.ediv_le_self _ h⟩
  · intro h
    have e2 : n.tdiv b = -((-n) / b) := by
      have := Int.neg_tdiv (-n) b; rw [Int.neg_neg] at this; rw [this, Int.tdiv_eq_ediv_of_nonneg (by omega)]
    have h1 := Int.ediv_nonneg (a := -n) (b := b) (by omega) (by omega)
    have h2 := Int.ediv_le_self (a := -n) b (by omega)
    omega
def rampB (fr to fs at' : Int) : Bool := decide (0 ≤ fr ∧ fr ≤ 262144 ∧ 0 ≤ to ∧ to ≤ 262144 ∧ 0 ≤ fs ∧ fs ≤ 4194304 ∧ 0 ≤ at' ∧ at' ≤ fs)
theorem rampB_t {fr to fs at' : Int} (h : 0 ≤ fr ∧ fr ≤ 262144 ∧ 0 ≤ to ∧ to ≤ 262144 ∧ 0 ≤ fs ∧ fs ≤ 4194304 ∧ 0 ≤ at' ∧ at' ≤ fs) : rampB fr to fs at' = true := decide_eq_true h
theorem rampB_f {fr to fs at' : Int} (h : ¬ (0 ≤ fr ∧ fr ≤ 262144 ∧ 0 ≤ to ∧ to ≤ 262144 ∧ 0 ≤ fs ∧ fs ≤ 4194304 ∧ 0 ≤ at' ∧ at' ≤ fs)) : rampB fr to fs at' = false := decide_eq_false h
theorem rampB_of {fr to fs at' : Int} (h : rampB fr to fs at' = true) : 0 ≤ fr ∧ fr ≤ 262144 ∧ 0 ≤ to ∧ to ≤ 262144 ∧ 0 ≤ fs ∧ fs ≤ 4194304 ∧ 0 ≤ at' ∧ at' ≤ fs := of_decide_eq_true h
/-- the gain i frames later -/
def atV (fr to fs at' i : Int) : Int := if fs - at' ≤ i then to else fr + ((to - fr) * (at' + i)) / fs
theorem atV_yes {fr to fs at' i : Int} (h : fs - at' ≤ i) : atV fr to fs at' i = to := if_pos h
theorem atV_no {fr to fs at' i : Int} (h : ¬ fs - at' ≤ i) : atV fr to fs at' i = fr + ((to - fr) * (at' + i)) / fs := if_neg h
theorem ramp_mid {fr to fs at' i : Int} (h : 0 ≤ fr ∧ fr ≤ 262144 ∧ 0 ≤ to ∧ to ≤ 262144 ∧ 0 ≤ fs ∧ fs ≤ 4194304 ∧ 0 ≤ at' ∧ at' ≤ fs) (h0 : 0 ≤ i) (h1 : ¬ fs - at' ≤ i) : (-1099511627776 ≤ (to - fr) * (at' + i) ∧ (to - fr) * (at' + i) ≤ 1099511627776) ∧ 0 ≤ fr + ((to - fr) * (at' + i)) / fs ∧ fr + ((to - fr) * (at' + i)) / fs ≤ 262144 := by
  have e1 := mul_bnd (s := to - fr) (g := at' + i) (a := 262144) (b := 4194304) (by omega) (by omega) (by omega) (by omega) (by omega)
  refine ⟨by omega, ?_, ?_⟩
  · have : -fr ≤ ((to - fr) * (at' + i)) / fs := by
      rw [Int.le_ediv_iff_mul_le (by omega)]
      have e2 : (-fr) * (at' + i) ≤ (to - fr) * (at' + i) := Int.mul_le_mul_of_nonneg_right (by omega) (by omega)
      have e3 : (-fr) * fs ≤ (-fr) * (at' + i) := Int.mul_le_mul_of_nonpos_left (by omega) (by omega)
      omega
    omega
  · have : ((to - fr) * (at' + i)) / fs ≤ 262144 - fr := by
      rw [← Int.lt_add_one_iff, Int.ediv_lt_iff_lt_mul (by omega)]
      have e2 : (to - fr) * (at' + i) ≤ (262144 - fr) * (at' + i) := Int.mul_le_mul_of_nonneg_right (by omega) (by omega)
      have e3 : (262144 - fr) * (at' + i) ≤ (262144 - fr) * fs := Int.mul_le_mul_of_nonneg_left (by omega) (by omega)
      have e4 : (262144 - fr + 1) * fs = (262144 - fr) * fs + fs := by rw [Int.add_mul, Int.one_mul]
      omega
    omega
theorem atV_gain {fr to fs at' i : Int} (h : 0 ≤ fr ∧ fr ≤ 262144 ∧ 0 ≤ to ∧ to ≤ 262144 ∧ 0 ≤ fs ∧ fs ≤ 4194304 ∧ 0 ≤ at' ∧ at' ≤ fs) (h0 : 0 ≤ i) : 0 ≤ atV fr to fs at' i ∧ atV fr to fs at' i ≤ 262144 := by
  unfold atV; split
  · omega
  · exact (ramp_mid h h0 (by assumption)).2

set_option maxHeartbeats 4000000 in
set_option maxRecDepth 100000 in
theorem G_isGain (g : Int)  : Fun 135 [iE g] (toG []) 0 (.e (.c (.d (D.lit (.bool (gainB g)))))) (toG []) 0 := by
  refine Fun.mk (n := 9) Try.func135 rfl rfl (Nat.le_of_ble_eq_true rfl) ?_
  intro cx hcx
  refine AW.rgs [.no] [0] [] (P := True) (l' := [(0, iV g)]) (g' := []) (nx' := 0) (by kernel_rfl) trivial ?_
  by_cases hx1 : ((0 : Int) ≤ g)
  · by_cases hx2 : (g ≤ 262144)
    · refine AW.rgs [.no, .b true, .no, .no, .b true, .no, .no] [2] [] (P := (((0 : Int) ≤ g)) ∧ ((g ≤ 262144))) (l' := [(2, .e (.c (.d (D.lit (.bool true)))))]) (g' := []) (nx' := 0) (by kernel_rfl) ⟨(by omega), (by omega)⟩ ?_
      refine AW.ret ?_
      exact EndP.of (.inr rfl) [] (P := ((gainB g) = true)) (by kernel_rfl) (by first | exact decide_eq_true (by omega) | exact decide_eq_false (by omega))
    · refine AW.rgs [.no, .b true, .no, .no, .b false, .no, .no] [2] [] (P := (((0 : Int) ≤ g)) ∧ (¬ (g ≤ 262144))) (l' := [(2, .e (.c (.d (D.lit (.bool false)))))]) (g' := []) (nx' := 0) (by kernel_rfl) ⟨(by omega), (by omega)⟩ ?_
      refine AW.ret ?_
      exact EndP.of (.inr rfl) [] (P := ((gainB g) = false)) (by kernel_rfl) (by first | exact decide_eq_true (by omega) | exact decide_eq_false (by omega))
  · refine AW.rgs [.no, .b false, .no, .no, .no] [2] [] (P := (¬ ((0 : Int) ≤ g))) (l' := [(2, .e (.c (.d (D.lit (.bool false)))))]) (g' := []) (nx' := 0) (by kernel_rfl) (by omega) ?_
    refine AW.ret ?_
    exact EndP.of (.inr rfl) [] (P := ((gainB g) = false)) (by kernel_rfl) (by first | exact decide_eq_true (by omega) | exact decide_eq_false (by omega))

set_option maxHeartbeats 4000000 in
set_option maxRecDepth 100000 in
theorem G_rgain (g : Int)  : Fun 139 [iE g] (toG []) 0 (.e (.c (.d (D.lit (.bool (gainB g)))))) (toG []) 0 := by
  refine Fun.mk (n := 9) Try.func139 rfl rfl (Nat.le_of_ble_eq_true rfl) ?_
  intro cx hcx
  refine AW.rgs [.no] [0] [] (P := True) (l' := [(0, iV g)]) (g' := []) (nx' := 0) (by kernel_rfl) trivial ?_
  by_cases hx1 : ((0 : Int) ≤ g)
  · by_cases hx2 : (g ≤ 262144)
    · refine AW.rgs [.no, .b true, .no, .no, .b true, .no, .no] [2] [] (P := (((0 : Int) ≤ g)) ∧ ((g ≤ 262144))) (l' := [(2, .e (.c (.d (D.lit (.bool true)))))]) (g' := []) (nx' := 0) (by kernel_rfl) ⟨(by omega), (by omega)⟩ ?_
      refine AW.ret ?_
      exact EndP.of (.inr rfl) [] (P := ((gainB g) = true)) (by kernel_rfl) (by first | exact decide_eq_true (by omega) | exact decide_eq_false (by omega))
    · refine AW.rgs [.no, .b true, .no, .no, .b false, .no, .no] [2] [] (P := (((0 : Int) ≤ g)) ∧ (¬ (g ≤ 262144))) (l' := [(2, .e (.c (.d (D.lit (.bool false)))))]) (g' := []) (nx' := 0) (by kernel_rfl) ⟨(by omega), (by omega)⟩ ?_
      refine AW.ret ?_
      exact EndP.of (.inr rfl) [] (P := ((gainB g) = false)) (by kernel_rfl) (by first | exact decide_eq_true (by omega) | exact decide_eq_false (by omega))
  · refine AW.rgs [.no, .b false, .no, .no, .no] [2] [] (P := (¬ ((0 : Int) ≤ g))) (l' := [(2, .e (.c (.d (D.lit (.bool false)))))]) (g' := []) (nx' := 0) (by kernel_rfl) (by omega) ?_
    refine AW.ret ?_
    exact EndP.of (.inr rfl) [] (P := ((gainB g) = false)) (by kernel_rfl) (by first | exact decide_eq_true (by omega) | exact decide_eq_false (by omega))

set_option maxHeartbeats 4000000 in
set_option maxRecDepth 100000 in
theorem G_gisSample (s : Int) (h : -2147483648 ≤ s ∧ s ≤ 2147483647) : Fun 134 [.c (.d (D.lit (.int .i32 s)))] (toG []) 0 (.e (.c (.d (D.lit (.bool (smpB s)))))) (toG []) 0 := by
  refine Fun.mk (n := 8) Try.func134 rfl rfl (Nat.le_of_ble_eq_true rfl) ?_
  intro cx hcx
  refine AW.rgs [.no] [0] [] (P := True) (l' := [(0, .e (.c (.d (D.lit (.int .i32 s)))))]) (g' := []) (nx' := 0) (by kernel_rfl) trivial ?_
  by_cases hx2 : ((satI s) = s)
  · have hx3 : ((((-8388608) : Int) ≤ (satI s)) ∧ ((satI s) ≤ 8388607)) := satI_smp s
    refine AW.rgs [.no, .w, .call [] (.e (.c (.d (D.lit (.int .i32 (satI s)))))) [] 0 [] none, .no, .b true, .no] [2] [] (P := ((-9223372036854775808) ≤ s ∧ s ≤ 9223372036854775807) ∧ (_) ∧ (((satI s) = s))) (l' := [(2, .e (.c (.d (D.lit (.bool true)))))]) (g' := []) (nx' := 0) (by kernel_rfl) ⟨⟨by omega, by omega⟩, (G_Sat s (by omega)), (by omega)⟩ ?_
    refine AW.ret ?_
    exact EndP.of (.inr rfl) [] (P := ((smpB s) = true)) (by kernel_rfl) (by unfold smpB satI at *; first | exact decide_eq_true (by omega) | exact decide_eq_false (by omega))
  · have hx4 : ((((-8388608) : Int) ≤ (satI s)) ∧ ((satI s) ≤ 8388607)) := satI_smp s
    refine AW.rgs [.no, .w, .call [] (.e (.c (.d (D.lit (.int .i32 (satI s)))))) [] 0 [] none, .no, .b false, .no] [2] [] (P := ((-9223372036854775808) ≤ s ∧ s ≤ 9223372036854775807) ∧ (_) ∧ (¬ ((satI s) = s))) (l' := [(2, .e (.c (.d (D.lit (.bool false)))))]) (g' := []) (nx' := 0) (by kernel_rfl) ⟨⟨by omega, by omega⟩, (G_Sat s (by omega)), (by omega)⟩ ?_
    refine AW.ret ?_
    exact EndP.of (.inr rfl) [] (P := ((smpB s) = false)) (by kernel_rfl) (by unfold smpB satI at *; first | exact decide_eq_true (by omega) | exact decide_eq_false (by omega))

set_option maxHeartbeats 4000000 in
set_option maxRecDepth 100000 in
theorem G_Apply (s g : Int) (h : -2147483648 ≤ s ∧ s ≤ 2147483647) : Fun 88 [.c (.d (D.lit (.int .i32 s))), iE g] (toG []) 0 (.e (.c (.d (D.lit (.int .i32 (applyV s g)))))) (toG []) 0 := by
  have hm : -8388608 ≤ s ∧ s ≤ 8388607 ∧ 0 ≤ g ∧ g ≤ 262144 → -2199023255552 ≤ s * g ∧ s * g ≤ 2199023255552 := fun h9 => by have := mul_bnd (s := s) (g := g) (a := 8388608) (b := 262144) (by omega) (by omega) (by omega) (by omega) (by omega); omega
  refine Fun.mk (n := 20) Try.func88 rfl rfl (Nat.le_of_ble_eq_true rfl) ?_
  intro cx hcx
  refine AW.rgs [.no] [0, 1] [] (P := True) (l' := [(0, .e (.c (.d (D.lit (.int .i32 s))))), (1, iV g)]) (g' := []) (nx' := 0) (by kernel_rfl) trivial ?_
  refine AW.seq ?_
  rcases Bool.eq_false_or_eq_true (smpB s) with hx1 | hx1
  · have hx2 : -8388608 ≤ s ∧ s ≤ 8388607 := of_decide_eq_true hx1
    rcases Bool.eq_false_or_eq_true (gainB g) with hx3 | hx3
    · have hx4 : 0 ≤ g ∧ g ≤ 262144 := of_decide_eq_true hx3
      refine AW.rgs [.no, .call [] (.e (.c (.d (D.lit (.bool true))))) [] 0 [] none, .no, .no, .no, .call [] (.e (.c (.d (D.lit (.bool true))))) [] 0 [] none, .no, .no] [0, 1, 12] [] (P := (Fun 134 [.c (.d (D.lit (.int .i32 s)))] (toG []) 0 (.e (.c (.d (D.lit (.bool true))))) (toG []) 0) ∧ (Fun 135 [iE g] (toG []) 0 (.e (.c (.d (D.lit (.bool true))))) (toG []) 0)) (l' := [(0, .e (.c (.d (D.lit (.int .i32 s))))), (1, iV g), (12, .e (.c (.d (D.lit (.bool false)))))]) (g' := []) (nx' := 0) (by kernel_rfl) ⟨(by have h0 := (G_gisSample s (by omega)); rw [hx1] at h0; exact h0), (by have h0 := (G_isGain g); rw [hx3] at h0; exact h0)⟩ ?_
      refine AW.cond_f (.tmp (Look.of rfl)) ?_
      refine AW.skip ?_
      have hm2 := hm (by omega)
      have hx5 : ((((-8388608) : Int) ≤ (satI (((s * g) + 32768) / 65536))) ∧ ((satI (((s * g) + 32768) / 65536)) ≤ 8388607)) := satI_smp (((s * g) + 32768) / 65536)
      refine AW.rgs [.no, .w, .no, .w, .w, .n 16, .call [] (.e (.c (.d (D.lit (.int .i32 (satI (((s * g) + 32768) / 65536))))))) [] 0 [] none, .no] [4] [] (P := ((-9223372036854775808) ≤ s ∧ s ≤ 9223372036854775807) ∧ ((-9223372036854775808) ≤ (s * g) ∧ (s * g) ≤ 9223372036854775807) ∧ ((-9223372036854775808) ≤ ((s * g) + 32768) ∧ ((s * g) + 32768) ≤ 9223372036854775807) ∧ ((16 : Int) = 16) ∧ ((16 : Nat) ≤ 64) ∧ (_)) (l' := [(4, .e (.c (.d (D.lit (.int .i32 (satI (((s * g) + 32768) / 65536)))))))]) (g' := []) (nx' := 0) (by kernel_rfl) ⟨⟨by omega, by omega⟩, ⟨by omega, by omega⟩, ⟨by omega, by omega⟩, rfl, (by omega), (G_Sat (((s * g) + 32768) / 65536) (by omega))⟩ ?_
      refine AW.ret ?_
      exact EndP.of (.inr rfl) [] (P := (((applyV s g) : Int) = (satI (((s * g) + 32768) / 65536)))) (by kernel_rfl) (by first | rfl | exact applyV_yes (by omega) | exact applyV_no (by omega))
    · have hx6 : ¬ (0 ≤ g ∧ g ≤ 262144) := of_decide_eq_false hx3
      refine AW.rgs [.no, .call [] (.e (.c (.d (D.lit (.bool true))))) [] 0 [] none, .no, .no, .no, .call [] (.e (.c (.d (D.lit (.bool false))))) [] 0 [] none, .no, .no] [0, 1, 12] [] (P := (Fun 134 [.c (.d (D.lit (.int .i32 s)))] (toG []) 0 (.e (.c (.d (D.lit (.bool true))))) (toG []) 0) ∧ (Fun 135 [iE g] (toG []) 0 (.e (.c (.d (D.lit (.bool false))))) (toG []) 0)) (l' := [(0, .e (.c (.d (D.lit (.int .i32 s))))), (1, iV g), (12, .e (.c (.d (D.lit (.bool true)))))]) (g' := []) (nx' := 0) (by kernel_rfl) ⟨(by have h0 := (G_gisSample s (by omega)); rw [hx1] at h0; exact h0), (by have h0 := (G_isGain g); rw [hx3] at h0; exact h0)⟩ ?_
      refine AW.cond_t (.tmp (Look.of rfl)) ?_
      refine AW.rgs [.no] [4] [] (P := True) (l' := [(4, .e (.c (.d (D.lit (.int .i32 0)))))]) (g' := []) (nx' := 0) (by kernel_rfl) trivial ?_
      refine AW.ret ?_
      exact EndP.of (.inr rfl) [] (P := (((applyV s g) : Int) = 0)) (by kernel_rfl) (by first | rfl | exact applyV_yes (by omega) | exact applyV_no (by omega))
  · have hx7 : ¬ (-8388608 ≤ s ∧ s ≤ 8388607) := of_decide_eq_false hx1
    refine AW.rgs [.no, .call [] (.e (.c (.d (D.lit (.bool false))))) [] 0 [] none, .no, .no, .no] [0, 1, 12] [] (P := (Fun 134 [.c (.d (D.lit (.int .i32 s)))] (toG []) 0 (.e (.c (.d (D.lit (.bool false))))) (toG []) 0)) (l' := [(0, .e (.c (.d (D.lit (.int .i32 s))))), (1, iV g), (12, .e (.c (.d (D.lit (.bool true)))))]) (g' := []) (nx' := 0) (by kernel_rfl) (by have h0 := (G_gisSample s (by omega)); rw [hx1] at h0; exact h0) ?_
    refine AW.cond_t (.tmp (Look.of rfl)) ?_
    refine AW.rgs [.no] [4] [] (P := True) (l' := [(4, .e (.c (.d (D.lit (.int .i32 0)))))]) (g' := []) (nx' := 0) (by kernel_rfl) trivial ?_
    refine AW.ret ?_
    exact EndP.of (.inr rfl) [] (P := (((applyV s g) : Int) = 0)) (by kernel_rfl) (by first | rfl | exact applyV_yes (by omega) | exact applyV_no (by omega))

set_option maxHeartbeats 4000000 in
set_option maxRecDepth 100000 in
theorem G_rApply (s g : Int) (h : -2147483648 ≤ s ∧ s ≤ 2147483647) : Fun 98 [.c (.d (D.lit (.int .i32 s))), iE g] (toG []) 0 (.e (.c (.d (D.lit (.int .i32 (applyV s g)))))) (toG []) 0 := by
  have hm : -8388608 ≤ s ∧ s ≤ 8388607 ∧ 0 ≤ g ∧ g ≤ 262144 → -2199023255552 ≤ s * g ∧ s * g ≤ 2199023255552 := fun h9 => by have := mul_bnd (s := s) (g := g) (a := 8388608) (b := 262144) (by omega) (by omega) (by omega) (by omega) (by omega); omega
  refine Fun.mk (n := 24) Try.func98 rfl rfl (Nat.le_of_ble_eq_true rfl) ?_
  intro cx hcx
  refine AW.rgs [.no] [0, 1] [] (P := True) (l' := [(0, .e (.c (.d (D.lit (.int .i32 s))))), (1, iV g)]) (g' := []) (nx' := 0) (by kernel_rfl) trivial ?_
  refine AW.seq ?_
  by_cases hx1 : (s < (-8388608))
  · refine AW.rgs [.no, .w, .b true, .no, .no, .no, .no] [0, 1, 16] [] (P := ((-9223372036854775808) ≤ s ∧ s ≤ 9223372036854775807) ∧ ((s < (-8388608)))) (l' := [(0, .e (.c (.d (D.lit (.int .i32 s))))), (1, iV g), (16, .e (.c (.d (D.lit (.bool true)))))]) (g' := []) (nx' := 0) (by kernel_rfl) ⟨⟨by omega, by omega⟩, (by omega)⟩ ?_
    refine AW.cond_t (.tmp (Look.of rfl)) ?_
    refine AW.rgs [.no] [4] [] (P := True) (l' := [(4, .e (.c (.d (D.lit (.int .i32 0)))))]) (g' := []) (nx' := 0) (by kernel_rfl) trivial ?_
    refine AW.ret ?_
    exact EndP.of (.inr rfl) [] (P := (((applyV s g) : Int) = 0)) (by kernel_rfl) (by first | rfl | exact applyV_yes (by omega) | exact applyV_no (by omega))
  · by_cases hx2 : ((8388607 : Int) < s)
    · refine AW.rgs [.no, .w, .b false, .no, .no, .b true, .no, .no, .no] [0, 1, 16] [] (P := ((-9223372036854775808) ≤ s ∧ s ≤ 9223372036854775807) ∧ (¬ (s < (-8388608))) ∧ (((8388607 : Int) < s))) (l' := [(0, .e (.c (.d (D.lit (.int .i32 s))))), (1, iV g), (16, .e (.c (.d (D.lit (.bool true)))))]) (g' := []) (nx' := 0) (by kernel_rfl) ⟨⟨by omega, by omega⟩, (by omega), (by omega)⟩ ?_
      refine AW.cond_t (.tmp (Look.of rfl)) ?_
      refine AW.rgs [.no] [4] [] (P := True) (l' := [(4, .e (.c (.d (D.lit (.int .i32 0)))))]) (g' := []) (nx' := 0) (by kernel_rfl) trivial ?_
      refine AW.ret ?_
      exact EndP.of (.inr rfl) [] (P := (((applyV s g) : Int) = 0)) (by kernel_rfl) (by first | rfl | exact applyV_yes (by omega) | exact applyV_no (by omega))
    · rcases Bool.eq_false_or_eq_true (gainB g) with hx3 | hx3
      · have hx4 : 0 ≤ g ∧ g ≤ 262144 := of_decide_eq_true hx3
        refine AW.rgs [.no, .w, .b false, .no, .no, .b false, .no, .no, .no, .call [] (.e (.c (.d (D.lit (.bool true))))) [] 0 [] none, .no, .no] [0, 1, 16] [] (P := ((-9223372036854775808) ≤ s ∧ s ≤ 9223372036854775807) ∧ (¬ (s < (-8388608))) ∧ (¬ ((8388607 : Int) < s)) ∧ (Fun 139 [iE g] (toG []) 0 (.e (.c (.d (D.lit (.bool true))))) (toG []) 0)) (l' := [(0, .e (.c (.d (D.lit (.int .i32 s))))), (1, iV g), (16, .e (.c (.d (D.lit (.bool false)))))]) (g' := []) (nx' := 0) (by kernel_rfl) ⟨⟨by omega, by omega⟩, (by omega), (by omega), (by have h0 := (G_rgain g); rw [hx3] at h0; exact h0)⟩ ?_
        refine AW.cond_f (.tmp (Look.of rfl)) ?_
        refine AW.skip ?_
        have hm2 := hm (by omega)
        have hx5 : ((((-8388608) : Int) ≤ (satI (((s * g) + 32768) / 65536))) ∧ ((satI (((s * g) + 32768) / 65536)) ≤ 8388607)) := satI_smp (((s * g) + 32768) / 65536)
        refine AW.rgs [.no, .w, .no, .w, .w, .n 16, .call [] (.e (.c (.d (D.lit (.int .i32 (satI (((s * g) + 32768) / 65536))))))) [] 0 [] none, .no] [4] [] (P := ((-9223372036854775808) ≤ s ∧ s ≤ 9223372036854775807) ∧ ((-9223372036854775808) ≤ (s * g) ∧ (s * g) ≤ 9223372036854775807) ∧ ((-9223372036854775808) ≤ ((s * g) + 32768) ∧ ((s * g) + 32768) ≤ 9223372036854775807) ∧ ((16 : Int) = 16) ∧ ((16 : Nat) ≤ 64) ∧ (_)) (l' := [(4, .e (.c (.d (D.lit (.int .i32 (satI (((s * g) + 32768) / 65536)))))))]) (g' := []) (nx' := 0) (by kernel_rfl) ⟨⟨by omega, by omega⟩, ⟨by omega, by omega⟩, ⟨by omega, by omega⟩, rfl, (by omega), (G_rSat (((s * g) + 32768) / 65536) (by omega))⟩ ?_
        refine AW.ret ?_
        exact EndP.of (.inr rfl) [] (P := (((applyV s g) : Int) = (satI (((s * g) + 32768) / 65536)))) (by kernel_rfl) (by first | rfl | exact applyV_yes (by omega) | exact applyV_no (by omega))
      · have hx6 : ¬ (0 ≤ g ∧ g ≤ 262144) := of_decide_eq_false hx3
        refine AW.rgs [.no, .w, .b false, .no, .no, .b false, .no, .no, .no, .call [] (.e (.c (.d (D.lit (.bool false))))) [] 0 [] none, .no, .no] [0, 1, 16] [] (P := ((-9223372036854775808) ≤ s ∧ s ≤ 9223372036854775807) ∧ (¬ (s < (-8388608))) ∧ (¬ ((8388607 : Int) < s)) ∧ (Fun 139 [iE g] (toG []) 0 (.e (.c (.d (D.lit (.bool false))))) (toG []) 0)) (l' := [(0, .e (.c (.d (D.lit (.int .i32 s))))), (1, iV g), (16, .e (.c (.d (D.lit (.bool true)))))]) (g' := []) (nx' := 0) (by kernel_rfl) ⟨⟨by omega, by omega⟩, (by omega), (by omega), (by have h0 := (G_rgain g); rw [hx3] at h0; exact h0)⟩ ?_
        refine AW.cond_t (.tmp (Look.of rfl)) ?_
        refine AW.rgs [.no] [4] [] (P := True) (l' := [(4, .e (.c (.d (D.lit (.int .i32 0)))))]) (g' := []) (nx' := 0) (by kernel_rfl) trivial ?_
        refine AW.ret ?_
        exact EndP.of (.inr rfl) [] (P := (((applyV s g) : Int) = 0)) (by kernel_rfl) (by first | rfl | exact applyV_yes (by omega) | exact applyV_no (by omega))

set_option maxHeartbeats 4000000 in
set_option maxRecDepth 100000 in
theorem G_floor (n b : Int) (hb : 0 < b) (hn : -1099511627776 ≤ n ∧ n ≤ 1099511627776) : Fun 138 [iE n, iE b] (toG []) 0 (iV (n / b)) (toG []) 0 := by
  have hq : -1099511627776 ≤ Int.tdiv n b ∧ Int.tdiv n b ≤ 1099511627776 := by have := tdiv_bnd (n := n) hb; omega
  have hp : 0 ≤ n → Int.tdiv n b = n / b := Int.tdiv_eq_ediv_of_nonneg
  refine Fun.mk (n := 16) Try.func138 rfl rfl (Nat.le_of_ble_eq_true rfl) ?_
  intro cx hcx
  refine AW.rgs [.no] [0, 1] [] (P := True) (l' := [(0, iV n), (1, iV b)]) (g' := []) (nx' := 0) (by kernel_rfl) trivial ?_
  refine AW.rgs [.no, .no, .w, .no] [0, 1, 5] [] (P := (¬ (b : Int) = 0) ∧ ((-9223372036854775808) ≤ (Int.tdiv n b) ∧ (Int.tdiv n b) ≤ 9223372036854775807)) (l' := [(0, iV n), (1, iV b), (5, iV (Int.tdiv n b))]) (g' := []) (nx' := 0) (by kernel_rfl) ⟨(by omega), ⟨by omega, by omega⟩⟩ ?_
  refine AW.seq ?_
  by_cases hx1 : ((Int.tmod n b) < 0)
  · refine AW.rgs [.no, .no, .no, .b true] [5, 12] [] (P := (¬ (b : Int) = 0) ∧ (((Int.tmod n b) < 0))) (l' := [(5, iV (Int.tdiv n b)), (12, .e (.c (.d (D.lit (.bool true)))))]) (g' := []) (nx' := 0) (by kernel_rfl) ⟨(by omega), (by omega)⟩ ?_
    refine AW.cond_t (.tmp (Look.of rfl)) ?_
    refine AW.rg [.no, .w, .no] [5] [] (P := ((-9223372036854775808) ≤ ((Int.tdiv n b) - 1) ∧ ((Int.tdiv n b) - 1) ≤ 9223372036854775807)) (l' := [(5, iV ((Int.tdiv n b) - 1))]) (g' := []) (nx' := 0) (by kernel_rfl) ⟨by omega, by omega⟩ ?_
    refine AW.rgs [.no, .no] [4] [] (P := True) (l' := [(4, iV ((Int.tdiv n b) - 1))]) (g' := []) (nx' := 0) (by kernel_rfl) trivial ?_
    refine AW.ret ?_
    exact EndP.of (.inr rfl) [] (P := (((n / b) : Int) = ((Int.tdiv n b) - 1))) (by kernel_rfl) (by first | rfl | exact (tdiv_fl1 hb (by omega)).symm | exact (tdiv_fl2 hb (by omega)).symm | omega)
  · refine AW.rgs [.no, .no, .no, .b false] [5, 12] [] (P := (¬ (b : Int) = 0) ∧ (¬ ((Int.tmod n b) < 0))) (l' := [(5, iV (Int.tdiv n b)), (12, .e (.c (.d (D.lit (.bool false)))))]) (g' := []) (nx' := 0) (by kernel_rfl) ⟨(by omega), (by omega)⟩ ?_
    refine AW.cond_f (.tmp (Look.of rfl)) ?_
    refine AW.skip ?_
    refine AW.rgs [.no, .no] [4] [] (P := True) (l' := [(4, iV (Int.tdiv n b))]) (g' := []) (nx' := 0) (by kernel_rfl) trivial ?_
    refine AW.ret ?_
    exact EndP.of (.inr rfl) [] (P := (((n / b) : Int) = (Int.tdiv n b))) (by kernel_rfl) (by first | rfl | exact (tdiv_fl1 hb (by omega)).symm | exact (tdiv_fl2 hb (by omega)).symm | omega)

set_option maxHeartbeats 4000000 in
set_option maxRecDepth 100000 in
theorem G_rfloor (n b : Int) (hb : 0 < b) (hn : -1099511627776 ≤ n ∧ n ≤ 1099511627776) : Fun 141 [iE n, iE b] (toG []) 0 (iV (n / b)) (toG []) 0 := by
  have hq : -1099511627776 ≤ Int.tdiv n b ∧ Int.tdiv n b ≤ 1099511627776 := by have := tdiv_bnd (n := n) hb; omega
  have hp : 0 ≤ n → Int.tdiv n b = n / b := Int.tdiv_eq_ediv_of_nonneg
  refine Fun.mk (n := 16) Try.func141 rfl rfl (Nat.le_of_ble_eq_true rfl) ?_
  intro cx hcx
  refine AW.rgs [.no] [0, 1] [] (P := True) (l' := [(0, iV n), (1, iV b)]) (g' := []) (nx' := 0) (by kernel_rfl) trivial ?_
  refine AW.rgs [.no, .no, .w, .no] [0, 1, 5] [] (P := (¬ (b : Int) = 0) ∧ ((-9223372036854775808) ≤ (Int.tdiv n b) ∧ (Int.tdiv n b) ≤ 9223372036854775807)) (l' := [(0, iV n), (1, iV b), (5, iV (Int.tdiv n b))]) (g' := []) (nx' := 0) (by kernel_rfl) ⟨(by omega), ⟨by omega, by omega⟩⟩ ?_
  refine AW.seq ?_
  by_cases hx1 : ((Int.tmod n b) < 0)
  · refine AW.rgs [.no, .no, .no, .b true] [5, 12] [] (P := (¬ (b : Int) = 0) ∧ (((Int.tmod n b) < 0))) (l' := [(5, iV (Int.tdiv n b)), (12, .e (.c (.d (D.lit (.bool true)))))]) (g' := []) (nx' := 0) (by kernel_rfl) ⟨(by omega), (by omega)⟩ ?_
    refine AW.cond_t (.tmp (Look.of rfl)) ?_
    refine AW.rg [.no, .w, .no] [5] [] (P := ((-9223372036854775808) ≤ ((Int.tdiv n b) - 1) ∧ ((Int.tdiv n b) - 1) ≤ 9223372036854775807)) (l' := [(5, iV ((Int.tdiv n b) - 1))]) (g' := []) (nx' := 0) (by kernel_rfl) ⟨by omega, by omega⟩ ?_
    refine AW.rgs [.no, .no] [4] [] (P := True) (l' := [(4, iV ((Int.tdiv n b) - 1))]) (g' := []) (nx' := 0) (by kernel_rfl) trivial ?_
    refine AW.ret ?_
    exact EndP.of (.inr rfl) [] (P := (((n / b) : Int) = ((Int.tdiv n b) - 1))) (by kernel_rfl) (by first | rfl | exact (tdiv_fl1 hb (by omega)).symm | exact (tdiv_fl2 hb (by omega)).symm | omega)
  · refine AW.rgs [.no, .no, .no, .b false] [5, 12] [] (P := (¬ (b : Int) = 0) ∧ (¬ ((Int.tmod n b) < 0))) (l' := [(5, iV (Int.tdiv n b)), (12, .e (.c (.d (D.lit (.bool false)))))]) (g' := []) (nx' := 0) (by kernel_rfl) ⟨(by omega), (by omega)⟩ ?_
    refine AW.cond_f (.tmp (Look.of rfl)) ?_
    refine AW.skip ?_
    refine AW.rgs [.no, .no] [4] [] (P := True) (l' := [(4, iV (Int.tdiv n b))]) (g' := []) (nx' := 0) (by kernel_rfl) trivial ?_
    refine AW.ret ?_
    exact EndP.of (.inr rfl) [] (P := (((n / b) : Int) = (Int.tdiv n b))) (by kernel_rfl) (by first | rfl | exact (tdiv_fl1 hb (by omega)).symm | exact (tdiv_fl2 hb (by omega)).symm | omega)

set_option maxHeartbeats 4000000 in
set_option maxRecDepth 100000 in
theorem G_RValid (fr to fs at' : Int)  : Fun 90 [.agg [iC fr, iC to, iC fs, iC at']] (toG []) 0 (.e (.c (.d (D.lit (.bool (rampB fr to fs at')))))) (toG []) 0 := by
  refine Fun.mk (n := 33) Try.func90 rfl rfl (Nat.le_of_ble_eq_true rfl) ?_
  intro cx hcx
  refine AW.rgs [.no, .no] [1] [0] (P := True) (l' := [(1, rV 0 0)]) (g' := [(0, some (23, .ds [iD fr, iD to, iD fs, iD at']))]) (nx' := 1) (by kernel_rfl) trivial ?_
  rcases Bool.eq_false_or_eq_true (gainB fr) with hx1 | hx1
  · have hx2 : 0 ≤ fr ∧ fr ≤ 262144 := of_decide_eq_true hx1
    rcases Bool.eq_false_or_eq_true (gainB to) with hx3 | hx3
    · have hx4 : 0 ≤ to ∧ to ≤ 262144 := of_decide_eq_true hx3
      by_cases hx5 : ((0 : Int) ≤ fs)
      · by_cases hx6 : (fs ≤ 4194304)
        · by_cases hx7 : ((0 : Int) ≤ at')
          · by_cases hx8 : (at' ≤ fs)
            · refine AW.rgs [.no, .no, .call [] (.e (.c (.d (D.lit (.bool true))))) [] 0 [] none, .no, .no, .no, .call [] (.e (.c (.d (D.lit (.bool true))))) [] 0 [] none, .no, .no, .no, .no, .b true, .no, .no, .no, .no, .b true, .no, .no, .no, .no, .b true, .no, .no, .no, .no, .no, .no, .b true, .no, .no] [2] [] (P := (Fun 135 [iE fr] (toG []) 0 (.e (.c (.d (D.lit (.bool true))))) (toG []) 0) ∧ (Fun 135 [iE to] (toG []) 0 (.e (.c (.d (D.lit (.bool true))))) (toG []) 0) ∧ (((0 : Int) ≤ fs)) ∧ ((fs ≤ 4194304)) ∧ (((0 : Int) ≤ at')) ∧ ((at' ≤ fs))) (l' := [(2, .e (.c (.d (D.lit (.bool true)))))]) (g' := []) (nx' := 1) (by kernel_rfl) ⟨(by have h0 := (G_isGain fr); rw [hx1] at h0; exact h0), (by have h0 := (G_isGain to); rw [hx3] at h0; exact h0), (by omega), (by omega), (by omega), (by omega)⟩ ?_
              refine AW.ret ?_
              exact EndP.of (.inr rfl) [] (P := ((rampB fr to fs at') = true)) (by kernel_rfl) (by first | exact rampB_t (by omega) | exact rampB_f (by omega))
            · refine AW.rgs [.no, .no, .call [] (.e (.c (.d (D.lit (.bool true))))) [] 0 [] none, .no, .no, .no, .call [] (.e (.c (.d (D.lit (.bool true))))) [] 0 [] none, .no, .no, .no, .no, .b true, .no, .no, .no, .no, .b true, .no, .no, .no, .no, .b true, .no, .no, .no, .no, .no, .no, .b false, .no, .no] [2] [] (P := (Fun 135 [iE fr] (toG []) 0 (.e (.c (.d (D.lit (.bool true))))) (toG []) 0) ∧ (Fun 135 [iE to] (toG []) 0 (.e (.c (.d (D.lit (.bool true))))) (toG []) 0) ∧ (((0 : Int) ≤ fs)) ∧ ((fs ≤ 4194304)) ∧ (((0 : Int) ≤ at')) ∧ (¬ (at' ≤ fs))) (l' := [(2, .e (.c (.d (D.lit (.bool false)))))]) (g' := []) (nx' := 1) (by kernel_rfl) ⟨(by have h0 := (G_isGain fr); rw [hx1] at h0; exact h0), (by have h0 := (G_isGain to); rw [hx3] at h0; exact h0), (by omega), (by omega), (by omega), (by omega)⟩ ?_
              refine AW.ret ?_
              exact EndP.of (.inr rfl) [] (P := ((rampB fr to fs at') = false)) (by kernel_rfl) (by first | exact rampB_t (by omega) | exact rampB_f (by omega))
          · refine AW.rgs [.no, .no, .call [] (.e (.c (.d (D.lit (.bool true))))) [] 0 [] none, .no, .no, .no, .call [] (.e (.c (.d (D.lit (.bool true))))) [] 0 [] none, .no, .no, .no, .no, .b true, .no, .no, .no, .no, .b true, .no, .no, .no, .no, .b false, .no, .no, .no, .no] [2] [] (P := (Fun 135 [iE fr] (toG []) 0 (.e (.c (.d (D.lit (.bool true))))) (toG []) 0) ∧ (Fun 135 [iE to] (toG []) 0 (.e (.c (.d (D.lit (.bool true))))) (toG []) 0) ∧ (((0 : Int) ≤ fs)) ∧ ((fs ≤ 4194304)) ∧ (¬ ((0 : Int) ≤ at'))) (l' := [(2, .e (.c (.d (D.lit (.bool false)))))]) (g' := []) (nx' := 1) (by kernel_rfl) ⟨(by have h0 := (G_isGain fr); rw [hx1] at h0; exact h0), (by have h0 := (G_isGain to); rw [hx3] at h0; exact h0), (by omega), (by omega), (by omega)⟩ ?_
            refine AW.ret ?_
            exact EndP.of (.inr rfl) [] (P := ((rampB fr to fs at') = false)) (by kernel_rfl) (by first | exact rampB_t (by omega) | exact rampB_f (by omega))
        · refine AW.rgs [.no, .no, .call [] (.e (.c (.d (D.lit (.bool true))))) [] 0 [] none, .no, .no, .no, .call [] (.e (.c (.d (D.lit (.bool true))))) [] 0 [] none, .no, .no, .no, .no, .b true, .no, .no, .no, .no, .b false, .no, .no, .no, .no, .no, .no] [2] [] (P := (Fun 135 [iE fr] (toG []) 0 (.e (.c (.d (D.lit (.bool true))))) (toG []) 0) ∧ (Fun 135 [iE to] (toG []) 0 (.e (.c (.d (D.lit (.bool true))))) (toG []) 0) ∧ (((0 : Int) ≤ fs)) ∧ (¬ (fs ≤ 4194304))) (l' := [(2, .e (.c (.d (D.lit (.bool false)))))]) (g' := []) (nx' := 1) (by kernel_rfl) ⟨(by have h0 := (G_isGain fr); rw [hx1] at h0; exact h0), (by have h0 := (G_isGain to); rw [hx3] at h0; exact h0), (by omega), (by omega)⟩ ?_
          refine AW.ret ?_
          exact EndP.of (.inr rfl) [] (P := ((rampB fr to fs at') = false)) (by kernel_rfl) (by first | exact rampB_t (by omega) | exact rampB_f (by omega))
      · refine AW.rgs [.no, .no, .call [] (.e (.c (.d (D.lit (.bool true))))) [] 0 [] none, .no, .no, .no, .call [] (.e (.c (.d (D.lit (.bool true))))) [] 0 [] none, .no, .no, .no, .no, .b false, .no, .no, .no, .no, .no, .no, .no, .no] [2] [] (P := (Fun 135 [iE fr] (toG []) 0 (.e (.c (.d (D.lit (.bool true))))) (toG []) 0) ∧ (Fun 135 [iE to] (toG []) 0 (.e (.c (.d (D.lit (.bool true))))) (toG []) 0) ∧ (¬ ((0 : Int) ≤ fs))) (l' := [(2, .e (.c (.d (D.lit (.bool false)))))]) (g' := []) (nx' := 1) (by kernel_rfl) ⟨(by have h0 := (G_isGain fr); rw [hx1] at h0; exact h0), (by have h0 := (G_isGain to); rw [hx3] at h0; exact h0), (by omega)⟩ ?_
        refine AW.ret ?_
        exact EndP.of (.inr rfl) [] (P := ((rampB fr to fs at') = false)) (by kernel_rfl) (by first | exact rampB_t (by omega) | exact rampB_f (by omega))
    · have hx9 : ¬ (0 ≤ to ∧ to ≤ 262144) := of_decide_eq_false hx3
      refine AW.rgs [.no, .no, .call [] (.e (.c (.d (D.lit (.bool true))))) [] 0 [] none, .no, .no, .no, .call [] (.e (.c (.d (D.lit (.bool false))))) [] 0 [] none, .no, .no, .no, .no, .no, .no, .no, .no, .no, .no] [2] [] (P := (Fun 135 [iE fr] (toG []) 0 (.e (.c (.d (D.lit (.bool true))))) (toG []) 0) ∧ (Fun 135 [iE to] (toG []) 0 (.e (.c (.d (D.lit (.bool false))))) (toG []) 0)) (l' := [(2, .e (.c (.d (D.lit (.bool false)))))]) (g' := []) (nx' := 1) (by kernel_rfl) ⟨(by have h0 := (G_isGain fr); rw [hx1] at h0; exact h0), (by have h0 := (G_isGain to); rw [hx3] at h0; exact h0)⟩ ?_
      refine AW.ret ?_
      exact EndP.of (.inr rfl) [] (P := ((rampB fr to fs at') = false)) (by kernel_rfl) (by first | exact rampB_t (by omega) | exact rampB_f (by omega))
  · have hx10 : ¬ (0 ≤ fr ∧ fr ≤ 262144) := of_decide_eq_false hx1
    refine AW.rgs [.no, .no, .call [] (.e (.c (.d (D.lit (.bool false))))) [] 0 [] none, .no, .no, .no, .no, .no, .no, .no, .no, .no, .no, .no] [2] [] (P := (Fun 135 [iE fr] (toG []) 0 (.e (.c (.d (D.lit (.bool false))))) (toG []) 0)) (l' := [(2, .e (.c (.d (D.lit (.bool false)))))]) (g' := []) (nx' := 1) (by kernel_rfl) (by have h0 := (G_isGain fr); rw [hx1] at h0; exact h0) ?_
    refine AW.ret ?_
    exact EndP.of (.inr rfl) [] (P := ((rampB fr to fs at') = false)) (by kernel_rfl) (by first | exact rampB_t (by omega) | exact rampB_f (by omega))

set_option maxHeartbeats 4000000 in
set_option maxRecDepth 100000 in
theorem G_rRValid (fr to fs at' : Int)  : Fun 96 [.agg [iC fr, iC to, iC fs, iC at']] (toG []) 0 (.e (.c (.d (D.lit (.bool (rampB fr to fs at')))))) (toG []) 0 := by
  refine Fun.mk (n := 33) Try.func96 rfl rfl (Nat.le_of_ble_eq_true rfl) ?_
  intro cx hcx
  refine AW.rgs [.no, .no] [1] [0] (P := True) (l' := [(1, rV 0 0)]) (g' := [(0, some (23, .ds [iD fr, iD to, iD fs, iD at']))]) (nx' := 1) (by kernel_rfl) trivial ?_
  rcases Bool.eq_false_or_eq_true (gainB fr) with hx1 | hx1
  · have hx2 : 0 ≤ fr ∧ fr ≤ 262144 := of_decide_eq_true hx1
    rcases Bool.eq_false_or_eq_true (gainB to) with hx3 | hx3
    · have hx4 : 0 ≤ to ∧ to ≤ 262144 := of_decide_eq_true hx3
      by_cases hx5 : ((0 : Int) ≤ fs)
      · by_cases hx6 : (fs ≤ 4194304)
        · by_cases hx7 : ((0 : Int) ≤ at')
          · by_cases hx8 : (at' ≤ fs)
            · refine AW.rgs [.no, .no, .call [] (.e (.c (.d (D.lit (.bool true))))) [] 0 [] none, .no, .no, .no, .call [] (.e (.c (.d (D.lit (.bool true))))) [] 0 [] none, .no, .no, .no, .no, .b true, .no, .no, .no, .no, .b true, .no, .no, .no, .no, .b true, .no, .no, .no, .no, .no, .no, .b true, .no, .no] [2] [] (P := (Fun 139 [iE fr] (toG []) 0 (.e (.c (.d (D.lit (.bool true))))) (toG []) 0) ∧ (Fun 139 [iE to] (toG []) 0 (.e (.c (.d (D.lit (.bool true))))) (toG []) 0) ∧ (((0 : Int) ≤ fs)) ∧ ((fs ≤ 4194304)) ∧ (((0 : Int) ≤ at')) ∧ ((at' ≤ fs))) (l' := [(2, .e (.c (.d (D.lit (.bool true)))))]) (g' := []) (nx' := 1) (by kernel_rfl) ⟨(by have h0 := (G_rgain fr); rw [hx1] at h0; exact h0), (by have h0 := (G_rgain to); rw [hx3] at h0; exact h0), (by omega), (by omega), (by omega), (by omega)⟩ ?_
              refine AW.ret ?_
              exact EndP.of (.inr rfl) [] (P := ((rampB fr to fs at') = true)) (by kernel_rfl) (by first | exact rampB_t (by omega) | exact rampB_f (by omega))
            · refine AW.rgs [.no, .no, .call [] (.e (.c (.d (D.lit (.bool true))))) [] 0 [] none, .no, .no, .no, .call [] (.e (.c (.d (D.lit (.bool true))))) [] 0 [] none, .no, .no, .no, .no, .b true, .no, .no, .no, .no, .b true, .no, .no, .no, .no, .b true, .no, .no, .no, .no, .no, .no, .b false, .no, .no] [2] [] (P := (Fun 139 [iE fr] (toG []) 0 (.e (.c (.d (D.lit (.bool true))))) (toG []) 0) ∧ (Fun 139 [iE to] (toG []) 0 (.e (.c (.d (D.lit (.bool true))))) (toG []) 0) ∧ (((0 : Int) ≤ fs)) ∧ ((fs ≤ 4194304)) ∧ (((0 : Int) ≤ at')) ∧ (¬ (at' ≤ fs))) (l' := [(2, .e (.c (.d (D.lit (.bool false)))))]) (g' := []) (nx' := 1) (by kernel_rfl) ⟨(by have h0 := (G_rgain fr); rw [hx1] at h0; exact h0), (by have h0 := (G_rgain to); rw [hx3] at h0; exact h0), (by omega), (by omega), (by omega), (by omega)⟩ ?_
              refine AW.ret ?_
              exact EndP.of (.inr rfl) [] (P := ((rampB fr to fs at') = false)) (by kernel_rfl) (by first | exact rampB_t (by omega) | exact rampB_f (by omega))
          · refine AW.rgs [.no, .no, .call [] (.e (.c (.d (D.lit (.bool true))))) [] 0 [] none, .no, .no, .no, .call [] (.e (.c (.d (D.lit (.bool true))))) [] 0 [] none, .no, .no, .no, .no, .b true, .no, .no, .no, .no, .b true, .no, .no, .no, .no, .b false, .no, .no, .no, .no] [2] [] (P := (Fun 139 [iE fr] (toG []) 0 (.e (.c (.d (D.lit (.bool true))))) (toG []) 0) ∧ (Fun 139 [iE to] (toG []) 0 (.e (.c (.d (D.lit (.bool true))))) (toG []) 0) ∧ (((0 : Int) ≤ fs)) ∧ ((fs ≤ 4194304)) ∧ (¬ ((0 : Int) ≤ at'))) (l' := [(2, .e (.c (.d (D.lit (.bool false)))))]) (g' := []) (nx' := 1) (by kernel_rfl) ⟨(by have h0 := (G_rgain fr); rw [hx1] at h0; exact h0), (by have h0 := (G_rgain to); rw [hx3] at h0; exact h0), (by omega), (by omega), (by omega)⟩ ?_
            refine AW.ret ?_
            exact EndP.of (.inr rfl) [] (P := ((rampB fr to fs at') = false)) (by kernel_rfl) (by first | exact rampB_t (by omega) | exact rampB_f (by omega))
        · refine AW.rgs [.no, .no, .call [] (.e (.c (.d (D.lit (.bool true))))) [] 0 [] none, .no, .no, .no, .call [] (.e (.c (.d (D.lit (.bool true))))) [] 0 [] none, .no, .no, .no, .no, .b true, .no, .no, .no, .no, .b false, .no, .no, .no, .no, .no, .no] [2] [] (P := (Fun 139 [iE fr] (toG []) 0 (.e (.c (.d (D.lit (.bool true))))) (toG []) 0) ∧ (Fun 139 [iE to] (toG []) 0 (.e (.c (.d (D.lit (.bool true))))) (toG []) 0) ∧ (((0 : Int) ≤ fs)) ∧ (¬ (fs ≤ 4194304))) (l' := [(2, .e (.c (.d (D.lit (.bool false)))))]) (g' := []) (nx' := 1) (by kernel_rfl) ⟨(by have h0 := (G_rgain fr); rw [hx1] at h0; exact h0), (by have h0 := (G_rgain to); rw [hx3] at h0; exact h0), (by omega), (by omega)⟩ ?_
          refine AW.ret ?_
          exact EndP.of (.inr rfl) [] (P := ((rampB fr to fs at') = false)) (by kernel_rfl) (by first | exact rampB_t (by omega) | exact rampB_f (by omega))
      · refine AW.rgs [.no, .no, .call [] (.e (.c (.d (D.lit (.bool true))))) [] 0 [] none, .no, .no, .no, .call [] (.e (.c (.d (D.lit (.bool true))))) [] 0 [] none, .no, .no, .no, .no, .b false, .no, .no, .no, .no, .no, .no, .no, .no] [2] [] (P := (Fun 139 [iE fr] (toG []) 0 (.e (.c (.d (D.lit (.bool true))))) (toG []) 0) ∧ (Fun 139 [iE to] (toG []) 0 (.e (.c (.d (D.lit (.bool true))))) (toG []) 0) ∧ (¬ ((0 : Int) ≤ fs))) (l' := [(2, .e (.c (.d (D.lit (.bool false)))))]) (g' := []) (nx' := 1) (by kernel_rfl) ⟨(by have h0 := (G_rgain fr); rw [hx1] at h0; exact h0), (by have h0 := (G_rgain to); rw [hx3] at h0; exact h0), (by omega)⟩ ?_
        refine AW.ret ?_
        exact EndP.of (.inr rfl) [] (P := ((rampB fr to fs at') = false)) (by kernel_rfl) (by first | exact rampB_t (by omega) | exact rampB_f (by omega))
    · have hx9 : ¬ (0 ≤ to ∧ to ≤ 262144) := of_decide_eq_false hx3
      refine AW.rgs [.no, .no, .call [] (.e (.c (.d (D.lit (.bool true))))) [] 0 [] none, .no, .no, .no, .call [] (.e (.c (.d (D.lit (.bool false))))) [] 0 [] none, .no, .no, .no, .no, .no, .no, .no, .no, .no, .no] [2] [] (P := (Fun 139 [iE fr] (toG []) 0 (.e (.c (.d (D.lit (.bool true))))) (toG []) 0) ∧ (Fun 139 [iE to] (toG []) 0 (.e (.c (.d (D.lit (.bool false))))) (toG []) 0)) (l' := [(2, .e (.c (.d (D.lit (.bool false)))))]) (g' := []) (nx' := 1) (by kernel_rfl) ⟨(by have h0 := (G_rgain fr); rw [hx1] at h0; exact h0), (by have h0 := (G_rgain to); rw [hx3] at h0; exact h0)⟩ ?_
      refine AW.ret ?_
      exact EndP.of (.inr rfl) [] (P := ((rampB fr to fs at') = false)) (by kernel_rfl) (by first | exact rampB_t (by omega) | exact rampB_f (by omega))
  · have hx10 : ¬ (0 ≤ fr ∧ fr ≤ 262144) := of_decide_eq_false hx1
    refine AW.rgs [.no, .no, .call [] (.e (.c (.d (D.lit (.bool false))))) [] 0 [] none, .no, .no, .no, .no, .no, .no, .no, .no, .no, .no, .no] [2] [] (P := (Fun 139 [iE fr] (toG []) 0 (.e (.c (.d (D.lit (.bool false))))) (toG []) 0)) (l' := [(2, .e (.c (.d (D.lit (.bool false)))))]) (g' := []) (nx' := 1) (by kernel_rfl) (by have h0 := (G_rgain fr); rw [hx1] at h0; exact h0) ?_
    refine AW.ret ?_
    exact EndP.of (.inr rfl) [] (P := ((rampB fr to fs at') = false)) (by kernel_rfl) (by first | exact rampB_t (by omega) | exact rampB_f (by omega))

set_option maxHeartbeats 4000000 in
set_option maxRecDepth 100000 in
theorem G_ended (a f i : Int) (h : 0 ≤ a ∧ a ≤ f ∧ f ≤ 4194304) : Fun 137 [.agg [iC a, iC f], iE i] (toG []) 0 (.e (.c (.d (D.lit (.bool (decide (f - a ≤ i))))))) (toG []) 0 := by
  refine Fun.mk (n := 12) Try.func137 rfl rfl (Nat.le_of_ble_eq_true rfl) ?_
  intro cx hcx
  refine AW.rgs [.no, .no] [1, 2] [0] (P := True) (l' := [(1, iV i), (2, rV 0 0)]) (g' := [(0, some (122, .ds [iD a, iD f]))]) (nx' := 1) (by kernel_rfl) trivial ?_
  by_cases hx1 : ((f - a) ≤ i)
  · refine AW.rgs [.no, .no, .no, .no, .no, .w, .b true, .no] [4] [] (P := ((-9223372036854775808) ≤ (f - a) ∧ (f - a) ≤ 9223372036854775807) ∧ (((f - a) ≤ i))) (l' := [(4, .e (.c (.d (D.lit (.bool true)))))]) (g' := []) (nx' := 1) (by kernel_rfl) ⟨⟨by omega, by omega⟩, (by omega)⟩ ?_
    refine AW.ret ?_
    exact EndP.of (.inr rfl) [] (P := ((decide (f - a ≤ i)) = true)) (by kernel_rfl) (by first | exact decide_eq_true (by omega) | exact decide_eq_false (by omega))
  · refine AW.rgs [.no, .no, .no, .no, .no, .w, .b false, .no] [4] [] (P := ((-9223372036854775808) ≤ (f - a) ∧ (f - a) ≤ 9223372036854775807) ∧ (¬ ((f - a) ≤ i))) (l' := [(4, .e (.c (.d (D.lit (.bool false)))))]) (g' := []) (nx' := 1) (by kernel_rfl) ⟨⟨by omega, by omega⟩, (by omega)⟩ ?_
    refine AW.ret ?_
    exact EndP.of (.inr rfl) [] (P := ((decide (f - a ≤ i)) = false)) (by kernel_rfl) (by first | exact decide_eq_true (by omega) | exact decide_eq_false (by omega))

set_option maxHeartbeats 4000000 in
set_option maxRecDepth 100000 in
theorem G_after (a f i : Int) (h : 0 ≤ a ∧ a ≤ f ∧ f ≤ 4194304) (hi : 0 ≤ i ∧ i ≤ 100000) : Fun 95 [.agg [iC a, iC f], iE i] (toG []) 0 (.e (.agg [iC (min f (a + i)), iC f])) (toG []) 0 := by
  refine Fun.mk (n := 20) Try.func95 rfl rfl (Nat.le_of_ble_eq_true rfl) ?_
  intro cx hcx
  refine AW.rgs [.no, .no] [1, 2, 4] [0, 1] (P := True) (l' := [(1, iV i), (2, rV 0 0), (4, rV 1 0)]) (g' := [(0, some (122, .ds [iD a, iD f])), (1, some (122, .ds [iD 0, iD 0]))]) (nx' := 2) (by kernel_rfl) trivial ?_
  refine AW.seq ?_
  rcases Bool.eq_false_or_eq_true (decide (f - a ≤ i)) with hx1 | hx1
  · have hx2 : ((f - a) ≤ i) := of_decide_eq_true hx1
    refine AW.rgs [.no, .no, .call [] (.e (.c (.d (D.lit (.bool true))))) [] 0 [] none] [1, 2, 4, 7] [0, 1] (P := (Fun 137 [.agg [iC a, iC f], iE i] (toG []) 0 (.e (.c (.d (D.lit (.bool true))))) (toG []) 0)) (l' := [(1, iV i), (2, rV 0 0), (4, rV 1 0), (7, .e (.c (.d (D.lit (.bool true)))))]) (g' := [(0, some (122, .ds [iD a, iD f])), (1, some (122, .ds [iD 0, iD 0]))]) (nx' := 2) (by kernel_rfl) (by have h0 := (G_ended a f i (by omega)); rw [hx1] at h0; exact h0) ?_
    refine AW.cond_t (.tmp (Look.of rfl)) ?_
    refine AW.rgs [.no, .no, .no, .no, .no, .no] [4] [1] (P := True) (l' := [(4, rV 1 0)]) (g' := [(1, some (122, .ds [iD f, iD f]))]) (nx' := 2) (by kernel_rfl) trivial ?_
    refine AW.ret ?_
    exact EndP.of (.inr rfl) [] (P := (((min f (a + i)) : Int) = f) ∧ ((f : Int) = f)) (by kernel_rfl) ⟨(by first | omega | rfl | assumption | (simp; done) | (simp; omega)), rfl⟩
  · have hx3 : ¬ ((f - a) ≤ i) := of_decide_eq_false hx1
    refine AW.rgs [.no, .no, .call [] (.e (.c (.d (D.lit (.bool false))))) [] 0 [] none] [1, 2, 4, 7] [0, 1] (P := (Fun 137 [.agg [iC a, iC f], iE i] (toG []) 0 (.e (.c (.d (D.lit (.bool false))))) (toG []) 0)) (l' := [(1, iV i), (2, rV 0 0), (4, rV 1 0), (7, .e (.c (.d (D.lit (.bool false)))))]) (g' := [(0, some (122, .ds [iD a, iD f])), (1, some (122, .ds [iD 0, iD 0]))]) (nx' := 2) (by kernel_rfl) (by have h0 := (G_ended a f i (by omega)); rw [hx1] at h0; exact h0) ?_
    refine AW.cond_f (.tmp (Look.of rfl)) ?_
    refine AW.skip ?_
    refine AW.rgs [.no, .no, .no, .w, .no, .no, .no, .no] [4] [1] (P := ((-9223372036854775808) ≤ (a + i) ∧ (a + i) ≤ 9223372036854775807)) (l' := [(4, rV 1 0)]) (g' := [(1, some (122, .ds [iD (a + i), iD f]))]) (nx' := 2) (by kernel_rfl) ⟨by omega, by omega⟩ ?_
    refine AW.ret ?_
    exact EndP.of (.inr rfl) [] (P := (((min f (a + i)) : Int) = (a + i)) ∧ ((f : Int) = f)) (by kernel_rfl) ⟨(by first | omega | rfl | assumption | (simp; done) | (simp; omega)), rfl⟩

set_option maxHeartbeats 4000000 in
set_option maxRecDepth 100000 in
theorem G_courseOf (fr to fs at' : Int)  : Fun 93 [.agg [iC fr, iC to, iC fs, iC at']] (toG []) 0 (.e (.agg [iC at', iC fs, iC fr, iC to])) (toG []) 0 := by
  refine Fun.mk (n := 13) Try.func93 rfl rfl (Nat.le_of_ble_eq_true rfl) ?_
  intro cx hcx
  refine AW.rgs [.no, .no] [1, 2] [0, 1] (P := True) (l' := [(1, rV 0 0), (2, rV 1 0)]) (g' := [(0, some (23, .ds [iD fr, iD to, iD fs, iD at'])), (1, some (124, .ds [iD 0, iD 0, iD 0, iD 0]))]) (nx' := 2) (by kernel_rfl) trivial ?_
  refine AW.rgs [.no, .no, .no, .no, .no, .no, .no, .no, .no, .no, .no] [2] [1] (P := True) (l' := [(2, rV 1 0)]) (g' := [(1, some (124, .ds [iD at', iD fs, iD fr, iD to]))]) (nx' := 2) (by kernel_rfl) trivial ?_
  refine AW.ret ?_
  exact EndP.of (.inr rfl) [] (P := ((at' : Int) = at') ∧ ((fs : Int) = fs) ∧ ((fr : Int) = fr) ∧ ((to : Int) = to)) (by kernel_rfl) ⟨rfl, rfl, rfl, rfl⟩

set_option maxHeartbeats 4000000 in
set_option maxRecDepth 100000 in
theorem G_cgain (fr to fs at' i : Int) (h : 0 ≤ fr ∧ fr ≤ 262144 ∧ 0 ≤ to ∧ to ≤ 262144 ∧ 0 ≤ fs ∧ fs ≤ 4194304 ∧ 0 ≤ at' ∧ at' ≤ fs) (hi : 0 ≤ i ∧ i ≤ 100000) : Fun 94 [.agg [iC at', iC fs, iC fr, iC to], iE i] (toG []) 0 (iV (atV fr to fs at' i)) (toG []) 0 := by
  have hmid := fun hh => ramp_mid (fr := fr) (to := to) (fs := fs) (at' := at') (i := i) h hi.1 hh
  refine Fun.mk (n := 29) Try.func94 rfl rfl (Nat.le_of_ble_eq_true rfl) ?_
  intro cx hcx
  refine AW.rgs [.no, .no] [1, 2] [0] (P := True) (l' := [(1, iV i), (2, rV 0 0)]) (g' := [(0, some (124, .ds [iD at', iD fs, iD fr, iD to]))]) (nx' := 1) (by kernel_rfl) trivial ?_
  refine AW.seq ?_
  rcases Bool.eq_false_or_eq_true (decide (fs - at' ≤ i)) with hx1 | hx1
  · have hx2 : ((fs - at') ≤ i) := of_decide_eq_true hx1
    refine AW.rgs [.no, .no, .no, .call [] (.e (.c (.d (D.lit (.bool true))))) [] 0 [] none] [1, 2, 8] [0] (P := (Fun 137 [.agg [iC at', iC fs], iE i] (toG []) 0 (.e (.c (.d (D.lit (.bool true))))) (toG []) 0)) (l' := [(1, iV i), (2, rV 0 0), (8, .e (.c (.d (D.lit (.bool true)))))]) (g' := [(0, some (124, .ds [iD at', iD fs, iD fr, iD to]))]) (nx' := 1) (by kernel_rfl) (by have h0 := (G_ended at' fs i (by omega)); rw [hx1] at h0; exact h0) ?_
    refine AW.cond_t (.tmp (Look.of rfl)) ?_
    refine AW.rgs [.no, .no, .no] [4] [] (P := True) (l' := [(4, iV to)]) (g' := []) (nx' := 1) (by kernel_rfl) trivial ?_
    refine AW.ret ?_
    exact EndP.of (.inr rfl) [] (P := (((atV fr to fs at' i) : Int) = to)) (by kernel_rfl) (by first | rfl | exact atV_yes (by omega) | exact atV_no (by omega))
  · have hx3 : ¬ ((fs - at') ≤ i) := of_decide_eq_false hx1
    refine AW.rgs [.no, .no, .no, .call [] (.e (.c (.d (D.lit (.bool false))))) [] 0 [] none] [1, 2, 8] [0] (P := (Fun 137 [.agg [iC at', iC fs], iE i] (toG []) 0 (.e (.c (.d (D.lit (.bool false))))) (toG []) 0)) (l' := [(1, iV i), (2, rV 0 0), (8, .e (.c (.d (D.lit (.bool false)))))]) (g' := [(0, some (124, .ds [iD at', iD fs, iD fr, iD to]))]) (nx' := 1) (by kernel_rfl) (by have h0 := (G_ended at' fs i (by omega)); rw [hx1] at h0; exact h0) ?_
    refine AW.cond_f (.tmp (Look.of rfl)) ?_
    refine AW.skip ?_
    have hmid2 := hmid (by omega)
    refine AW.rgs [.no, .no, .no, .no, .no, .no, .w, .no, .no, .no, .no, .w, .w, .no, .no, .no, .call [] (iV (((to - fr) * (at' + i)) / fs)) [] 0 [] none, .w, .no] [4] [] (P := ((-9223372036854775808) ≤ (to - fr) ∧ (to - fr) ≤ 9223372036854775807) ∧ ((-9223372036854775808) ≤ (at' + i) ∧ (at' + i) ≤ 9223372036854775807) ∧ ((-9223372036854775808) ≤ ((to - fr) * (at' + i)) ∧ ((to - fr) * (at' + i)) ≤ 9223372036854775807) ∧ (_) ∧ ((-9223372036854775808) ≤ (fr + (((to - fr) * (at' + i)) / fs)) ∧ (fr + (((to - fr) * (at' + i)) / fs)) ≤ 9223372036854775807)) (l' := [(4, iV (fr + (((to - fr) * (at' + i)) / fs)))]) (g' := []) (nx' := 1) (by kernel_rfl) ⟨⟨by omega, by omega⟩, ⟨by omega, by omega⟩, ⟨by omega, by omega⟩, (G_floor ((to - fr) * (at' + i)) fs (by omega) (by omega)), ⟨by omega, by omega⟩⟩ ?_
    refine AW.ret ?_
    exact EndP.of (.inr rfl) [] (P := (((atV fr to fs at' i) : Int) = (fr + (((to - fr) * (at' + i)) / fs)))) (by kernel_rfl) (by first | rfl | exact atV_yes (by omega) | exact atV_no (by omega))

set_option maxHeartbeats 4000000 in
set_option maxRecDepth 100000 in
theorem G_rAt (fr to fs at' i : Int) (h : 0 ≤ fr ∧ fr ≤ 262144 ∧ 0 ≤ to ∧ to ≤ 262144 ∧ 0 ≤ fs ∧ fs ≤ 4194304 ∧ 0 ≤ at' ∧ at' ≤ fs) (hi : 0 ≤ i ∧ i ≤ 100000) : Fun 99 [.agg [iC fr, iC to, iC fs, iC at'], iE i] (toG []) 0 (iV (atV fr to fs at' i)) (toG []) 0 := by
  have hok : rampB fr to fs at' = true := rampB_t h
  have hmid := fun hh => ramp_mid (fr := fr) (to := to) (fs := fs) (at' := at') (i := i) h hi.1 hh
  refine Fun.mk (n := 37) Try.func99 rfl rfl (Nat.le_of_ble_eq_true rfl) ?_
  intro cx hcx
  refine AW.rgs [.no, .no] [1, 2] [0] (P := True) (l' := [(1, iV i), (2, rV 0 0)]) (g' := [(0, some (23, .ds [iD fr, iD to, iD fs, iD at']))]) (nx' := 1) (by kernel_rfl) trivial ?_
  refine AW.seq ?_
  refine AW.rgs [.no, .call [] (.e (.c (.d (D.lit (.bool true))))) [] 0 [] none, .no, .no, .no, .b false, .no] [1, 2, 11] [0] (P := (Fun 96 [.agg [iC fr, iC to, iC fs, iC at']] (toG []) 0 (.e (.c (.d (D.lit (.bool true))))) (toG []) 0) ∧ (¬ (i < 0))) (l' := [(1, iV i), (2, rV 0 0), (11, .e (.c (.d (D.lit (.bool false)))))]) (g' := [(0, some (23, .ds [iD fr, iD to, iD fs, iD at']))]) (nx' := 1) (by kernel_rfl) ⟨(by have h0 := (G_rRValid fr to fs at'); rw [hok] at h0; exact h0), (by omega)⟩ ?_
  refine AW.cond_f (.tmp (Look.of rfl)) ?_
  refine AW.skip ?_
  refine AW.seq ?_
  by_cases hx1 : ((fs - at') ≤ i)
  · refine AW.rgs [.no, .no, .no, .no, .no, .w, .b true] [1, 2, 18] [0] (P := ((-9223372036854775808) ≤ (fs - at') ∧ (fs - at') ≤ 9223372036854775807) ∧ (((fs - at') ≤ i))) (l' := [(1, iV i), (2, rV 0 0), (18, .e (.c (.d (D.lit (.bool true)))))]) (g' := [(0, some (23, .ds [iD fr, iD to, iD fs, iD at']))]) (nx' := 1) (by kernel_rfl) ⟨⟨by omega, by omega⟩, (by omega)⟩ ?_
    refine AW.cond_t (.tmp (Look.of rfl)) ?_
    refine AW.rgs [.no, .no, .no] [4] [] (P := True) (l' := [(4, iV to)]) (g' := []) (nx' := 1) (by kernel_rfl) trivial ?_
    refine AW.ret ?_
    exact EndP.of (.inr rfl) [] (P := (((atV fr to fs at' i) : Int) = to)) (by kernel_rfl) (by first | rfl | exact atV_yes (by omega) | exact atV_no (by omega))
  · have hmid2 := hmid (by omega)
    refine AW.rgs [.no, .no, .no, .no, .no, .w, .b false] [1, 2, 18] [0] (P := ((-9223372036854775808) ≤ (fs - at') ∧ (fs - at') ≤ 9223372036854775807) ∧ (¬ ((fs - at') ≤ i))) (l' := [(1, iV i), (2, rV 0 0), (18, .e (.c (.d (D.lit (.bool false)))))]) (g' := [(0, some (23, .ds [iD fr, iD to, iD fs, iD at']))]) (nx' := 1) (by kernel_rfl) ⟨⟨by omega, by omega⟩, (by omega)⟩ ?_
    refine AW.cond_f (.tmp (Look.of rfl)) ?_
    refine AW.skip ?_
    have hmid2 := hmid (by omega)
    refine AW.rgs [.no, .no, .no, .no, .no, .no, .w, .no, .no, .no, .w, .w, .no, .no, .call [] (iV (((to - fr) * (at' + i)) / fs)) [] 0 [] none, .w, .no] [4] [] (P := ((-9223372036854775808) ≤ (to - fr) ∧ (to - fr) ≤ 9223372036854775807) ∧ ((-9223372036854775808) ≤ (at' + i) ∧ (at' + i) ≤ 9223372036854775807) ∧ ((-9223372036854775808) ≤ ((to - fr) * (at' + i)) ∧ ((to - fr) * (at' + i)) ≤ 9223372036854775807) ∧ (_) ∧ ((-9223372036854775808) ≤ (fr + (((to - fr) * (at' + i)) / fs)) ∧ (fr + (((to - fr) * (at' + i)) / fs)) ≤ 9223372036854775807)) (l' := [(4, iV (fr + (((to - fr) * (at' + i)) / fs)))]) (g' := []) (nx' := 1) (by kernel_rfl) ⟨⟨by omega, by omega⟩, ⟨by omega, by omega⟩, ⟨by omega, by omega⟩, (G_rfloor ((to - fr) * (at' + i)) fs (by omega) (by omega)), ⟨by omega, by omega⟩⟩ ?_
    refine AW.ret ?_
    exact EndP.of (.inr rfl) [] (P := (((atV fr to fs at' i) : Int) = (fr + (((to - fr) * (at' + i)) / fs)))) (by kernel_rfl) (by first | rfl | exact atV_yes (by omega) | exact atV_no (by omega))

set_option maxHeartbeats 4000000 in
set_option maxRecDepth 100000 in
theorem G_At (fr to fs at' i : Int) (h : 0 ≤ fr ∧ fr ≤ 262144 ∧ 0 ≤ to ∧ to ≤ 262144 ∧ 0 ≤ fs ∧ fs ≤ 4194304 ∧ 0 ≤ at' ∧ at' ≤ fs) (hi : 0 ≤ i ∧ i ≤ 100000) : Fun 87 [.agg [iC fr, iC to, iC fs, iC at'], iE i] (toG []) 0 (iV (atV fr to fs at' i)) (toG []) 0 := by
  have hok : rampB fr to fs at' = true := rampB_t h
  refine Fun.mk (n := 16) Try.func87 rfl rfl (Nat.le_of_ble_eq_true rfl) ?_
  intro cx hcx
  refine AW.rgs [.no, .no] [1, 2] [0] (P := True) (l' := [(1, iV i), (2, rV 0 0)]) (g' := [(0, some (23, .ds [iD fr, iD to, iD fs, iD at']))]) (nx' := 1) (by kernel_rfl) trivial ?_
  refine AW.seq ?_
  refine AW.rgs [.no, .call [] (.e (.c (.d (D.lit (.bool true))))) [] 0 [] none, .no, .no, .no, .b false, .no] [1, 2, 11] [0] (P := (Fun 90 [.agg [iC fr, iC to, iC fs, iC at']] (toG []) 0 (.e (.c (.d (D.lit (.bool true))))) (toG []) 0) ∧ (¬ (i < 0))) (l' := [(1, iV i), (2, rV 0 0), (11, .e (.c (.d (D.lit (.bool false)))))]) (g' := [(0, some (23, .ds [iD fr, iD to, iD fs, iD at']))]) (nx' := 1) (by kernel_rfl) ⟨(by have h0 := (G_RValid fr to fs at'); rw [hok] at h0; exact h0), (by omega)⟩ ?_
  refine AW.cond_f (.tmp (Look.of rfl)) ?_
  refine AW.skip ?_
  have hx1 : (((0 : Int) ≤ (atV fr to fs at' i)) ∧ ((atV fr to fs at' i) ≤ 262144)) := atV_gain (by omega) (by omega)
  refine AW.rgs [.no, .call [] (.e (.agg [iC at', iC fs, iC fr, iC to])) [] 0 [] none, .no, .call [] (iV (atV fr to fs at' i)) [] 0 [] none, .no] [4] [] (P := (_) ∧ (_)) (l' := [(4, iV (atV fr to fs at' i))]) (g' := []) (nx' := 1) (by kernel_rfl) ⟨(G_courseOf fr to fs at'), (G_cgain fr to fs at' i (by omega) (by omega))⟩ ?_
  refine AW.ret ?_
  exact EndP.of (.inr rfl) [] (P := (((atV fr to fs at' i) : Int) = (atV fr to fs at' i))) (by kernel_rfl) rfl

set_option maxHeartbeats 4000000 in
set_option maxRecDepth 100000 in
theorem G_Mul (a b : Int) (h1 : 0 ≤ a ∧ a ≤ 262144) (h2 : 0 ≤ b ∧ b ≤ 262144) : Fun 89 [iE a, iE b] (toG []) 0 (iV (min (((a * b) + 32768) / 65536) 262144)) (toG []) 0 := by
  have hm : 0 ≤ a * b ∧ a * b ≤ 68719476736 := ⟨Int.mul_nonneg h1.1 h2.1, Int.le_trans (Int.mul_le_mul_of_nonneg_right h1.2 h2.1) (by omega)⟩
  have g1 : gainB a = true := decide_eq_true h1
  have g2 : gainB b = true := decide_eq_true h2
  refine Fun.mk (n := 19) Try.func89 rfl rfl (Nat.le_of_ble_eq_true rfl) ?_
  intro cx hcx
  refine AW.rgs [.no] [0, 1] [] (P := True) (l' := [(0, iV a), (1, iV b)]) (g' := []) (nx' := 0) (by kernel_rfl) trivial ?_
  refine AW.seq ?_
  refine AW.rgs [.no, .call [] (.e (.c (.d (D.lit (.bool true))))) [] 0 [] none, .no, .no, .no, .call [] (.e (.c (.d (D.lit (.bool true))))) [] 0 [] none, .no, .no] [0, 1, 12] [] (P := (Fun 135 [iE a] (toG []) 0 (.e (.c (.d (D.lit (.bool true))))) (toG []) 0) ∧ (Fun 135 [iE b] (toG []) 0 (.e (.c (.d (D.lit (.bool true))))) (toG []) 0)) (l' := [(0, iV a), (1, iV b), (12, .e (.c (.d (D.lit (.bool false)))))]) (g' := []) (nx' := 0) (by kernel_rfl) ⟨(by have h0 := (G_isGain a); rw [g1] at h0; exact h0), (by have h0 := (G_isGain b); rw [g2] at h0; exact h0)⟩ ?_
  refine AW.cond_f (.tmp (Look.of rfl)) ?_
  refine AW.skip ?_
  refine AW.rgs [.no, .no, .w, .w, .ps, .no, .no] [4] [] (P := ((-9223372036854775808) ≤ (a * b) ∧ (a * b) ≤ 9223372036854775807) ∧ ((-9223372036854775808) ≤ ((a * b) + 32768) ∧ ((a * b) + 32768) ≤ 9223372036854775807) ∧ ((0 : Int) ≤ (((a * b) + 32768) : Int)) ∧ ((0 : Int) < (65536 : Int)) ∧ ((-9223372036854775808) ≤ ((a * b) + 32768) ∧ ((a * b) + 32768) ≤ 9223372036854775807)) (l' := [(4, iV (min (((a * b) + 32768) / 65536) 262144))]) (g' := []) (nx' := 0) (by kernel_rfl) ⟨⟨by omega, by omega⟩, ⟨by omega, by omega⟩, (by omega), (by omega), ⟨by omega, by omega⟩⟩ ?_
  refine AW.ret ?_
  exact EndP.of (.inr rfl) [] (P := (((min (((a * b) + 32768) / 65536) 262144) : Int) = (min (((a * b) + 32768) / 65536) 262144))) (by kernel_rfl) rfl

set_option maxHeartbeats 4000000 in
set_option maxRecDepth 100000 in
theorem G_Volume50   : Fun 86 [iE 50] (toG []) 0 (iV 8192) (toG []) 0 := by
  refine Fun.mk (n := 13) Try.func86 rfl rfl (Nat.le_of_ble_eq_true rfl) ?_
  intro cx hcx
  refine AW.rgs [.no] [0] [] (P := True) (l' := [(0, iV 50)]) (g' := []) (nx' := 0) (by kernel_rfl) trivial ?_
  refine AW.rgs [.no, .no, .no, .no] [0] [] (P := True) (l' := [(0, iV 50)]) (g' := []) (nx' := 0) (by kernel_rfl) trivial ?_
  refine AW.rgs [.no, .no, .w, .no, .w, .w, .ps, .no] [2] [] (P := ((-9223372036854775808) ≤ (2500 : Int) ∧ (2500 : Int) ≤ 9223372036854775807) ∧ ((-9223372036854775808) ≤ (125000 : Int) ∧ (125000 : Int) ≤ 9223372036854775807) ∧ ((-9223372036854775808) ≤ (8192000000 : Int) ∧ (8192000000 : Int) ≤ 9223372036854775807) ∧ ((0 : Int) ≤ (8192000000 : Int)) ∧ ((0 : Int) < (1000000 : Int)) ∧ ((-9223372036854775808) ≤ (8192000000 : Int) ∧ (8192000000 : Int) ≤ 9223372036854775807)) (l' := [(2, iV 8192)]) (g' := []) (nx' := 0) (by kernel_rfl) ⟨⟨by omega, by omega⟩, ⟨by omega, by omega⟩, ⟨by omega, by omega⟩, (by omega), (by omega), ⟨by omega, by omega⟩⟩ ?_
  refine AW.ret ?_
  exact EndP.of (.inr rfl) [] (P := ((8192 : Int) = 8192)) (by kernel_rfl) rfl


def rmG (v : Nat) : Int := List.getD [65536, 0, 1, 262144, 32768, 65535, 70000] v 0
theorem rmG_in {v : Nat} (h : v < 7) : 0 ≤ rmG v ∧ rmG v ≤ 262144 := lit_rng (l := [65536, 0, 1, 262144, 32768, 65535, 70000]) (by decide) _ (by show _ < 7; omega)
def rmFr (l : List Int) : Int := rmG (nextN l 7)
def rmTo (l : List Int) : Int := rmG (nextN (nextL l 7) 7)
def rmFs (l : List Int) : Int := nextN (nextL (nextL l 7) 7) 12
def rmAt (l : List Int) : Int := nextN (nextL (nextL (nextL l 7) 7) 12) (rmFs l + 1)
def rmL (l : List Int) : List Int := nextL (nextL (nextL (nextL l 7) 7) 12) (rmFs l + 1)
theorem rmL_byt {l : List Int} (h : Byt l) : Byt (rmL l) := nextL_byt _ (nextL_byt _ (nextL_byt _ (nextL_byt _ h)))
theorem rm_ok {l : List Int} (h : Byt l) : rampB (rmFr l) (rmTo l) (rmFs l) (rmAt l) = true := by
  have h1 := nextV_in l 7 h
  have h2 := nextV_in (nextL l 7) 7 (nextL_byt _ h)
  have h3 := nextV_in (nextL (nextL l 7) 7) 12 (nextL_byt _ (nextL_byt _ h))
  have h4 := nextV_in (nextL (nextL (nextL l 7) 7) 12) (rmFs l + 1) (nextL_byt _ (nextL_byt _ (nextL_byt _ h)))
  have h5 := rmG_in (v := nextN l 7) (by omega)
  have h6 := rmG_in (v := nextN (nextL l 7) 7) (by omega)
  refine rampB_t ?_
  unfold rmFr rmTo rmAt
  have e : rmFs l = nextN (nextL (nextL l 7) 7) 12 := rfl
  omega

set_option maxHeartbeats 4000000 in
set_option maxRecDepth 100000 in
theorem G_MRamp (l : List Int) (hb : Byt l) : Fun 21 [.c (.ptr 0 0)] (toG [(0, some (118, .ds [D.sl (dI .u8 l) (List.length l)]))]) 1 (.e (.agg [iC (rmFr l), iC (rmTo l), iC (rmFs l), iC (rmAt l)])) (toG [(0, some (118, .ds [D.sl (dI .u8 (rmL l)) (List.length (rmL l))]))]) 1 := by
  refine Fun.mk (n := 26) Try.func21 rfl rfl (Nat.le_of_ble_eq_true rfl) ?_
  intro cx hcx
  refine AW.rgs [.no] [0, 2] [0, 1] (P := True) (l' := [(0, rV 0 0), (2, rV 1 0)]) (g' := [(0, some (118, .ds [D.sl (dI .u8 l) (List.length l)])), (1, some (23, .ds [iD 0, iD 0, iD 0, iD 0]))]) (nx' := 2) (by kernel_rfl) trivial ?_
  refine AW.rgs [.no, .no] [0, 2, 3] [0, 1, 2] (P := True) (l' := [(0, rV 0 0), (2, rV 1 0), (3, oV 2 0 7 1)]) (g' := [(0, some (118, .ds [D.sl (dI .u8 l) (List.length l)])), (1, some (23, .ds [iD 0, iD 0, iD 0, iD 0])), (2, some (3, .ds [iD 65536, iD 0, iD 1, iD 262144, iD 32768, iD 65535, iD 70000]))]) (nx' := 3) (by kernel_rfl) trivial ?_
  have hx1 : ((((((nextN l 7) : Nat) : Int) < 7) ∨ ((nextN l 7) = 0)) ∧ ((nextN l 7) ≤ 255)) := nextV_in l (7 : Int) ‹_›
  have hx2 : (Byt (nextL l 7)) := nextL_byt (7 : Int) ‹_›
  have hx3 : 0 ≤ (List.getD ([65536, 0, 1, 262144, 32768, 65535, 70000] : List Int) (nextN l 7) 0) ∧ (List.getD ([65536, 0, 1, 262144, 32768, 65535, 70000] : List Int) (nextN l 7) 0) ≤ 262144 := lit_rng (l := ([65536, 0, 1, 262144, 32768, 65535, 70000] : List Int)) (a := 0) (b := 262144) (by decide) _ (show _ < 7 by omega)
  have hx4 : ((((((nextN (nextL l 7) 7) : Nat) : Int) < 7) ∨ ((nextN (nextL l 7) 7) = 0)) ∧ ((nextN (nextL l 7) 7) ≤ 255)) := nextV_in (nextL l 7) (7 : Int) ‹_›
  have hx5 : (Byt (nextL (nextL l 7) 7)) := nextL_byt (7 : Int) ‹_›
  have hx6 : 0 ≤ (List.getD ([65536, 0, 1, 262144, 32768, 65535, 70000] : List Int) (nextN (nextL l 7) 7) 0) ∧ (List.getD ([65536, 0, 1, 262144, 32768, 65535, 70000] : List Int) (nextN (nextL l 7) 7) 0) ≤ 262144 := lit_rng (l := ([65536, 0, 1, 262144, 32768, 65535, 70000] : List Int)) (a := 0) (b := 262144) (by decide) _ (show _ < 7 by omega)
  have hx7 : ((((((nextN (nextL (nextL l 7) 7) 12) : Nat) : Int) < 12) ∨ ((nextN (nextL (nextL l 7) 7) 12) = 0)) ∧ ((nextN (nextL (nextL l 7) 7) 12) ≤ 255)) := nextV_in (nextL (nextL l 7) 7) (12 : Int) ‹_›
  have hx8 : (Byt (nextL (nextL (nextL l 7) 7) 12)) := nextL_byt (12 : Int) ‹_›
  refine AW.rgs [.no, .no, .call [0] (iV (((nextN l 7) : Nat) : Int)) [(0, some (118, .ds [D.sl (dI .u8 (nextL l 7)) (List.length (nextL l 7))]))] 1 [] none, .n2 (nextN l 7) (nextN l 7), .d (D.lit (.int .i64 (List.getD ([65536, 0, 1, 262144, 32768, 65535, 70000] : List Int) (nextN l 7) 0))), .no, .no, .call [0] (iV (((nextN (nextL l 7) 7) : Nat) : Int)) [(0, some (118, .ds [D.sl (dI .u8 (nextL (nextL l 7) 7)) (List.length (nextL (nextL l 7) 7))]))] 1 [] none, .n2 (nextN (nextL l 7) 7) (nextN (nextL l 7) 7), .d (D.lit (.int .i64 (List.getD ([65536, 0, 1, 262144, 32768, 65535, 70000] : List Int) (nextN (nextL l 7) 7) 0))), .no, .call [0] (iV (((nextN (nextL (nextL l 7) 7) 12) : Nat) : Int)) [(0, some (118, .ds [D.sl (dI .u8 (nextL (nextL (nextL l 7) 7) 12)) (List.length (nextL (nextL (nextL l 7) 7) 12))]))] 1 [] none, .no, .no, .no] [0, 2, 4] [0, 1, 3] (P := (_) ∧ (((((nextN l 7) : Nat) : Int) : Int) = (((nextN l 7) : Nat) : Int)) ∧ ((nextN l 7) < 7) ∧ ((0 : Nat) + (nextN l 7) * 1 = (nextN l 7)) ∧ ([iD 65536, iD 0, iD 1, iD 262144, iD 32768, iD 65535, iD 70000][(nextN l 7)]? = some (D.lit (.int .i64 (List.getD ([65536, 0, 1, 262144, 32768, 65535, 70000] : List Int) (nextN l 7) 0)))) ∧ (_) ∧ (((((nextN (nextL l 7) 7) : Nat) : Int) : Int) = (((nextN (nextL l 7) 7) : Nat) : Int)) ∧ ((nextN (nextL l 7) 7) < 7) ∧ ((0 : Nat) + (nextN (nextL l 7) 7) * 1 = (nextN (nextL l 7) 7)) ∧ ([iD 65536, iD 0, iD 1, iD 262144, iD 32768, iD 65535, iD 70000][(nextN (nextL l 7) 7)]? = some (D.lit (.int .i64 (List.getD ([65536, 0, 1, 262144, 32768, 65535, 70000] : List Int) (nextN (nextL l 7) 7) 0)))) ∧ (_)) (l' := [(0, rV 0 0), (2, rV 1 0), (4, rV 3 0)]) (g' := [(0, some (118, .ds [D.sl (dI .u8 (nextL (nextL (nextL l 7) 7) 12)) (List.length (nextL (nextL (nextL l 7) 7) 12))])), (1, some (23, .ds [iD 0, iD 0, iD 0, iD 0])), (3, some (23, .ds [iD (List.getD ([65536, 0, 1, 262144, 32768, 65535, 70000] : List Int) (nextN l 7) 0), iD (List.getD ([65536, 0, 1, 262144, 32768, 65535, 70000] : List Int) (nextN (nextL l 7) 7) 0), iD (((nextN (nextL (nextL l 7) 7) 12) : Nat) : Int), iD 0]))]) (nx' := 4) (by kernel_rfl) ⟨(G_Next l 7 (by first | omega | with_reducible assumption | (simp <;> omega) | rfl | assumption)), rfl, (by omega), (by omega), (dI_get .i64 ([65536, 0, 1, 262144, 32768, 65535, 70000] : List Int) _ (by first | omega | (rw [dI_len]; omega) | (simp [dI_len] <;> omega) | rfl)), (G_Next (nextL l 7) 7 (by first | omega | with_reducible assumption | (simp <;> omega) | rfl | assumption)), rfl, (by omega), (by omega), (dI_get .i64 ([65536, 0, 1, 262144, 32768, 65535, 70000] : List Int) _ (by first | omega | (rw [dI_len]; omega) | (simp [dI_len] <;> omega) | rfl)), (G_Next (nextL (nextL l 7) 7) 12 (by first | omega | with_reducible assumption | (simp <;> omega) | rfl | assumption))⟩ ?_
  have hx9 : ((((((nextN (nextL (nextL (nextL l 7) 7) 12) ((((nextN (nextL (nextL l 7) 7) 12) : Nat) : Int) + 1)) : Nat) : Int) < ((((nextN (nextL (nextL l 7) 7) 12) : Nat) : Int) + 1)) ∨ ((nextN (nextL (nextL (nextL l 7) 7) 12) ((((nextN (nextL (nextL l 7) 7) 12) : Nat) : Int) + 1)) = 0)) ∧ ((nextN (nextL (nextL (nextL l 7) 7) 12) ((((nextN (nextL (nextL l 7) 7) 12) : Nat) : Int) + 1)) ≤ 255)) := nextV_in (nextL (nextL (nextL l 7) 7) 12) ((((nextN (nextL (nextL l 7) 7) 12) : Nat) : Int) + 1) ‹_›
  have hx10 : (Byt (nextL (nextL (nextL (nextL l 7) 7) 12) ((((nextN (nextL (nextL l 7) 7) 12) : Nat) : Int) + 1))) := nextL_byt ((((nextN (nextL (nextL l 7) 7) 12) : Nat) : Int) + 1) ‹_›
  refine AW.rgs [.no, .no, .no, .w, .call [0] (iV (((nextN (nextL (nextL (nextL l 7) 7) 12) ((((nextN (nextL (nextL l 7) 7) 12) : Nat) : Int) + 1)) : Nat) : Int)) [(0, some (118, .ds [D.sl (dI .u8 (nextL (nextL (nextL (nextL l 7) 7) 12) ((((nextN (nextL (nextL l 7) 7) 12) : Nat) : Int) + 1))) (List.length (nextL (nextL (nextL (nextL l 7) 7) 12) ((((nextN (nextL (nextL l 7) 7) 12) : Nat) : Int) + 1)))]))] 1 [] none, .no, .no] [2, 4] [0, 1, 3] (P := ((-9223372036854775808) ≤ ((((nextN (nextL (nextL l 7) 7) 12) : Nat) : Int) + 1) ∧ ((((nextN (nextL (nextL l 7) 7) 12) : Nat) : Int) + 1) ≤ 9223372036854775807) ∧ (_)) (l' := [(2, rV 1 0), (4, rV 3 0)]) (g' := [(0, some (118, .ds [D.sl (dI .u8 (nextL (nextL (nextL (nextL l 7) 7) 12) ((((nextN (nextL (nextL l 7) 7) 12) : Nat) : Int) + 1))) (List.length (nextL (nextL (nextL (nextL l 7) 7) 12) ((((nextN (nextL (nextL l 7) 7) 12) : Nat) : Int) + 1)))])), (1, some (23, .ds [iD 0, iD 0, iD 0, iD 0])), (3, some (23, .ds [iD (List.getD ([65536, 0, 1, 262144, 32768, 65535, 70000] : List Int) (nextN l 7) 0), iD (List.getD ([65536, 0, 1, 262144, 32768, 65535, 70000] : List Int) (nextN (nextL l 7) 7) 0), iD (((nextN (nextL (nextL l 7) 7) 12) : Nat) : Int), iD (((nextN (nextL (nextL (nextL l 7) 7) 12) ((((nextN (nextL (nextL l 7) 7) 12) : Nat) : Int) + 1)) : Nat) : Int)]))]) (nx' := 4) (by kernel_rfl) ⟨⟨by omega, by omega⟩, (G_Next (nextL (nextL (nextL l 7) 7) 12) ((((nextN (nextL (nextL l 7) 7) 12) : Nat) : Int) + 1) (by first | omega | with_reducible assumption | (simp <;> omega) | rfl | assumption))⟩ ?_
  refine AW.rgs [.no, .no] [2] [0, 1] (P := True) (l' := [(2, rV 1 0)]) (g' := [(0, some (118, .ds [D.sl (dI .u8 (nextL (nextL (nextL (nextL l 7) 7) 12) ((((nextN (nextL (nextL l 7) 7) 12) : Nat) : Int) + 1))) (List.length (nextL (nextL (nextL (nextL l 7) 7) 12) ((((nextN (nextL (nextL l 7) 7) 12) : Nat) : Int) + 1)))])), (1, some (23, .ds [iD (List.getD ([65536, 0, 1, 262144, 32768, 65535, 70000] : List Int) (nextN l 7) 0), iD (List.getD ([65536, 0, 1, 262144, 32768, 65535, 70000] : List Int) (nextN (nextL l 7) 7) 0), iD (((nextN (nextL (nextL l 7) 7) 12) : Nat) : Int), iD (((nextN (nextL (nextL (nextL l 7) 7) 12) ((((nextN (nextL (nextL l 7) 7) 12) : Nat) : Int) + 1)) : Nat) : Int)]))]) (nx' := 4) (by kernel_rfl) trivial ?_
  refine AW.ret ?_
  exact EndP.of (.inr rfl) [] (P := (((rmFr l) : Int) = (List.getD ([65536, 0, 1, 262144, 32768, 65535, 70000] : List Int) (nextN l 7) 0)) ∧ (((rmTo l) : Int) = (List.getD ([65536, 0, 1, 262144, 32768, 65535, 70000] : List Int) (nextN (nextL l 7) 7) 0)) ∧ (((rmFs l) : Int) = (((nextN (nextL (nextL l 7) 7) 12) : Nat) : Int)) ∧ (((rmAt l) : Int) = (((nextN (nextL (nextL (nextL l 7) 7) 12) ((((nextN (nextL (nextL l 7) 7) 12) : Nat) : Int) + 1)) : Nat) : Int)) ∧ (([D.sl (dI .u8 (rmL l)) (List.length (rmL l))] : List D) = [D.sl (dI .u8 (nextL (nextL (nextL (nextL l 7) 7) 12) ((((nextN (nextL (nextL l 7) 7) 12) : Nat) : Int) + 1))) (List.length (nextL (nextL (nextL (nextL l 7) 7) 12) ((((nextN (nextL (nextL l 7) 7) 12) : Nat) : Int) + 1)))])) (by kernel_rfl) ⟨(by first | rfl | omega), (by first | rfl | omega), (by first | rfl | omega), (by first | rfl | omega), (by first | rfl | with_reducible assumption | (simp only [dI_take, dI_drop, dI_app]; rfl) | (congr 1; first | assumption | (simp; done) | omega))⟩

end Go.Proofs.Ytnmenoocpbdekaa
