/- Ratios: rounded multiples. No statement is proved here. -/
import Derived.Test.YteggelophhpnfaaL64
namespace Go.Proofs.Yteggelophhpnfaa
open Go.ChangeShapes Go.WideShapes Go.ChangeAt Go.RowKit
set_option linter.unusedVariables false
set_option linter.unusedSimpArgs false


theorem B_Div64 (H L Y : Int) (hH : 0 ≤ H ∧ H < Y) (hL : 0 ≤ L ∧ L < 18446744073709551616) (hY : Y < 18446744073709551616) : Fun 66 [.c (.d (D.lit (.int .u64 H))), .c (.d (D.lit (.int .u64 L))), .c (.d (D.lit (.int .u64 Y)))] (toG []) 0 (.tup [.c (.d (D.lit (.int .u64 (((H * 18446744073709551616) + L) / Y)))), .c (.d (D.lit (.int .u64 (((H * 18446744073709551616) + L) % Y))))]) (toG []) 0 := by
  obtain ⟨s, h1, h2, hLZ⟩ := X_LZ64 Y (by omega)
  exact B_Div64s H L Y s hH hL hY h2 h1 hLZ

theorem B_DivP (x y Y : Int) (hH : 0 ≤ x * y / 18446744073709551616 ∧ x * y / 18446744073709551616 < Y) (hY : Y < 18446744073709551616) : Fun 66 [.c (.d (D.lit (.int .u64 ((x * y) / 18446744073709551616)))), .c (.d (D.lit (.int .u64 ((x * y) % 18446744073709551616)))), .c (.d (D.lit (.int .u64 Y)))] (toG []) 0 (.tup [.c (.d (D.lit (.int .u64 ((x * y) / Y)))), .c (.d (D.lit (.int .u64 ((x * y) % Y))))]) (toG []) 0 := by
  have h := B_Div64 (x * y / 18446744073709551616) (x * y % 18446744073709551616) Y hH (by omega) hY
  rw [show x * y / 18446744073709551616 * 18446744073709551616 + x * y % 18446744073709551616 = x * y by omega] at h
  exact h


def ratOk (n d : Int) : Bool := decide (1 ≤ n ∧ n ≤ 68719476736 ∧ 1 ≤ d ∧ d ≤ 68719476736 ∧ Nat.gcd (Int.toNat n) (Int.toNat d) = 1)
theorem ratOk_t {n d : Int} (h1 : 1 ≤ n ∧ n ≤ 68719476736) (h2 : 1 ≤ d ∧ d ≤ 68719476736) (h3 : Nat.gcd (Int.toNat n) (Int.toNat d) = 1) : ratOk n d = true := decide_eq_true ⟨h1.1, h1.2, h2.1, h2.2, h3⟩
theorem ratOk_f {n d : Int} (h : ¬ (1 ≤ n ∧ n ≤ 68719476736 ∧ 1 ≤ d ∧ d ≤ 68719476736)) : ratOk n d = false := decide_eq_false (fun h9 => h ⟨h9.1, h9.2.1, h9.2.2.1, h9.2.2.2.1⟩)
theorem ratOk_g {n d : Int} (h : ¬ Nat.gcd (Int.toNat n) (Int.toNat d) = 1) : ratOk n d = false := decide_eq_false (fun h9 => h h9.2.2.2.2)
theorem ratOk_of {n d : Int} (h : ratOk n d = true) : 1 ≤ n ∧ n ≤ 68719476736 ∧ 1 ≤ d ∧ d ≤ 68719476736 := by
  have h9 := of_decide_eq_true h
  exact ⟨h9.1, h9.2.1, h9.2.2.1, h9.2.2.2.1⟩
def phB (n d a p f : Int) : Bool := ratOk n d && decide (n ≤ 768000 ∧ d ≤ 768000 ∧ -4096 ≤ a ∧ a ≤ 4096 ∧ 0 ≤ p ∧ p ≤ 1125899906842624 ∧ 0 ≤ f ∧ f < d * 65536)
theorem phB_t {n d a p f : Int} (h : ratOk n d = true) (h2 : n ≤ 768000 ∧ d ≤ 768000 ∧ -4096 ≤ a ∧ a ≤ 4096 ∧ 0 ≤ p ∧ p ≤ 1125899906842624 ∧ 0 ≤ f ∧ f < d * 65536) : phB n d a p f = true := by unfold phB; rw [h, decide_eq_true h2]; rfl
theorem phB_r {n d a p f : Int} (h : ratOk n d = false) : phB n d a p f = false := by unfold phB; rw [h]; rfl
theorem phB_f {n d a p f : Int} (h2 : ¬ (n ≤ 768000 ∧ d ≤ 768000 ∧ -4096 ≤ a ∧ a ≤ 4096 ∧ 0 ≤ p ∧ p ≤ 1125899906842624 ∧ 0 ≤ f ∧ f < d * 65536)) : phB n d a p f = false := by unfold phB; rw [decide_eq_false h2, Bool.and_false]
/-- a phase -/
structure PhV (n d a p f : Int) : Prop where
  rat : ratOk n d = true
  b : (1 ≤ n ∧ n ≤ 768000) ∧ (1 ≤ d ∧ d ≤ 768000) ∧ (-4096 ≤ a ∧ a ≤ 4096) ∧ (0 ≤ p ∧ p ≤ 1125899906842624) ∧ 0 ≤ f ∧ f < d * 65536
theorem PhV.ok {n d a p f : Int} (h : PhV n d a p f) : phB n d a p f = true := phB_t h.rat (by have := h.b; omega)
theorem PhV.of {n d a p f : Int} (h : phB n d a p f = true) : PhV n d a p f := by
  unfold phB at h
  rw [Bool.and_eq_true] at h
  have h1 := ratOk_of h.1
  have h2 := of_decide_eq_true h.2
  exact ⟨h.1, by omega⟩
theorem PhV.mk' {n d a p f p' f' : Int} (h : PhV n d a p f) (h1 : 0 ≤ p' ∧ p' ≤ 1125899906842624) (h2 : 0 ≤ f' ∧ f' < d * 65536) : PhV n d a p' f' := ⟨h.rat, h.b.1, h.b.2.1, h.b.2.2.1, h1, h2⟩
def stp (n a : Int) : Int := n * (65536 + a)
theorem stp_in {n a : Int} (h1 : 1 ≤ n ∧ n ≤ 768000) (h2 : -4096 ≤ a ∧ a ≤ 4096) : 61440 ≤ stp n a ∧ stp n a ≤ 53477376000 := by
  unfold stp
  have e1 : 1 * (65536 + a) ≤ n * (65536 + a) := Int.mul_le_mul_of_nonneg_right h1.1 (by omega)
  have e2 : n * (65536 + a) ≤ 768000 * (65536 + a) := Int.mul_le_mul_of_nonneg_right h1.2 (by omega)
  omega
def mvV (f s : Int) (i : Nat) : Int := f + ((i : Nat) : Int) * s
theorem mv_next (f s : Int) (i : Nat) : mvV f s (i + 1) = mvV f s i + s := by unfold mvV; rw [Int.natCast_add, Int.add_mul]; omega
theorem mv_0 (f s : Int) : mvV f s 0 = f := by unfold mvV; simp
theorem mv_in {f s : Int} {i : Nat} (h1 : 0 ≤ f ∧ f < 50331648000) (h2 : 0 ≤ s ∧ s ≤ 53477376000) (h3 : i ≤ 65537) : 0 ≤ mvV f s i ∧ mvV f s i ≤ 3600000000000000 := by
  unfold mvV
  have e1 : 0 ≤ ((i : Nat) : Int) * s := Int.mul_nonneg (by omega) h2.1
  have e2 : ((i : Nat) : Int) * s ≤ 65537 * s := Int.mul_le_mul_of_nonneg_right (by omega) h2.1
  omega
theorem mv_mono {f s : Int} {i j : Nat} (hs : 0 ≤ s) (h : i ≤ j) : mvV f s i ≤ mvV f s j := by
  unfold mvV
  have := Int.mul_le_mul_of_nonneg_right (show ((i : Nat) : Int) ≤ ((j : Nat) : Int) by omega) hs
  omega
theorem quo_in {x P : Int} (h1 : 0 ≤ x) (h2 : 0 < P) : 0 ≤ x / P ∧ x / P ≤ x ∧ 0 ≤ x % P ∧ x % P < P := ⟨Int.ediv_nonneg h1 (by omega), Int.ediv_le_self _ h1, Int.emod_nonneg _ (by omega), Int.emod_lt_of_pos _ h2⟩
def needV (f s P : Int) (n : Nat) : Int := if n = 0 then 0 else max (mvV f s (n - 1) / P + 2) (mvV f s n / P)
theorem needV_0 (f s P : Int) : needV f s P 0 = 0 := if_pos rfl
theorem needV_s (f s P : Int) {n : Nat} (h : ¬ n = 0) : needV f s P n = max (mvV f s (n - 1) / P + 2) (mvV f s n / P) := if_neg h
theorem needV_in {f s P : Int} {n : Nat} (h1 : 0 ≤ f ∧ f < 50331648000) (h2 : 0 ≤ s ∧ s ≤ 53477376000) (h3 : n ≤ 65537) (hP : 0 < P) : 0 ≤ needV f s P n ∧ needV f s P n ≤ 3600000000000002 := by
  by_cases h : n = 0
  · subst h; rw [needV_0]; omega
  · rw [needV_s _ _ _ h]
    have a1 := mv_in (i := n - 1) h1 h2 (by omega)
    have a2 := mv_in (i := n) h1 h2 h3
    have b1 := quo_in a1.1 hP
    have b2 := quo_in a2.1 hP
    omega
theorem needV_mono {f s P : Int} (hf : 0 ≤ f) (hs : 0 ≤ s) (hP : 0 < P) {i j : Nat} (h : i ≤ j) : needV f s P i ≤ needV f s P j := by
  have nn : ∀ k, 0 ≤ mvV f s k := fun k => by unfold mvV; have := Int.mul_nonneg (show 0 ≤ ((k : Nat) : Int) by omega) hs; omega
  by_cases hi : i = 0
  · subst hi; rw [needV_0]
    by_cases hj : j = 0
    · subst hj; rw [needV_0]; omega
    · rw [needV_s _ _ _ hj]
      have := (quo_in (nn (j - 1)) hP).1
      omega
  · rw [needV_s _ _ _ hi, needV_s _ _ _ (show ¬ j = 0 by omega)]
    have a1 := Int.ediv_le_ediv hP (mv_mono (f := f) hs (show i - 1 ≤ j - 1 by omega))
    have a2 := Int.ediv_le_ediv hP (mv_mono (f := f) hs h)
    omega
def mkV (f s P h : Int) : Nat → Nat
  | 0 => 0
  | k + 1 => if needV f s P (k + 1) ≤ h then k + 1 else mkV f s P h k
def mkF (f s P h : Int) : Nat := mkV f s P h 65536
theorem mkV_le (f s P h : Int) : ∀ n, mkV f s P h n ≤ n
  | 0 => Nat.le_refl 0
  | k + 1 => by
    have ih := mkV_le f s P h k
    show (if needV f s P (k + 1) ≤ h then k + 1 else mkV f s P h k) ≤ k + 1
    split <;> omega
theorem mkV_need {f s P h : Int} (h0 : 0 ≤ h) : ∀ n, needV f s P (mkV f s P h n) ≤ h
  | 0 => by show needV f s P 0 ≤ h; rw [needV_0]; exact h0
  | k + 1 => by
    have ih := mkV_need (f := f) (s := s) (P := P) h0 k
    show needV f s P (if needV f s P (k + 1) ≤ h then k + 1 else mkV f s P h k) ≤ h
    split
    · assumption
    · exact ih
theorem mkV_eq {f s P h : Int} (hf : 0 ≤ f) (hs : 0 ≤ s) (hP : 0 < P) {k : Nat} : ∀ n, k ≤ n → (k = 0 ∨ needV f s P k ≤ h) → (k = n ∨ h < needV f s P (k + 1)) → mkV f s P h n = k
  | 0, hk, _, _ => by show 0 = k; omega
  | n + 1, hk, h1, h2 => by
    show (if needV f s P (n + 1) ≤ h then n + 1 else mkV f s P h n) = k
    by_cases h9 : needV f s P (n + 1) ≤ h
    · rw [if_pos h9]
      rcases h2 with h2 | h2
      · exact h2.symm
      · by_cases h8 : k = n + 1
        · exact h8.symm
        · have := needV_mono hf hs hP (show k + 1 ≤ n + 1 by omega); omega
    · rw [if_neg h9]
      have h8 : ¬ k = n + 1 := by
        intro e; subst e
        rcases h1 with h1 | h1
        · omega
        · exact h9 h1
      refine mkV_eq hf hs hP n (by omega) h1 ?_
      rcases h2 with h2 | h2
      · exact absurd h2 h8
      · exact .inr h2
theorem mkF_eq {f s P h : Int} (hf : 0 ≤ f) (hs : 0 ≤ s) (hP : 0 < P) {k : Nat} (hk : k ≤ 65536) (h1 : k = 0 ∨ needV f s P k ≤ h) (h2 : k = 65536 ∨ h < needV f s P (k + 1)) : ((k : Nat) : Int) = ((mkF f s P h : Nat) : Int) := by rw [show mkF f s P h = k from mkV_eq hf hs hP 65536 hk h1 h2]
theorem mkF_need {f s P h : Int} (h0 : 0 ≤ h) : needV f s P (mkF f s P h) ≤ h ∧ mkF f s P h ≤ 65536 := ⟨mkV_need h0 65536, mkV_le _ _ _ _ 65536⟩

set_option maxHeartbeats 4000000 in
set_option maxRecDepth 100000 in
theorem R_gcd_p (x0 y0 : Nat) (h1 : x0 ≤ 9223372036854775807) (h2 : y0 ≤ 9223372036854775807) : Fun 56 [iE ((x0 : Nat) : Int), iE ((y0 : Nat) : Int)] (toG []) 0 (iV (((Nat.gcd x0 y0) : Nat) : Int)) (toG []) 0 := by
  refine Fun.mk (n := 12) Try.func56 rfl rfl (Nat.le_of_ble_eq_true rfl) ?_
  intro cx hcx
  refine AW.rgs [.no] [0, 1] [] (P := True) (l' := [(0, iV ↑x0), (1, iV ↑y0)]) (g' := []) (nx' := 0) (by kernel_rfl) trivial ?_
  refine AW.seq ?_
  refine AW.block ?_
  refine AW.loopE 0 hcx (fun (x : {x : Nat × Nat // match x with | (x, y) => (x ≤ 9223372036854775807) ∧ (y ≤ 9223372036854775807) ∧ (Nat.gcd x y = Nat.gcd x0 y0)}) => match x with | ⟨(x, y), _⟩ => (⟨[(0, iV ((x : Nat) : Int)), (1, iV ((y : Nat) : Int))], [], 0⟩ : ES)) (fun (x : {x : Nat × Nat // match x with | (x, y) => (x ≤ 9223372036854775807) ∧ (y ≤ 9223372036854775807) ∧ (Nat.gcd x y = Nat.gcd x0 y0)}) => match x with | ⟨(x, y), _⟩ => y) ⟨((x0 : Nat), (y0 : Nat)), (show (x0 ≤ 9223372036854775807) ∧ (y0 ≤ 9223372036854775807) ∧ (Nat.gcd x0 y0 = Nat.gcd x0 y0) from ⟨(by first | omega | assumption | simp), (by first | omega | assumption | simp), rfl⟩)⟩ [] (P := ((((x0 : Nat) : Int) : Int) = ((x0 : Nat) : Int)) ∧ ((((y0 : Nat) : Int) : Int) = ((y0 : Nat) : Int))) (by kernel_rfl) ⟨rfl, rfl⟩ ?_
  rintro ⟨⟨x, y⟩, hinv0⟩
  obtain ⟨hx, hy, hg⟩ : (x ≤ 9223372036854775807) ∧ (y ≤ 9223372036854775807) ∧ (Nat.gcd x y = Nat.gcd x0 y0) := hinv0
  refine AW.es (l := [(0, iV ((x : Nat) : Int)), (1, iV ((y : Nat) : Int))]) (g := []) (nx := 0) rfl rfl rfl ?_
  have hmd : y = 0 ∨ x % y < y := (Nat.eq_zero_or_pos y).imp id (fun h9 => Nat.mod_lt _ h9)
  refine AW.seq ?_
  by_cases hx1 : (((y : Nat) : Int) ≠ 0)
  · refine AW.rgs [.no, .b true] [0, 1, 6] [] (P := ((((y : Nat) : Int) ≠ 0))) (l' := [(0, iV ↑x), (1, iV ↑y), (6, bV true)]) (g' := []) (nx' := 0) (by kernel_rfl) (by omega) ?_
    refine AW.cond_t (.tmp (Look.of rfl)) ?_
    refine AW.skip ?_
    refine AW.block ?_
    refine AW.rg [.no, .no, .no, .ps, .no, .no] [0, 1] [] (P := ((0 : Int) ≤ (((x : Nat) : Int) : Int)) ∧ ((0 : Int) < (((y : Nat) : Int) : Int))) (l' := [(0, iV ↑y), (1, iV (↑x % ↑y))]) (g' := []) (nx' := 0) (by kernel_rfl) ⟨(by omega), (by omega)⟩ ?_
    exact Rd.of ⟨((y : Nat), ((x % y) : Nat)), (show (y ≤ 9223372036854775807) ∧ ((x % y) ≤ 9223372036854775807) ∧ (Nat.gcd y (x % y) = Nat.gcd x0 y0) from ⟨(by first | omega | assumption | simp), (by first | omega | assumption | simp), (by rw [Nat.gcd_comm, ← Nat.gcd_rec, Nat.gcd_comm]; exact hg)⟩)⟩ [] (P := ((((y : Nat) : Int) : Int) = ((y : Nat) : Int)) ∧ (((((x % y) : Nat) : Int) : Int) = (((x : Nat) : Int) % ((y : Nat) : Int)))) (by kernel_rfl) ⟨rfl, (by first | rfl | omega | assumption | (simp; done) | (simp; omega))⟩ (show (x % y) < y from (by first | omega | (show _ < _; simp; omega)))
  · refine AW.rgs [.no, .b false] [0, 1, 6] [] (P := (¬ (((y : Nat) : Int) ≠ 0))) (l' := [(0, iV ↑x), (1, iV ↑y), (6, bV false)]) (g' := []) (nx' := 0) (by kernel_rfl) (by omega) ?_
    refine AW.cond_f (.tmp (Look.of rfl)) ?_
    refine AW.exit ?_
    refine AW.rgs [.no, .no] [4] [] (P := True) (l' := [(4, iV ↑x)]) (g' := []) (nx' := 0) (by kernel_rfl) trivial ?_
    refine AW.ret ?_
    exact EndP.of (.inr rfl) [] (P := (((((Nat.gcd x0 y0) : Nat) : Int) : Int) = ((x : Nat) : Int))) (by kernel_rfl) (by rw [← hg, show y = 0 by omega, Nat.gcd_zero_right])

set_option maxHeartbeats 4000000 in
set_option maxRecDepth 100000 in
theorem R_gcd_r (x0 y0 : Nat) (h1 : x0 ≤ 9223372036854775807) (h2 : y0 ≤ 9223372036854775807) : Fun 45 [iE ((x0 : Nat) : Int), iE ((y0 : Nat) : Int)] (toG []) 0 (iV (((Nat.gcd x0 y0) : Nat) : Int)) (toG []) 0 := by
  refine Fun.mk (n := 12) Try.func45 rfl rfl (Nat.le_of_ble_eq_true rfl) ?_
  intro cx hcx
  refine AW.rgs [.no] [0, 1] [] (P := True) (l' := [(0, iV ↑x0), (1, iV ↑y0)]) (g' := []) (nx' := 0) (by kernel_rfl) trivial ?_
  refine AW.seq ?_
  refine AW.block ?_
  refine AW.loopE 0 hcx (fun (x : {x : Nat × Nat // match x with | (x, y) => (x ≤ 9223372036854775807) ∧ (y ≤ 9223372036854775807) ∧ (Nat.gcd x y = Nat.gcd x0 y0)}) => match x with | ⟨(x, y), _⟩ => (⟨[(0, iV ((x : Nat) : Int)), (1, iV ((y : Nat) : Int))], [], 0⟩ : ES)) (fun (x : {x : Nat × Nat // match x with | (x, y) => (x ≤ 9223372036854775807) ∧ (y ≤ 9223372036854775807) ∧ (Nat.gcd x y = Nat.gcd x0 y0)}) => match x with | ⟨(x, y), _⟩ => y) ⟨((x0 : Nat), (y0 : Nat)), (show (x0 ≤ 9223372036854775807) ∧ (y0 ≤ 9223372036854775807) ∧ (Nat.gcd x0 y0 = Nat.gcd x0 y0) from ⟨(by first | omega | assumption | simp), (by first | omega | assumption | simp), rfl⟩)⟩ [] (P := ((((x0 : Nat) : Int) : Int) = ((x0 : Nat) : Int)) ∧ ((((y0 : Nat) : Int) : Int) = ((y0 : Nat) : Int))) (by kernel_rfl) ⟨rfl, rfl⟩ ?_
  rintro ⟨⟨x, y⟩, hinv0⟩
  obtain ⟨hx, hy, hg⟩ : (x ≤ 9223372036854775807) ∧ (y ≤ 9223372036854775807) ∧ (Nat.gcd x y = Nat.gcd x0 y0) := hinv0
  refine AW.es (l := [(0, iV ((x : Nat) : Int)), (1, iV ((y : Nat) : Int))]) (g := []) (nx := 0) rfl rfl rfl ?_
  have hmd : y = 0 ∨ x % y < y := (Nat.eq_zero_or_pos y).imp id (fun h9 => Nat.mod_lt _ h9)
  refine AW.seq ?_
  by_cases hx1 : (((y : Nat) : Int) ≠ 0)
  · refine AW.rgs [.no, .b true] [0, 1, 6] [] (P := ((((y : Nat) : Int) ≠ 0))) (l' := [(0, iV ↑x), (1, iV ↑y), (6, bV true)]) (g' := []) (nx' := 0) (by kernel_rfl) (by omega) ?_
    refine AW.cond_t (.tmp (Look.of rfl)) ?_
    refine AW.skip ?_
    refine AW.block ?_
    refine AW.rg [.no, .no, .no, .ps, .no, .no] [0, 1] [] (P := ((0 : Int) ≤ (((x : Nat) : Int) : Int)) ∧ ((0 : Int) < (((y : Nat) : Int) : Int))) (l' := [(0, iV ↑y), (1, iV (↑x % ↑y))]) (g' := []) (nx' := 0) (by kernel_rfl) ⟨(by omega), (by omega)⟩ ?_
    exact Rd.of ⟨((y : Nat), ((x % y) : Nat)), (show (y ≤ 9223372036854775807) ∧ ((x % y) ≤ 9223372036854775807) ∧ (Nat.gcd y (x % y) = Nat.gcd x0 y0) from ⟨(by first | omega | assumption | simp), (by first | omega | assumption | simp), (by rw [Nat.gcd_comm, ← Nat.gcd_rec, Nat.gcd_comm]; exact hg)⟩)⟩ [] (P := ((((y : Nat) : Int) : Int) = ((y : Nat) : Int)) ∧ (((((x % y) : Nat) : Int) : Int) = (((x : Nat) : Int) % ((y : Nat) : Int)))) (by kernel_rfl) ⟨rfl, (by first | rfl | omega | assumption | (simp; done) | (simp; omega))⟩ (show (x % y) < y from (by first | omega | (show _ < _; simp; omega)))
  · refine AW.rgs [.no, .b false] [0, 1, 6] [] (P := (¬ (((y : Nat) : Int) ≠ 0))) (l' := [(0, iV ↑x), (1, iV ↑y), (6, bV false)]) (g' := []) (nx' := 0) (by kernel_rfl) (by omega) ?_
    refine AW.cond_f (.tmp (Look.of rfl)) ?_
    refine AW.exit ?_
    refine AW.rgs [.no, .no] [4] [] (P := True) (l' := [(4, iV ↑x)]) (g' := []) (nx' := 0) (by kernel_rfl) trivial ?_
    refine AW.ret ?_
    exact EndP.of (.inr rfl) [] (P := (((((Nat.gcd x0 y0) : Nat) : Int) : Int) = ((x : Nat) : Int))) (by kernel_rfl) (by rw [← hg, show y = 0 by omega, Nat.gcd_zero_right])

set_option maxHeartbeats 4000000 in
set_option maxRecDepth 100000 in
theorem R_isTerm (n : Int)  : Fun 55 [iE n] (toG []) 0 (.e (.c (.d (D.lit (.bool (decide (1 ≤ n ∧ n ≤ 68719476736))))))) (toG []) 0 := by
  refine Fun.mk (n := 9) Try.func55 rfl rfl (Nat.le_of_ble_eq_true rfl) ?_
  intro cx hcx
  refine AW.rgs [.no] [0] [] (P := True) (l' := [(0, iV n)]) (g' := []) (nx' := 0) (by kernel_rfl) trivial ?_
  by_cases hx1 : ((1 : Int) ≤ n)
  · by_cases hx2 : (n ≤ 68719476736)
    · refine AW.rgs [.no, .b true, .no, .no, .b true, .no, .no] [2] [] (P := (((1 : Int) ≤ n)) ∧ ((n ≤ 68719476736))) (l' := [(2, bV true)]) (g' := []) (nx' := 0) (by kernel_rfl) ⟨(by omega), (by omega)⟩ ?_
      refine AW.ret ?_
      exact EndP.of (.inr rfl) [] (P := ((decide (1 ≤ n ∧ n ≤ 68719476736)) = true)) (by kernel_rfl) (by first | exact decide_eq_true (by omega) | exact decide_eq_false (by omega))
    · refine AW.rgs [.no, .b true, .no, .no, .b false, .no, .no] [2] [] (P := (((1 : Int) ≤ n)) ∧ (¬ (n ≤ 68719476736))) (l' := [(2, bV false)]) (g' := []) (nx' := 0) (by kernel_rfl) ⟨(by omega), (by omega)⟩ ?_
      refine AW.ret ?_
      exact EndP.of (.inr rfl) [] (P := ((decide (1 ≤ n ∧ n ≤ 68719476736)) = false)) (by kernel_rfl) (by first | exact decide_eq_true (by omega) | exact decide_eq_false (by omega))
  · refine AW.rgs [.no, .b false, .no, .no, .no] [2] [] (P := (¬ ((1 : Int) ≤ n))) (l' := [(2, bV false)]) (g' := []) (nx' := 0) (by kernel_rfl) (by omega) ?_
    refine AW.ret ?_
    exact EndP.of (.inr rfl) [] (P := ((decide (1 ≤ n ∧ n ≤ 68719476736)) = false)) (by kernel_rfl) (by first | exact decide_eq_true (by omega) | exact decide_eq_false (by omega))

set_option maxHeartbeats 4000000 in
set_option maxRecDepth 100000 in
theorem R_Valid_p (n d : Int)  : Fun 40 [.agg [iC n, iC d]] (toG []) 0 (.e (.c (.d (D.lit (.bool (ratOk n d)))))) (toG []) 0 := by
  refine Fun.mk (n := 19) Try.func40 rfl rfl (Nat.le_of_ble_eq_true rfl) ?_
  intro cx hcx
  refine AW.rgs [.no, .no] [1] [0] (P := True) (l' := [(1, rV 0 0)]) (g' := [(0, some (27, .ds [iD n, iD d]))]) (nx' := 1) (by kernel_rfl) trivial ?_
  rcases Bool.eq_false_or_eq_true (decide (1 ≤ n ∧ n ≤ 68719476736)) with hx1 | hx1
  · have hx2 : (((1 : Int) ≤ n) ∧ (n ≤ 68719476736)) := of_decide_eq_true hx1
    rcases Bool.eq_false_or_eq_true (decide (1 ≤ d ∧ d ≤ 68719476736)) with hx3 | hx3
    · have hx4 : (((1 : Int) ≤ d) ∧ (d ≤ 68719476736)) := of_decide_eq_true hx3
      by_cases hx5 : ((((Nat.gcd (Int.toNat n) (Int.toNat d)) : Nat) : Int) = 1)
      · refine AW.rgs [.no, .no, .call [] (bV true) [] 0 [] none, .no, .no, .no, .call [] (bV true) [] 0 [] none, .no, .no, .no, .no, .no, .no, .call [] (iV (((Nat.gcd (Int.toNat n) (Int.toNat d)) : Nat) : Int)) [] 0 [] (some [iE (((Int.toNat n) : Nat) : Int), iE (((Int.toNat d) : Nat) : Int)]), .b true, .no, .no] [2] [] (P := (Fun 55 [iE n] (toG []) 0 (bV true) (toG []) 0) ∧ (Fun 55 [iE d] (toG []) 0 (bV true) (toG []) 0) ∧ (((((Int.toNat n) : Nat) : Int) : Int) = n) ∧ (((((Int.toNat d) : Nat) : Int) : Int) = d) ∧ (_) ∧ (((((Nat.gcd (Int.toNat n) (Int.toNat d)) : Nat) : Int) = 1))) (l' := [(2, bV true)]) (g' := []) (nx' := 1) (by kernel_rfl) ⟨(by have h0 := (R_isTerm n); rw [hx1] at h0; exact h0), (by have h0 := (R_isTerm d); rw [hx3] at h0; exact h0), (by omega), (by omega), (R_gcd_p (Int.toNat n) (Int.toNat d) (by first | omega | with_reducible assumption | (simp <;> omega) | rfl | assumption) (by first | omega | with_reducible assumption | (simp <;> omega) | rfl | assumption)), (by omega)⟩ ?_
        refine AW.ret ?_
        exact EndP.of (.inr rfl) [] (P := ((ratOk n d) = true)) (by kernel_rfl) (by first | exact ratOk_f (by omega) | exact ratOk_t (by omega) (by omega) (by omega) | exact ratOk_g (by omega))
      · refine AW.rgs [.no, .no, .call [] (bV true) [] 0 [] none, .no, .no, .no, .call [] (bV true) [] 0 [] none, .no, .no, .no, .no, .no, .no, .call [] (iV (((Nat.gcd (Int.toNat n) (Int.toNat d)) : Nat) : Int)) [] 0 [] (some [iE (((Int.toNat n) : Nat) : Int), iE (((Int.toNat d) : Nat) : Int)]), .b false, .no, .no] [2] [] (P := (Fun 55 [iE n] (toG []) 0 (bV true) (toG []) 0) ∧ (Fun 55 [iE d] (toG []) 0 (bV true) (toG []) 0) ∧ (((((Int.toNat n) : Nat) : Int) : Int) = n) ∧ (((((Int.toNat d) : Nat) : Int) : Int) = d) ∧ (_) ∧ (¬ ((((Nat.gcd (Int.toNat n) (Int.toNat d)) : Nat) : Int) = 1))) (l' := [(2, bV false)]) (g' := []) (nx' := 1) (by kernel_rfl) ⟨(by have h0 := (R_isTerm n); rw [hx1] at h0; exact h0), (by have h0 := (R_isTerm d); rw [hx3] at h0; exact h0), (by omega), (by omega), (R_gcd_p (Int.toNat n) (Int.toNat d) (by first | omega | with_reducible assumption | (simp <;> omega) | rfl | assumption) (by first | omega | with_reducible assumption | (simp <;> omega) | rfl | assumption)), (by omega)⟩ ?_
        refine AW.ret ?_
        exact EndP.of (.inr rfl) [] (P := ((ratOk n d) = false)) (by kernel_rfl) (by first | exact ratOk_f (by omega) | exact ratOk_t (by omega) (by omega) (by omega) | exact ratOk_g (by omega))
    · have hx6 : ¬ (((1 : Int) ≤ d) ∧ (d ≤ 68719476736)) := of_decide_eq_false hx3
      refine AW.rgs [.no, .no, .call [] (bV true) [] 0 [] none, .no, .no, .no, .call [] (bV false) [] 0 [] none, .no, .no, .no, .no] [2] [] (P := (Fun 55 [iE n] (toG []) 0 (bV true) (toG []) 0) ∧ (Fun 55 [iE d] (toG []) 0 (bV false) (toG []) 0)) (l' := [(2, bV false)]) (g' := []) (nx' := 1) (by kernel_rfl) ⟨(by have h0 := (R_isTerm n); rw [hx1] at h0; exact h0), (by have h0 := (R_isTerm d); rw [hx3] at h0; exact h0)⟩ ?_
      refine AW.ret ?_
      exact EndP.of (.inr rfl) [] (P := ((ratOk n d) = false)) (by kernel_rfl) (by first | exact ratOk_f (by omega) | exact ratOk_t (by omega) (by omega) (by omega) | exact ratOk_g (by omega))
  · have hx7 : ¬ (((1 : Int) ≤ n) ∧ (n ≤ 68719476736)) := of_decide_eq_false hx1
    refine AW.rgs [.no, .no, .call [] (bV false) [] 0 [] none, .no, .no, .no, .no, .no] [2] [] (P := (Fun 55 [iE n] (toG []) 0 (bV false) (toG []) 0)) (l' := [(2, bV false)]) (g' := []) (nx' := 1) (by kernel_rfl) (by have h0 := (R_isTerm n); rw [hx1] at h0; exact h0) ?_
    refine AW.ret ?_
    exact EndP.of (.inr rfl) [] (P := ((ratOk n d) = false)) (by kernel_rfl) (by first | exact ratOk_f (by omega) | exact ratOk_t (by omega) (by omega) (by omega) | exact ratOk_g (by omega))

set_option maxHeartbeats 4000000 in
set_option maxRecDepth 100000 in
theorem R_Valid_r (n d : Int)  : Fun 47 [.agg [iC n, iC d]] (toG []) 0 (.e (.c (.d (D.lit (.bool (ratOk n d)))))) (toG []) 0 := by
  refine Fun.mk (n := 29) Try.func47 rfl rfl (Nat.le_of_ble_eq_true rfl) ?_
  intro cx hcx
  refine AW.rgs [.no, .no] [1] [0] (P := True) (l' := [(1, rV 0 0)]) (g' := [(0, some (27, .ds [iD n, iD d]))]) (nx' := 1) (by kernel_rfl) trivial ?_
  by_cases hx1 : ((1 : Int) ≤ n)
  · by_cases hx2 : ((1 : Int) ≤ d)
    · by_cases hx3 : (n ≤ 68719476736)
      · by_cases hx4 : (d ≤ 68719476736)
        · by_cases hx5 : ((((Nat.gcd (Int.toNat n) (Int.toNat d)) : Nat) : Int) = 1)
          · refine AW.rgs [.no, .no, .b true, .no, .no, .no, .b true, .no, .no, .no, .no, .b true, .no, .no, .no, .no, .b true, .no, .no, .no, .no, .no, .no, .call [] (iV (((Nat.gcd (Int.toNat n) (Int.toNat d)) : Nat) : Int)) [] 0 [] (some [iE (((Int.toNat n) : Nat) : Int), iE (((Int.toNat d) : Nat) : Int)]), .b true, .no, .no] [2] [] (P := (((1 : Int) ≤ n)) ∧ (((1 : Int) ≤ d)) ∧ ((n ≤ 68719476736)) ∧ ((d ≤ 68719476736)) ∧ (((((Int.toNat n) : Nat) : Int) : Int) = n) ∧ (((((Int.toNat d) : Nat) : Int) : Int) = d) ∧ (_) ∧ (((((Nat.gcd (Int.toNat n) (Int.toNat d)) : Nat) : Int) = 1))) (l' := [(2, bV true)]) (g' := []) (nx' := 1) (by kernel_rfl) ⟨(by omega), (by omega), (by omega), (by omega), (by omega), (by omega), (R_gcd_r (Int.toNat n) (Int.toNat d) (by first | omega | with_reducible assumption | (simp <;> omega) | rfl | assumption) (by first | omega | with_reducible assumption | (simp <;> omega) | rfl | assumption)), (by omega)⟩ ?_
            refine AW.ret ?_
            exact EndP.of (.inr rfl) [] (P := ((ratOk n d) = true)) (by kernel_rfl) (by first | exact ratOk_f (by omega) | exact ratOk_t (by omega) (by omega) (by omega) | exact ratOk_g (by omega))
          · refine AW.rgs [.no, .no, .b true, .no, .no, .no, .b true, .no, .no, .no, .no, .b true, .no, .no, .no, .no, .b true, .no, .no, .no, .no, .no, .no, .call [] (iV (((Nat.gcd (Int.toNat n) (Int.toNat d)) : Nat) : Int)) [] 0 [] (some [iE (((Int.toNat n) : Nat) : Int), iE (((Int.toNat d) : Nat) : Int)]), .b false, .no, .no] [2] [] (P := (((1 : Int) ≤ n)) ∧ (((1 : Int) ≤ d)) ∧ ((n ≤ 68719476736)) ∧ ((d ≤ 68719476736)) ∧ (((((Int.toNat n) : Nat) : Int) : Int) = n) ∧ (((((Int.toNat d) : Nat) : Int) : Int) = d) ∧ (_) ∧ (¬ ((((Nat.gcd (Int.toNat n) (Int.toNat d)) : Nat) : Int) = 1))) (l' := [(2, bV false)]) (g' := []) (nx' := 1) (by kernel_rfl) ⟨(by omega), (by omega), (by omega), (by omega), (by omega), (by omega), (R_gcd_r (Int.toNat n) (Int.toNat d) (by first | omega | with_reducible assumption | (simp <;> omega) | rfl | assumption) (by first | omega | with_reducible assumption | (simp <;> omega) | rfl | assumption)), (by omega)⟩ ?_
            refine AW.ret ?_
            exact EndP.of (.inr rfl) [] (P := ((ratOk n d) = false)) (by kernel_rfl) (by first | exact ratOk_f (by omega) | exact ratOk_t (by omega) (by omega) (by omega) | exact ratOk_g (by omega))
        · refine AW.rgs [.no, .no, .b true, .no, .no, .no, .b true, .no, .no, .no, .no, .b true, .no, .no, .no, .no, .b false, .no, .no, .no, .no] [2] [] (P := (((1 : Int) ≤ n)) ∧ (((1 : Int) ≤ d)) ∧ ((n ≤ 68719476736)) ∧ (¬ (d ≤ 68719476736))) (l' := [(2, bV false)]) (g' := []) (nx' := 1) (by kernel_rfl) ⟨(by omega), (by omega), (by omega), (by omega)⟩ ?_
          refine AW.ret ?_
          exact EndP.of (.inr rfl) [] (P := ((ratOk n d) = false)) (by kernel_rfl) (by first | exact ratOk_f (by omega) | exact ratOk_t (by omega) (by omega) (by omega) | exact ratOk_g (by omega))
      · refine AW.rgs [.no, .no, .b true, .no, .no, .no, .b true, .no, .no, .no, .no, .b false, .no, .no, .no, .no, .no, .no] [2] [] (P := (((1 : Int) ≤ n)) ∧ (((1 : Int) ≤ d)) ∧ (¬ (n ≤ 68719476736))) (l' := [(2, bV false)]) (g' := []) (nx' := 1) (by kernel_rfl) ⟨(by omega), (by omega), (by omega)⟩ ?_
        refine AW.ret ?_
        exact EndP.of (.inr rfl) [] (P := ((ratOk n d) = false)) (by kernel_rfl) (by first | exact ratOk_f (by omega) | exact ratOk_t (by omega) (by omega) (by omega) | exact ratOk_g (by omega))
    · refine AW.rgs [.no, .no, .b true, .no, .no, .no, .b false, .no, .no, .no, .no, .no, .no, .no, .no] [2] [] (P := (((1 : Int) ≤ n)) ∧ (¬ ((1 : Int) ≤ d))) (l' := [(2, bV false)]) (g' := []) (nx' := 1) (by kernel_rfl) ⟨(by omega), (by omega)⟩ ?_
      refine AW.ret ?_
      exact EndP.of (.inr rfl) [] (P := ((ratOk n d) = false)) (by kernel_rfl) (by first | exact ratOk_f (by omega) | exact ratOk_t (by omega) (by omega) (by omega) | exact ratOk_g (by omega))
  · refine AW.rgs [.no, .no, .b false, .no, .no, .no, .no, .no, .no, .no, .no, .no] [2] [] (P := (¬ ((1 : Int) ≤ n))) (l' := [(2, bV false)]) (g' := []) (nx' := 1) (by kernel_rfl) (by omega) ?_
    refine AW.ret ?_
    exact EndP.of (.inr rfl) [] (P := ((ratOk n d) = false)) (by kernel_rfl) (by first | exact ratOk_f (by omega) | exact ratOk_t (by omega) (by omega) (by omega) | exact ratOk_g (by omega))


theorem int_lg (n : Int) : n < 0 ∨ 0 ≤ n := by omega
theorem dv_pos {n N W : Int} (hn : 0 ≤ n) (hN : 1 ≤ N) (hD : 1 ≤ W) : 0 ≤ n * N ∧ 0 ≤ n * N / W := by
  have h := Int.mul_nonneg hn (show 0 ≤ N by omega)
  exact ⟨h, Int.ediv_nonneg h (by omega)⟩
theorem dv_mod {P W : Int} (hD : 1 ≤ W) : 0 ≤ P % W ∧ P % W < W := ⟨Int.emod_nonneg _ (by omega), Int.emod_lt_of_pos _ (by omega)⟩
theorem dv_64 {P W : Int} (hD : 1 ≤ W) : (W ≤ P / 18446744073709551616 ∧ 18446744073709551616 ≤ P / W) ∨ (P / 18446744073709551616 < W ∧ P / W < 18446744073709551616) := by
  by_cases h : W ≤ P / 18446744073709551616
  · exact .inl ⟨h, (Int.le_ediv_iff_mul_le (by omega)).2 (by omega)⟩
  · exact .inr ⟨by omega, (Int.ediv_lt_iff_lt_mul (by omega)).2 (by omega)⟩
theorem dv_neg {n N W : Int} (hD : 1 ≤ W) : (n * N % W = 0 ∧ (0 - n) * N % W = 0 ∧ (0 - n) * N / W = 0 - n * N / W) ∨ (0 < n * N % W ∧ (0 - n) * N % W = W - n * N % W ∧ (0 - n) * N / W = 0 - n * N / W - 1) := by
  have e : (0 - n) * N = -(n * N) := by rw [Int.zero_sub, Int.neg_mul]
  rw [e]
  have h := dv_mod (P := n * N) hD
  have hq := Int.mul_ediv_add_emod (n * N) W
  have h1 := Int.emod_nonneg (-(n * N)) (show W ≠ 0 by omega)
  by_cases hz : n * N % W = 0
  · left
    have e1 : -(n * N) = W * (0 - n * N / W) + 0 := by rw [Int.mul_sub, Int.mul_zero]; omega
    have q := Int.ediv_emod_unique (a := -(n * N)) (b := W) (r := 0) (q := 0 - n * N / W) (by omega)
    have q2 := q.2 ⟨by omega, by omega, by omega⟩
    exact ⟨hz, q2.2, q2.1⟩
  · right
    have e1 : W * (0 - n * N / W - 1) = 0 - W * (n * N / W) - W := by rw [Int.mul_sub, Int.mul_sub, Int.mul_zero, Int.mul_one]
    have q := Int.ediv_emod_unique (a := -(n * N)) (b := W) (r := W - n * N % W) (q := 0 - n * N / W - 1) (by omega)
    have q2 := q.2 ⟨by omega, by omega, by omega⟩
    exact ⟨by omega, q2.2, q2.1⟩
theorem dv_big {m N : Int} (hm : 0 ≤ m ∧ m ≤ 1125899906842624) (hN : 1 ≤ N ∧ N ≤ 68719476736) : 0 ≤ m * N ∧ m * N ≤ 77371252455336267181195264 := by
  have h1 := Int.mul_nonneg hm.1 (show 0 ≤ N by omega)
  have h2 : m * N ≤ 1125899906842624 * N := Int.mul_le_mul_of_nonneg_right hm.2 (by omega)
  omega
def vR (n N W q z : Int) : Int := if ratOk N W = true ∧ (-1125899906842624 ≤ n ∧ n ≤ 1125899906842624) ∧ (-4611686018427387904 ≤ q ∧ q ≤ 4611686018427387904) then z else 0
def eR (n N W q : Int) : Int := if ratOk N W = true then (if (-1125899906842624 ≤ n ∧ n ≤ 1125899906842624) ∧ (-4611686018427387904 ≤ q ∧ q ≤ 4611686018427387904) then 0 else 2) else 1
theorem vR_in {n N W q z : Int} (h1 : ratOk N W = true) (h2 : -1125899906842624 ≤ n ∧ n ≤ 1125899906842624) (h3 : -4611686018427387904 ≤ q ∧ q ≤ 4611686018427387904) : vR n N W q z = z ∧ eR n N W q = 0 := by
  unfold vR eR; rw [if_pos ⟨h1, h2, h3⟩, if_pos h1, if_pos ⟨h2, h3⟩]; exact ⟨rfl, rfl⟩
theorem vR_out {n N W q z : Int} (h1 : ratOk N W = true) (h : ¬ ((-1125899906842624 ≤ n ∧ n ≤ 1125899906842624) ∧ (-4611686018427387904 ≤ q ∧ q ≤ 4611686018427387904))) : vR n N W q z = 0 ∧ eR n N W q = 2 := by
  unfold vR eR; rw [if_neg (fun h9 => h h9.2), if_pos h1, if_neg h]; exact ⟨rfl, rfl⟩
theorem vR_no {n N W q z : Int} (h1 : ratOk N W = false) : vR n N W q z = 0 ∧ eR n N W q = 1 := by
  unfold vR eR; rw [if_neg (fun h9 => by rw [h1] at h9; cases h9.1), if_neg (by rw [h1]; decide)]; exact ⟨rfl, rfl⟩

set_option maxHeartbeats 4000000 in
set_option maxRecDepth 100000 in
theorem K_prod (x y : Int) (hx : 0 ≤ x ∧ x ≤ 9223372036854775807) (hy : 0 ≤ y ∧ y ≤ 9223372036854775807) : Fun 61 [iE x, iE y] (toG []) 0 (.tup [.c (.d (D.lit (.int .u64 ((x * y) / 18446744073709551616)))), .c (.d (D.lit (.int .u64 ((x * y) % 18446744073709551616))))]) (toG []) 0 := by
  refine Fun.mk (n := 13) Try.func61 rfl rfl (Nat.le_of_ble_eq_true rfl) ?_
  intro cx hcx
  refine AW.rgs [.no, .no] [0, 1] [] (P := True) (l' := [(0, iV x), (1, iV y)]) (g' := []) (nx' := 0) (by kernel_rfl) trivial ?_
  refine AW.rgs [.no, .w, .no, .w, .call [] (.tup [.c (.d (D.lit (.int .u64 ((x * y) / 18446744073709551616)))), .c (.d (D.lit (.int .u64 ((x * y) % 18446744073709551616))))]) [] 0 [] none, .no, .no, .no, .no] [4, 5] [] (P := (0 ≤ x ∧ x ≤ 18446744073709551615) ∧ (0 ≤ y ∧ y ≤ 18446744073709551615) ∧ (_)) (l' := [(4, .e (.c (.d (D.lit (.int .u64 ((x * y) / 18446744073709551616)))))), (5, .e (.c (.d (D.lit (.int .u64 ((x * y) % 18446744073709551616))))))]) (g' := []) (nx' := 0) (by kernel_rfl) ⟨⟨by omega, by omega⟩, ⟨by omega, by omega⟩, (B_Mul64 x y (by omega) (by omega))⟩ ?_
  refine AW.ret ?_
  exact EndP.of (.inr rfl) [] (P := ((((x * y) / 18446744073709551616) : Int) = ((x * y) / 18446744073709551616)) ∧ ((((x * y) % 18446744073709551616) : Int) = ((x * y) % 18446744073709551616))) (by kernel_rfl) ⟨rfl, rfl⟩

set_option maxHeartbeats 4000000 in
set_option maxRecDepth 100000 in
theorem K_split (n N W : Int) (hn : 0 ≤ n ∧ n ≤ 1125899906842624) (hN : 1 ≤ N ∧ N ≤ 68719476736) (hD : 1 ≤ W ∧ W ≤ 68719476736) : ∃ (q : Int) (t : Int), ((n * N / W < 18446744073709551616 ∧ q = n * N / W ∧ t = n * N % W) ∨ (18446744073709551616 ≤ n * N / W ∧ q = 4611686018427387905 ∧ t = 0)) ∧ ((0 ≤ q ∧ q < 18446744073709551616) ∧ 0 ≤ t ∧ t < W) ∧ (Fun 63 [.c (.d (D.lit (.int .u64 n))), .agg [iC N, iC W]] (toG []) 0 (.tup [.c (.d (D.lit (.int .u64 q))), .c (.d (D.lit (.int .u64 t)))]) (toG []) 0) := by
  have hbg : 0 ≤ n * N ∧ n * N ≤ 77371252455336267181195264 := dv_big hn hN
  have hqm : (0 ≤ n * N % W ∧ n * N % W < W) ∧ 0 ≤ n * N / W := ⟨dv_mod hD.1, (dv_pos hn.1 hN.1 hD.1).2⟩
  have h64 : (W ≤ n * N / 18446744073709551616 ∧ 18446744073709551616 ≤ n * N / W) ∨ (n * N / 18446744073709551616 < W ∧ n * N / W < 18446744073709551616) := dv_64 hD.1
  by_cases hx1 : (W ≤ ((n * N) / 18446744073709551616))
  · refine ⟨(4611686018427387905 : Int), (0 : Int), (by first | exact .inl ⟨by omega, rfl, rfl⟩ | exact .inr ⟨by omega, rfl, rfl⟩), (by omega), ?_⟩
    refine Fun.mk (n := 29) Try.func63 rfl rfl (Nat.le_of_ble_eq_true rfl) ?_
    intro cx hcx
    refine AW.rgs [.no, .no, .no] [0, 3] [0] (P := True) (l' := [(0, .e (.c (.d (D.lit (.int .u64 n))))), (3, rV 0 0)]) (g' := [(0, some (27, .ds [iD N, iD W]))]) (nx' := 1) (by kernel_rfl) trivial ?_
    refine AW.rgs [.no, .no, .no, .w, .call [] (.tup [.c (.d (D.lit (.int .u64 ((n * N) / 18446744073709551616)))), .c (.d (D.lit (.int .u64 ((n * N) % 18446744073709551616))))]) [] 0 [] none, .no, .no, .no, .no, .no] [3, 6, 7] [0] (P := (0 ≤ N ∧ N ≤ 18446744073709551615) ∧ (_)) (l' := [(3, rV 0 0), (6, .e (.c (.d (D.lit (.int .u64 ((n * N) / 18446744073709551616)))))), (7, .e (.c (.d (D.lit (.int .u64 ((n * N) % 18446744073709551616))))))]) (g' := [(0, some (27, .ds [iD N, iD W]))]) (nx' := 1) (by kernel_rfl) ⟨⟨by omega, by omega⟩, (B_Mul64 n N (by omega) (by omega))⟩ ?_
    refine AW.seq ?_
    refine AW.rgs [.no, .no, .no, .w, .b true] [3, 6, 7, 20] [0] (P := (0 ≤ W ∧ W ≤ 18446744073709551615) ∧ ((W ≤ ((n * N) / 18446744073709551616)))) (l' := [(3, rV 0 0), (6, .e (.c (.d (D.lit (.int .u64 ((n * N) / 18446744073709551616)))))), (7, .e (.c (.d (D.lit (.int .u64 ((n * N) % 18446744073709551616)))))), (20, bV true)]) (g' := [(0, some (27, .ds [iD N, iD W]))]) (nx' := 1) (by kernel_rfl) ⟨⟨by omega, by omega⟩, (by omega)⟩ ?_
    refine AW.cond_t (.tmp (Look.of rfl)) ?_
    refine AW.rgs [.no, .no] [4, 5] [] (P := True) (l' := [(4, .e (.c (.d (D.lit (.int .u64 4611686018427387905))))), (5, .e (.c (.d (D.lit (.int .u64 0)))))]) (g' := []) (nx' := 1) (by kernel_rfl) trivial ?_
    refine AW.ret ?_
    exact EndP.of (.inr rfl) [] (P := ((4611686018427387905 : Int) = 4611686018427387905) ∧ ((0 : Int) = 0)) (by kernel_rfl) ⟨rfl, rfl⟩
  · refine ⟨((n * N) / W), ((n * N) % W), (by first | exact .inl ⟨by omega, rfl, rfl⟩ | exact .inr ⟨by omega, rfl, rfl⟩), (by omega), ?_⟩
    refine Fun.mk (n := 29) Try.func63 rfl rfl (Nat.le_of_ble_eq_true rfl) ?_
    intro cx hcx
    refine AW.rgs [.no, .no, .no] [0, 3] [0] (P := True) (l' := [(0, .e (.c (.d (D.lit (.int .u64 n))))), (3, rV 0 0)]) (g' := [(0, some (27, .ds [iD N, iD W]))]) (nx' := 1) (by kernel_rfl) trivial ?_
    refine AW.rgs [.no, .no, .no, .w, .call [] (.tup [.c (.d (D.lit (.int .u64 ((n * N) / 18446744073709551616)))), .c (.d (D.lit (.int .u64 ((n * N) % 18446744073709551616))))]) [] 0 [] none, .no, .no, .no, .no, .no] [3, 6, 7] [0] (P := (0 ≤ N ∧ N ≤ 18446744073709551615) ∧ (_)) (l' := [(3, rV 0 0), (6, .e (.c (.d (D.lit (.int .u64 ((n * N) / 18446744073709551616)))))), (7, .e (.c (.d (D.lit (.int .u64 ((n * N) % 18446744073709551616))))))]) (g' := [(0, some (27, .ds [iD N, iD W]))]) (nx' := 1) (by kernel_rfl) ⟨⟨by omega, by omega⟩, (B_Mul64 n N (by omega) (by omega))⟩ ?_
    refine AW.seq ?_
    refine AW.rgs [.no, .no, .no, .w, .b false] [3, 6, 7, 20] [0] (P := (0 ≤ W ∧ W ≤ 18446744073709551615) ∧ (¬ (W ≤ ((n * N) / 18446744073709551616)))) (l' := [(3, rV 0 0), (6, .e (.c (.d (D.lit (.int .u64 ((n * N) / 18446744073709551616)))))), (7, .e (.c (.d (D.lit (.int .u64 ((n * N) % 18446744073709551616)))))), (20, bV false)]) (g' := [(0, some (27, .ds [iD N, iD W]))]) (nx' := 1) (by kernel_rfl) ⟨⟨by omega, by omega⟩, (by omega)⟩ ?_
    refine AW.cond_f (.tmp (Look.of rfl)) ?_
    refine AW.skip ?_
    refine AW.rgs [.no, .no, .no, .no, .w, .call [] (.tup [.c (.d (D.lit (.int .u64 ((n * N) / W)))), .c (.d (D.lit (.int .u64 ((n * N) % W))))]) [] 0 [] none, .no, .no, .no, .no] [4, 5] [] (P := (0 ≤ W ∧ W ≤ 18446744073709551615) ∧ (_)) (l' := [(4, .e (.c (.d (D.lit (.int .u64 ((n * N) / W)))))), (5, .e (.c (.d (D.lit (.int .u64 ((n * N) % W))))))]) (g' := []) (nx' := 1) (by kernel_rfl) ⟨⟨by omega, by omega⟩, (B_DivP n N W (by omega) (by omega))⟩ ?_
    refine AW.ret ?_
    exact EndP.of (.inr rfl) [] (P := ((((n * N) / W) : Int) = ((n * N) / W)) ∧ ((((n * N) % W) : Int) = ((n * N) % W))) (by kernel_rfl) ⟨rfl, rfl⟩

set_option maxHeartbeats 4000000 in
set_option maxRecDepth 100000 in
theorem K_both (n N W : Int) (hn : -1125899906842624 ≤ n ∧ n ≤ 1125899906842624) (hN : 1 ≤ N ∧ N ≤ 68719476736) (hD : 1 ≤ W ∧ W ≤ 68719476736) : ∃ (q : Int) (t : Int) (z : Int), (((-4611686018427387904 ≤ n * N / W ∧ n * N / W ≤ 4611686018427387904) ∧ q = n * N / W ∧ t = n * N % W) ∨ (4611686018427387904 < n * N / W ∧ 4611686018427387904 < q) ∨ (n * N / W < -4611686018427387904 ∧ q < -4611686018427387904)) ∧ (((-4611686018427387904 ≤ (0 - n) * N / W ∧ (0 - n) * N / W ≤ 4611686018427387904) ∧ z = 0 - (0 - n) * N / W) ∨ (4611686018427387904 < (0 - n) * N / W ∧ z < -4611686018427387904) ∨ ((0 - n) * N / W < -4611686018427387904 ∧ 4611686018427387904 < z)) ∧ ((-4611686018427387906 ≤ q ∧ q ≤ 4611686018427387906) ∧ (-4611686018427387906 ≤ z ∧ z ≤ 4611686018427387906) ∧ 0 ≤ t ∧ t ≤ 68719476736) ∧ (Fun 53 [iE n, .agg [iC N, iC W]] (toG []) 0 (.tup [iE q, iE t, iE z]) (toG []) 0) := by
  have hneg : (n * N % W = 0 ∧ (0 - n) * N % W = 0 ∧ (0 - n) * N / W = 0 - n * N / W) ∨ (0 < n * N % W ∧ (0 - n) * N % W = W - n * N % W ∧ (0 - n) * N / W = 0 - n * N / W - 1) := dv_neg hD.1
  have hqa : (0 ≤ n * N % W ∧ n * N % W < W) ∧ (0 ≤ (0 - n) * N % W ∧ (0 - n) * N % W < W) := ⟨dv_mod hD.1, dv_mod hD.1⟩
  have hsg : (n < 0 ∧ 0 ≤ (0 - n) * N / W) ∨ (0 ≤ n ∧ 0 ≤ n * N / W) := (int_lg n).imp (fun h9 => ⟨h9, (dv_pos (by omega) hN.1 hD.1).2⟩) (fun h9 => ⟨h9, (dv_pos h9 hN.1 hD.1).2⟩)
  by_cases hx1 : (n < 0)
  · obtain ⟨q1, t2, hx2, hx3, hF2⟩ := (K_split (0 - n) N W (by omega) (by omega) (by omega))
    by_cases hx4 : ((0 : Int) < t2)
    · refine ⟨(0 - ((min q1 4611686018427387905) + 1)), (W - t2), (0 - (min q1 4611686018427387905)), (by omega), (by omega), (by omega), ?_⟩
      refine Fun.mk (n := 53) Try.func53 rfl rfl (Nat.le_of_ble_eq_true rfl) ?_
      intro cx hcx
      refine AW.rgs [.no, .no, .no, .no] [0, 3] [0] (P := True) (l' := [(0, iV n), (3, rV 0 0)]) (g' := [(0, some (27, .ds [iD N, iD W]))]) (nx' := 1) (by kernel_rfl) trivial ?_
      refine AW.rgs [.no, .i (n + 18446744073709551616), .no] [0, 3, 7] [0] (P := (IntKind.u64.wrap (n : Int) = (n + 18446744073709551616))) (l' := [(0, iV n), (3, rV 0 0), (7, .e (.c (.d (D.lit (.int .u64 (n + 18446744073709551616))))))]) (g' := [(0, some (27, .ds [iD N, iD W]))]) (nx' := 1) (by kernel_rfl) (by rw [wrap_u64]; omega) ?_
      refine AW.seq ?_
      refine AW.rgs [.no, .b true] [0, 3, 7, 15] [0] (P := ((n < 0))) (l' := [(0, iV n), (3, rV 0 0), (7, .e (.c (.d (D.lit (.int .u64 (n + 18446744073709551616)))))), (15, bV true)]) (g' := [(0, some (27, .ds [iD N, iD W]))]) (nx' := 1) (by kernel_rfl) (by omega) ?_
      refine AW.cond_t (.tmp (Look.of rfl)) ?_
      refine AW.rg [.no, .i (0 - n), .no] [0, 3, 7] [0] (P := (IntKind.u64.wrap ((0 - (n + 18446744073709551616)) : Int) = (0 - n))) (l' := [(0, iV n), (3, rV 0 0), (7, .e (.c (.d (D.lit (.int .u64 (0 - n))))))]) (g' := [(0, some (27, .ds [iD N, iD W]))]) (nx' := 1) (by kernel_rfl) (by rw [wrap_u64]; omega) ?_
      refine AW.rgs [.no, .no, .call [] (.tup [.c (.d (D.lit (.int .u64 q1))), .c (.d (D.lit (.int .u64 t2)))]) [] 0 [] none, .no, .no, .no, .no, .no] [0, 3, 8, 9] [0] (P := (_)) (l' := [(0, iV n), (3, rV 0 0), (8, .e (.c (.d (D.lit (.int .u64 q1))))), (9, .e (.c (.d (D.lit (.int .u64 t2)))))]) (g' := [(0, some (27, .ds [iD N, iD W]))]) (nx' := 1) (by kernel_rfl) hF2 ?_
      refine AW.rgs [.no, .no, .no] [0, 3, 8, 9] [0] (P := True) (l' := [(0, iV n), (3, rV 0 0), (8, .e (.c (.d (D.lit (.int .u64 (min q1 4611686018427387905)))))), (9, .e (.c (.d (D.lit (.int .u64 t2)))))]) (g' := [(0, some (27, .ds [iD N, iD W]))]) (nx' := 1) (by kernel_rfl) trivial ?_
      refine AW.rgs [.no, .w, .no, .w, .no, .no] [0, 3, 9, 10, 11] [0] (P := ((-9223372036854775808) ≤ (min q1 4611686018427387905) ∧ (min q1 4611686018427387905) ≤ 9223372036854775807) ∧ ((-9223372036854775808) ≤ (min q1 4611686018427387905) ∧ (min q1 4611686018427387905) ≤ 9223372036854775807)) (l' := [(0, iV n), (3, rV 0 0), (9, .e (.c (.d (D.lit (.int .u64 t2))))), (10, iV (min q1 4611686018427387905)), (11, iV (min q1 4611686018427387905))]) (g' := [(0, some (27, .ds [iD N, iD W]))]) (nx' := 1) (by kernel_rfl) ⟨⟨by omega, by omega⟩, ⟨by omega, by omega⟩⟩ ?_
      refine AW.seq ?_
      refine AW.rgs [.no, .b true] [0, 3, 9, 10, 11, 31] [0] (P := (((0 : Int) < t2))) (l' := [(0, iV n), (3, rV 0 0), (9, .e (.c (.d (D.lit (.int .u64 t2))))), (10, iV (min q1 4611686018427387905)), (11, iV (min q1 4611686018427387905)), (31, bV true)]) (g' := [(0, some (27, .ds [iD N, iD W]))]) (nx' := 1) (by kernel_rfl) (by omega) ?_
      refine AW.cond_t (.tmp (Look.of rfl)) ?_
      refine AW.rg [.no, .w, .no] [0, 3, 9, 10, 11] [0] (P := ((-9223372036854775808) ≤ ((min q1 4611686018427387905) + 1) ∧ ((min q1 4611686018427387905) + 1) ≤ 9223372036854775807)) (l' := [(0, iV n), (3, rV 0 0), (9, .e (.c (.d (D.lit (.int .u64 t2))))), (10, iV (min q1 4611686018427387905)), (11, iV ((min q1 4611686018427387905) + 1))]) (g' := [(0, some (27, .ds [iD N, iD W]))]) (nx' := 1) (by kernel_rfl) ⟨by omega, by omega⟩ ?_
      refine AW.seq ?_
      refine AW.rgs [.no, .b false] [3, 9, 10, 11, 35] [0] (P := (¬ ((0 : Int) ≤ n))) (l' := [(3, rV 0 0), (9, .e (.c (.d (D.lit (.int .u64 t2))))), (10, iV (min q1 4611686018427387905)), (11, iV ((min q1 4611686018427387905) + 1)), (35, bV false)]) (g' := [(0, some (27, .ds [iD N, iD W]))]) (nx' := 1) (by kernel_rfl) (by omega) ?_
      refine AW.cond_f (.tmp (Look.of rfl)) ?_
      refine AW.skip ?_
      refine AW.seq ?_
      refine AW.rgs [.no, .b true] [3, 9, 10, 11, 41] [0] (P := (((0 : Int) < t2))) (l' := [(3, rV 0 0), (9, .e (.c (.d (D.lit (.int .u64 t2))))), (10, iV (min q1 4611686018427387905)), (11, iV ((min q1 4611686018427387905) + 1)), (41, bV true)]) (g' := [(0, some (27, .ds [iD N, iD W]))]) (nx' := 1) (by kernel_rfl) (by omega) ?_
      refine AW.cond_t (.tmp (Look.of rfl)) ?_
      refine AW.rg [.no, .no, .w, .no, .w, .no] [9, 10, 11] [] (P := (0 ≤ W ∧ W ≤ 18446744073709551615) ∧ (0 ≤ (W - t2) ∧ (W - t2) ≤ 18446744073709551615)) (l' := [(9, .e (.c (.d (D.lit (.int .u64 (W - t2)))))), (10, iV (min q1 4611686018427387905)), (11, iV ((min q1 4611686018427387905) + 1))]) (g' := []) (nx' := 1) (by kernel_rfl) ⟨⟨by omega, by omega⟩, ⟨by omega, by omega⟩⟩ ?_
      refine AW.rgs [.no, .w, .no, .w, .no, .w, .no, .no, .no] [4, 5, 6] [] (P := ((-9223372036854775808) ≤ (0 - ((min q1 4611686018427387905) + 1)) ∧ (0 - ((min q1 4611686018427387905) + 1)) ≤ 9223372036854775807) ∧ ((-9223372036854775808) ≤ (W - t2) ∧ (W - t2) ≤ 9223372036854775807) ∧ ((-9223372036854775808) ≤ (0 - (min q1 4611686018427387905)) ∧ (0 - (min q1 4611686018427387905)) ≤ 9223372036854775807)) (l' := [(4, iV (0 - ((min q1 4611686018427387905) + 1))), (5, iV (W - t2)), (6, iV (0 - (min q1 4611686018427387905)))]) (g' := []) (nx' := 1) (by kernel_rfl) ⟨⟨by omega, by omega⟩, ⟨by omega, by omega⟩, ⟨by omega, by omega⟩⟩ ?_
      refine AW.ret ?_
      exact EndP.of (.inr rfl) [] (P := (((0 - ((min q1 4611686018427387905) + 1)) : Int) = (0 - ((min q1 4611686018427387905) + 1))) ∧ (((W - t2) : Int) = (W - t2)) ∧ (((0 - (min q1 4611686018427387905)) : Int) = (0 - (min q1 4611686018427387905)))) (by kernel_rfl) ⟨rfl, rfl, rfl⟩
    · refine ⟨(0 - (min q1 4611686018427387905)), t2, (0 - (min q1 4611686018427387905)), (by omega), (by omega), (by omega), ?_⟩
      refine Fun.mk (n := 53) Try.func53 rfl rfl (Nat.le_of_ble_eq_true rfl) ?_
      intro cx hcx
      refine AW.rgs [.no, .no, .no, .no] [0, 3] [0] (P := True) (l' := [(0, iV n), (3, rV 0 0)]) (g' := [(0, some (27, .ds [iD N, iD W]))]) (nx' := 1) (by kernel_rfl) trivial ?_
      refine AW.rgs [.no, .i (n + 18446744073709551616), .no] [0, 3, 7] [0] (P := (IntKind.u64.wrap (n : Int) = (n + 18446744073709551616))) (l' := [(0, iV n), (3, rV 0 0), (7, .e (.c (.d (D.lit (.int .u64 (n + 18446744073709551616))))))]) (g' := [(0, some (27, .ds [iD N, iD W]))]) (nx' := 1) (by kernel_rfl) (by rw [wrap_u64]; omega) ?_
      refine AW.seq ?_
      refine AW.rgs [.no, .b true] [0, 3, 7, 15] [0] (P := ((n < 0))) (l' := [(0, iV n), (3, rV 0 0), (7, .e (.c (.d (D.lit (.int .u64 (n + 18446744073709551616)))))), (15, bV true)]) (g' := [(0, some (27, .ds [iD N, iD W]))]) (nx' := 1) (by kernel_rfl) (by omega) ?_
      refine AW.cond_t (.tmp (Look.of rfl)) ?_
      refine AW.rg [.no, .i (0 - n), .no] [0, 3, 7] [0] (P := (IntKind.u64.wrap ((0 - (n + 18446744073709551616)) : Int) = (0 - n))) (l' := [(0, iV n), (3, rV 0 0), (7, .e (.c (.d (D.lit (.int .u64 (0 - n))))))]) (g' := [(0, some (27, .ds [iD N, iD W]))]) (nx' := 1) (by kernel_rfl) (by rw [wrap_u64]; omega) ?_
      refine AW.rgs [.no, .no, .call [] (.tup [.c (.d (D.lit (.int .u64 q1))), .c (.d (D.lit (.int .u64 t2)))]) [] 0 [] none, .no, .no, .no, .no, .no] [0, 3, 8, 9] [0] (P := (_)) (l' := [(0, iV n), (3, rV 0 0), (8, .e (.c (.d (D.lit (.int .u64 q1))))), (9, .e (.c (.d (D.lit (.int .u64 t2)))))]) (g' := [(0, some (27, .ds [iD N, iD W]))]) (nx' := 1) (by kernel_rfl) hF2 ?_
      refine AW.rgs [.no, .no, .no] [0, 3, 8, 9] [0] (P := True) (l' := [(0, iV n), (3, rV 0 0), (8, .e (.c (.d (D.lit (.int .u64 (min q1 4611686018427387905)))))), (9, .e (.c (.d (D.lit (.int .u64 t2)))))]) (g' := [(0, some (27, .ds [iD N, iD W]))]) (nx' := 1) (by kernel_rfl) trivial ?_
      refine AW.rgs [.no, .w, .no, .w, .no, .no] [0, 3, 9, 10, 11] [0] (P := ((-9223372036854775808) ≤ (min q1 4611686018427387905) ∧ (min q1 4611686018427387905) ≤ 9223372036854775807) ∧ ((-9223372036854775808) ≤ (min q1 4611686018427387905) ∧ (min q1 4611686018427387905) ≤ 9223372036854775807)) (l' := [(0, iV n), (3, rV 0 0), (9, .e (.c (.d (D.lit (.int .u64 t2))))), (10, iV (min q1 4611686018427387905)), (11, iV (min q1 4611686018427387905))]) (g' := [(0, some (27, .ds [iD N, iD W]))]) (nx' := 1) (by kernel_rfl) ⟨⟨by omega, by omega⟩, ⟨by omega, by omega⟩⟩ ?_
      refine AW.seq ?_
      refine AW.rgs [.no, .b false] [0, 3, 9, 10, 11, 31] [0] (P := (¬ ((0 : Int) < t2))) (l' := [(0, iV n), (3, rV 0 0), (9, .e (.c (.d (D.lit (.int .u64 t2))))), (10, iV (min q1 4611686018427387905)), (11, iV (min q1 4611686018427387905)), (31, bV false)]) (g' := [(0, some (27, .ds [iD N, iD W]))]) (nx' := 1) (by kernel_rfl) (by omega) ?_
      refine AW.cond_f (.tmp (Look.of rfl)) ?_
      refine AW.skip ?_
      refine AW.seq ?_
      refine AW.rgs [.no, .b false] [3, 9, 10, 11, 35] [0] (P := (¬ ((0 : Int) ≤ n))) (l' := [(3, rV 0 0), (9, .e (.c (.d (D.lit (.int .u64 t2))))), (10, iV (min q1 4611686018427387905)), (11, iV (min q1 4611686018427387905)), (35, bV false)]) (g' := [(0, some (27, .ds [iD N, iD W]))]) (nx' := 1) (by kernel_rfl) (by omega) ?_
      refine AW.cond_f (.tmp (Look.of rfl)) ?_
      refine AW.skip ?_
      refine AW.seq ?_
      refine AW.rgs [.no, .b false] [3, 9, 10, 11, 41] [0] (P := (¬ ((0 : Int) < t2))) (l' := [(3, rV 0 0), (9, .e (.c (.d (D.lit (.int .u64 t2))))), (10, iV (min q1 4611686018427387905)), (11, iV (min q1 4611686018427387905)), (41, bV false)]) (g' := [(0, some (27, .ds [iD N, iD W]))]) (nx' := 1) (by kernel_rfl) (by omega) ?_
      refine AW.cond_f (.tmp (Look.of rfl)) ?_
      refine AW.skip ?_
      refine AW.rgs [.no, .w, .no, .w, .no, .w, .no, .no, .no] [4, 5, 6] [] (P := ((-9223372036854775808) ≤ (0 - (min q1 4611686018427387905)) ∧ (0 - (min q1 4611686018427387905)) ≤ 9223372036854775807) ∧ ((-9223372036854775808) ≤ t2 ∧ t2 ≤ 9223372036854775807) ∧ ((-9223372036854775808) ≤ (0 - (min q1 4611686018427387905)) ∧ (0 - (min q1 4611686018427387905)) ≤ 9223372036854775807)) (l' := [(4, iV (0 - (min q1 4611686018427387905))), (5, iV t2), (6, iV (0 - (min q1 4611686018427387905)))]) (g' := []) (nx' := 1) (by kernel_rfl) ⟨⟨by omega, by omega⟩, ⟨by omega, by omega⟩, ⟨by omega, by omega⟩⟩ ?_
      refine AW.ret ?_
      exact EndP.of (.inr rfl) [] (P := (((0 - (min q1 4611686018427387905)) : Int) = (0 - (min q1 4611686018427387905))) ∧ ((t2 : Int) = t2) ∧ (((0 - (min q1 4611686018427387905)) : Int) = (0 - (min q1 4611686018427387905)))) (by kernel_rfl) ⟨rfl, rfl, rfl⟩
  · obtain ⟨q1, t2, hx2, hx3, hF2⟩ := (K_split n N W (by omega) (by omega) (by omega))
    by_cases hx4 : ((0 : Int) < t2)
    · refine ⟨(min q1 4611686018427387905), t2, ((min q1 4611686018427387905) + 1), (by omega), (by omega), (by omega), ?_⟩
      refine Fun.mk (n := 53) Try.func53 rfl rfl (Nat.le_of_ble_eq_true rfl) ?_
      intro cx hcx
      refine AW.rgs [.no, .no, .no, .no] [0, 3] [0] (P := True) (l' := [(0, iV n), (3, rV 0 0)]) (g' := [(0, some (27, .ds [iD N, iD W]))]) (nx' := 1) (by kernel_rfl) trivial ?_
      refine AW.rgs [.no, .w, .no] [0, 3, 7] [0] (P := (0 ≤ n ∧ n ≤ 18446744073709551615)) (l' := [(0, iV n), (3, rV 0 0), (7, .e (.c (.d (D.lit (.int .u64 n)))))]) (g' := [(0, some (27, .ds [iD N, iD W]))]) (nx' := 1) (by kernel_rfl) ⟨by omega, by omega⟩ ?_
      refine AW.seq ?_
      refine AW.rgs [.no, .b false] [0, 3, 7, 15] [0] (P := (¬ (n < 0))) (l' := [(0, iV n), (3, rV 0 0), (7, .e (.c (.d (D.lit (.int .u64 n))))), (15, bV false)]) (g' := [(0, some (27, .ds [iD N, iD W]))]) (nx' := 1) (by kernel_rfl) (by omega) ?_
      refine AW.cond_f (.tmp (Look.of rfl)) ?_
      refine AW.skip ?_
      refine AW.rgs [.no, .no, .call [] (.tup [.c (.d (D.lit (.int .u64 q1))), .c (.d (D.lit (.int .u64 t2)))]) [] 0 [] none, .no, .no, .no, .no, .no] [0, 3, 8, 9] [0] (P := (_)) (l' := [(0, iV n), (3, rV 0 0), (8, .e (.c (.d (D.lit (.int .u64 q1))))), (9, .e (.c (.d (D.lit (.int .u64 t2)))))]) (g' := [(0, some (27, .ds [iD N, iD W]))]) (nx' := 1) (by kernel_rfl) hF2 ?_
      refine AW.rgs [.no, .no, .no] [0, 3, 8, 9] [0] (P := True) (l' := [(0, iV n), (3, rV 0 0), (8, .e (.c (.d (D.lit (.int .u64 (min q1 4611686018427387905)))))), (9, .e (.c (.d (D.lit (.int .u64 t2)))))]) (g' := [(0, some (27, .ds [iD N, iD W]))]) (nx' := 1) (by kernel_rfl) trivial ?_
      refine AW.rgs [.no, .w, .no, .w, .no, .no] [0, 3, 9, 10, 11] [0] (P := ((-9223372036854775808) ≤ (min q1 4611686018427387905) ∧ (min q1 4611686018427387905) ≤ 9223372036854775807) ∧ ((-9223372036854775808) ≤ (min q1 4611686018427387905) ∧ (min q1 4611686018427387905) ≤ 9223372036854775807)) (l' := [(0, iV n), (3, rV 0 0), (9, .e (.c (.d (D.lit (.int .u64 t2))))), (10, iV (min q1 4611686018427387905)), (11, iV (min q1 4611686018427387905))]) (g' := [(0, some (27, .ds [iD N, iD W]))]) (nx' := 1) (by kernel_rfl) ⟨⟨by omega, by omega⟩, ⟨by omega, by omega⟩⟩ ?_
      refine AW.seq ?_
      refine AW.rgs [.no, .b true] [0, 3, 9, 10, 11, 31] [0] (P := (((0 : Int) < t2))) (l' := [(0, iV n), (3, rV 0 0), (9, .e (.c (.d (D.lit (.int .u64 t2))))), (10, iV (min q1 4611686018427387905)), (11, iV (min q1 4611686018427387905)), (31, bV true)]) (g' := [(0, some (27, .ds [iD N, iD W]))]) (nx' := 1) (by kernel_rfl) (by omega) ?_
      refine AW.cond_t (.tmp (Look.of rfl)) ?_
      refine AW.rg [.no, .w, .no] [0, 3, 9, 10, 11] [0] (P := ((-9223372036854775808) ≤ ((min q1 4611686018427387905) + 1) ∧ ((min q1 4611686018427387905) + 1) ≤ 9223372036854775807)) (l' := [(0, iV n), (3, rV 0 0), (9, .e (.c (.d (D.lit (.int .u64 t2))))), (10, iV (min q1 4611686018427387905)), (11, iV ((min q1 4611686018427387905) + 1))]) (g' := [(0, some (27, .ds [iD N, iD W]))]) (nx' := 1) (by kernel_rfl) ⟨by omega, by omega⟩ ?_
      refine AW.seq ?_
      refine AW.rgs [.no, .b true] [3, 9, 10, 11, 35] [0] (P := (((0 : Int) ≤ n))) (l' := [(3, rV 0 0), (9, .e (.c (.d (D.lit (.int .u64 t2))))), (10, iV (min q1 4611686018427387905)), (11, iV ((min q1 4611686018427387905) + 1)), (35, bV true)]) (g' := [(0, some (27, .ds [iD N, iD W]))]) (nx' := 1) (by kernel_rfl) (by omega) ?_
      refine AW.cond_t (.tmp (Look.of rfl)) ?_
      refine AW.rgs [.no, .no, .w, .no, .no, .no, .no] [4, 5, 6] [] (P := ((-9223372036854775808) ≤ t2 ∧ t2 ≤ 9223372036854775807)) (l' := [(4, iV (min q1 4611686018427387905)), (5, iV t2), (6, iV ((min q1 4611686018427387905) + 1))]) (g' := []) (nx' := 1) (by kernel_rfl) ⟨by omega, by omega⟩ ?_
      refine AW.ret ?_
      exact EndP.of (.inr rfl) [] (P := (((min q1 4611686018427387905) : Int) = (min q1 4611686018427387905)) ∧ ((t2 : Int) = t2) ∧ ((((min q1 4611686018427387905) + 1) : Int) = ((min q1 4611686018427387905) + 1))) (by kernel_rfl) ⟨rfl, rfl, rfl⟩
    · refine ⟨(min q1 4611686018427387905), t2, (min q1 4611686018427387905), (by omega), (by omega), (by omega), ?_⟩
      refine Fun.mk (n := 53) Try.func53 rfl rfl (Nat.le_of_ble_eq_true rfl) ?_
      intro cx hcx
      refine AW.rgs [.no, .no, .no, .no] [0, 3] [0] (P := True) (l' := [(0, iV n), (3, rV 0 0)]) (g' := [(0, some (27, .ds [iD N, iD W]))]) (nx' := 1) (by kernel_rfl) trivial ?_
      refine AW.rgs [.no, .w, .no] [0, 3, 7] [0] (P := (0 ≤ n ∧ n ≤ 18446744073709551615)) (l' := [(0, iV n), (3, rV 0 0), (7, .e (.c (.d (D.lit (.int .u64 n)))))]) (g' := [(0, some (27, .ds [iD N, iD W]))]) (nx' := 1) (by kernel_rfl) ⟨by omega, by omega⟩ ?_
      refine AW.seq ?_
      refine AW.rgs [.no, .b false] [0, 3, 7, 15] [0] (P := (¬ (n < 0))) (l' := [(0, iV n), (3, rV 0 0), (7, .e (.c (.d (D.lit (.int .u64 n))))), (15, bV false)]) (g' := [(0, some (27, .ds [iD N, iD W]))]) (nx' := 1) (by kernel_rfl) (by omega) ?_
      refine AW.cond_f (.tmp (Look.of rfl)) ?_
      refine AW.skip ?_
      refine AW.rgs [.no, .no, .call [] (.tup [.c (.d (D.lit (.int .u64 q1))), .c (.d (D.lit (.int .u64 t2)))]) [] 0 [] none, .no, .no, .no, .no, .no] [0, 3, 8, 9] [0] (P := (_)) (l' := [(0, iV n), (3, rV 0 0), (8, .e (.c (.d (D.lit (.int .u64 q1))))), (9, .e (.c (.d (D.lit (.int .u64 t2)))))]) (g' := [(0, some (27, .ds [iD N, iD W]))]) (nx' := 1) (by kernel_rfl) hF2 ?_
      refine AW.rgs [.no, .no, .no] [0, 3, 8, 9] [0] (P := True) (l' := [(0, iV n), (3, rV 0 0), (8, .e (.c (.d (D.lit (.int .u64 (min q1 4611686018427387905)))))), (9, .e (.c (.d (D.lit (.int .u64 t2)))))]) (g' := [(0, some (27, .ds [iD N, iD W]))]) (nx' := 1) (by kernel_rfl) trivial ?_
      refine AW.rgs [.no, .w, .no, .w, .no, .no] [0, 3, 9, 10, 11] [0] (P := ((-9223372036854775808) ≤ (min q1 4611686018427387905) ∧ (min q1 4611686018427387905) ≤ 9223372036854775807) ∧ ((-9223372036854775808) ≤ (min q1 4611686018427387905) ∧ (min q1 4611686018427387905) ≤ 9223372036854775807)) (l' := [(0, iV n), (3, rV 0 0), (9, .e (.c (.d (D.lit (.int .u64 t2))))), (10, iV (min q1 4611686018427387905)), (11, iV (min q1 4611686018427387905))]) (g' := [(0, some (27, .ds [iD N, iD W]))]) (nx' := 1) (by kernel_rfl) ⟨⟨by omega, by omega⟩, ⟨by omega, by omega⟩⟩ ?_
      refine AW.seq ?_
      refine AW.rgs [.no, .b false] [0, 3, 9, 10, 11, 31] [0] (P := (¬ ((0 : Int) < t2))) (l' := [(0, iV n), (3, rV 0 0), (9, .e (.c (.d (D.lit (.int .u64 t2))))), (10, iV (min q1 4611686018427387905)), (11, iV (min q1 4611686018427387905)), (31, bV false)]) (g' := [(0, some (27, .ds [iD N, iD W]))]) (nx' := 1) (by kernel_rfl) (by omega) ?_
      refine AW.cond_f (.tmp (Look.of rfl)) ?_
      refine AW.skip ?_
      refine AW.seq ?_
      refine AW.rgs [.no, .b true] [3, 9, 10, 11, 35] [0] (P := (((0 : Int) ≤ n))) (l' := [(3, rV 0 0), (9, .e (.c (.d (D.lit (.int .u64 t2))))), (10, iV (min q1 4611686018427387905)), (11, iV (min q1 4611686018427387905)), (35, bV true)]) (g' := [(0, some (27, .ds [iD N, iD W]))]) (nx' := 1) (by kernel_rfl) (by omega) ?_
      refine AW.cond_t (.tmp (Look.of rfl)) ?_
      refine AW.rgs [.no, .no, .w, .no, .no, .no, .no] [4, 5, 6] [] (P := ((-9223372036854775808) ≤ t2 ∧ t2 ≤ 9223372036854775807)) (l' := [(4, iV (min q1 4611686018427387905)), (5, iV t2), (6, iV (min q1 4611686018427387905))]) (g' := []) (nx' := 1) (by kernel_rfl) ⟨by omega, by omega⟩ ?_
      refine AW.ret ?_
      exact EndP.of (.inr rfl) [] (P := (((min q1 4611686018427387905) : Int) = (min q1 4611686018427387905)) ∧ ((t2 : Int) = t2) ∧ (((min q1 4611686018427387905) : Int) = (min q1 4611686018427387905))) (by kernel_rfl) ⟨rfl, rfl, rfl⟩

set_option maxHeartbeats 4000000 in
set_option maxRecDepth 100000 in
theorem K_inR (n : Int)  : Fun 54 [iE n] (toG []) 0 (.e (.c (.d (D.lit (.bool (decide (-4611686018427387904 ≤ n ∧ n ≤ 4611686018427387904))))))) (toG []) 0 := by
  refine Fun.mk (n := 9) Try.func54 rfl rfl (Nat.le_of_ble_eq_true rfl) ?_
  intro cx hcx
  refine AW.rgs [.no] [0] [] (P := True) (l' := [(0, iV n)]) (g' := []) (nx' := 0) (by kernel_rfl) trivial ?_
  by_cases hx1 : (((-4611686018427387904) : Int) ≤ n)
  · by_cases hx2 : (n ≤ 4611686018427387904)
    · refine AW.rgs [.no, .b true, .no, .no, .b true, .no, .no] [2] [] (P := ((((-4611686018427387904) : Int) ≤ n)) ∧ ((n ≤ 4611686018427387904))) (l' := [(2, bV true)]) (g' := []) (nx' := 0) (by kernel_rfl) ⟨(by omega), (by omega)⟩ ?_
      refine AW.ret ?_
      exact EndP.of (.inr rfl) [] (P := ((decide (-4611686018427387904 ≤ n ∧ n ≤ 4611686018427387904)) = true)) (by kernel_rfl) (by first | exact decide_eq_true (by omega) | exact decide_eq_false (by omega))
    · refine AW.rgs [.no, .b true, .no, .no, .b false, .no, .no] [2] [] (P := ((((-4611686018427387904) : Int) ≤ n)) ∧ (¬ (n ≤ 4611686018427387904))) (l' := [(2, bV false)]) (g' := []) (nx' := 0) (by kernel_rfl) ⟨(by omega), (by omega)⟩ ?_
      refine AW.ret ?_
      exact EndP.of (.inr rfl) [] (P := ((decide (-4611686018427387904 ≤ n ∧ n ≤ 4611686018427387904)) = false)) (by kernel_rfl) (by first | exact decide_eq_true (by omega) | exact decide_eq_false (by omega))
  · refine AW.rgs [.no, .b false, .no, .no, .no] [2] [] (P := (¬ (((-4611686018427387904) : Int) ≤ n))) (l' := [(2, bV false)]) (g' := []) (nx' := 0) (by kernel_rfl) (by omega) ?_
    refine AW.ret ?_
    exact EndP.of (.inr rfl) [] (P := ((decide (-4611686018427387904 ≤ n ∧ n ≤ 4611686018427387904)) = false)) (by kernel_rfl) (by first | exact decide_eq_true (by omega) | exact decide_eq_false (by omega))

set_option maxHeartbeats 4000000 in
set_option maxRecDepth 100000 in
theorem K_check_ok (n N W : Int) (hok : ratOk N W = true) (hn : -1125899906842624 ≤ n ∧ n ≤ 1125899906842624) : Fun 52 [iE n, .agg [iC N, iC W]] (toG []) 0 (iV 0) (toG []) 0 := by
  refine Fun.mk (n := 14) Try.func52 rfl rfl (Nat.le_of_ble_eq_true rfl) ?_
  intro cx hcx
  refine AW.rgs [.no, .no] [0, 3] [0] (P := True) (l' := [(0, iV n), (3, rV 0 0)]) (g' := [(0, some (27, .ds [iD N, iD W]))]) (nx' := 1) (by kernel_rfl) trivial ?_
  refine AW.seq ?_
  refine AW.rgs [.no, .call [] (bV true) [] 0 [] none, .no] [0, 7] [] (P := (Fun 40 [.agg [iC N, iC W]] (toG []) 0 (bV true) (toG []) 0)) (l' := [(0, iV n), (7, bV false)]) (g' := []) (nx' := 1) (by kernel_rfl) (by have h0 := (R_Valid_p N W); rw [hok] at h0; exact h0) ?_
  refine AW.cond_f (.tmp (Look.of rfl)) ?_
  refine AW.skip ?_
  refine AW.seq ?_
  refine AW.rgs [.no, .b false, .no, .no, .b false, .no] [13] [] (P := (¬ (n < (-1125899906842624))) ∧ (¬ ((1125899906842624 : Int) < n))) (l' := [(13, bV false)]) (g' := []) (nx' := 1) (by kernel_rfl) ⟨(by omega), (by omega)⟩ ?_
  refine AW.cond_f (.tmp (Look.of rfl)) ?_
  refine AW.skip ?_
  refine AW.rgs [.no] [4] [] (P := True) (l' := [(4, iV 0)]) (g' := []) (nx' := 1) (by kernel_rfl) trivial ?_
  refine AW.ret ?_
  exact EndP.of (.inr rfl) [] (P := ((0 : Int) = 0)) (by kernel_rfl) rfl

set_option maxHeartbeats 4000000 in
set_option maxRecDepth 100000 in
theorem K_check_no (n N W : Int) (hok : ratOk N W = false) : Fun 52 [iE n, .agg [iC N, iC W]] (toG []) 0 (iV 1) (toG []) 0 := by
  refine Fun.mk (n := 14) Try.func52 rfl rfl (Nat.le_of_ble_eq_true rfl) ?_
  intro cx hcx
  refine AW.rgs [.no, .no] [0, 3] [0] (P := True) (l' := [(0, iV n), (3, rV 0 0)]) (g' := [(0, some (27, .ds [iD N, iD W]))]) (nx' := 1) (by kernel_rfl) trivial ?_
  refine AW.seq ?_
  refine AW.rgs [.no, .call [] (bV false) [] 0 [] none, .no] [0, 7] [] (P := (Fun 40 [.agg [iC N, iC W]] (toG []) 0 (bV false) (toG []) 0)) (l' := [(0, iV n), (7, bV true)]) (g' := []) (nx' := 1) (by kernel_rfl) (by have h0 := (R_Valid_p N W); rw [hok] at h0; exact h0) ?_
  refine AW.cond_t (.tmp (Look.of rfl)) ?_
  refine AW.rgs [.no] [4] [] (P := True) (l' := [(4, iV 1)]) (g' := []) (nx' := 1) (by kernel_rfl) trivial ?_
  refine AW.ret ?_
  exact EndP.of (.inr rfl) [] (P := ((1 : Int) = 1)) (by kernel_rfl) rfl

set_option maxHeartbeats 4000000 in
set_option maxRecDepth 100000 in
theorem K_check_out (n N W : Int) (hok : ratOk N W = true) (hn : ¬ (-1125899906842624 ≤ n ∧ n ≤ 1125899906842624)) : Fun 52 [iE n, .agg [iC N, iC W]] (toG []) 0 (iV 2) (toG []) 0 := by
  refine Fun.mk (n := 14) Try.func52 rfl rfl (Nat.le_of_ble_eq_true rfl) ?_
  intro cx hcx
  refine AW.rgs [.no, .no] [0, 3] [0] (P := True) (l' := [(0, iV n), (3, rV 0 0)]) (g' := [(0, some (27, .ds [iD N, iD W]))]) (nx' := 1) (by kernel_rfl) trivial ?_
  refine AW.seq ?_
  refine AW.rgs [.no, .call [] (bV true) [] 0 [] none, .no] [0, 7] [] (P := (Fun 40 [.agg [iC N, iC W]] (toG []) 0 (bV true) (toG []) 0)) (l' := [(0, iV n), (7, bV false)]) (g' := []) (nx' := 1) (by kernel_rfl) (by have h0 := (R_Valid_p N W); rw [hok] at h0; exact h0) ?_
  refine AW.cond_f (.tmp (Look.of rfl)) ?_
  refine AW.skip ?_
  refine AW.seq ?_
  by_cases hx1 : (n < (-1125899906842624))
  · refine AW.rgs [.no, .b true, .no, .no] [13] [] (P := ((n < (-1125899906842624)))) (l' := [(13, bV true)]) (g' := []) (nx' := 1) (by kernel_rfl) (by omega) ?_
    refine AW.cond_t (.tmp (Look.of rfl)) ?_
    refine AW.rgs [.no] [4] [] (P := True) (l' := [(4, iV 2)]) (g' := []) (nx' := 1) (by kernel_rfl) trivial ?_
    refine AW.ret ?_
    exact EndP.of (.inr rfl) [] (P := ((2 : Int) = 2)) (by kernel_rfl) rfl
  · refine AW.rgs [.no, .b false, .no, .no, .b true, .no] [13] [] (P := (¬ (n < (-1125899906842624))) ∧ (((1125899906842624 : Int) < n))) (l' := [(13, bV true)]) (g' := []) (nx' := 1) (by kernel_rfl) ⟨(by omega), (by omega)⟩ ?_
    refine AW.cond_t (.tmp (Look.of rfl)) ?_
    refine AW.rgs [.no] [4] [] (P := True) (l' := [(4, iV 2)]) (g' := []) (nx' := 1) (by kernel_rfl) trivial ?_
    refine AW.ret ?_
    exact EndP.of (.inr rfl) [] (P := ((2 : Int) = 2)) (by kernel_rfl) rfl

set_option maxHeartbeats 4000000 in
set_option maxRecDepth 100000 in
theorem K_div_in (n N W : Int) (hn : -1125899906842624 ≤ n ∧ n ≤ 1125899906842624) (hN : 1 ≤ N ∧ N ≤ 68719476736) (hD : 1 ≤ W ∧ W ≤ 68719476736) (hq : -4611686018427387904 ≤ n * N / W ∧ n * N / W ≤ 4611686018427387904) : Fun 62 [iE n, .agg [iC N, iC W]] (toG []) 0 (.tup [iE ((n * N) / W), iE ((n * N) % W), .c (.d (D.lit (.bool true)))]) (toG []) 0 := by
  have hneg : (n * N % W = 0 ∧ (0 - n) * N % W = 0 ∧ (0 - n) * N / W = 0 - n * N / W) ∨ (0 < n * N % W ∧ (0 - n) * N % W = W - n * N % W ∧ (0 - n) * N / W = 0 - n * N / W - 1) := dv_neg hD.1
  have hqa : (0 ≤ n * N % W ∧ n * N % W < W) ∧ (0 ≤ (0 - n) * N % W ∧ (0 - n) * N % W < W) := ⟨dv_mod hD.1, dv_mod hD.1⟩
  have hsg : (n < 0 ∧ 0 ≤ (0 - n) * N / W) ∨ (0 ≤ n ∧ 0 ≤ n * N / W) := (int_lg n).imp (fun h9 => ⟨h9, (dv_pos (by omega) hN.1 hD.1).2⟩) (fun h9 => ⟨h9, (dv_pos h9 hN.1 hD.1).2⟩)
  have h6a : (W ≤ n * N / 18446744073709551616 ∧ 18446744073709551616 ≤ n * N / W) ∨ (n * N / 18446744073709551616 < W ∧ n * N / W < 18446744073709551616) := dv_64 hD.1
  have h6b : (W ≤ (0 - n) * N / 18446744073709551616 ∧ 18446744073709551616 ≤ (0 - n) * N / W) ∨ ((0 - n) * N / 18446744073709551616 < W ∧ (0 - n) * N / W < 18446744073709551616) := dv_64 hD.1
  have hbs : (n < 0 ∧ 0 ≤ (0 - n) * N ∧ (0 - n) * N ≤ 77371252455336267181195264) ∨ (0 ≤ n ∧ 0 ≤ n * N ∧ n * N ≤ 77371252455336267181195264) := (int_lg n).imp (fun h9 => ⟨h9, dv_big (by omega) hN⟩) (fun h9 => ⟨h9, dv_big (by omega) hN⟩)
  refine Fun.mk (n := 66) Try.func62 rfl rfl (Nat.le_of_ble_eq_true rfl) ?_
  intro cx hcx
  refine AW.rgs [.no, .no, .no, .no] [0, 3] [0] (P := True) (l' := [(0, iV n), (3, rV 0 0)]) (g' := [(0, some (27, .ds [iD N, iD W]))]) (nx' := 1) (by kernel_rfl) trivial ?_
  by_cases hx1 : (n < 0)
  · refine AW.rgs [.no, .i (n + 18446744073709551616), .no, .b true, .no, .no] [3, 7, 8] [0] (P := (IntKind.u64.wrap (n : Int) = (n + 18446744073709551616)) ∧ ((n < 0))) (l' := [(3, rV 0 0), (7, .e (.c (.d (D.lit (.int .u64 (n + 18446744073709551616)))))), (8, bV true)]) (g' := [(0, some (27, .ds [iD N, iD W]))]) (nx' := 1) (by kernel_rfl) ⟨(by rw [wrap_u64]; omega), (by omega)⟩ ?_
    refine AW.seq ?_
    refine AW.rgs [.no] [3, 7, 8, 17] [0] (P := True) (l' := [(3, rV 0 0), (7, .e (.c (.d (D.lit (.int .u64 (n + 18446744073709551616)))))), (8, bV true), (17, bV true)]) (g' := [(0, some (27, .ds [iD N, iD W]))]) (nx' := 1) (by kernel_rfl) trivial ?_
    refine AW.cond_t (.tmp (Look.of rfl)) ?_
    refine AW.rg [.no, .i (0 - n), .no] [3, 7, 8] [0] (P := (IntKind.u64.wrap ((0 - (n + 18446744073709551616)) : Int) = (0 - n))) (l' := [(3, rV 0 0), (7, .e (.c (.d (D.lit (.int .u64 (0 - n)))))), (8, bV true)]) (g' := [(0, some (27, .ds [iD N, iD W]))]) (nx' := 1) (by kernel_rfl) (by rw [wrap_u64]; omega) ?_
    refine AW.rgs [.no, .no, .no, .w, .call [] (.tup [.c (.d (D.lit (.int .u64 (((0 - n) * N) / 18446744073709551616)))), .c (.d (D.lit (.int .u64 (((0 - n) * N) % 18446744073709551616))))]) [] 0 [] none, .no, .no, .no, .no, .no] [3, 8, 9, 10] [0] (P := (0 ≤ N ∧ N ≤ 18446744073709551615) ∧ (_)) (l' := [(3, rV 0 0), (8, bV true), (9, .e (.c (.d (D.lit (.int .u64 (((0 - n) * N) / 18446744073709551616)))))), (10, .e (.c (.d (D.lit (.int .u64 (((0 - n) * N) % 18446744073709551616))))))]) (g' := [(0, some (27, .ds [iD N, iD W]))]) (nx' := 1) (by kernel_rfl) ⟨⟨by omega, by omega⟩, (B_Mul64 (0 - n) N (by omega) (by omega))⟩ ?_
    refine AW.seq ?_
    refine AW.rgs [.no, .no, .no, .w, .b false] [3, 8, 9, 10, 32] [0] (P := (0 ≤ W ∧ W ≤ 18446744073709551615) ∧ (¬ (W ≤ (((0 - n) * N) / 18446744073709551616)))) (l' := [(3, rV 0 0), (8, bV true), (9, .e (.c (.d (D.lit (.int .u64 (((0 - n) * N) / 18446744073709551616)))))), (10, .e (.c (.d (D.lit (.int .u64 (((0 - n) * N) % 18446744073709551616)))))), (32, bV false)]) (g' := [(0, some (27, .ds [iD N, iD W]))]) (nx' := 1) (by kernel_rfl) ⟨⟨by omega, by omega⟩, (by omega)⟩ ?_
    refine AW.cond_f (.tmp (Look.of rfl)) ?_
    refine AW.skip ?_
    refine AW.rgs [.no, .no, .no, .no, .w, .call [] (.tup [.c (.d (D.lit (.int .u64 (((0 - n) * N) / W)))), .c (.d (D.lit (.int .u64 (((0 - n) * N) % W))))]) [] 0 [] none, .no, .no, .no, .no, .no] [3, 8, 11, 12] [0] (P := (0 ≤ W ∧ W ≤ 18446744073709551615) ∧ (_)) (l' := [(3, rV 0 0), (8, bV true), (11, .e (.c (.d (D.lit (.int .u64 (((0 - n) * N) / W)))))), (12, .e (.c (.d (D.lit (.int .u64 (((0 - n) * N) % W))))))]) (g' := [(0, some (27, .ds [iD N, iD W]))]) (nx' := 1) (by kernel_rfl) ⟨⟨by omega, by omega⟩, (B_DivP (0 - n) N W (by omega) (by omega))⟩ ?_
    refine AW.seq ?_
    refine AW.rgs [.no, .b false] [3, 8, 11, 12, 43] [0] (P := (¬ ((4611686018427387904 : Int) < (((0 - n) * N) / W)))) (l' := [(3, rV 0 0), (8, bV true), (11, .e (.c (.d (D.lit (.int .u64 (((0 - n) * N) / W)))))), (12, .e (.c (.d (D.lit (.int .u64 (((0 - n) * N) % W)))))), (43, bV false)]) (g' := [(0, some (27, .ds [iD N, iD W]))]) (nx' := 1) (by kernel_rfl) (by omega) ?_
    refine AW.cond_f (.tmp (Look.of rfl)) ?_
    refine AW.skip ?_
    refine AW.seq ?_
    refine AW.rgs [.no, .no] [3, 11, 12, 45] [0] (P := True) (l' := [(3, rV 0 0), (11, .e (.c (.d (D.lit (.int .u64 (((0 - n) * N) / W)))))), (12, .e (.c (.d (D.lit (.int .u64 (((0 - n) * N) % W)))))), (45, bV false)]) (g' := [(0, some (27, .ds [iD N, iD W]))]) (nx' := 1) (by kernel_rfl) trivial ?_
    refine AW.cond_f (.tmp (Look.of rfl)) ?_
    refine AW.skip ?_
    refine AW.seq ?_
    by_cases hx2 : ((((0 - n) * N) % W) = 0)
    · refine AW.rgs [.no, .b true] [3, 11, 12, 51] [0] (P := (((((0 - n) * N) % W) = 0))) (l' := [(3, rV 0 0), (11, .e (.c (.d (D.lit (.int .u64 (((0 - n) * N) / W)))))), (12, .e (.c (.d (D.lit (.int .u64 (((0 - n) * N) % W)))))), (51, bV true)]) (g' := [(0, some (27, .ds [iD N, iD W]))]) (nx' := 1) (by kernel_rfl) (by omega) ?_
      refine AW.cond_t (.tmp (Look.of rfl)) ?_
      refine AW.rgs [.no, .w, .w, .no, .no, .no] [4, 5, 6] [] (P := ((-9223372036854775808) ≤ (((0 - n) * N) / W) ∧ (((0 - n) * N) / W) ≤ 9223372036854775807) ∧ ((-9223372036854775808) ≤ (0 - (((0 - n) * N) / W)) ∧ (0 - (((0 - n) * N) / W)) ≤ 9223372036854775807)) (l' := [(4, iV (0 - (((0 - n) * N) / W))), (5, iV 0), (6, bV true)]) (g' := []) (nx' := 1) (by kernel_rfl) ⟨⟨by omega, by omega⟩, ⟨by omega, by omega⟩⟩ ?_
      refine AW.ret ?_
      exact EndP.of (.inr rfl) [] (P := ((((n * N) / W) : Int) = (0 - (((0 - n) * N) / W))) ∧ ((((n * N) % W) : Int) = 0) ∧ (true = true)) (by kernel_rfl) ⟨(by first | rfl | omega), (by first | rfl | omega), rfl⟩
    · refine AW.rgs [.no, .b false] [3, 11, 12, 51] [0] (P := (¬ ((((0 - n) * N) % W) = 0))) (l' := [(3, rV 0 0), (11, .e (.c (.d (D.lit (.int .u64 (((0 - n) * N) / W)))))), (12, .e (.c (.d (D.lit (.int .u64 (((0 - n) * N) % W)))))), (51, bV false)]) (g' := [(0, some (27, .ds [iD N, iD W]))]) (nx' := 1) (by kernel_rfl) (by omega) ?_
      refine AW.cond_f (.tmp (Look.of rfl)) ?_
      refine AW.skip ?_
      refine AW.seq ?_
      refine AW.rgs [.no, .b false] [3, 11, 12, 56] [0] (P := (¬ ((((0 - n) * N) / W) = 4611686018427387904))) (l' := [(3, rV 0 0), (11, .e (.c (.d (D.lit (.int .u64 (((0 - n) * N) / W)))))), (12, .e (.c (.d (D.lit (.int .u64 (((0 - n) * N) % W)))))), (56, bV false)]) (g' := [(0, some (27, .ds [iD N, iD W]))]) (nx' := 1) (by kernel_rfl) (by omega) ?_
      refine AW.cond_f (.tmp (Look.of rfl)) ?_
      refine AW.skip ?_
      refine AW.rgs [.no, .w, .w, .w, .no, .no, .no, .w, .w, .no, .no, .no] [4, 5, 6] [] (P := ((-9223372036854775808) ≤ (((0 - n) * N) / W) ∧ (((0 - n) * N) / W) ≤ 9223372036854775807) ∧ ((-9223372036854775808) ≤ (0 - (((0 - n) * N) / W)) ∧ (0 - (((0 - n) * N) / W)) ≤ 9223372036854775807) ∧ ((-9223372036854775808) ≤ ((0 - (((0 - n) * N) / W)) - 1) ∧ ((0 - (((0 - n) * N) / W)) - 1) ≤ 9223372036854775807) ∧ ((-9223372036854775808) ≤ (((0 - n) * N) % W) ∧ (((0 - n) * N) % W) ≤ 9223372036854775807) ∧ ((-9223372036854775808) ≤ (W - (((0 - n) * N) % W)) ∧ (W - (((0 - n) * N) % W)) ≤ 9223372036854775807)) (l' := [(4, iV ((0 - (((0 - n) * N) / W)) - 1)), (5, iV (W - (((0 - n) * N) % W))), (6, bV true)]) (g' := []) (nx' := 1) (by kernel_rfl) ⟨⟨by omega, by omega⟩, ⟨by omega, by omega⟩, ⟨by omega, by omega⟩, ⟨by omega, by omega⟩, ⟨by omega, by omega⟩⟩ ?_
      refine AW.ret ?_
      exact EndP.of (.inr rfl) [] (P := ((((n * N) / W) : Int) = ((0 - (((0 - n) * N) / W)) - 1)) ∧ ((((n * N) % W) : Int) = (W - (((0 - n) * N) % W))) ∧ (true = true)) (by kernel_rfl) ⟨(by first | rfl | omega), (by first | rfl | omega), rfl⟩
  · refine AW.rgs [.no, .w, .no, .b false, .no, .no] [3, 7, 8] [0] (P := (0 ≤ n ∧ n ≤ 18446744073709551615) ∧ (¬ (n < 0))) (l' := [(3, rV 0 0), (7, .e (.c (.d (D.lit (.int .u64 n))))), (8, bV false)]) (g' := [(0, some (27, .ds [iD N, iD W]))]) (nx' := 1) (by kernel_rfl) ⟨⟨by omega, by omega⟩, (by omega)⟩ ?_
    refine AW.seq ?_
    refine AW.rgs [.no] [3, 7, 8, 17] [0] (P := True) (l' := [(3, rV 0 0), (7, .e (.c (.d (D.lit (.int .u64 n))))), (8, bV false), (17, bV false)]) (g' := [(0, some (27, .ds [iD N, iD W]))]) (nx' := 1) (by kernel_rfl) trivial ?_
    refine AW.cond_f (.tmp (Look.of rfl)) ?_
    refine AW.skip ?_
    refine AW.rgs [.no, .no, .no, .w, .call [] (.tup [.c (.d (D.lit (.int .u64 ((n * N) / 18446744073709551616)))), .c (.d (D.lit (.int .u64 ((n * N) % 18446744073709551616))))]) [] 0 [] none, .no, .no, .no, .no, .no] [3, 8, 9, 10] [0] (P := (0 ≤ N ∧ N ≤ 18446744073709551615) ∧ (_)) (l' := [(3, rV 0 0), (8, bV false), (9, .e (.c (.d (D.lit (.int .u64 ((n * N) / 18446744073709551616)))))), (10, .e (.c (.d (D.lit (.int .u64 ((n * N) % 18446744073709551616))))))]) (g' := [(0, some (27, .ds [iD N, iD W]))]) (nx' := 1) (by kernel_rfl) ⟨⟨by omega, by omega⟩, (B_Mul64 n N (by omega) (by omega))⟩ ?_
    refine AW.seq ?_
    refine AW.rgs [.no, .no, .no, .w, .b false] [3, 8, 9, 10, 32] [0] (P := (0 ≤ W ∧ W ≤ 18446744073709551615) ∧ (¬ (W ≤ ((n * N) / 18446744073709551616)))) (l' := [(3, rV 0 0), (8, bV false), (9, .e (.c (.d (D.lit (.int .u64 ((n * N) / 18446744073709551616)))))), (10, .e (.c (.d (D.lit (.int .u64 ((n * N) % 18446744073709551616)))))), (32, bV false)]) (g' := [(0, some (27, .ds [iD N, iD W]))]) (nx' := 1) (by kernel_rfl) ⟨⟨by omega, by omega⟩, (by omega)⟩ ?_
    refine AW.cond_f (.tmp (Look.of rfl)) ?_
    refine AW.skip ?_
    refine AW.rgs [.no, .no, .no, .no, .w, .call [] (.tup [.c (.d (D.lit (.int .u64 ((n * N) / W)))), .c (.d (D.lit (.int .u64 ((n * N) % W))))]) [] 0 [] none, .no, .no, .no, .no, .no] [3, 8, 11, 12] [0] (P := (0 ≤ W ∧ W ≤ 18446744073709551615) ∧ (_)) (l' := [(3, rV 0 0), (8, bV false), (11, .e (.c (.d (D.lit (.int .u64 ((n * N) / W)))))), (12, .e (.c (.d (D.lit (.int .u64 ((n * N) % W))))))]) (g' := [(0, some (27, .ds [iD N, iD W]))]) (nx' := 1) (by kernel_rfl) ⟨⟨by omega, by omega⟩, (B_DivP n N W (by omega) (by omega))⟩ ?_
    refine AW.seq ?_
    refine AW.rgs [.no, .b false] [3, 8, 11, 12, 43] [0] (P := (¬ ((4611686018427387904 : Int) < ((n * N) / W)))) (l' := [(3, rV 0 0), (8, bV false), (11, .e (.c (.d (D.lit (.int .u64 ((n * N) / W)))))), (12, .e (.c (.d (D.lit (.int .u64 ((n * N) % W)))))), (43, bV false)]) (g' := [(0, some (27, .ds [iD N, iD W]))]) (nx' := 1) (by kernel_rfl) (by omega) ?_
    refine AW.cond_f (.tmp (Look.of rfl)) ?_
    refine AW.skip ?_
    refine AW.seq ?_
    refine AW.rgs [.no, .no] [3, 11, 12, 45] [0] (P := True) (l' := [(3, rV 0 0), (11, .e (.c (.d (D.lit (.int .u64 ((n * N) / W)))))), (12, .e (.c (.d (D.lit (.int .u64 ((n * N) % W)))))), (45, bV true)]) (g' := [(0, some (27, .ds [iD N, iD W]))]) (nx' := 1) (by kernel_rfl) trivial ?_
    refine AW.cond_t (.tmp (Look.of rfl)) ?_
    refine AW.rgs [.no, .w, .no, .w, .no, .no, .no] [4, 5, 6] [] (P := ((-9223372036854775808) ≤ ((n * N) / W) ∧ ((n * N) / W) ≤ 9223372036854775807) ∧ ((-9223372036854775808) ≤ ((n * N) % W) ∧ ((n * N) % W) ≤ 9223372036854775807)) (l' := [(4, iV ((n * N) / W)), (5, iV ((n * N) % W)), (6, bV true)]) (g' := []) (nx' := 1) (by kernel_rfl) ⟨⟨by omega, by omega⟩, ⟨by omega, by omega⟩⟩ ?_
    refine AW.ret ?_
    exact EndP.of (.inr rfl) [] (P := ((((n * N) / W) : Int) = ((n * N) / W)) ∧ ((((n * N) % W) : Int) = ((n * N) % W)) ∧ (true = true)) (by kernel_rfl) ⟨rfl, rfl, rfl⟩

set_option maxHeartbeats 4000000 in
set_option maxRecDepth 100000 in
theorem K_div_out (n N W : Int) (hn : -1125899906842624 ≤ n ∧ n ≤ 1125899906842624) (hN : 1 ≤ N ∧ N ≤ 68719476736) (hD : 1 ≤ W ∧ W ≤ 68719476736) (hq : ¬ (-4611686018427387904 ≤ n * N / W ∧ n * N / W ≤ 4611686018427387904)) : Fun 62 [iE n, .agg [iC N, iC W]] (toG []) 0 (.tup [iE 0, iE 0, .c (.d (D.lit (.bool false)))]) (toG []) 0 := by
  have hneg : (n * N % W = 0 ∧ (0 - n) * N % W = 0 ∧ (0 - n) * N / W = 0 - n * N / W) ∨ (0 < n * N % W ∧ (0 - n) * N % W = W - n * N % W ∧ (0 - n) * N / W = 0 - n * N / W - 1) := dv_neg hD.1
  have hqa : (0 ≤ n * N % W ∧ n * N % W < W) ∧ (0 ≤ (0 - n) * N % W ∧ (0 - n) * N % W < W) := ⟨dv_mod hD.1, dv_mod hD.1⟩
  have hsg : (n < 0 ∧ 0 ≤ (0 - n) * N / W) ∨ (0 ≤ n ∧ 0 ≤ n * N / W) := (int_lg n).imp (fun h9 => ⟨h9, (dv_pos (by omega) hN.1 hD.1).2⟩) (fun h9 => ⟨h9, (dv_pos h9 hN.1 hD.1).2⟩)
  have h6a : (W ≤ n * N / 18446744073709551616 ∧ 18446744073709551616 ≤ n * N / W) ∨ (n * N / 18446744073709551616 < W ∧ n * N / W < 18446744073709551616) := dv_64 hD.1
  have h6b : (W ≤ (0 - n) * N / 18446744073709551616 ∧ 18446744073709551616 ≤ (0 - n) * N / W) ∨ ((0 - n) * N / 18446744073709551616 < W ∧ (0 - n) * N / W < 18446744073709551616) := dv_64 hD.1
  have hbs : (n < 0 ∧ 0 ≤ (0 - n) * N ∧ (0 - n) * N ≤ 77371252455336267181195264) ∨ (0 ≤ n ∧ 0 ≤ n * N ∧ n * N ≤ 77371252455336267181195264) := (int_lg n).imp (fun h9 => ⟨h9, dv_big (by omega) hN⟩) (fun h9 => ⟨h9, dv_big (by omega) hN⟩)
  refine Fun.mk (n := 66) Try.func62 rfl rfl (Nat.le_of_ble_eq_true rfl) ?_
  intro cx hcx
  refine AW.rgs [.no, .no, .no, .no] [0, 3] [0] (P := True) (l' := [(0, iV n), (3, rV 0 0)]) (g' := [(0, some (27, .ds [iD N, iD W]))]) (nx' := 1) (by kernel_rfl) trivial ?_
  by_cases hx1 : (n < 0)
  · refine AW.rgs [.no, .i (n + 18446744073709551616), .no, .b true, .no, .no] [3, 7, 8] [0] (P := (IntKind.u64.wrap (n : Int) = (n + 18446744073709551616)) ∧ ((n < 0))) (l' := [(3, rV 0 0), (7, .e (.c (.d (D.lit (.int .u64 (n + 18446744073709551616)))))), (8, bV true)]) (g' := [(0, some (27, .ds [iD N, iD W]))]) (nx' := 1) (by kernel_rfl) ⟨(by rw [wrap_u64]; omega), (by omega)⟩ ?_
    refine AW.seq ?_
    refine AW.rgs [.no] [3, 7, 8, 17] [0] (P := True) (l' := [(3, rV 0 0), (7, .e (.c (.d (D.lit (.int .u64 (n + 18446744073709551616)))))), (8, bV true), (17, bV true)]) (g' := [(0, some (27, .ds [iD N, iD W]))]) (nx' := 1) (by kernel_rfl) trivial ?_
    refine AW.cond_t (.tmp (Look.of rfl)) ?_
    refine AW.rg [.no, .i (0 - n), .no] [3, 7, 8] [0] (P := (IntKind.u64.wrap ((0 - (n + 18446744073709551616)) : Int) = (0 - n))) (l' := [(3, rV 0 0), (7, .e (.c (.d (D.lit (.int .u64 (0 - n)))))), (8, bV true)]) (g' := [(0, some (27, .ds [iD N, iD W]))]) (nx' := 1) (by kernel_rfl) (by rw [wrap_u64]; omega) ?_
    refine AW.rgs [.no, .no, .no, .w, .call [] (.tup [.c (.d (D.lit (.int .u64 (((0 - n) * N) / 18446744073709551616)))), .c (.d (D.lit (.int .u64 (((0 - n) * N) % 18446744073709551616))))]) [] 0 [] none, .no, .no, .no, .no, .no] [3, 8, 9, 10] [0] (P := (0 ≤ N ∧ N ≤ 18446744073709551615) ∧ (_)) (l' := [(3, rV 0 0), (8, bV true), (9, .e (.c (.d (D.lit (.int .u64 (((0 - n) * N) / 18446744073709551616)))))), (10, .e (.c (.d (D.lit (.int .u64 (((0 - n) * N) % 18446744073709551616))))))]) (g' := [(0, some (27, .ds [iD N, iD W]))]) (nx' := 1) (by kernel_rfl) ⟨⟨by omega, by omega⟩, (B_Mul64 (0 - n) N (by omega) (by omega))⟩ ?_
    refine AW.seq ?_
    by_cases hx2 : (W ≤ (((0 - n) * N) / 18446744073709551616))
    · refine AW.rgs [.no, .no, .no, .w, .b true] [3, 8, 9, 10, 32] [0] (P := (0 ≤ W ∧ W ≤ 18446744073709551615) ∧ ((W ≤ (((0 - n) * N) / 18446744073709551616)))) (l' := [(3, rV 0 0), (8, bV true), (9, .e (.c (.d (D.lit (.int .u64 (((0 - n) * N) / 18446744073709551616)))))), (10, .e (.c (.d (D.lit (.int .u64 (((0 - n) * N) % 18446744073709551616)))))), (32, bV true)]) (g' := [(0, some (27, .ds [iD N, iD W]))]) (nx' := 1) (by kernel_rfl) ⟨⟨by omega, by omega⟩, (by omega)⟩ ?_
      refine AW.cond_t (.tmp (Look.of rfl)) ?_
      refine AW.rgs [.no, .no, .no] [4, 5, 6] [] (P := True) (l' := [(4, iV 0), (5, iV 0), (6, bV false)]) (g' := []) (nx' := 1) (by kernel_rfl) trivial ?_
      refine AW.ret ?_
      exact EndP.of (.inr rfl) [] (P := ((0 : Int) = 0) ∧ ((0 : Int) = 0) ∧ (false = false)) (by kernel_rfl) ⟨rfl, rfl, rfl⟩
    · refine AW.rgs [.no, .no, .no, .w, .b false] [3, 8, 9, 10, 32] [0] (P := (0 ≤ W ∧ W ≤ 18446744073709551615) ∧ (¬ (W ≤ (((0 - n) * N) / 18446744073709551616)))) (l' := [(3, rV 0 0), (8, bV true), (9, .e (.c (.d (D.lit (.int .u64 (((0 - n) * N) / 18446744073709551616)))))), (10, .e (.c (.d (D.lit (.int .u64 (((0 - n) * N) % 18446744073709551616)))))), (32, bV false)]) (g' := [(0, some (27, .ds [iD N, iD W]))]) (nx' := 1) (by kernel_rfl) ⟨⟨by omega, by omega⟩, (by omega)⟩ ?_
      refine AW.cond_f (.tmp (Look.of rfl)) ?_
      refine AW.skip ?_
      refine AW.rgs [.no, .no, .no, .no, .w, .call [] (.tup [.c (.d (D.lit (.int .u64 (((0 - n) * N) / W)))), .c (.d (D.lit (.int .u64 (((0 - n) * N) % W))))]) [] 0 [] none, .no, .no, .no, .no, .no] [3, 8, 11, 12] [0] (P := (0 ≤ W ∧ W ≤ 18446744073709551615) ∧ (_)) (l' := [(3, rV 0 0), (8, bV true), (11, .e (.c (.d (D.lit (.int .u64 (((0 - n) * N) / W)))))), (12, .e (.c (.d (D.lit (.int .u64 (((0 - n) * N) % W))))))]) (g' := [(0, some (27, .ds [iD N, iD W]))]) (nx' := 1) (by kernel_rfl) ⟨⟨by omega, by omega⟩, (B_DivP (0 - n) N W (by omega) (by omega))⟩ ?_
      refine AW.seq ?_
      by_cases hx3 : ((4611686018427387904 : Int) < (((0 - n) * N) / W))
      · refine AW.rgs [.no, .b true] [3, 8, 11, 12, 43] [0] (P := (((4611686018427387904 : Int) < (((0 - n) * N) / W)))) (l' := [(3, rV 0 0), (8, bV true), (11, .e (.c (.d (D.lit (.int .u64 (((0 - n) * N) / W)))))), (12, .e (.c (.d (D.lit (.int .u64 (((0 - n) * N) % W)))))), (43, bV true)]) (g' := [(0, some (27, .ds [iD N, iD W]))]) (nx' := 1) (by kernel_rfl) (by omega) ?_
        refine AW.cond_t (.tmp (Look.of rfl)) ?_
        refine AW.rgs [.no, .no, .no] [4, 5, 6] [] (P := True) (l' := [(4, iV 0), (5, iV 0), (6, bV false)]) (g' := []) (nx' := 1) (by kernel_rfl) trivial ?_
        refine AW.ret ?_
        exact EndP.of (.inr rfl) [] (P := ((0 : Int) = 0) ∧ ((0 : Int) = 0) ∧ (false = false)) (by kernel_rfl) ⟨rfl, rfl, rfl⟩
      · refine AW.rgs [.no, .b false] [3, 8, 11, 12, 43] [0] (P := (¬ ((4611686018427387904 : Int) < (((0 - n) * N) / W)))) (l' := [(3, rV 0 0), (8, bV true), (11, .e (.c (.d (D.lit (.int .u64 (((0 - n) * N) / W)))))), (12, .e (.c (.d (D.lit (.int .u64 (((0 - n) * N) % W)))))), (43, bV false)]) (g' := [(0, some (27, .ds [iD N, iD W]))]) (nx' := 1) (by kernel_rfl) (by omega) ?_
        refine AW.cond_f (.tmp (Look.of rfl)) ?_
        refine AW.skip ?_
        refine AW.seq ?_
        refine AW.rgs [.no, .no] [3, 11, 12, 45] [0] (P := True) (l' := [(3, rV 0 0), (11, .e (.c (.d (D.lit (.int .u64 (((0 - n) * N) / W)))))), (12, .e (.c (.d (D.lit (.int .u64 (((0 - n) * N) % W)))))), (45, bV false)]) (g' := [(0, some (27, .ds [iD N, iD W]))]) (nx' := 1) (by kernel_rfl) trivial ?_
        refine AW.cond_f (.tmp (Look.of rfl)) ?_
        refine AW.skip ?_
        refine AW.seq ?_
        refine AW.rgs [.no, .b false] [3, 11, 12, 51] [0] (P := (¬ ((((0 - n) * N) % W) = 0))) (l' := [(3, rV 0 0), (11, .e (.c (.d (D.lit (.int .u64 (((0 - n) * N) / W)))))), (12, .e (.c (.d (D.lit (.int .u64 (((0 - n) * N) % W)))))), (51, bV false)]) (g' := [(0, some (27, .ds [iD N, iD W]))]) (nx' := 1) (by kernel_rfl) (by omega) ?_
        refine AW.cond_f (.tmp (Look.of rfl)) ?_
        refine AW.skip ?_
        refine AW.seq ?_
        refine AW.rgs [.no, .b true] [3, 11, 12, 56] [0] (P := (((((0 - n) * N) / W) = 4611686018427387904))) (l' := [(3, rV 0 0), (11, .e (.c (.d (D.lit (.int .u64 (((0 - n) * N) / W)))))), (12, .e (.c (.d (D.lit (.int .u64 (((0 - n) * N) % W)))))), (56, bV true)]) (g' := [(0, some (27, .ds [iD N, iD W]))]) (nx' := 1) (by kernel_rfl) (by omega) ?_
        refine AW.cond_t (.tmp (Look.of rfl)) ?_
        refine AW.rgs [.no, .no, .no] [4, 5, 6] [] (P := True) (l' := [(4, iV 0), (5, iV 0), (6, bV false)]) (g' := []) (nx' := 1) (by kernel_rfl) trivial ?_
        refine AW.ret ?_
        exact EndP.of (.inr rfl) [] (P := ((0 : Int) = 0) ∧ ((0 : Int) = 0) ∧ (false = false)) (by kernel_rfl) ⟨rfl, rfl, rfl⟩
  · refine AW.rgs [.no, .w, .no, .b false, .no, .no] [3, 7, 8] [0] (P := (0 ≤ n ∧ n ≤ 18446744073709551615) ∧ (¬ (n < 0))) (l' := [(3, rV 0 0), (7, .e (.c (.d (D.lit (.int .u64 n))))), (8, bV false)]) (g' := [(0, some (27, .ds [iD N, iD W]))]) (nx' := 1) (by kernel_rfl) ⟨⟨by omega, by omega⟩, (by omega)⟩ ?_
    refine AW.seq ?_
    refine AW.rgs [.no] [3, 7, 8, 17] [0] (P := True) (l' := [(3, rV 0 0), (7, .e (.c (.d (D.lit (.int .u64 n))))), (8, bV false), (17, bV false)]) (g' := [(0, some (27, .ds [iD N, iD W]))]) (nx' := 1) (by kernel_rfl) trivial ?_
    refine AW.cond_f (.tmp (Look.of rfl)) ?_
    refine AW.skip ?_
    refine AW.rgs [.no, .no, .no, .w, .call [] (.tup [.c (.d (D.lit (.int .u64 ((n * N) / 18446744073709551616)))), .c (.d (D.lit (.int .u64 ((n * N) % 18446744073709551616))))]) [] 0 [] none, .no, .no, .no, .no, .no] [3, 8, 9, 10] [0] (P := (0 ≤ N ∧ N ≤ 18446744073709551615) ∧ (_)) (l' := [(3, rV 0 0), (8, bV false), (9, .e (.c (.d (D.lit (.int .u64 ((n * N) / 18446744073709551616)))))), (10, .e (.c (.d (D.lit (.int .u64 ((n * N) % 18446744073709551616))))))]) (g' := [(0, some (27, .ds [iD N, iD W]))]) (nx' := 1) (by kernel_rfl) ⟨⟨by omega, by omega⟩, (B_Mul64 n N (by omega) (by omega))⟩ ?_
    refine AW.seq ?_
    by_cases hx4 : (W ≤ ((n * N) / 18446744073709551616))
    · refine AW.rgs [.no, .no, .no, .w, .b true] [3, 8, 9, 10, 32] [0] (P := (0 ≤ W ∧ W ≤ 18446744073709551615) ∧ ((W ≤ ((n * N) / 18446744073709551616)))) (l' := [(3, rV 0 0), (8, bV false), (9, .e (.c (.d (D.lit (.int .u64 ((n * N) / 18446744073709551616)))))), (10, .e (.c (.d (D.lit (.int .u64 ((n * N) % 18446744073709551616)))))), (32, bV true)]) (g' := [(0, some (27, .ds [iD N, iD W]))]) (nx' := 1) (by kernel_rfl) ⟨⟨by omega, by omega⟩, (by omega)⟩ ?_
      refine AW.cond_t (.tmp (Look.of rfl)) ?_
      refine AW.rgs [.no, .no, .no] [4, 5, 6] [] (P := True) (l' := [(4, iV 0), (5, iV 0), (6, bV false)]) (g' := []) (nx' := 1) (by kernel_rfl) trivial ?_
      refine AW.ret ?_
      exact EndP.of (.inr rfl) [] (P := ((0 : Int) = 0) ∧ ((0 : Int) = 0) ∧ (false = false)) (by kernel_rfl) ⟨rfl, rfl, rfl⟩
    · refine AW.rgs [.no, .no, .no, .w, .b false] [3, 8, 9, 10, 32] [0] (P := (0 ≤ W ∧ W ≤ 18446744073709551615) ∧ (¬ (W ≤ ((n * N) / 18446744073709551616)))) (l' := [(3, rV 0 0), (8, bV false), (9, .e (.c (.d (D.lit (.int .u64 ((n * N) / 18446744073709551616)))))), (10, .e (.c (.d (D.lit (.int .u64 ((n * N) % 18446744073709551616)))))), (32, bV false)]) (g' := [(0, some (27, .ds [iD N, iD W]))]) (nx' := 1) (by kernel_rfl) ⟨⟨by omega, by omega⟩, (by omega)⟩ ?_
      refine AW.cond_f (.tmp (Look.of rfl)) ?_
      refine AW.skip ?_
      refine AW.rgs [.no, .no, .no, .no, .w, .call [] (.tup [.c (.d (D.lit (.int .u64 ((n * N) / W)))), .c (.d (D.lit (.int .u64 ((n * N) % W))))]) [] 0 [] none, .no, .no, .no, .no, .no] [3, 8, 11, 12] [0] (P := (0 ≤ W ∧ W ≤ 18446744073709551615) ∧ (_)) (l' := [(3, rV 0 0), (8, bV false), (11, .e (.c (.d (D.lit (.int .u64 ((n * N) / W)))))), (12, .e (.c (.d (D.lit (.int .u64 ((n * N) % W))))))]) (g' := [(0, some (27, .ds [iD N, iD W]))]) (nx' := 1) (by kernel_rfl) ⟨⟨by omega, by omega⟩, (B_DivP n N W (by omega) (by omega))⟩ ?_
      refine AW.seq ?_
      refine AW.rgs [.no, .b true] [3, 8, 11, 12, 43] [0] (P := (((4611686018427387904 : Int) < ((n * N) / W)))) (l' := [(3, rV 0 0), (8, bV false), (11, .e (.c (.d (D.lit (.int .u64 ((n * N) / W)))))), (12, .e (.c (.d (D.lit (.int .u64 ((n * N) % W)))))), (43, bV true)]) (g' := [(0, some (27, .ds [iD N, iD W]))]) (nx' := 1) (by kernel_rfl) (by omega) ?_
      refine AW.cond_t (.tmp (Look.of rfl)) ?_
      refine AW.rgs [.no, .no, .no] [4, 5, 6] [] (P := True) (l' := [(4, iV 0), (5, iV 0), (6, bV false)]) (g' := []) (nx' := 1) (by kernel_rfl) trivial ?_
      refine AW.ret ?_
      exact EndP.of (.inr rfl) [] (P := ((0 : Int) = 0) ∧ ((0 : Int) = 0) ∧ (false = false)) (by kernel_rfl) ⟨rfl, rfl, rfl⟩

set_option maxHeartbeats 4000000 in
set_option maxRecDepth 100000 in
theorem K_Floor_p_in (n N W : Int) (hok : ratOk N W = true) (hn : -1125899906842624 ≤ n ∧ n ≤ 1125899906842624) (hq : -4611686018427387904 ≤ n * N / W ∧ n * N / W ≤ 4611686018427387904) : Fun 51 [iE n, .agg [iC N, iC W]] (toG []) 0 (.tup [iE ((n * N) / W), iE 0]) (toG []) 0 := by
  have hND : 1 ≤ N ∧ N ≤ 68719476736 ∧ 1 ≤ W ∧ W ≤ 68719476736 := ratOk_of hok
  have hneg : (n * N % W = 0 ∧ (0 - n) * N % W = 0 ∧ (0 - n) * N / W = 0 - n * N / W) ∨ (0 < n * N % W ∧ (0 - n) * N % W = W - n * N % W ∧ (0 - n) * N / W = 0 - n * N / W - 1) := dv_neg hND.2.2.1
  have hqa : (0 ≤ n * N % W ∧ n * N % W < W) ∧ (0 ≤ (0 - n) * N % W ∧ (0 - n) * N % W < W) := ⟨dv_mod hND.2.2.1, dv_mod hND.2.2.1⟩
  have hsg : (n < 0 ∧ 0 ≤ (0 - n) * N / W) ∨ (0 ≤ n ∧ 0 ≤ n * N / W) := (int_lg n).imp (fun h9 => ⟨h9, (dv_pos (by omega) hND.1 hND.2.2.1).2⟩) (fun h9 => ⟨h9, (dv_pos h9 hND.1 hND.2.2.1).2⟩)
  refine Fun.mk (n := 27) Try.func51 rfl rfl (Nat.le_of_ble_eq_true rfl) ?_
  intro cx hcx
  refine AW.rgs [.no, .no, .no] [0, 3] [0] (P := True) (l' := [(0, iV n), (3, rV 0 0)]) (g' := [(0, some (27, .ds [iD N, iD W]))]) (nx' := 1) (by kernel_rfl) trivial ?_
  refine AW.seq ?_
  refine AW.rgs [.no, .no, .call [] (iV 0) [] 0 [] none, .no] [0, 3, 6] [0] (P := (_)) (l' := [(0, iV n), (3, rV 0 0), (6, iV 0)]) (g' := [(0, some (27, .ds [iD N, iD W]))]) (nx' := 1) (by kernel_rfl) (K_check_ok n N W hok (by omega)) ?_
  refine AW.rgs [.no, .b false] [0, 3, 6, 14] [0] (P := (¬ ((0 : Int) ≠ 0))) (l' := [(0, iV n), (3, rV 0 0), (6, iV 0), (14, bV false)]) (g' := [(0, some (27, .ds [iD N, iD W]))]) (nx' := 1) (by kernel_rfl) (by omega) ?_
  refine AW.cond_f (.tmp (Look.of rfl)) ?_
  refine AW.skip ?_
  obtain ⟨q1, t2, z3, hx1, hx2, hx3, hF3⟩ := (K_both n N W (by omega) (by omega) (by omega))
  refine AW.rgs [.no, .no, .call [] (.tup [iE q1, iE t2, iE z3]) [] 0 [] none, .no, .no, .no, .no, .no, .no, .no] [7] [] (P := (_)) (l' := [(7, iV q1)]) (g' := []) (nx' := 1) (by kernel_rfl) hF3 ?_
  refine AW.seq ?_
  refine AW.rgs [.no, .call [] (bV true) [] 0 [] none, .no] [7, 25] [] (P := (_)) (l' := [(7, iV q1), (25, bV false)]) (g' := []) (nx' := 1) (by kernel_rfl) (Fun.y (K_inR q1) (y' := bV true) (congrArg (fun b => LV (.bool b)) (decide_eq_true (by omega)))) ?_
  refine AW.cond_f (.tmp (Look.of rfl)) ?_
  refine AW.skip ?_
  refine AW.rgs [.no, .no, .no] [4, 5] [] (P := True) (l' := [(4, iV q1), (5, iV 0)]) (g' := []) (nx' := 1) (by kernel_rfl) trivial ?_
  refine AW.ret ?_
  exact EndP.of (.inr rfl) [] (P := ((((n * N) / W) : Int) = q1) ∧ ((0 : Int) = 0)) (by kernel_rfl) ⟨(by first | rfl | omega), rfl⟩

set_option maxHeartbeats 4000000 in
set_option maxRecDepth 100000 in
theorem K_Floor_p_out (n N W : Int) (hok : ratOk N W = true) (hn : -1125899906842624 ≤ n ∧ n ≤ 1125899906842624) (hq : ¬ (-4611686018427387904 ≤ n * N / W ∧ n * N / W ≤ 4611686018427387904)) : Fun 51 [iE n, .agg [iC N, iC W]] (toG []) 0 (.tup [iE 0, iE 2]) (toG []) 0 := by
  have hND : 1 ≤ N ∧ N ≤ 68719476736 ∧ 1 ≤ W ∧ W ≤ 68719476736 := ratOk_of hok
  have hneg : (n * N % W = 0 ∧ (0 - n) * N % W = 0 ∧ (0 - n) * N / W = 0 - n * N / W) ∨ (0 < n * N % W ∧ (0 - n) * N % W = W - n * N % W ∧ (0 - n) * N / W = 0 - n * N / W - 1) := dv_neg hND.2.2.1
  have hqa : (0 ≤ n * N % W ∧ n * N % W < W) ∧ (0 ≤ (0 - n) * N % W ∧ (0 - n) * N % W < W) := ⟨dv_mod hND.2.2.1, dv_mod hND.2.2.1⟩
  have hsg : (n < 0 ∧ 0 ≤ (0 - n) * N / W) ∨ (0 ≤ n ∧ 0 ≤ n * N / W) := (int_lg n).imp (fun h9 => ⟨h9, (dv_pos (by omega) hND.1 hND.2.2.1).2⟩) (fun h9 => ⟨h9, (dv_pos h9 hND.1 hND.2.2.1).2⟩)
  refine Fun.mk (n := 27) Try.func51 rfl rfl (Nat.le_of_ble_eq_true rfl) ?_
  intro cx hcx
  refine AW.rgs [.no, .no, .no] [0, 3] [0] (P := True) (l' := [(0, iV n), (3, rV 0 0)]) (g' := [(0, some (27, .ds [iD N, iD W]))]) (nx' := 1) (by kernel_rfl) trivial ?_
  refine AW.seq ?_
  refine AW.rgs [.no, .no, .call [] (iV 0) [] 0 [] none, .no] [0, 3, 6] [0] (P := (_)) (l' := [(0, iV n), (3, rV 0 0), (6, iV 0)]) (g' := [(0, some (27, .ds [iD N, iD W]))]) (nx' := 1) (by kernel_rfl) (K_check_ok n N W hok (by omega)) ?_
  refine AW.rgs [.no, .b false] [0, 3, 6, 14] [0] (P := (¬ ((0 : Int) ≠ 0))) (l' := [(0, iV n), (3, rV 0 0), (6, iV 0), (14, bV false)]) (g' := [(0, some (27, .ds [iD N, iD W]))]) (nx' := 1) (by kernel_rfl) (by omega) ?_
  refine AW.cond_f (.tmp (Look.of rfl)) ?_
  refine AW.skip ?_
  obtain ⟨q1, t2, z3, hx1, hx2, hx3, hF3⟩ := (K_both n N W (by omega) (by omega) (by omega))
  refine AW.rgs [.no, .no, .call [] (.tup [iE q1, iE t2, iE z3]) [] 0 [] none, .no, .no, .no, .no, .no, .no, .no] [7] [] (P := (_)) (l' := [(7, iV q1)]) (g' := []) (nx' := 1) (by kernel_rfl) hF3 ?_
  refine AW.seq ?_
  refine AW.rgs [.no, .call [] (bV false) [] 0 [] none, .no] [7, 25] [] (P := (_)) (l' := [(7, iV q1), (25, bV true)]) (g' := []) (nx' := 1) (by kernel_rfl) (Fun.y (K_inR q1) (y' := bV false) (congrArg (fun b => LV (.bool b)) (decide_eq_false (by omega)))) ?_
  refine AW.cond_t (.tmp (Look.of rfl)) ?_
  refine AW.rgs [.no, .no] [4, 5] [] (P := True) (l' := [(4, iV 0), (5, iV 2)]) (g' := []) (nx' := 1) (by kernel_rfl) trivial ?_
  refine AW.ret ?_
  exact EndP.of (.inr rfl) [] (P := ((0 : Int) = 0) ∧ ((2 : Int) = 2)) (by kernel_rfl) ⟨rfl, rfl⟩

set_option maxHeartbeats 4000000 in
set_option maxRecDepth 100000 in
theorem K_Floor_p_rng (n N W : Int) (hok : ratOk N W = true) (hn : ¬ (-1125899906842624 ≤ n ∧ n ≤ 1125899906842624)) : Fun 51 [iE n, .agg [iC N, iC W]] (toG []) 0 (.tup [iE 0, iE 2]) (toG []) 0 := by
  have hND : 1 ≤ N ∧ N ≤ 68719476736 ∧ 1 ≤ W ∧ W ≤ 68719476736 := ratOk_of hok
  refine Fun.mk (n := 27) Try.func51 rfl rfl (Nat.le_of_ble_eq_true rfl) ?_
  intro cx hcx
  refine AW.rgs [.no, .no, .no] [0, 3] [0] (P := True) (l' := [(0, iV n), (3, rV 0 0)]) (g' := [(0, some (27, .ds [iD N, iD W]))]) (nx' := 1) (by kernel_rfl) trivial ?_
  refine AW.seq ?_
  refine AW.rgs [.no, .no, .call [] (iV 2) [] 0 [] none, .no] [0, 3, 6] [0] (P := (_)) (l' := [(0, iV n), (3, rV 0 0), (6, iV 2)]) (g' := [(0, some (27, .ds [iD N, iD W]))]) (nx' := 1) (by kernel_rfl) (K_check_out n N W hok (by first | omega | with_reducible assumption | (simp <;> omega) | rfl | assumption)) ?_
  refine AW.rgs [.no, .b true] [0, 3, 6, 14] [0] (P := (((2 : Int) ≠ 0))) (l' := [(0, iV n), (3, rV 0 0), (6, iV 2), (14, bV true)]) (g' := [(0, some (27, .ds [iD N, iD W]))]) (nx' := 1) (by kernel_rfl) (by omega) ?_
  refine AW.cond_t (.tmp (Look.of rfl)) ?_
  refine AW.rgs [.no, .no, .no] [4, 5] [] (P := True) (l' := [(4, iV 0), (5, iV 2)]) (g' := []) (nx' := 1) (by kernel_rfl) trivial ?_
  refine AW.ret ?_
  exact EndP.of (.inr rfl) [] (P := ((0 : Int) = 0) ∧ ((2 : Int) = 2)) (by kernel_rfl) ⟨rfl, rfl⟩

set_option maxHeartbeats 4000000 in
set_option maxRecDepth 100000 in
theorem K_Floor_p_no (n N W : Int) (hok : ratOk N W = false) : Fun 51 [iE n, .agg [iC N, iC W]] (toG []) 0 (.tup [iE 0, iE 1]) (toG []) 0 := by
  refine Fun.mk (n := 27) Try.func51 rfl rfl (Nat.le_of_ble_eq_true rfl) ?_
  intro cx hcx
  refine AW.rgs [.no, .no, .no] [0, 3] [0] (P := True) (l' := [(0, iV n), (3, rV 0 0)]) (g' := [(0, some (27, .ds [iD N, iD W]))]) (nx' := 1) (by kernel_rfl) trivial ?_
  refine AW.seq ?_
  refine AW.rgs [.no, .no, .call [] (iV 1) [] 0 [] none, .no] [0, 3, 6] [0] (P := (_)) (l' := [(0, iV n), (3, rV 0 0), (6, iV 1)]) (g' := [(0, some (27, .ds [iD N, iD W]))]) (nx' := 1) (by kernel_rfl) (K_check_no n N W hok) ?_
  refine AW.rgs [.no, .b true] [0, 3, 6, 14] [0] (P := (((1 : Int) ≠ 0))) (l' := [(0, iV n), (3, rV 0 0), (6, iV 1), (14, bV true)]) (g' := [(0, some (27, .ds [iD N, iD W]))]) (nx' := 1) (by kernel_rfl) (by omega) ?_
  refine AW.cond_t (.tmp (Look.of rfl)) ?_
  refine AW.rgs [.no, .no, .no] [4, 5] [] (P := True) (l' := [(4, iV 0), (5, iV 1)]) (g' := []) (nx' := 1) (by kernel_rfl) trivial ?_
  refine AW.ret ?_
  exact EndP.of (.inr rfl) [] (P := ((0 : Int) = 0) ∧ ((1 : Int) = 1)) (by kernel_rfl) ⟨rfl, rfl⟩

theorem F_Floor_p (n N W : Int) : Fun 51 [iE n, .agg [iC N, iC W]] (toG []) 0 (.tup [iE (vR n N W ((n * N) / W) ((n * N) / W)), iE (eR n N W ((n * N) / W))]) (toG []) 0 := by
  by_cases h1 : ratOk N W = true
  · by_cases h2 : -1125899906842624 ≤ n ∧ n ≤ 1125899906842624
    · by_cases h3 : -4611686018427387904 ≤ n * N / W ∧ n * N / W ≤ 4611686018427387904
      · rw [(vR_in (z := n * N / W) h1 h2 h3).1, (vR_in (z := n * N / W) h1 h2 h3).2]; exact K_Floor_p_in n N W h1 h2 h3
      · rw [(vR_out (z := n * N / W) h1 (fun h9 => h3 h9.2)).1, (vR_out (z := n * N / W) h1 (fun h9 => h3 h9.2)).2]; exact K_Floor_p_out n N W h1 h2 h3
    · rw [(vR_out (q := n * N / W) (z := n * N / W) h1 (fun h9 => h2 h9.1)).1, (vR_out (q := n * N / W) (z := n * N / W) h1 (fun h9 => h2 h9.1)).2]; exact K_Floor_p_rng n N W h1 h2
  · have h1 : ratOk N W = false := by simpa using h1
    rw [(vR_no (n := n) (q := n * N / W) (z := n * N / W) h1).1, (vR_no (n := n) (q := n * N / W) (z := n * N / W) h1).2]; exact K_Floor_p_no n N W h1

set_option maxHeartbeats 4000000 in
set_option maxRecDepth 100000 in
theorem K_Ceil_p_in (n N W : Int) (hok : ratOk N W = true) (hn : -1125899906842624 ≤ n ∧ n ≤ 1125899906842624) (hq : -4611686018427387904 ≤ (0 - n) * N / W ∧ (0 - n) * N / W ≤ 4611686018427387904) : Fun 38 [iE n, .agg [iC N, iC W]] (toG []) 0 (.tup [iE (0 - (((0 - n) * N) / W)), iE 0]) (toG []) 0 := by
  have hND : 1 ≤ N ∧ N ≤ 68719476736 ∧ 1 ≤ W ∧ W ≤ 68719476736 := ratOk_of hok
  have hneg : (n * N % W = 0 ∧ (0 - n) * N % W = 0 ∧ (0 - n) * N / W = 0 - n * N / W) ∨ (0 < n * N % W ∧ (0 - n) * N % W = W - n * N % W ∧ (0 - n) * N / W = 0 - n * N / W - 1) := dv_neg hND.2.2.1
  have hqa : (0 ≤ n * N % W ∧ n * N % W < W) ∧ (0 ≤ (0 - n) * N % W ∧ (0 - n) * N % W < W) := ⟨dv_mod hND.2.2.1, dv_mod hND.2.2.1⟩
  have hsg : (n < 0 ∧ 0 ≤ (0 - n) * N / W) ∨ (0 ≤ n ∧ 0 ≤ n * N / W) := (int_lg n).imp (fun h9 => ⟨h9, (dv_pos (by omega) hND.1 hND.2.2.1).2⟩) (fun h9 => ⟨h9, (dv_pos h9 hND.1 hND.2.2.1).2⟩)
  refine Fun.mk (n := 27) Try.func38 rfl rfl (Nat.le_of_ble_eq_true rfl) ?_
  intro cx hcx
  refine AW.rgs [.no, .no, .no] [0, 3] [0] (P := True) (l' := [(0, iV n), (3, rV 0 0)]) (g' := [(0, some (27, .ds [iD N, iD W]))]) (nx' := 1) (by kernel_rfl) trivial ?_
  refine AW.seq ?_
  refine AW.rgs [.no, .no, .call [] (iV 0) [] 0 [] none, .no] [0, 3, 6] [0] (P := (_)) (l' := [(0, iV n), (3, rV 0 0), (6, iV 0)]) (g' := [(0, some (27, .ds [iD N, iD W]))]) (nx' := 1) (by kernel_rfl) (K_check_ok n N W hok (by omega)) ?_
  refine AW.rgs [.no, .b false] [0, 3, 6, 14] [0] (P := (¬ ((0 : Int) ≠ 0))) (l' := [(0, iV n), (3, rV 0 0), (6, iV 0), (14, bV false)]) (g' := [(0, some (27, .ds [iD N, iD W]))]) (nx' := 1) (by kernel_rfl) (by omega) ?_
  refine AW.cond_f (.tmp (Look.of rfl)) ?_
  refine AW.skip ?_
  obtain ⟨q1, t2, z3, hx1, hx2, hx3, hF3⟩ := (K_both n N W (by omega) (by omega) (by omega))
  refine AW.rgs [.no, .no, .call [] (.tup [iE q1, iE t2, iE z3]) [] 0 [] none, .no, .no, .no, .no, .no, .no, .no] [9] [] (P := (_)) (l' := [(9, iV z3)]) (g' := []) (nx' := 1) (by kernel_rfl) hF3 ?_
  refine AW.seq ?_
  refine AW.rgs [.no, .call [] (bV true) [] 0 [] none, .no] [9, 25] [] (P := (_)) (l' := [(9, iV z3), (25, bV false)]) (g' := []) (nx' := 1) (by kernel_rfl) (Fun.y (K_inR z3) (y' := bV true) (congrArg (fun b => LV (.bool b)) (decide_eq_true (by omega)))) ?_
  refine AW.cond_f (.tmp (Look.of rfl)) ?_
  refine AW.skip ?_
  refine AW.rgs [.no, .no, .no] [4, 5] [] (P := True) (l' := [(4, iV z3), (5, iV 0)]) (g' := []) (nx' := 1) (by kernel_rfl) trivial ?_
  refine AW.ret ?_
  exact EndP.of (.inr rfl) [] (P := (((0 - (((0 - n) * N) / W)) : Int) = z3) ∧ ((0 : Int) = 0)) (by kernel_rfl) ⟨(by first | rfl | omega), rfl⟩

set_option maxHeartbeats 4000000 in
set_option maxRecDepth 100000 in
theorem K_Ceil_p_out (n N W : Int) (hok : ratOk N W = true) (hn : -1125899906842624 ≤ n ∧ n ≤ 1125899906842624) (hq : ¬ (-4611686018427387904 ≤ (0 - n) * N / W ∧ (0 - n) * N / W ≤ 4611686018427387904)) : Fun 38 [iE n, .agg [iC N, iC W]] (toG []) 0 (.tup [iE 0, iE 2]) (toG []) 0 := by
  have hND : 1 ≤ N ∧ N ≤ 68719476736 ∧ 1 ≤ W ∧ W ≤ 68719476736 := ratOk_of hok
  have hneg : (n * N % W = 0 ∧ (0 - n) * N % W = 0 ∧ (0 - n) * N / W = 0 - n * N / W) ∨ (0 < n * N % W ∧ (0 - n) * N % W = W - n * N % W ∧ (0 - n) * N / W = 0 - n * N / W - 1) := dv_neg hND.2.2.1
  have hqa : (0 ≤ n * N % W ∧ n * N % W < W) ∧ (0 ≤ (0 - n) * N % W ∧ (0 - n) * N % W < W) := ⟨dv_mod hND.2.2.1, dv_mod hND.2.2.1⟩
  have hsg : (n < 0 ∧ 0 ≤ (0 - n) * N / W) ∨ (0 ≤ n ∧ 0 ≤ n * N / W) := (int_lg n).imp (fun h9 => ⟨h9, (dv_pos (by omega) hND.1 hND.2.2.1).2⟩) (fun h9 => ⟨h9, (dv_pos h9 hND.1 hND.2.2.1).2⟩)
  refine Fun.mk (n := 27) Try.func38 rfl rfl (Nat.le_of_ble_eq_true rfl) ?_
  intro cx hcx
  refine AW.rgs [.no, .no, .no] [0, 3] [0] (P := True) (l' := [(0, iV n), (3, rV 0 0)]) (g' := [(0, some (27, .ds [iD N, iD W]))]) (nx' := 1) (by kernel_rfl) trivial ?_
  refine AW.seq ?_
  refine AW.rgs [.no, .no, .call [] (iV 0) [] 0 [] none, .no] [0, 3, 6] [0] (P := (_)) (l' := [(0, iV n), (3, rV 0 0), (6, iV 0)]) (g' := [(0, some (27, .ds [iD N, iD W]))]) (nx' := 1) (by kernel_rfl) (K_check_ok n N W hok (by omega)) ?_
  refine AW.rgs [.no, .b false] [0, 3, 6, 14] [0] (P := (¬ ((0 : Int) ≠ 0))) (l' := [(0, iV n), (3, rV 0 0), (6, iV 0), (14, bV false)]) (g' := [(0, some (27, .ds [iD N, iD W]))]) (nx' := 1) (by kernel_rfl) (by omega) ?_
  refine AW.cond_f (.tmp (Look.of rfl)) ?_
  refine AW.skip ?_
  obtain ⟨q1, t2, z3, hx1, hx2, hx3, hF3⟩ := (K_both n N W (by omega) (by omega) (by omega))
  refine AW.rgs [.no, .no, .call [] (.tup [iE q1, iE t2, iE z3]) [] 0 [] none, .no, .no, .no, .no, .no, .no, .no] [9] [] (P := (_)) (l' := [(9, iV z3)]) (g' := []) (nx' := 1) (by kernel_rfl) hF3 ?_
  refine AW.seq ?_
  refine AW.rgs [.no, .call [] (bV false) [] 0 [] none, .no] [9, 25] [] (P := (_)) (l' := [(9, iV z3), (25, bV true)]) (g' := []) (nx' := 1) (by kernel_rfl) (Fun.y (K_inR z3) (y' := bV false) (congrArg (fun b => LV (.bool b)) (decide_eq_false (by omega)))) ?_
  refine AW.cond_t (.tmp (Look.of rfl)) ?_
  refine AW.rgs [.no, .no] [4, 5] [] (P := True) (l' := [(4, iV 0), (5, iV 2)]) (g' := []) (nx' := 1) (by kernel_rfl) trivial ?_
  refine AW.ret ?_
  exact EndP.of (.inr rfl) [] (P := ((0 : Int) = 0) ∧ ((2 : Int) = 2)) (by kernel_rfl) ⟨rfl, rfl⟩

set_option maxHeartbeats 4000000 in
set_option maxRecDepth 100000 in
theorem K_Ceil_p_rng (n N W : Int) (hok : ratOk N W = true) (hn : ¬ (-1125899906842624 ≤ n ∧ n ≤ 1125899906842624)) : Fun 38 [iE n, .agg [iC N, iC W]] (toG []) 0 (.tup [iE 0, iE 2]) (toG []) 0 := by
  have hND : 1 ≤ N ∧ N ≤ 68719476736 ∧ 1 ≤ W ∧ W ≤ 68719476736 := ratOk_of hok
  refine Fun.mk (n := 27) Try.func38 rfl rfl (Nat.le_of_ble_eq_true rfl) ?_
  intro cx hcx
  refine AW.rgs [.no, .no, .no] [0, 3] [0] (P := True) (l' := [(0, iV n), (3, rV 0 0)]) (g' := [(0, some (27, .ds [iD N, iD W]))]) (nx' := 1) (by kernel_rfl) trivial ?_
  refine AW.seq ?_
  refine AW.rgs [.no, .no, .call [] (iV 2) [] 0 [] none, .no] [0, 3, 6] [0] (P := (_)) (l' := [(0, iV n), (3, rV 0 0), (6, iV 2)]) (g' := [(0, some (27, .ds [iD N, iD W]))]) (nx' := 1) (by kernel_rfl) (K_check_out n N W hok (by first | omega | with_reducible assumption | (simp <;> omega) | rfl | assumption)) ?_
  refine AW.rgs [.no, .b true] [0, 3, 6, 14] [0] (P := (((2 : Int) ≠ 0))) (l' := [(0, iV n), (3, rV 0 0), (6, iV 2), (14, bV true)]) (g' := [(0, some (27, .ds [iD N, iD W]))]) (nx' := 1) (by kernel_rfl) (by omega) ?_
  refine AW.cond_t (.tmp (Look.of rfl)) ?_
  refine AW.rgs [.no, .no, .no] [4, 5] [] (P := True) (l' := [(4, iV 0), (5, iV 2)]) (g' := []) (nx' := 1) (by kernel_rfl) trivial ?_
  refine AW.ret ?_
  exact EndP.of (.inr rfl) [] (P := ((0 : Int) = 0) ∧ ((2 : Int) = 2)) (by kernel_rfl) ⟨rfl, rfl⟩

set_option maxHeartbeats 4000000 in
set_option maxRecDepth 100000 in
theorem K_Ceil_p_no (n N W : Int) (hok : ratOk N W = false) : Fun 38 [iE n, .agg [iC N, iC W]] (toG []) 0 (.tup [iE 0, iE 1]) (toG []) 0 := by
  refine Fun.mk (n := 27) Try.func38 rfl rfl (Nat.le_of_ble_eq_true rfl) ?_
  intro cx hcx
  refine AW.rgs [.no, .no, .no] [0, 3] [0] (P := True) (l' := [(0, iV n), (3, rV 0 0)]) (g' := [(0, some (27, .ds [iD N, iD W]))]) (nx' := 1) (by kernel_rfl) trivial ?_
  refine AW.seq ?_
  refine AW.rgs [.no, .no, .call [] (iV 1) [] 0 [] none, .no] [0, 3, 6] [0] (P := (_)) (l' := [(0, iV n), (3, rV 0 0), (6, iV 1)]) (g' := [(0, some (27, .ds [iD N, iD W]))]) (nx' := 1) (by kernel_rfl) (K_check_no n N W hok) ?_
  refine AW.rgs [.no, .b true] [0, 3, 6, 14] [0] (P := (((1 : Int) ≠ 0))) (l' := [(0, iV n), (3, rV 0 0), (6, iV 1), (14, bV true)]) (g' := [(0, some (27, .ds [iD N, iD W]))]) (nx' := 1) (by kernel_rfl) (by omega) ?_
  refine AW.cond_t (.tmp (Look.of rfl)) ?_
  refine AW.rgs [.no, .no, .no] [4, 5] [] (P := True) (l' := [(4, iV 0), (5, iV 1)]) (g' := []) (nx' := 1) (by kernel_rfl) trivial ?_
  refine AW.ret ?_
  exact EndP.of (.inr rfl) [] (P := ((0 : Int) = 0) ∧ ((1 : Int) = 1)) (by kernel_rfl) ⟨rfl, rfl⟩

theorem F_Ceil_p (n N W : Int) : Fun 38 [iE n, .agg [iC N, iC W]] (toG []) 0 (.tup [iE (vR n N W (((0 - n) * N) / W) (0 - (((0 - n) * N) / W))), iE (eR n N W (((0 - n) * N) / W))]) (toG []) 0 := by
  by_cases h1 : ratOk N W = true
  · by_cases h2 : -1125899906842624 ≤ n ∧ n ≤ 1125899906842624
    · by_cases h3 : -4611686018427387904 ≤ (0 - n) * N / W ∧ (0 - n) * N / W ≤ 4611686018427387904
      · rw [(vR_in (z := 0 - (0 - n) * N / W) h1 h2 h3).1, (vR_in (z := 0 - (0 - n) * N / W) h1 h2 h3).2]; exact K_Ceil_p_in n N W h1 h2 h3
      · rw [(vR_out (z := 0 - (0 - n) * N / W) h1 (fun h9 => h3 h9.2)).1, (vR_out (z := 0 - (0 - n) * N / W) h1 (fun h9 => h3 h9.2)).2]; exact K_Ceil_p_out n N W h1 h2 h3
    · rw [(vR_out (q := (0 - n) * N / W) (z := 0 - (0 - n) * N / W) h1 (fun h9 => h2 h9.1)).1, (vR_out (q := (0 - n) * N / W) (z := 0 - (0 - n) * N / W) h1 (fun h9 => h2 h9.1)).2]; exact K_Ceil_p_rng n N W h1 h2
  · have h1 : ratOk N W = false := by simpa using h1
    rw [(vR_no (n := n) (q := (0 - n) * N / W) (z := 0 - (0 - n) * N / W) h1).1, (vR_no (n := n) (q := (0 - n) * N / W) (z := 0 - (0 - n) * N / W) h1).2]; exact K_Ceil_p_no n N W h1

set_option maxHeartbeats 4000000 in
set_option maxRecDepth 100000 in
theorem K_Floor_r_in (n N W : Int) (hok : ratOk N W = true) (hn : -1125899906842624 ≤ n ∧ n ≤ 1125899906842624) (hq : -4611686018427387904 ≤ n * N / W ∧ n * N / W ≤ 4611686018427387904) : Fun 49 [iE n, .agg [iC N, iC W]] (toG []) 0 (.tup [iE ((n * N) / W), iE 0]) (toG []) 0 := by
  have hND : 1 ≤ N ∧ N ≤ 68719476736 ∧ 1 ≤ W ∧ W ≤ 68719476736 := ratOk_of hok
  have hneg : (n * N % W = 0 ∧ (0 - n) * N % W = 0 ∧ (0 - n) * N / W = 0 - n * N / W) ∨ (0 < n * N % W ∧ (0 - n) * N % W = W - n * N % W ∧ (0 - n) * N / W = 0 - n * N / W - 1) := dv_neg hND.2.2.1
  have hqa : (0 ≤ n * N % W ∧ n * N % W < W) ∧ (0 ≤ (0 - n) * N % W ∧ (0 - n) * N % W < W) := ⟨dv_mod hND.2.2.1, dv_mod hND.2.2.1⟩
  have hsg : (n < 0 ∧ 0 ≤ (0 - n) * N / W) ∨ (0 ≤ n ∧ 0 ≤ n * N / W) := (int_lg n).imp (fun h9 => ⟨h9, (dv_pos (by omega) hND.1 hND.2.2.1).2⟩) (fun h9 => ⟨h9, (dv_pos h9 hND.1 hND.2.2.1).2⟩)
  refine Fun.mk (n := 28) Try.func49 rfl rfl (Nat.le_of_ble_eq_true rfl) ?_
  intro cx hcx
  refine AW.rgs [.no, .no, .no] [0, 3] [0] (P := True) (l' := [(0, iV n), (3, rV 0 0)]) (g' := [(0, some (27, .ds [iD N, iD W]))]) (nx' := 1) (by kernel_rfl) trivial ?_
  refine AW.seq ?_
  refine AW.rgs [.no, .call [] (bV true) [] 0 [] none, .no] [0, 3, 11] [0] (P := (Fun 47 [.agg [iC N, iC W]] (toG []) 0 (bV true) (toG []) 0)) (l' := [(0, iV n), (3, rV 0 0), (11, bV false)]) (g' := [(0, some (27, .ds [iD N, iD W]))]) (nx' := 1) (by kernel_rfl) (by have h0 := (R_Valid_r N W); rw [hok] at h0; exact h0) ?_
  refine AW.cond_f (.tmp (Look.of rfl)) ?_
  refine AW.skip ?_
  refine AW.seq ?_
  refine AW.rgs [.no, .b false, .no, .no, .b false, .no] [0, 3, 17] [0] (P := (¬ (n < (-1125899906842624))) ∧ (¬ ((1125899906842624 : Int) < n))) (l' := [(0, iV n), (3, rV 0 0), (17, bV false)]) (g' := [(0, some (27, .ds [iD N, iD W]))]) (nx' := 1) (by kernel_rfl) ⟨(by omega), (by omega)⟩ ?_
  refine AW.cond_f (.tmp (Look.of rfl)) ?_
  refine AW.skip ?_
  refine AW.rgs [.no, .no, .call [] (.tup [iE ((n * N) / W), iE ((n * N) % W), .c (.d (D.lit (.bool true)))]) [] 0 [] none, .no, .no, .no, .no, .no, .no, .no] [6, 8] [] (P := (_)) (l' := [(6, iV ((n * N) / W)), (8, bV true)]) (g' := []) (nx' := 1) (by kernel_rfl) (K_div_in n N W (by omega) (by omega) (by omega) (by omega)) ?_
  refine AW.seq ?_
  refine AW.rgs [.no, .no] [6, 26] [] (P := True) (l' := [(6, iV ((n * N) / W)), (26, bV false)]) (g' := []) (nx' := 1) (by kernel_rfl) trivial ?_
  refine AW.cond_f (.tmp (Look.of rfl)) ?_
  refine AW.skip ?_
  refine AW.rgs [.no, .no, .no] [4, 5] [] (P := True) (l' := [(4, iV ((n * N) / W)), (5, iV 0)]) (g' := []) (nx' := 1) (by kernel_rfl) trivial ?_
  refine AW.ret ?_
  exact EndP.of (.inr rfl) [] (P := ((((n * N) / W) : Int) = ((n * N) / W)) ∧ ((0 : Int) = 0)) (by kernel_rfl) ⟨rfl, rfl⟩

set_option maxHeartbeats 4000000 in
set_option maxRecDepth 100000 in
theorem K_Floor_r_out (n N W : Int) (hok : ratOk N W = true) (hn : -1125899906842624 ≤ n ∧ n ≤ 1125899906842624) (hq : ¬ (-4611686018427387904 ≤ n * N / W ∧ n * N / W ≤ 4611686018427387904)) : Fun 49 [iE n, .agg [iC N, iC W]] (toG []) 0 (.tup [iE 0, iE 2]) (toG []) 0 := by
  have hND : 1 ≤ N ∧ N ≤ 68719476736 ∧ 1 ≤ W ∧ W ≤ 68719476736 := ratOk_of hok
  have hneg : (n * N % W = 0 ∧ (0 - n) * N % W = 0 ∧ (0 - n) * N / W = 0 - n * N / W) ∨ (0 < n * N % W ∧ (0 - n) * N % W = W - n * N % W ∧ (0 - n) * N / W = 0 - n * N / W - 1) := dv_neg hND.2.2.1
  have hqa : (0 ≤ n * N % W ∧ n * N % W < W) ∧ (0 ≤ (0 - n) * N % W ∧ (0 - n) * N % W < W) := ⟨dv_mod hND.2.2.1, dv_mod hND.2.2.1⟩
  have hsg : (n < 0 ∧ 0 ≤ (0 - n) * N / W) ∨ (0 ≤ n ∧ 0 ≤ n * N / W) := (int_lg n).imp (fun h9 => ⟨h9, (dv_pos (by omega) hND.1 hND.2.2.1).2⟩) (fun h9 => ⟨h9, (dv_pos h9 hND.1 hND.2.2.1).2⟩)
  refine Fun.mk (n := 28) Try.func49 rfl rfl (Nat.le_of_ble_eq_true rfl) ?_
  intro cx hcx
  refine AW.rgs [.no, .no, .no] [0, 3] [0] (P := True) (l' := [(0, iV n), (3, rV 0 0)]) (g' := [(0, some (27, .ds [iD N, iD W]))]) (nx' := 1) (by kernel_rfl) trivial ?_
  refine AW.seq ?_
  refine AW.rgs [.no, .call [] (bV true) [] 0 [] none, .no] [0, 3, 11] [0] (P := (Fun 47 [.agg [iC N, iC W]] (toG []) 0 (bV true) (toG []) 0)) (l' := [(0, iV n), (3, rV 0 0), (11, bV false)]) (g' := [(0, some (27, .ds [iD N, iD W]))]) (nx' := 1) (by kernel_rfl) (by have h0 := (R_Valid_r N W); rw [hok] at h0; exact h0) ?_
  refine AW.cond_f (.tmp (Look.of rfl)) ?_
  refine AW.skip ?_
  refine AW.seq ?_
  refine AW.rgs [.no, .b false, .no, .no, .b false, .no] [0, 3, 17] [0] (P := (¬ (n < (-1125899906842624))) ∧ (¬ ((1125899906842624 : Int) < n))) (l' := [(0, iV n), (3, rV 0 0), (17, bV false)]) (g' := [(0, some (27, .ds [iD N, iD W]))]) (nx' := 1) (by kernel_rfl) ⟨(by omega), (by omega)⟩ ?_
  refine AW.cond_f (.tmp (Look.of rfl)) ?_
  refine AW.skip ?_
  refine AW.rgs [.no, .no, .call [] (.tup [iE 0, iE 0, .c (.d (D.lit (.bool false)))]) [] 0 [] none, .no, .no, .no, .no, .no, .no, .no] [6, 8] [] (P := (_)) (l' := [(6, iV 0), (8, bV false)]) (g' := []) (nx' := 1) (by kernel_rfl) (K_div_out n N W (by omega) (by omega) (by omega) (by first | omega | with_reducible assumption | (simp <;> omega) | rfl | assumption)) ?_
  refine AW.seq ?_
  refine AW.rgs [.no, .no] [6, 26] [] (P := True) (l' := [(6, iV 0), (26, bV true)]) (g' := []) (nx' := 1) (by kernel_rfl) trivial ?_
  refine AW.cond_t (.tmp (Look.of rfl)) ?_
  refine AW.rgs [.no, .no] [4, 5] [] (P := True) (l' := [(4, iV 0), (5, iV 2)]) (g' := []) (nx' := 1) (by kernel_rfl) trivial ?_
  refine AW.ret ?_
  exact EndP.of (.inr rfl) [] (P := ((0 : Int) = 0) ∧ ((2 : Int) = 2)) (by kernel_rfl) ⟨rfl, rfl⟩

set_option maxHeartbeats 4000000 in
set_option maxRecDepth 100000 in
theorem K_Floor_r_rng (n N W : Int) (hok : ratOk N W = true) (hn : ¬ (-1125899906842624 ≤ n ∧ n ≤ 1125899906842624)) : Fun 49 [iE n, .agg [iC N, iC W]] (toG []) 0 (.tup [iE 0, iE 2]) (toG []) 0 := by
  have hND : 1 ≤ N ∧ N ≤ 68719476736 ∧ 1 ≤ W ∧ W ≤ 68719476736 := ratOk_of hok
  refine Fun.mk (n := 28) Try.func49 rfl rfl (Nat.le_of_ble_eq_true rfl) ?_
  intro cx hcx
  refine AW.rgs [.no, .no, .no] [0, 3] [0] (P := True) (l' := [(0, iV n), (3, rV 0 0)]) (g' := [(0, some (27, .ds [iD N, iD W]))]) (nx' := 1) (by kernel_rfl) trivial ?_
  refine AW.seq ?_
  refine AW.rgs [.no, .call [] (bV true) [] 0 [] none, .no] [0, 3, 11] [0] (P := (Fun 47 [.agg [iC N, iC W]] (toG []) 0 (bV true) (toG []) 0)) (l' := [(0, iV n), (3, rV 0 0), (11, bV false)]) (g' := [(0, some (27, .ds [iD N, iD W]))]) (nx' := 1) (by kernel_rfl) (by have h0 := (R_Valid_r N W); rw [hok] at h0; exact h0) ?_
  refine AW.cond_f (.tmp (Look.of rfl)) ?_
  refine AW.skip ?_
  refine AW.seq ?_
  by_cases hx1 : (n < (-1125899906842624))
  · refine AW.rgs [.no, .b true, .no, .no] [0, 3, 17] [0] (P := ((n < (-1125899906842624)))) (l' := [(0, iV n), (3, rV 0 0), (17, bV true)]) (g' := [(0, some (27, .ds [iD N, iD W]))]) (nx' := 1) (by kernel_rfl) (by omega) ?_
    refine AW.cond_t (.tmp (Look.of rfl)) ?_
    refine AW.rgs [.no, .no] [4, 5] [] (P := True) (l' := [(4, iV 0), (5, iV 2)]) (g' := []) (nx' := 1) (by kernel_rfl) trivial ?_
    refine AW.ret ?_
    exact EndP.of (.inr rfl) [] (P := ((0 : Int) = 0) ∧ ((2 : Int) = 2)) (by kernel_rfl) ⟨rfl, rfl⟩
  · refine AW.rgs [.no, .b false, .no, .no, .b true, .no] [0, 3, 17] [0] (P := (¬ (n < (-1125899906842624))) ∧ (((1125899906842624 : Int) < n))) (l' := [(0, iV n), (3, rV 0 0), (17, bV true)]) (g' := [(0, some (27, .ds [iD N, iD W]))]) (nx' := 1) (by kernel_rfl) ⟨(by omega), (by omega)⟩ ?_
    refine AW.cond_t (.tmp (Look.of rfl)) ?_
    refine AW.rgs [.no, .no] [4, 5] [] (P := True) (l' := [(4, iV 0), (5, iV 2)]) (g' := []) (nx' := 1) (by kernel_rfl) trivial ?_
    refine AW.ret ?_
    exact EndP.of (.inr rfl) [] (P := ((0 : Int) = 0) ∧ ((2 : Int) = 2)) (by kernel_rfl) ⟨rfl, rfl⟩

set_option maxHeartbeats 4000000 in
set_option maxRecDepth 100000 in
theorem K_Floor_r_no (n N W : Int) (hok : ratOk N W = false) : Fun 49 [iE n, .agg [iC N, iC W]] (toG []) 0 (.tup [iE 0, iE 1]) (toG []) 0 := by
  refine Fun.mk (n := 28) Try.func49 rfl rfl (Nat.le_of_ble_eq_true rfl) ?_
  intro cx hcx
  refine AW.rgs [.no, .no, .no] [0, 3] [0] (P := True) (l' := [(0, iV n), (3, rV 0 0)]) (g' := [(0, some (27, .ds [iD N, iD W]))]) (nx' := 1) (by kernel_rfl) trivial ?_
  refine AW.seq ?_
  refine AW.rgs [.no, .call [] (bV false) [] 0 [] none, .no] [0, 3, 11] [0] (P := (Fun 47 [.agg [iC N, iC W]] (toG []) 0 (bV false) (toG []) 0)) (l' := [(0, iV n), (3, rV 0 0), (11, bV true)]) (g' := [(0, some (27, .ds [iD N, iD W]))]) (nx' := 1) (by kernel_rfl) (by have h0 := (R_Valid_r N W); rw [hok] at h0; exact h0) ?_
  refine AW.cond_t (.tmp (Look.of rfl)) ?_
  refine AW.rgs [.no, .no] [4, 5] [] (P := True) (l' := [(4, iV 0), (5, iV 1)]) (g' := []) (nx' := 1) (by kernel_rfl) trivial ?_
  refine AW.ret ?_
  exact EndP.of (.inr rfl) [] (P := ((0 : Int) = 0) ∧ ((1 : Int) = 1)) (by kernel_rfl) ⟨rfl, rfl⟩

theorem F_Floor_r (n N W : Int) : Fun 49 [iE n, .agg [iC N, iC W]] (toG []) 0 (.tup [iE (vR n N W ((n * N) / W) ((n * N) / W)), iE (eR n N W ((n * N) / W))]) (toG []) 0 := by
  by_cases h1 : ratOk N W = true
  · by_cases h2 : -1125899906842624 ≤ n ∧ n ≤ 1125899906842624
    · by_cases h3 : -4611686018427387904 ≤ n * N / W ∧ n * N / W ≤ 4611686018427387904
      · rw [(vR_in (z := n * N / W) h1 h2 h3).1, (vR_in (z := n * N / W) h1 h2 h3).2]; exact K_Floor_r_in n N W h1 h2 h3
      · rw [(vR_out (z := n * N / W) h1 (fun h9 => h3 h9.2)).1, (vR_out (z := n * N / W) h1 (fun h9 => h3 h9.2)).2]; exact K_Floor_r_out n N W h1 h2 h3
    · rw [(vR_out (q := n * N / W) (z := n * N / W) h1 (fun h9 => h2 h9.1)).1, (vR_out (q := n * N / W) (z := n * N / W) h1 (fun h9 => h2 h9.1)).2]; exact K_Floor_r_rng n N W h1 h2
  · have h1 : ratOk N W = false := by simpa using h1
    rw [(vR_no (n := n) (q := n * N / W) (z := n * N / W) h1).1, (vR_no (n := n) (q := n * N / W) (z := n * N / W) h1).2]; exact K_Floor_r_no n N W h1

end Go.Proofs.Yteggelophhpnfaa
