/- Ratios. No statement is proved here. -/
import Derived.Test.YtfcdndlnjdelmaaL64
namespace Go.Proofs.Ytfcdndlnjdelmaa
open Go.ChangeShapes Go.WideShapes Go.ChangeAt Go.RowKit
set_option linter.unusedVariables false
set_option linter.unusedSimpArgs false


def ratOk (n d : Int) : Bool := decide (1 ≤ n ∧ n ≤ 68719476736 ∧ 1 ≤ d ∧ d ≤ 68719476736 ∧ Nat.gcd (Int.toNat n) (Int.toNat d) = 1)
theorem ratOk_t {n d : Int} (h1 : 1 ≤ n ∧ n ≤ 68719476736) (h2 : 1 ≤ d ∧ d ≤ 68719476736) (h3 : Nat.gcd (Int.toNat n) (Int.toNat d) = 1) : ratOk n d = true := decide_eq_true ⟨h1.1, h1.2, h2.1, h2.2, h3⟩
theorem ratOk_f {n d : Int} (h : ¬ (1 ≤ n ∧ n ≤ 68719476736 ∧ 1 ≤ d ∧ d ≤ 68719476736)) : ratOk n d = false := decide_eq_false (fun h9 => h ⟨h9.1, h9.2.1, h9.2.2.1, h9.2.2.2.1⟩)
theorem ratOk_g {n d : Int} (h : ¬ Nat.gcd (Int.toNat n) (Int.toNat d) = 1) : ratOk n d = false := decide_eq_false (fun h9 => h h9.2.2.2.2)
theorem ratOk_of {n d : Int} (h : ratOk n d = true) : 1 ≤ n ∧ n ≤ 68719476736 ∧ 1 ≤ d ∧ d ≤ 68719476736 := by
  have h9 := of_decide_eq_true h
  exact ⟨h9.1, h9.2.1, h9.2.2.1, h9.2.2.2.1⟩
def phB (n d a p f : Int) : Bool := ratOk n d && decide (n ≤ 768000 ∧ d ≤ 768000 ∧ -4096 ≤ a ∧ a ≤ 4096 ∧ 0 ≤ p ∧ p ≤ 1125899906842624 ∧ 0 ≤ f ∧ f < d * 65536)
theorem phB_t {n d a p f : Int} (h : ratOk n d = true) (h2 : n ≤ 768000 ∧ d ≤ 768000 ∧ -4096 ≤ a ∧ a ≤ 4096 ∧ 0 ≤ p ∧ p ≤ 1125899906842624 ∧ 0 ≤ f ∧ f < d * 65536) : phB n d a p f = true := by unfold phB; rw [h, decide_eq_true h2]; rfl
theorem phB_r {n d a p f : Int} (h : ratOk n d = false) : phB n d a p f = false := by unfold phB; rw [h]; rfl
theorem phB_f {n d a p f : Int} (h2 : ¬ (n ≤ 768000 ∧ d ≤ 768000 ∧ -4096 ≤ a ∧ a ≤ 4096 ∧ 0 ≤ p ∧ p ≤ 1125899906842624 ∧ 0 ≤ f ∧ f < d * 65536)) : phB n d a p f = false := by unfold phB; rw [decide_eq_false h2, Bool.and_false]
/-- a phase -/
structure PhV (n d a p f : Int) : Prop where
  rat : ratOk n d = true
  b : (1 ≤ n ∧ n ≤ 768000) ∧ (1 ≤ d ∧ d ≤ 768000) ∧ (-4096 ≤ a ∧ a ≤ 4096) ∧ (0 ≤ p ∧ p ≤ 1125899906842624) ∧ 0 ≤ f ∧ f < d * 65536
theorem PhV.ok {n d a p f : Int} (h : PhV n d a p f) : phB n d a p f = true := phB_t h.rat (by have := h.b; omega)
theorem PhV.of {n d a p f : Int} (h : phB n d a p f = true) : PhV n d a p f := by
  unfold phB at h
  rw [Bool.and_eq_true] at h
  have h1 := ratOk_of h.1
  have h2 := of_decide_eq_true h.2
  exact ⟨h.1, by omega⟩
theorem PhV.mk' {n d a p f p' f' : Int} (h : PhV n d a p f) (h1 : 0 ≤ p' ∧ p' ≤ 1125899906842624) (h2 : 0 ≤ f' ∧ f' < d * 65536) : PhV n d a p' f' := ⟨h.rat, h.b.1, h.b.2.1, h.b.2.2.1, h1, h2⟩
def stp (n a : Int) : Int := n * (65536 + a)
theorem stp_in {n a : Int} (h1 : 1 ≤ n ∧ n ≤ 768000) (h2 : -4096 ≤ a ∧ a ≤ 4096) : 61440 ≤ stp n a ∧ stp n a ≤ 53477376000 := by
  unfold stp
  have e1 : 1 * (65536 + a) ≤ n * (65536 + a) := Int.mul_le_mul_of_nonneg_right h1.1 (by omega)
  have e2 : n * (65536 + a) ≤ 768000 * (65536 + a) := Int.mul_le_mul_of_nonneg_right h1.2 (by omega)
  omega
def mvV (f s : Int) (i : Nat) : Int := f + ((i : Nat) : Int) * s
theorem mv_next (f s : Int) (i : Nat) : mvV f s (i + 1) = mvV f s i + s := by unfold mvV; rw [Int.natCast_add, Int.add_mul]; omega
theorem mv_0 (f s : Int) : mvV f s 0 = f := by unfold mvV; simp
theorem mv_in {f s : Int} {i : Nat} (h1 : 0 ≤ f ∧ f < 50331648000) (h2 : 0 ≤ s ∧ s ≤ 53477376000) (h3 : i ≤ 65537) : 0 ≤ mvV f s i ∧ mvV f s i ≤ 3600000000000000 := by
  unfold mvV
  have e1 : 0 ≤ ((i : Nat) : Int) * s := Int.mul_nonneg (by omega) h2.1
  have e2 : ((i : Nat) : Int) * s ≤ 65537 * s := Int.mul_le_mul_of_nonneg_right (by omega) h2.1
  omega
theorem mv_mono {f s : Int} {i j : Nat} (hs : 0 ≤ s) (h : i ≤ j) : mvV f s i ≤ mvV f s j := by
  unfold mvV
  have := Int.mul_le_mul_of_nonneg_right (show ((i : Nat) : Int) ≤ ((j : Nat) : Int) by omega) hs
  omega
theorem quo_in {x P : Int} (h1 : 0 ≤ x) (h2 : 0 < P) : 0 ≤ x / P ∧ x / P ≤ x ∧ 0 ≤ x % P ∧ x % P < P := ⟨Int.ediv_nonneg h1 (by omega), Int.ediv_le_self _ h1, Int.emod_nonneg _ (by omega), Int.emod_lt_of_pos _ h2⟩
def needV (f s P : Int) (n : Nat) : Int := if n = 0 then 0 else max (mvV f s (n - 1) / P + 2) (mvV f s n / P)
theorem needV_0 (f s P : Int) : needV f s P 0 = 0 := if_pos rfl
theorem needV_s (f s P : Int) {n : Nat} (h : ¬ n = 0) : needV f s P n = max (mvV f s (n - 1) / P + 2) (mvV f s n / P) := if_neg h
theorem needV_in {f s P : Int} {n : Nat} (h1 : 0 ≤ f ∧ f < 50331648000) (h2 : 0 ≤ s ∧ s ≤ 53477376000) (h3 : n ≤ 65537) (hP : 0 < P) : 0 ≤ needV f s P n ∧ needV f s P n ≤ 3600000000000002 := by
  by_cases h : n = 0
  · subst h; rw [needV_0]; omega
  · rw [needV_s _ _ _ h]
    have a1 := mv_in (i := n - 1) h1 h2 (by omega)
    have a2 := mv_in (i := n) h1 h2 h3
    have b1 := quo_in a1.1 hP
    have b2 := quo_in a2.1 hP
    omega
theorem needV_mono {f s P : Int} (hf : 0 ≤ f) (hs : 0 ≤ s) (hP : 0 < P) {i j : Nat} (h : i ≤ j) : needV f s P i ≤ needV f s P j := by
  have nn : ∀ k, 0 ≤ mvV f s k := fun k => by unfold mvV; have := Int.mul_nonneg (show 0 ≤ ((k : Nat) : Int) by omega) hs; omega
  by_cases hi : i = 0
  · subst hi; rw [needV_0]
    by_cases hj : j = 0
    · subst hj; rw [needV_0]; omega
    · rw [needV_s _ _ _ hj]
      have := (quo_in (nn (j - 1)) hP).1
      omega
  · rw [needV_s _ _ _ hi, needV_s _ _ _ (show ¬ j = 0 by omega)]
    have a1 := Int.ediv_le_ediv hP (mv_mono (f := f) hs (show i - 1 ≤ j - 1 by omega))
    have a2 := Int.ediv_le_ediv hP (mv_mono (f := f) hs h)
    omega
def mkV (f s P h : Int) : Nat → Nat
  | 0 => 0
  | k + 1 => if needV f s P (k + 1) ≤ h then k + 1 else mkV f s P h k
def mkF (f s P h : Int) : Nat := mkV f s P h 65536
theorem mkV_le (f s P h : Int) : ∀ n, mkV f s P h n ≤ n
  | 0 => Nat.le_refl 0
  | k + 1 => by
    have ih := mkV_le f s P h k
    show (if needV f s P (k + 1) ≤ h then k + 1 else mkV f s P h k) ≤ k + 1
    split <;> omega
theorem mkV_need {f s P h : Int} (h0 : 0 ≤ h) : ∀ n, needV f s P (mkV f s P h n) ≤ h
  | 0 => by show needV f s P 0 ≤ h; rw [needV_0]; exact h0
  | k + 1 => by
    have ih := mkV_need (f := f) (s := s) (P := P) h0 k
    show needV f s P (if needV f s P (k + 1) ≤ h then k + 1 else mkV f s P h k) ≤ h
    split
    · assumption
    · exact ih
theorem mkV_eq {f s P h : Int} (hf : 0 ≤ f) (hs : 0 ≤ s) (hP : 0 < P) {k : Nat} : ∀ n, k ≤ n → (k = 0 ∨ needV f s P k ≤ h) → (k = n ∨ h < needV f s P (k + 1)) → mkV f s P h n = k
  | 0, hk, _, _ => by show 0 = k; omega
  | n + 1, hk, h1, h2 => by
    show (if needV f s P (n + 1) ≤ h then n + 1 else mkV f s P h n) = k
    by_cases h9 : needV f s P (n + 1) ≤ h
    · rw [if_pos h9]
      rcases h2 with h2 | h2
      · exact h2.symm
      · by_cases h8 : k = n + 1
        · exact h8.symm
        · have := needV_mono hf hs hP (show k + 1 ≤ n + 1 by omega); omega
    · rw [if_neg h9]
      have h8 : ¬ k = n + 1 := by
        intro e; subst e
        rcases h1 with h1 | h1
        · omega
        · exact h9 h1
      refine mkV_eq hf hs hP n (by omega) h1 ?_
      rcases h2 with h2 | h2
      · exact absurd h2 h8
      · exact .inr h2
theorem mkF_eq {f s P h : Int} (hf : 0 ≤ f) (hs : 0 ≤ s) (hP : 0 < P) {k : Nat} (hk : k ≤ 65536) (h1 : k = 0 ∨ needV f s P k ≤ h) (h2 : k = 65536 ∨ h < needV f s P (k + 1)) : ((k : Nat) : Int) = ((mkF f s P h : Nat) : Int) := by rw [show mkF f s P h = k from mkV_eq hf hs hP 65536 hk h1 h2]
theorem mkF_need {f s P h : Int} (h0 : 0 ≤ h) : needV f s P (mkF f s P h) ≤ h ∧ mkF f s P h ≤ 65536 := ⟨mkV_need h0 65536, mkV_le _ _ _ _ 65536⟩

set_option maxHeartbeats 4000000 in
set_option maxRecDepth 100000 in
theorem R_gcd_p (x0 y0 : Nat) (h1 : x0 ≤ 9223372036854775807) (h2 : y0 ≤ 9223372036854775807) : Fun 37 [iE ((x0 : Nat) : Int), iE ((y0 : Nat) : Int)] (toG []) 0 (iV (((Nat.gcd x0 y0) : Nat) : Int)) (toG []) 0 := by
  refine Fun.mk (n := 12) Try.func37 rfl rfl (Nat.le_of_ble_eq_true rfl) ?_
  intro cx hcx
  refine AW.rgs [.no] [0, 1] [] (P := True) (l' := [(0, iV ↑x0), (1, iV ↑y0)]) (g' := []) (nx' := 0) (by kernel_rfl) trivial ?_
  refine AW.seq ?_
  refine AW.block ?_
  refine AW.loopE 0 hcx (fun (x : {x : Nat × Nat // match x with | (x, y) => (x ≤ 9223372036854775807) ∧ (y ≤ 9223372036854775807) ∧ (Nat.gcd x y = Nat.gcd x0 y0)}) => match x with | ⟨(x, y), _⟩ => (⟨[(0, iV ((x : Nat) : Int)), (1, iV ((y : Nat) : Int))], [], 0⟩ : ES)) (fun (x : {x : Nat × Nat // match x with | (x, y) => (x ≤ 9223372036854775807) ∧ (y ≤ 9223372036854775807) ∧ (Nat.gcd x y = Nat.gcd x0 y0)}) => match x with | ⟨(x, y), _⟩ => y) ⟨((x0 : Nat), (y0 : Nat)), (show (x0 ≤ 9223372036854775807) ∧ (y0 ≤ 9223372036854775807) ∧ (Nat.gcd x0 y0 = Nat.gcd x0 y0) from ⟨(by first | omega | assumption | simp), (by first | omega | assumption | simp), rfl⟩)⟩ [] (P := ((((x0 : Nat) : Int) : Int) = ((x0 : Nat) : Int)) ∧ ((((y0 : Nat) : Int) : Int) = ((y0 : Nat) : Int))) (by kernel_rfl) ⟨rfl, rfl⟩ ?_
  rintro ⟨⟨x, y⟩, hinv0⟩
  obtain ⟨hx, hy, hg⟩ : (x ≤ 9223372036854775807) ∧ (y ≤ 9223372036854775807) ∧ (Nat.gcd x y = Nat.gcd x0 y0) := hinv0
  refine AW.es (l := [(0, iV ((x : Nat) : Int)), (1, iV ((y : Nat) : Int))]) (g := []) (nx := 0) rfl rfl rfl ?_
  have hmd : y = 0 ∨ x % y < y := (Nat.eq_zero_or_pos y).imp id (fun h9 => Nat.mod_lt _ h9)
  refine AW.seq ?_
  by_cases hx1 : (((y : Nat) : Int) ≠ 0)
  · refine AW.rgs [.no, .b true] [0, 1, 6] [] (P := ((((y : Nat) : Int) ≠ 0))) (l' := [(0, iV ↑x), (1, iV ↑y), (6, bV true)]) (g' := []) (nx' := 0) (by kernel_rfl) (by omega) ?_
    refine AW.cond_t (.tmp (Look.of rfl)) ?_
    refine AW.skip ?_
    refine AW.block ?_
    refine AW.rg [.no, .no, .no, .ps, .no, .no] [0, 1] [] (P := ((0 : Int) ≤ (((x : Nat) : Int) : Int)) ∧ ((0 : Int) < (((y : Nat) : Int) : Int))) (l' := [(0, iV ↑y), (1, iV (↑x % ↑y))]) (g' := []) (nx' := 0) (by kernel_rfl) ⟨(by omega), (by omega)⟩ ?_
    exact Rd.of ⟨((y : Nat), ((x % y) : Nat)), (show (y ≤ 9223372036854775807) ∧ ((x % y) ≤ 9223372036854775807) ∧ (Nat.gcd y (x % y) = Nat.gcd x0 y0) from ⟨(by first | omega | assumption | simp), (by first | omega | assumption | simp), (by rw [Nat.gcd_comm, ← Nat.gcd_rec, Nat.gcd_comm]; exact hg)⟩)⟩ [] (P := ((((y : Nat) : Int) : Int) = ((y : Nat) : Int)) ∧ (((((x % y) : Nat) : Int) : Int) = (((x : Nat) : Int) % ((y : Nat) : Int)))) (by kernel_rfl) ⟨rfl, (by first | rfl | omega | assumption | (simp; done) | (simp; omega))⟩ (show (x % y) < y from (by first | omega | (show _ < _; simp; omega)))
  · refine AW.rgs [.no, .b false] [0, 1, 6] [] (P := (¬ (((y : Nat) : Int) ≠ 0))) (l' := [(0, iV ↑x), (1, iV ↑y), (6, bV false)]) (g' := []) (nx' := 0) (by kernel_rfl) (by omega) ?_
    refine AW.cond_f (.tmp (Look.of rfl)) ?_
    refine AW.exit ?_
    refine AW.rgs [.no, .no] [4] [] (P := True) (l' := [(4, iV ↑x)]) (g' := []) (nx' := 0) (by kernel_rfl) trivial ?_
    refine AW.ret ?_
    exact EndP.of (.inr rfl) [] (P := (((((Nat.gcd x0 y0) : Nat) : Int) : Int) = ((x : Nat) : Int))) (by kernel_rfl) (by rw [← hg, show y = 0 by omega, Nat.gcd_zero_right])

set_option maxHeartbeats 4000000 in
set_option maxRecDepth 100000 in
theorem R_gcd_r (x0 y0 : Nat) (h1 : x0 ≤ 9223372036854775807) (h2 : y0 ≤ 9223372036854775807) : Fun 43 [iE ((x0 : Nat) : Int), iE ((y0 : Nat) : Int)] (toG []) 0 (iV (((Nat.gcd x0 y0) : Nat) : Int)) (toG []) 0 := by
  refine Fun.mk (n := 12) Try.func43 rfl rfl (Nat.le_of_ble_eq_true rfl) ?_
  intro cx hcx
  refine AW.rgs [.no] [0, 1] [] (P := True) (l' := [(0, iV ↑x0), (1, iV ↑y0)]) (g' := []) (nx' := 0) (by kernel_rfl) trivial ?_
  refine AW.seq ?_
  refine AW.block ?_
  refine AW.loopE 0 hcx (fun (x : {x : Nat × Nat // match x with | (x, y) => (x ≤ 9223372036854775807) ∧ (y ≤ 9223372036854775807) ∧ (Nat.gcd x y = Nat.gcd x0 y0)}) => match x with | ⟨(x, y), _⟩ => (⟨[(0, iV ((x : Nat) : Int)), (1, iV ((y : Nat) : Int))], [], 0⟩ : ES)) (fun (x : {x : Nat × Nat // match x with | (x, y) => (x ≤ 9223372036854775807) ∧ (y ≤ 9223372036854775807) ∧ (Nat.gcd x y = Nat.gcd x0 y0)}) => match x with | ⟨(x, y), _⟩ => y) ⟨((x0 : Nat), (y0 : Nat)), (show (x0 ≤ 9223372036854775807) ∧ (y0 ≤ 9223372036854775807) ∧ (Nat.gcd x0 y0 = Nat.gcd x0 y0) from ⟨(by first | omega | assumption | simp), (by first | omega | assumption | simp), rfl⟩)⟩ [] (P := ((((x0 : Nat) : Int) : Int) = ((x0 : Nat) : Int)) ∧ ((((y0 : Nat) : Int) : Int) = ((y0 : Nat) : Int))) (by kernel_rfl) ⟨rfl, rfl⟩ ?_
  rintro ⟨⟨x, y⟩, hinv0⟩
  obtain ⟨hx, hy, hg⟩ : (x ≤ 9223372036854775807) ∧ (y ≤ 9223372036854775807) ∧ (Nat.gcd x y = Nat.gcd x0 y0) := hinv0
  refine AW.es (l := [(0, iV ((x : Nat) : Int)), (1, iV ((y : Nat) : Int))]) (g := []) (nx := 0) rfl rfl rfl ?_
  have hmd : y = 0 ∨ x % y < y := (Nat.eq_zero_or_pos y).imp id (fun h9 => Nat.mod_lt _ h9)
  refine AW.seq ?_
  by_cases hx1 : (((y : Nat) : Int) ≠ 0)
  · refine AW.rgs [.no, .b true] [0, 1, 6] [] (P := ((((y : Nat) : Int) ≠ 0))) (l' := [(0, iV ↑x), (1, iV ↑y), (6, bV true)]) (g' := []) (nx' := 0) (by kernel_rfl) (by omega) ?_
    refine AW.cond_t (.tmp (Look.of rfl)) ?_
    refine AW.skip ?_
    refine AW.block ?_
    refine AW.rg [.no, .no, .no, .ps, .no, .no] [0, 1] [] (P := ((0 : Int) ≤ (((x : Nat) : Int) : Int)) ∧ ((0 : Int) < (((y : Nat) : Int) : Int))) (l' := [(0, iV ↑y), (1, iV (↑x % ↑y))]) (g' := []) (nx' := 0) (by kernel_rfl) ⟨(by omega), (by omega)⟩ ?_
    exact Rd.of ⟨((y : Nat), ((x % y) : Nat)), (show (y ≤ 9223372036854775807) ∧ ((x % y) ≤ 9223372036854775807) ∧ (Nat.gcd y (x % y) = Nat.gcd x0 y0) from ⟨(by first | omega | assumption | simp), (by first | omega | assumption | simp), (by rw [Nat.gcd_comm, ← Nat.gcd_rec, Nat.gcd_comm]; exact hg)⟩)⟩ [] (P := ((((y : Nat) : Int) : Int) = ((y : Nat) : Int)) ∧ (((((x % y) : Nat) : Int) : Int) = (((x : Nat) : Int) % ((y : Nat) : Int)))) (by kernel_rfl) ⟨rfl, (by first | rfl | omega | assumption | (simp; done) | (simp; omega))⟩ (show (x % y) < y from (by first | omega | (show _ < _; simp; omega)))
  · refine AW.rgs [.no, .b false] [0, 1, 6] [] (P := (¬ (((y : Nat) : Int) ≠ 0))) (l' := [(0, iV ↑x), (1, iV ↑y), (6, bV false)]) (g' := []) (nx' := 0) (by kernel_rfl) (by omega) ?_
    refine AW.cond_f (.tmp (Look.of rfl)) ?_
    refine AW.exit ?_
    refine AW.rgs [.no, .no] [4] [] (P := True) (l' := [(4, iV ↑x)]) (g' := []) (nx' := 0) (by kernel_rfl) trivial ?_
    refine AW.ret ?_
    exact EndP.of (.inr rfl) [] (P := (((((Nat.gcd x0 y0) : Nat) : Int) : Int) = ((x : Nat) : Int))) (by kernel_rfl) (by rw [← hg, show y = 0 by omega, Nat.gcd_zero_right])

set_option maxHeartbeats 4000000 in
set_option maxRecDepth 100000 in
theorem R_isTerm (n : Int)  : Fun 36 [iE n] (toG []) 0 (.e (.c (.d (D.lit (.bool (decide (1 ≤ n ∧ n ≤ 68719476736))))))) (toG []) 0 := by
  refine Fun.mk (n := 9) Try.func36 rfl rfl (Nat.le_of_ble_eq_true rfl) ?_
  intro cx hcx
  refine AW.rgs [.no] [0] [] (P := True) (l' := [(0, iV n)]) (g' := []) (nx' := 0) (by kernel_rfl) trivial ?_
  by_cases hx1 : ((1 : Int) ≤ n)
  · by_cases hx2 : (n ≤ 68719476736)
    · refine AW.rgs [.no, .b true, .no, .no, .b true, .no, .no] [2] [] (P := (((1 : Int) ≤ n)) ∧ ((n ≤ 68719476736))) (l' := [(2, bV true)]) (g' := []) (nx' := 0) (by kernel_rfl) ⟨(by omega), (by omega)⟩ ?_
      refine AW.ret ?_
      exact EndP.of (.inr rfl) [] (P := ((decide (1 ≤ n ∧ n ≤ 68719476736)) = true)) (by kernel_rfl) (by first | exact decide_eq_true (by omega) | exact decide_eq_false (by omega))
    · refine AW.rgs [.no, .b true, .no, .no, .b false, .no, .no] [2] [] (P := (((1 : Int) ≤ n)) ∧ (¬ (n ≤ 68719476736))) (l' := [(2, bV false)]) (g' := []) (nx' := 0) (by kernel_rfl) ⟨(by omega), (by omega)⟩ ?_
      refine AW.ret ?_
      exact EndP.of (.inr rfl) [] (P := ((decide (1 ≤ n ∧ n ≤ 68719476736)) = false)) (by kernel_rfl) (by first | exact decide_eq_true (by omega) | exact decide_eq_false (by omega))
  · refine AW.rgs [.no, .b false, .no, .no, .no] [2] [] (P := (¬ ((1 : Int) ≤ n))) (l' := [(2, bV false)]) (g' := []) (nx' := 0) (by kernel_rfl) (by omega) ?_
    refine AW.ret ?_
    exact EndP.of (.inr rfl) [] (P := ((decide (1 ≤ n ∧ n ≤ 68719476736)) = false)) (by kernel_rfl) (by first | exact decide_eq_true (by omega) | exact decide_eq_false (by omega))

set_option maxHeartbeats 4000000 in
set_option maxRecDepth 100000 in
theorem R_Valid_p (n d : Int)  : Fun 16 [.agg [iC n, iC d]] (toG []) 0 (.e (.c (.d (D.lit (.bool (ratOk n d)))))) (toG []) 0 := by
  refine Fun.mk (n := 19) Try.func16 rfl rfl (Nat.le_of_ble_eq_true rfl) ?_
  intro cx hcx
  refine AW.rgs [.no, .no] [1] [0] (P := True) (l' := [(1, rV 0 0)]) (g' := [(0, some (23, .ds [iD n, iD d]))]) (nx' := 1) (by kernel_rfl) trivial ?_
  rcases Bool.eq_false_or_eq_true (decide (1 ≤ n ∧ n ≤ 68719476736)) with hx1 | hx1
  · have hx2 : (((1 : Int) ≤ n) ∧ (n ≤ 68719476736)) := of_decide_eq_true hx1
    rcases Bool.eq_false_or_eq_true (decide (1 ≤ d ∧ d ≤ 68719476736)) with hx3 | hx3
    · have hx4 : (((1 : Int) ≤ d) ∧ (d ≤ 68719476736)) := of_decide_eq_true hx3
      by_cases hx5 : ((((Nat.gcd (Int.toNat n) (Int.toNat d)) : Nat) : Int) = 1)
      · refine AW.rgs [.no, .no, .call [] (bV true) [] 0 [] none, .no, .no, .no, .call [] (bV true) [] 0 [] none, .no, .no, .no, .no, .no, .no, .call [] (iV (((Nat.gcd (Int.toNat n) (Int.toNat d)) : Nat) : Int)) [] 0 [] (some [iE (((Int.toNat n) : Nat) : Int), iE (((Int.toNat d) : Nat) : Int)]), .b true, .no, .no] [2] [] (P := (Fun 36 [iE n] (toG []) 0 (bV true) (toG []) 0) ∧ (Fun 36 [iE d] (toG []) 0 (bV true) (toG []) 0) ∧ (((((Int.toNat n) : Nat) : Int) : Int) = n) ∧ (((((Int.toNat d) : Nat) : Int) : Int) = d) ∧ (_) ∧ (((((Nat.gcd (Int.toNat n) (Int.toNat d)) : Nat) : Int) = 1))) (l' := [(2, bV true)]) (g' := []) (nx' := 1) (by kernel_rfl) ⟨(by have h0 := (R_isTerm n); rw [hx1] at h0; exact h0), (by have h0 := (R_isTerm d); rw [hx3] at h0; exact h0), (by omega), (by omega), (R_gcd_p (Int.toNat n) (Int.toNat d) (by first | omega | with_reducible assumption | (simp <;> omega) | rfl | assumption) (by first | omega | with_reducible assumption | (simp <;> omega) | rfl | assumption)), (by omega)⟩ ?_
        refine AW.ret ?_
        exact EndP.of (.inr rfl) [] (P := ((ratOk n d) = true)) (by kernel_rfl) (by first | exact ratOk_f (by omega) | exact ratOk_t (by omega) (by omega) (by omega) | exact ratOk_g (by omega))
      · refine AW.rgs [.no, .no, .call [] (bV true) [] 0 [] none, .no, .no, .no, .call [] (bV true) [] 0 [] none, .no, .no, .no, .no, .no, .no, .call [] (iV (((Nat.gcd (Int.toNat n) (Int.toNat d)) : Nat) : Int)) [] 0 [] (some [iE (((Int.toNat n) : Nat) : Int), iE (((Int.toNat d) : Nat) : Int)]), .b false, .no, .no] [2] [] (P := (Fun 36 [iE n] (toG []) 0 (bV true) (toG []) 0) ∧ (Fun 36 [iE d] (toG []) 0 (bV true) (toG []) 0) ∧ (((((Int.toNat n) : Nat) : Int) : Int) = n) ∧ (((((Int.toNat d) : Nat) : Int) : Int) = d) ∧ (_) ∧ (¬ ((((Nat.gcd (Int.toNat n) (Int.toNat d)) : Nat) : Int) = 1))) (l' := [(2, bV false)]) (g' := []) (nx' := 1) (by kernel_rfl) ⟨(by have h0 := (R_isTerm n); rw [hx1] at h0; exact h0), (by have h0 := (R_isTerm d); rw [hx3] at h0; exact h0), (by omega), (by omega), (R_gcd_p (Int.toNat n) (Int.toNat d) (by first | omega | with_reducible assumption | (simp <;> omega) | rfl | assumption) (by first | omega | with_reducible assumption | (simp <;> omega) | rfl | assumption)), (by omega)⟩ ?_
        refine AW.ret ?_
        exact EndP.of (.inr rfl) [] (P := ((ratOk n d) = false)) (by kernel_rfl) (by first | exact ratOk_f (by omega) | exact ratOk_t (by omega) (by omega) (by omega) | exact ratOk_g (by omega))
    · have hx6 : ¬ (((1 : Int) ≤ d) ∧ (d ≤ 68719476736)) := of_decide_eq_false hx3
      refine AW.rgs [.no, .no, .call [] (bV true) [] 0 [] none, .no, .no, .no, .call [] (bV false) [] 0 [] none, .no, .no, .no, .no] [2] [] (P := (Fun 36 [iE n] (toG []) 0 (bV true) (toG []) 0) ∧ (Fun 36 [iE d] (toG []) 0 (bV false) (toG []) 0)) (l' := [(2, bV false)]) (g' := []) (nx' := 1) (by kernel_rfl) ⟨(by have h0 := (R_isTerm n); rw [hx1] at h0; exact h0), (by have h0 := (R_isTerm d); rw [hx3] at h0; exact h0)⟩ ?_
      refine AW.ret ?_
      exact EndP.of (.inr rfl) [] (P := ((ratOk n d) = false)) (by kernel_rfl) (by first | exact ratOk_f (by omega) | exact ratOk_t (by omega) (by omega) (by omega) | exact ratOk_g (by omega))
  · have hx7 : ¬ (((1 : Int) ≤ n) ∧ (n ≤ 68719476736)) := of_decide_eq_false hx1
    refine AW.rgs [.no, .no, .call [] (bV false) [] 0 [] none, .no, .no, .no, .no, .no] [2] [] (P := (Fun 36 [iE n] (toG []) 0 (bV false) (toG []) 0)) (l' := [(2, bV false)]) (g' := []) (nx' := 1) (by kernel_rfl) (by have h0 := (R_isTerm n); rw [hx1] at h0; exact h0) ?_
    refine AW.ret ?_
    exact EndP.of (.inr rfl) [] (P := ((ratOk n d) = false)) (by kernel_rfl) (by first | exact ratOk_f (by omega) | exact ratOk_t (by omega) (by omega) (by omega) | exact ratOk_g (by omega))

set_option maxHeartbeats 4000000 in
set_option maxRecDepth 100000 in
theorem R_Valid_r (n d : Int)  : Fun 28 [.agg [iC n, iC d]] (toG []) 0 (.e (.c (.d (D.lit (.bool (ratOk n d)))))) (toG []) 0 := by
  refine Fun.mk (n := 29) Try.func28 rfl rfl (Nat.le_of_ble_eq_true rfl) ?_
  intro cx hcx
  refine AW.rgs [.no, .no] [1] [0] (P := True) (l' := [(1, rV 0 0)]) (g' := [(0, some (23, .ds [iD n, iD d]))]) (nx' := 1) (by kernel_rfl) trivial ?_
  by_cases hx1 : ((1 : Int) ≤ n)
  · by_cases hx2 : ((1 : Int) ≤ d)
    · by_cases hx3 : (n ≤ 68719476736)
      · by_cases hx4 : (d ≤ 68719476736)
        · by_cases hx5 : ((((Nat.gcd (Int.toNat n) (Int.toNat d)) : Nat) : Int) = 1)
          · refine AW.rgs [.no, .no, .b true, .no, .no, .no, .b true, .no, .no, .no, .no, .b true, .no, .no, .no, .no, .b true, .no, .no, .no, .no, .no, .no, .call [] (iV (((Nat.gcd (Int.toNat n) (Int.toNat d)) : Nat) : Int)) [] 0 [] (some [iE (((Int.toNat n) : Nat) : Int), iE (((Int.toNat d) : Nat) : Int)]), .b true, .no, .no] [2] [] (P := (((1 : Int) ≤ n)) ∧ (((1 : Int) ≤ d)) ∧ ((n ≤ 68719476736)) ∧ ((d ≤ 68719476736)) ∧ (((((Int.toNat n) : Nat) : Int) : Int) = n) ∧ (((((Int.toNat d) : Nat) : Int) : Int) = d) ∧ (_) ∧ (((((Nat.gcd (Int.toNat n) (Int.toNat d)) : Nat) : Int) = 1))) (l' := [(2, bV true)]) (g' := []) (nx' := 1) (by kernel_rfl) ⟨(by omega), (by omega), (by omega), (by omega), (by omega), (by omega), (R_gcd_r (Int.toNat n) (Int.toNat d) (by first | omega | with_reducible assumption | (simp <;> omega) | rfl | assumption) (by first | omega | with_reducible assumption | (simp <;> omega) | rfl | assumption)), (by omega)⟩ ?_
            refine AW.ret ?_
            exact EndP.of (.inr rfl) [] (P := ((ratOk n d) = true)) (by kernel_rfl) (by first | exact ratOk_f (by omega) | exact ratOk_t (by omega) (by omega) (by omega) | exact ratOk_g (by omega))
          · refine AW.rgs [.no, .no, .b true, .no, .no, .no, .b true, .no, .no, .no, .no, .b true, .no, .no, .no, .no, .b true, .no, .no, .no, .no, .no, .no, .call [] (iV (((Nat.gcd (Int.toNat n) (Int.toNat d)) : Nat) : Int)) [] 0 [] (some [iE (((Int.toNat n) : Nat) : Int), iE (((Int.toNat d) : Nat) : Int)]), .b false, .no, .no] [2] [] (P := (((1 : Int) ≤ n)) ∧ (((1 : Int) ≤ d)) ∧ ((n ≤ 68719476736)) ∧ ((d ≤ 68719476736)) ∧ (((((Int.toNat n) : Nat) : Int) : Int) = n) ∧ (((((Int.toNat d) : Nat) : Int) : Int) = d) ∧ (_) ∧ (¬ ((((Nat.gcd (Int.toNat n) (Int.toNat d)) : Nat) : Int) = 1))) (l' := [(2, bV false)]) (g' := []) (nx' := 1) (by kernel_rfl) ⟨(by omega), (by omega), (by omega), (by omega), (by omega), (by omega), (R_gcd_r (Int.toNat n) (Int.toNat d) (by first | omega | with_reducible assumption | (simp <;> omega) | rfl | assumption) (by first | omega | with_reducible assumption | (simp <;> omega) | rfl | assumption)), (by omega)⟩ ?_
            refine AW.ret ?_
            exact EndP.of (.inr rfl) [] (P := ((ratOk n d) = false)) (by kernel_rfl) (by first | exact ratOk_f (by omega) | exact ratOk_t (by omega) (by omega) (by omega) | exact ratOk_g (by omega))
        · refine AW.rgs [.no, .no, .b true, .no, .no, .no, .b true, .no, .no, .no, .no, .b true, .no, .no, .no, .no, .b false, .no, .no, .no, .no] [2] [] (P := (((1 : Int) ≤ n)) ∧ (((1 : Int) ≤ d)) ∧ ((n ≤ 68719476736)) ∧ (¬ (d ≤ 68719476736))) (l' := [(2, bV false)]) (g' := []) (nx' := 1) (by kernel_rfl) ⟨(by omega), (by omega), (by omega), (by omega)⟩ ?_
          refine AW.ret ?_
          exact EndP.of (.inr rfl) [] (P := ((ratOk n d) = false)) (by kernel_rfl) (by first | exact ratOk_f (by omega) | exact ratOk_t (by omega) (by omega) (by omega) | exact ratOk_g (by omega))
      · refine AW.rgs [.no, .no, .b true, .no, .no, .no, .b true, .no, .no, .no, .no, .b false, .no, .no, .no, .no, .no, .no] [2] [] (P := (((1 : Int) ≤ n)) ∧ (((1 : Int) ≤ d)) ∧ (¬ (n ≤ 68719476736))) (l' := [(2, bV false)]) (g' := []) (nx' := 1) (by kernel_rfl) ⟨(by omega), (by omega), (by omega)⟩ ?_
        refine AW.ret ?_
        exact EndP.of (.inr rfl) [] (P := ((ratOk n d) = false)) (by kernel_rfl) (by first | exact ratOk_f (by omega) | exact ratOk_t (by omega) (by omega) (by omega) | exact ratOk_g (by omega))
    · refine AW.rgs [.no, .no, .b true, .no, .no, .no, .b false, .no, .no, .no, .no, .no, .no, .no, .no] [2] [] (P := (((1 : Int) ≤ n)) ∧ (¬ ((1 : Int) ≤ d))) (l' := [(2, bV false)]) (g' := []) (nx' := 1) (by kernel_rfl) ⟨(by omega), (by omega)⟩ ?_
      refine AW.ret ?_
      exact EndP.of (.inr rfl) [] (P := ((ratOk n d) = false)) (by kernel_rfl) (by first | exact ratOk_f (by omega) | exact ratOk_t (by omega) (by omega) (by omega) | exact ratOk_g (by omega))
  · refine AW.rgs [.no, .no, .b false, .no, .no, .no, .no, .no, .no, .no, .no, .no] [2] [] (P := (¬ ((1 : Int) ≤ n))) (l' := [(2, bV false)]) (g' := []) (nx' := 1) (by kernel_rfl) (by omega) ?_
    refine AW.ret ?_
    exact EndP.of (.inr rfl) [] (P := ((ratOk n d) = false)) (by kernel_rfl) (by first | exact ratOk_f (by omega) | exact ratOk_t (by omega) (by omega) (by omega) | exact ratOk_g (by omega))

set_option maxHeartbeats 4000000 in
set_option maxRecDepth 100000 in
theorem K_prod (x y : Int) (hx : 0 ≤ x ∧ x ≤ 9223372036854775807) (hy : 0 ≤ y ∧ y ≤ 9223372036854775807) : Fun 47 [iE x, iE y] (toG []) 0 (.tup [.c (.d (D.lit (.int .u64 ((x * y) / 18446744073709551616)))), .c (.d (D.lit (.int .u64 ((x * y) % 18446744073709551616))))]) (toG []) 0 := by
  refine Fun.mk (n := 13) Try.func47 rfl rfl (Nat.le_of_ble_eq_true rfl) ?_
  intro cx hcx
  refine AW.rgs [.no, .no] [0, 1] [] (P := True) (l' := [(0, iV x), (1, iV y)]) (g' := []) (nx' := 0) (by kernel_rfl) trivial ?_
  refine AW.rgs [.no, .w, .no, .w, .call [] (.tup [.c (.d (D.lit (.int .u64 ((x * y) / 18446744073709551616)))), .c (.d (D.lit (.int .u64 ((x * y) % 18446744073709551616))))]) [] 0 [] none, .no, .no, .no, .no] [4, 5] [] (P := (0 ≤ x ∧ x ≤ 18446744073709551615) ∧ (0 ≤ y ∧ y ≤ 18446744073709551615) ∧ (_)) (l' := [(4, .e (.c (.d (D.lit (.int .u64 ((x * y) / 18446744073709551616)))))), (5, .e (.c (.d (D.lit (.int .u64 ((x * y) % 18446744073709551616))))))]) (g' := []) (nx' := 0) (by kernel_rfl) ⟨⟨by omega, by omega⟩, ⟨by omega, by omega⟩, (B_Mul64 x y (by omega) (by omega))⟩ ?_
  refine AW.ret ?_
  exact EndP.of (.inr rfl) [] (P := ((((x * y) / 18446744073709551616) : Int) = ((x * y) / 18446744073709551616)) ∧ ((((x * y) % 18446744073709551616) : Int) = ((x * y) % 18446744073709551616))) (by kernel_rfl) ⟨rfl, rfl⟩


def cmpV (p q : Int) : Int := if p < q then 0 - 1 else if p = q then 0 else 1
theorem cmpV_in (p q : Int) : (cmpV p q = 0 - 1 ∧ p < q) ∨ (cmpV p q = 0 ∧ p = q) ∨ (cmpV p q = 1 ∧ q < p) := by
  unfold cmpV; split
  · exact .inl ⟨rfl, by assumption⟩
  · split
    · exact .inr (.inl ⟨rfl, by assumption⟩)
    · exact .inr (.inr ⟨rfl, by omega⟩)
theorem cmpV_at (p q : Int) : (cmpV p q = -1 ∧ p < q ∨ cmpV p q = 0 ∧ p = q) ∨ cmpV p q = 1 ∧ q < p := by have h9 := cmpV_in p q; omega
def rtB (n d : Int) : Bool := ratOk n d && decide (d ≤ n * 1024 ∧ n ≤ d * 1024)
theorem rt_t {n d : Int} (h1 : ratOk n d = true) (h2 : d ≤ n * 1024 ∧ n ≤ d * 1024) : rtB n d = true := by unfold rtB; rw [h1, decide_eq_true h2]; rfl
theorem rt_f {n d : Int} (h2 : ¬ (d ≤ n * 1024 ∧ n ≤ d * 1024)) : rtB n d = false := by unfold rtB; rw [decide_eq_false h2, Bool.and_false]
theorem rt_r {n d : Int} (h1 : ratOk n d = false) : rtB n d = false := by unfold rtB; rw [h1]; rfl
theorem rt_of {n d : Int} (h : rtB n d = true) : ratOk n d = true ∧ d ≤ n * 1024 ∧ n ≤ d * 1024 := by
  unfold rtB at h
  rw [Bool.and_eq_true] at h
  exact ⟨h.1, of_decide_eq_true h.2⟩
theorem seg_0 (l : List Int) (j : Nat) : ¬ j = 0 ∨ List.getD l (j * 3) 0 = List.getD l 0 0 := by
  by_cases h : j = 0
  · subst h; exact .inr rfl
  · exact .inl h
def segB (l : List Int) (i : Nat) : Bool := rtB (List.getD l (i * 3 + 1) 0) (List.getD l (i * 3 + 2) 0) && decide (List.getD l (i * 3) 0 ≤ 1099511627776 ∧ (¬ i = 0 ∨ List.getD l (i * 3) 0 = 0) ∧ (i = 0 ∨ List.getD l ((i - 1) * 3) 0 < List.getD l (i * 3) 0))
theorem seg_t {l : List Int} {i : Nat} (h1 : rtB (List.getD l (i * 3 + 1) 0) (List.getD l (i * 3 + 2) 0) = true) (h2 : List.getD l (i * 3) 0 ≤ 1099511627776 ∧ (¬ i = 0 ∨ List.getD l (i * 3) 0 = 0) ∧ (i = 0 ∨ List.getD l ((i - 1) * 3) 0 < List.getD l (i * 3) 0)) : segB l i = true := by unfold segB; rw [h1, decide_eq_true h2]; rfl
theorem seg_r {l : List Int} {i : Nat} (h1 : rtB (List.getD l (i * 3 + 1) 0) (List.getD l (i * 3 + 2) 0) = false) : segB l i = false := by unfold segB; rw [h1]; rfl
theorem seg_f {l : List Int} {i : Nat} (h2 : ¬ (List.getD l (i * 3) 0 ≤ 1099511627776 ∧ (¬ i = 0 ∨ List.getD l (i * 3) 0 = 0) ∧ (i = 0 ∨ List.getD l ((i - 1) * 3) 0 < List.getD l (i * 3) 0))) : segB l i = false := by unfold segB; rw [decide_eq_false h2, Bool.and_false]
/-- is it a clock of n segments -/
def ckB (l : List Int) (n : Nat) : Bool := decide (1 ≤ n ∧ n ≤ 64) && (List.range n).all (segB l)
theorem ck_t {l : List Int} {n : Nat} (h : 1 ≤ n ∧ n ≤ 64) (h2 : ∀ j, j < n → segB l j = true) : ckB l n = true := by
  unfold ckB; rw [decide_eq_true h, List.all_eq_true.2 (fun x hx => h2 x (List.mem_range.1 hx))]; rfl
theorem ck_n {l : List Int} {n : Nat} (h : ¬ (1 ≤ n ∧ n ≤ 64)) : ckB l n = false := by unfold ckB; rw [decide_eq_false h]; rfl
theorem ck_s {l : List Int} {n k : Nat} (hk : k < n) (h : segB l k = false) : ckB l n = false := by
  cases hb : ckB l n with
  | false => rfl
  | true =>
    unfold ckB at hb
    rw [Bool.and_eq_true] at hb
    have := List.all_eq_true.1 hb.2 k (List.mem_range.2 hk)
    rw [h] at this; cases this
theorem ck_of {l : List Int} {n : Nat} (h : ckB l n = true) : (1 ≤ n ∧ n ≤ 64) ∧ ∀ j, j < n → segB l j = true := by
  unfold ckB at h
  rw [Bool.and_eq_true] at h
  exact ⟨of_decide_eq_true h.1, fun j hj => List.all_eq_true.1 h.2 j (List.mem_range.2 hj)⟩

set_option maxHeartbeats 4000000 in
set_option maxRecDepth 100000 in
theorem K_Cmp_p (a b x y : Int) (h1 : ratOk a b = true) (h2 : ratOk x y = true) : Fun 46 [.agg [iC a, iC b], .agg [iC x, iC y]] (toG []) 0 (iV (cmpV (a * y) (x * b))) (toG []) 0 := by
  have hA : 1 ≤ a ∧ a ≤ 68719476736 ∧ 1 ≤ b ∧ b ≤ 68719476736 := ratOk_of h1
  have hB : 1 ≤ x ∧ x ≤ 68719476736 ∧ 1 ≤ y ∧ y ≤ 68719476736 := ratOk_of h2
  have hcv : (cmpV (a * y) (x * b) = 0 - 1 ∧ a * y < x * b) ∨ (cmpV (a * y) (x * b) = 0 ∧ a * y = x * b) ∨ (cmpV (a * y) (x * b) = 1 ∧ x * b < a * y) := cmpV_in _ _
  refine Fun.mk (n := 56) Try.func46 rfl rfl (Nat.le_of_ble_eq_true rfl) ?_
  intro cx hcx
  refine AW.rgs [.no, .no, .no] [2, 3] [0, 1] (P := True) (l' := [(2, rV 0 0), (3, rV 1 0)]) (g' := [(0, some (23, .ds [iD a, iD b])), (1, some (23, .ds [iD x, iD y]))]) (nx' := 2) (by kernel_rfl) trivial ?_
  refine AW.seq ?_
  refine AW.rgs [.no, .call [] (bV true) [] 0 [] none, .no, .no, .no, .call [] (bV true) [] 0 [] none, .no, .no] [2, 3, 16] [0, 1] (P := (Fun 16 [.agg [iC a, iC b]] (toG []) 0 (bV true) (toG []) 0) ∧ (Fun 16 [.agg [iC x, iC y]] (toG []) 0 (bV true) (toG []) 0)) (l' := [(2, rV 0 0), (3, rV 1 0), (16, bV false)]) (g' := [(0, some (23, .ds [iD a, iD b])), (1, some (23, .ds [iD x, iD y]))]) (nx' := 2) (by kernel_rfl) ⟨(by have h0 := (R_Valid_p a b); rw [h1] at h0; exact h0), (by have h0 := (R_Valid_p x y); rw [h2] at h0; exact h0)⟩ ?_
  refine AW.cond_f (.tmp (Look.of rfl)) ?_
  refine AW.skip ?_
  refine AW.rgs [.no, .no, .no, .no, .call [] (.tup [.c (.d (D.lit (.int .u64 ((a * y) / 18446744073709551616)))), .c (.d (D.lit (.int .u64 ((a * y) % 18446744073709551616))))]) [] 0 [] none, .no, .no, .no, .no, .no] [2, 3, 5, 6] [0, 1] (P := (_)) (l' := [(2, rV 0 0), (3, rV 1 0), (5, .e (.c (.d (D.lit (.int .u64 ((a * y) / 18446744073709551616)))))), (6, .e (.c (.d (D.lit (.int .u64 ((a * y) % 18446744073709551616))))))]) (g' := [(0, some (23, .ds [iD a, iD b])), (1, some (23, .ds [iD x, iD y]))]) (nx' := 2) (by kernel_rfl) (K_prod a y (by omega) (by omega)) ?_
  refine AW.rgs [.no, .no, .no, .no, .call [] (.tup [.c (.d (D.lit (.int .u64 ((x * b) / 18446744073709551616)))), .c (.d (D.lit (.int .u64 ((x * b) % 18446744073709551616))))]) [] 0 [] none, .no, .no, .no, .no, .no] [5, 6, 7, 8] [] (P := (_)) (l' := [(5, .e (.c (.d (D.lit (.int .u64 ((a * y) / 18446744073709551616)))))), (6, .e (.c (.d (D.lit (.int .u64 ((a * y) % 18446744073709551616)))))), (7, .e (.c (.d (D.lit (.int .u64 ((x * b) / 18446744073709551616)))))), (8, .e (.c (.d (D.lit (.int .u64 ((x * b) % 18446744073709551616))))))]) (g' := []) (nx' := 2) (by kernel_rfl) (K_prod x b (by omega) (by omega)) ?_
  refine AW.seq ?_
  refine AW.block ?_
  by_cases hx1 : (((a * y) / 18446744073709551616) = ((x * b) / 18446744073709551616))
  · by_cases hx2 : (((a * y) % 18446744073709551616) = ((x * b) % 18446744073709551616))
    · refine AW.rgs [.no, .no, .b true, .no, .no, .no, .b true, .no, .no] [5, 6, 7, 8, 33] [] (P := ((((a * y) / 18446744073709551616) = ((x * b) / 18446744073709551616))) ∧ ((((a * y) % 18446744073709551616) = ((x * b) % 18446744073709551616)))) (l' := [(5, .e (.c (.d (D.lit (.int .u64 ((a * y) / 18446744073709551616)))))), (6, .e (.c (.d (D.lit (.int .u64 ((a * y) % 18446744073709551616)))))), (7, .e (.c (.d (D.lit (.int .u64 ((x * b) / 18446744073709551616)))))), (8, .e (.c (.d (D.lit (.int .u64 ((x * b) % 18446744073709551616)))))), (33, bV true)]) (g' := []) (nx' := 2) (by kernel_rfl) ⟨(by omega), (by omega)⟩ ?_
      refine AW.cond_t (.tmp (Look.of rfl)) ?_
      refine AW.rgs [.no] [4] [] (P := True) (l' := [(4, iV 0)]) (g' := []) (nx' := 2) (by kernel_rfl) trivial ?_
      refine AW.ret ?_
      exact EndP.of (.inr rfl) [] (P := (((cmpV (a * y) (x * b)) : Int) = 0)) (by kernel_rfl) (by first | rfl | omega)
    · refine AW.rgs [.no, .no, .b true, .no, .no, .no, .b false, .no, .no] [5, 6, 7, 8, 33] [] (P := ((((a * y) / 18446744073709551616) = ((x * b) / 18446744073709551616))) ∧ (¬ (((a * y) % 18446744073709551616) = ((x * b) % 18446744073709551616)))) (l' := [(5, .e (.c (.d (D.lit (.int .u64 ((a * y) / 18446744073709551616)))))), (6, .e (.c (.d (D.lit (.int .u64 ((a * y) % 18446744073709551616)))))), (7, .e (.c (.d (D.lit (.int .u64 ((x * b) / 18446744073709551616)))))), (8, .e (.c (.d (D.lit (.int .u64 ((x * b) % 18446744073709551616)))))), (33, bV false)]) (g' := []) (nx' := 2) (by kernel_rfl) ⟨(by omega), (by omega)⟩ ?_
      refine AW.cond_f (.tmp (Look.of rfl)) ?_
      by_cases hx3 : (((a * y) % 18446744073709551616) < ((x * b) % 18446744073709551616))
      · refine AW.rgs [.no, .no, .b false, .no, .no, .no, .b true, .no, .no, .no, .b true, .no, .no, .no] [42] [] (P := (¬ (((a * y) / 18446744073709551616) < ((x * b) / 18446744073709551616))) ∧ ((((a * y) / 18446744073709551616) = ((x * b) / 18446744073709551616))) ∧ ((((a * y) % 18446744073709551616) < ((x * b) % 18446744073709551616)))) (l' := [(42, bV true)]) (g' := []) (nx' := 2) (by kernel_rfl) ⟨(by omega), (by omega), (by omega)⟩ ?_
        refine AW.cond_t (.tmp (Look.of rfl)) ?_
        refine AW.rgs [.no] [4] [] (P := True) (l' := [(4, iV (-1))]) (g' := []) (nx' := 2) (by kernel_rfl) trivial ?_
        refine AW.ret ?_
        exact EndP.of (.inr rfl) [] (P := (((cmpV (a * y) (x * b)) : Int) = (-1))) (by kernel_rfl) (by first | rfl | omega)
      · refine AW.rgs [.no, .no, .b false, .no, .no, .no, .b true, .no, .no, .no, .b false, .no, .no, .no] [42] [] (P := (¬ (((a * y) / 18446744073709551616) < ((x * b) / 18446744073709551616))) ∧ ((((a * y) / 18446744073709551616) = ((x * b) / 18446744073709551616))) ∧ (¬ (((a * y) % 18446744073709551616) < ((x * b) % 18446744073709551616)))) (l' := [(42, bV false)]) (g' := []) (nx' := 2) (by kernel_rfl) ⟨(by omega), (by omega), (by omega)⟩ ?_
        refine AW.cond_f (.tmp (Look.of rfl)) ?_
        refine AW.skip ?_
        refine AW.rgs [.no] [4] [] (P := True) (l' := [(4, iV 1)]) (g' := []) (nx' := 2) (by kernel_rfl) trivial ?_
        refine AW.ret ?_
        exact EndP.of (.inr rfl) [] (P := (((cmpV (a * y) (x * b)) : Int) = 1)) (by kernel_rfl) (by first | rfl | omega)
  · refine AW.rgs [.no, .no, .b false, .no, .no, .no] [5, 6, 7, 8, 33] [] (P := (¬ (((a * y) / 18446744073709551616) = ((x * b) / 18446744073709551616)))) (l' := [(5, .e (.c (.d (D.lit (.int .u64 ((a * y) / 18446744073709551616)))))), (6, .e (.c (.d (D.lit (.int .u64 ((a * y) % 18446744073709551616)))))), (7, .e (.c (.d (D.lit (.int .u64 ((x * b) / 18446744073709551616)))))), (8, .e (.c (.d (D.lit (.int .u64 ((x * b) % 18446744073709551616)))))), (33, bV false)]) (g' := []) (nx' := 2) (by kernel_rfl) (by omega) ?_
    refine AW.cond_f (.tmp (Look.of rfl)) ?_
    by_cases hx4 : (((a * y) / 18446744073709551616) < ((x * b) / 18446744073709551616))
    · refine AW.rgs [.no, .no, .b true, .no, .no, .no] [42] [] (P := ((((a * y) / 18446744073709551616) < ((x * b) / 18446744073709551616)))) (l' := [(42, bV true)]) (g' := []) (nx' := 2) (by kernel_rfl) (by omega) ?_
      refine AW.cond_t (.tmp (Look.of rfl)) ?_
      refine AW.rgs [.no] [4] [] (P := True) (l' := [(4, iV (-1))]) (g' := []) (nx' := 2) (by kernel_rfl) trivial ?_
      refine AW.ret ?_
      exact EndP.of (.inr rfl) [] (P := (((cmpV (a * y) (x * b)) : Int) = (-1))) (by kernel_rfl) (by first | rfl | omega)
    · refine AW.rgs [.no, .no, .b false, .no, .no, .no, .b false, .no, .no, .no, .no] [42] [] (P := (¬ (((a * y) / 18446744073709551616) < ((x * b) / 18446744073709551616))) ∧ (¬ (((a * y) / 18446744073709551616) = ((x * b) / 18446744073709551616)))) (l' := [(42, bV false)]) (g' := []) (nx' := 2) (by kernel_rfl) ⟨(by omega), (by omega)⟩ ?_
      refine AW.cond_f (.tmp (Look.of rfl)) ?_
      refine AW.skip ?_
      refine AW.rgs [.no] [4] [] (P := True) (l' := [(4, iV 1)]) (g' := []) (nx' := 2) (by kernel_rfl) trivial ?_
      refine AW.ret ?_
      exact EndP.of (.inr rfl) [] (P := (((cmpV (a * y) (x * b)) : Int) = 1)) (by kernel_rfl) (by first | rfl | omega)

end Go.Proofs.Ytfcdndlnjdelmaa
