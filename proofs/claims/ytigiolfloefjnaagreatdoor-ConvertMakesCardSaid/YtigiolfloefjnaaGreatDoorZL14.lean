/- Phases. No statement is proved here. -/
import Derived.Test.YtigiolfloefjnaaGreatDoorZAmU
import Derived.Test.YtigiolfloefjnaaGreatDoorZAmD
namespace Go.Proofs.YtigiolfloefjnaaGreatDoor
open Go.ChangeShapes Go.WideShapes Go.ChangeAt Go.RowKit
set_option linter.unusedVariables false
set_option linter.unusedSimpArgs false
set_option maxHeartbeats 4000000
set_option maxRecDepth 100000
def ratOk (n d : Int) : Bool := decide (1 ≤ n ∧ n ≤ 68719476736 ∧ 1 ≤ d ∧ d ≤ 68719476736 ∧ Nat.gcd (Int.toNat n) (Int.toNat d) = 1)
theorem ratOk_t {n d : Int} (h1 : 1 ≤ n ∧ n ≤ 68719476736) (h2 : 1 ≤ d ∧ d ≤ 68719476736) (h3 : Nat.gcd (Int.toNat n) (Int.toNat d) = 1) : ratOk n d = true := decide_eq_true ⟨h1.1, h1.2, h2.1, h2.2, h3⟩
theorem ratOk_f {n d : Int} (h : ¬ (1 ≤ n ∧ n ≤ 68719476736 ∧ 1 ≤ d ∧ d ≤ 68719476736)) : ratOk n d = false := decide_eq_false (fun h9 => h ⟨h9.1, h9.2.1, h9.2.2.1, h9.2.2.2.1⟩)
theorem ratOk_g {n d : Int} (h : ¬ Nat.gcd (Int.toNat n) (Int.toNat d) = 1) : ratOk n d = false := decide_eq_false (fun h9 => h h9.2.2.2.2)
theorem ratOk_of {n d : Int} (h : ratOk n d = true) : 1 ≤ n ∧ n ≤ 68719476736 ∧ 1 ≤ d ∧ d ≤ 68719476736 := by
 have h9 := of_decide_eq_true h
 exact ⟨h9.1, h9.2.1, h9.2.2.1, h9.2.2.2.1⟩
def phB (n d a p f : Int) : Bool := ratOk n d && decide (n ≤ 768000 ∧ d ≤ 768000 ∧ -4096 ≤ a ∧ a ≤ 4096 ∧ 0 ≤ p ∧ p ≤ 1125899906842624 ∧ 0 ≤ f ∧ f < d * 65536)
theorem phB_t {n d a p f : Int} (h : ratOk n d = true) (h2 : n ≤ 768000 ∧ d ≤ 768000 ∧ -4096 ≤ a ∧ a ≤ 4096 ∧ 0 ≤ p ∧ p ≤ 1125899906842624 ∧ 0 ≤ f ∧ f < d * 65536) : phB n d a p f = true := by unfold phB; rw [h, decide_eq_true h2]; rfl
theorem phB_r {n d a p f : Int} (h : ratOk n d = false) : phB n d a p f = false := by unfold phB; rw [h]; rfl
theorem phB_f {n d a p f : Int} (h2 : ¬ (n ≤ 768000 ∧ d ≤ 768000 ∧ -4096 ≤ a ∧ a ≤ 4096 ∧ 0 ≤ p ∧ p ≤ 1125899906842624 ∧ 0 ≤ f ∧ f < d * 65536)) : phB n d a p f = false := by unfold phB; rw [decide_eq_false h2, Bool.and_false]
structure PhV (n d a p f : Int) : Prop where
 rat : ratOk n d = true
 b : (1 ≤ n ∧ n ≤ 768000) ∧ (1 ≤ d ∧ d ≤ 768000) ∧ (-4096 ≤ a ∧ a ≤ 4096) ∧ (0 ≤ p ∧ p ≤ 1125899906842624) ∧ 0 ≤ f ∧ f < d * 65536
theorem PhV.ok {n d a p f : Int} (h : PhV n d a p f) : phB n d a p f = true := phB_t h.rat (by have := h.b; omega)
theorem PhV.of {n d a p f : Int} (h : phB n d a p f = true) : PhV n d a p f := by
 unfold phB at h
 rw [Bool.and_eq_true] at h
 have h1 := ratOk_of h.1
 have h2 := of_decide_eq_true h.2
 exact ⟨h.1, by omega⟩
theorem PhV.mk' {n d a p f p' f' : Int} (h : PhV n d a p f) (h1 : 0 ≤ p' ∧ p' ≤ 1125899906842624) (h2 : 0 ≤ f' ∧ f' < d * 65536) : PhV n d a p' f' := ⟨h.rat, h.b.1, h.b.2.1, h.b.2.2.1, h1, h2⟩
def stp (n a : Int) : Int := n * (65536 + a)
theorem stp_in {n a : Int} (h1 : 1 ≤ n ∧ n ≤ 768000) (h2 : -4096 ≤ a ∧ a ≤ 4096) : 61440 ≤ stp n a ∧ stp n a ≤ 53477376000 := by
 unfold stp
 have e1 : 1 * (65536 + a) ≤ n * (65536 + a) := Int.mul_le_mul_of_nonneg_right h1.1 (by omega)
 have e2 : n * (65536 + a) ≤ 768000 * (65536 + a) := Int.mul_le_mul_of_nonneg_right h1.2 (by omega)
 omega
def mvV (f s : Int) (i : Nat) : Int := f + ((i : Nat) : Int) * s
theorem mv_next (f s : Int) (i : Nat) : mvV f s (i + 1) = mvV f s i + s := by unfold mvV; rw [Int.natCast_add, Int.add_mul]; omega
theorem mv_0 (f s : Int) : mvV f s 0 = f := by unfold mvV; simp
theorem mv_in {f s : Int} {i : Nat} (h1 : 0 ≤ f ∧ f < 50331648000) (h2 : 0 ≤ s ∧ s ≤ 53477376000) (h3 : i ≤ 65537) : 0 ≤ mvV f s i ∧ mvV f s i ≤ 3600000000000000 := by
 unfold mvV
 have e1 : 0 ≤ ((i : Nat) : Int) * s := Int.mul_nonneg (by omega) h2.1
 have e2 : ((i : Nat) : Int) * s ≤ 65537 * s := Int.mul_le_mul_of_nonneg_right (by omega) h2.1
 omega
theorem mv_mono {f s : Int} {i j : Nat} (hs : 0 ≤ s) (h : i ≤ j) : mvV f s i ≤ mvV f s j := by
 unfold mvV
 have := Int.mul_le_mul_of_nonneg_right (show ((i : Nat) : Int) ≤ ((j : Nat) : Int) by omega) hs
 omega
theorem quo_in {x P : Int} (h1 : 0 ≤ x) (h2 : 0 < P) : 0 ≤ x / P ∧ x / P ≤ x ∧ 0 ≤ x % P ∧ x % P < P := ⟨Int.ediv_nonneg h1 (by omega), Int.ediv_le_self _ h1, Int.emod_nonneg _ (by omega), Int.emod_lt_of_pos _ h2⟩
def needV (f s P : Int) (n : Nat) : Int := if n = 0 then 0 else max (mvV f s (n - 1) / P + 2) (mvV f s n / P)
theorem needV_0 (f s P : Int) : needV f s P 0 = 0 := if_pos rfl
theorem needV_s (f s P : Int) {n : Nat} (h : ¬ n = 0) : needV f s P n = max (mvV f s (n - 1) / P + 2) (mvV f s n / P) := if_neg h
theorem needV_in {f s P : Int} {n : Nat} (h1 : 0 ≤ f ∧ f < 50331648000) (h2 : 0 ≤ s ∧ s ≤ 53477376000) (h3 : n ≤ 65537) (hP : 0 < P) : 0 ≤ needV f s P n ∧ needV f s P n ≤ 3600000000000002 := by
 by_cases h : n = 0
 ·subst h; rw [needV_0]; omega
 ·rw [needV_s _ _ _ h]
  have a1 := mv_in (i := n - 1) h1 h2 (by omega)
  have a2 := mv_in (i := n) h1 h2 h3
  have b1 := quo_in a1.1 hP
  have b2 := quo_in a2.1 hP
  omega
theorem needV_mono {f s P : Int} (hf : 0 ≤ f) (hs : 0 ≤ s) (hP : 0 < P) {i j : Nat} (h : i ≤ j) : needV f s P i ≤ needV f s P j := by
 have nn : ∀ k, 0 ≤ mvV f s k := fun k => by unfold mvV; have := Int.mul_nonneg (show 0 ≤ ((k : Nat) : Int) by omega) hs; omega
 by_cases hi : i = 0
 ·subst hi; rw [needV_0]
  by_cases hj : j = 0
  ·subst hj; rw [needV_0]; omega
  ·rw [needV_s _ _ _ hj]
   have := (quo_in (nn (j - 1)) hP).1
   omega
 ·rw [needV_s _ _ _ hi, needV_s _ _ _ (show ¬ j = 0 by omega)]
  have a1 := Int.ediv_le_ediv hP (mv_mono (f := f) hs (show i - 1 ≤ j - 1 by omega))
  have a2 := Int.ediv_le_ediv hP (mv_mono (f := f) hs h)
  omega
def mkV (f s P h : Int) : Nat → Nat
 | 0 => 0
 | k + 1 => if needV f s P (k + 1) ≤ h then k + 1 else mkV f s P h k
def mkF (f s P h : Int) : Nat := mkV f s P h 65536
theorem mkV_le (f s P h : Int) : ∀ n, mkV f s P h n ≤ n
 | 0 => Nat.le_refl 0
 | k + 1 => by
  have ih := mkV_le f s P h k
  show (if needV f s P (k + 1) ≤ h then k + 1 else mkV f s P h k) ≤ k + 1
  split <;> omega
theorem mkV_need {f s P h : Int} (h0 : 0 ≤ h) : ∀ n, needV f s P (mkV f s P h n) ≤ h
 | 0 => by show needV f s P 0 ≤ h; rw [needV_0]; exact h0
 | k + 1 => by
  have ih := mkV_need (f := f) (s := s) (P := P) h0 k
  show needV f s P (if needV f s P (k + 1) ≤ h then k + 1 else mkV f s P h k) ≤ h
  split
  ·assumption
  ·exact ih
theorem mkV_eq {f s P h : Int} (hf : 0 ≤ f) (hs : 0 ≤ s) (hP : 0 < P) {k : Nat} : ∀ n, k ≤ n → (k = 0 ∨ needV f s P k ≤ h) → (k = n ∨ h < needV f s P (k + 1)) → mkV f s P h n = k
 | 0, hk, _, _ => by show 0 = k; omega
 | n + 1, hk, h1, h2 => by
  show (if needV f s P (n + 1) ≤ h then n + 1 else mkV f s P h n) = k
  by_cases h9 : needV f s P (n + 1) ≤ h
  ·rw [if_pos h9]
   rcases h2 with h2 | h2
   ·exact h2.symm
   ·by_cases h8 : k = n + 1
    ·exact h8.symm
    ·have := needV_mono hf hs hP (show k + 1 ≤ n + 1 by omega); omega
  ·rw [if_neg h9]
   have h8 : ¬ k = n + 1 := by
    intro e; subst e
    rcases h1 with h1 | h1
    ·omega
    ·exact h9 h1
   refine mkV_eq hf hs hP n (by omega) h1 ?_
   rcases h2 with h2 | h2
   ·exact absurd h2 h8
   ·exact .inr h2
theorem mkF_eq {f s P h : Int} (hf : 0 ≤ f) (hs : 0 ≤ s) (hP : 0 < P) {k : Nat} (hk : k ≤ 65536) (h1 : k = 0 ∨ needV f s P k ≤ h) (h2 : k = 65536 ∨ h < needV f s P (k + 1)) : ((k : Nat) : Int) = ((mkF f s P h : Nat) : Int) := by rw [show mkF f s P h = k from mkV_eq hf hs hP 65536 hk h1 h2]
theorem mkF_need {f s P h : Int} (h0 : 0 ≤ h) : needV f s P (mkF f s P h) ≤ h ∧ mkF f s P h ≤ 65536 := ⟨mkV_need h0 65536, mkV_le _ _ _ _ 65536⟩
theorem zl145 {p : Prop} (h : p := by first | omega | assumption | simp) : p := h
theorem zl144 {p : Prop} (h : p := by first | rfl | omega | assumption | (simp; done) | (simp; omega)) : p := h
theorem R_gcd_p (x0 y0 : Nat) (h1 : x0 ≤ 9223372036854775807) (h2 : y0 ≤ 9223372036854775807) : Fun 57 [iE ((x0 : Nat) : Int), iE ((y0 : Nat) : Int)] (toG []) 0 (iV (((Nat.gcd x0 y0) : Nat) : Int)) (toG []) 0 := by
 refine Fun.mk (n := 12) Tryz.func57 rfl rfl (Nat.le_of_ble_eq_true rfl) ?_
 intro cx hcx
 refine zr [.no] [0, 1] [] True [(0, uV x0), (1, uV y0)] [] 0 trivial ?_
 refine AW.seq ?_
 refine AW.block ?_
 refine AW.loopE 0 hcx (fun (x : {x : Nat × Nat // match x with | (x, y) => (x ≤ 9223372036854775807) ∧ (y ≤ 9223372036854775807) ∧ (Nat.gcd x y = Nat.gcd x0 y0)}) => match x with | ⟨(x, y), _⟩ => (⟨[(0, uV x), (1, uV y)], [], 0⟩ : ES)) (fun (x : {x : Nat × Nat // match x with | (x, y) => (x ≤ 9223372036854775807) ∧ (y ≤ 9223372036854775807) ∧ (Nat.gcd x y = Nat.gcd x0 y0)}) => match x with | ⟨(x, y), _⟩ => y) ⟨((x0 : Nat), (y0 : Nat)), (show (x0 ≤ 9223372036854775807) ∧ (y0 ≤ 9223372036854775807) ∧ (Nat.gcd x0 y0 = Nat.gcd x0 y0) from ⟨zl145, zl145, rfl⟩)⟩ [] (P := ((((x0 : Nat) : Int) : Int) = ((x0 : Nat) : Int)) ∧ ((((y0 : Nat) : Int) : Int) = ((y0 : Nat) : Int))) zk ⟨rfl, rfl⟩ ?_
 rintro ⟨⟨x, y⟩, hinv0⟩
 obtain ⟨hx, hy, hg⟩ : (x ≤ 9223372036854775807) ∧ (y ≤ 9223372036854775807) ∧ (Nat.gcd x y = Nat.gcd x0 y0) := hinv0
 refine AW.es (l := [(0, uV x), (1, uV y)]) (g := []) (nx := 0) rfl rfl rfl ?_
 have hmd : y = 0 ∨ x % y < y := (Nat.eq_zero_or_pos y).imp id (fun h9 => Nat.mod_lt _ h9)
 refine AW.seq ?_
 by_cases hx1 : (((y : Nat) : Int) ≠ 0)
 ·refine zr [.no, .b true] [0, 1, 6] [] ((((y : Nat) : Int) ≠ 0)) [(0, uV x), (1, uV y), (6, bV true)] [] 0 zo ?_
  refine zts ?_
  refine AW.block ?_
  refine zg [.no, .no, .no, .ps, .no, .no] [0, 1] [] (((0 : Int) ≤ (((x : Nat) : Int) : Int)) ∧ ((0 : Int) < (((y : Nat) : Int) : Int))) [(0, uV y), (1, iV (↑x % ↑y))] [] 0 ⟨zo, zo⟩ ?_
  exact Rd.of ⟨((y : Nat), ((x % y) : Nat)), (show (y ≤ 9223372036854775807) ∧ ((x % y) ≤ 9223372036854775807) ∧ (Nat.gcd y (x % y) = Nat.gcd x0 y0) from ⟨zl145, zl145, (by rw [Nat.gcd_comm, ← Nat.gcd_rec, Nat.gcd_comm]; exact hg)⟩)⟩ [] (P := ((((y : Nat) : Int) : Int) = ((y : Nat) : Int)) ∧ (((((x % y) : Nat) : Int) : Int) = (((x : Nat) : Int) % ((y : Nat) : Int)))) zk ⟨rfl, zl144⟩ (show (x % y) < y from (by first | omega | (show _ < _; simp; omega)))
 ·refine zr [.no, .b false] [0, 1, 6] [] (¬ (((y : Nat) : Int) ≠ 0)) [(0, uV x), (1, uV y), (6, bV false)] [] 0 zo ?_
  refine zf ?_
  refine AW.exit ?_
  refine zr [.no, .no] [4] [] True [(4, uV x)] [] 0 trivial ?_
  refine AW.ret ?_
  exact EndP.of (.inr rfl) [] (P := (((((Nat.gcd x0 y0) : Nat) : Int) : Int) = ((x : Nat) : Int))) zk (by rw [← hg, show y = 0 by omega, Nat.gcd_zero_right])
theorem R_gcd_r (x0 y0 : Nat) (h1 : x0 ≤ 9223372036854775807) (h2 : y0 ≤ 9223372036854775807) : Fun 66 [iE ((x0 : Nat) : Int), iE ((y0 : Nat) : Int)] (toG []) 0 (iV (((Nat.gcd x0 y0) : Nat) : Int)) (toG []) 0 := by
 refine Fun.mk (n := 12) Tryz.func66 rfl rfl (Nat.le_of_ble_eq_true rfl) ?_
 intro cx hcx
 refine zr [.no] [0, 1] [] True [(0, uV x0), (1, uV y0)] [] 0 trivial ?_
 refine AW.seq ?_
 refine AW.block ?_
 refine AW.loopE 0 hcx (fun (x : {x : Nat × Nat // match x with | (x, y) => (x ≤ 9223372036854775807) ∧ (y ≤ 9223372036854775807) ∧ (Nat.gcd x y = Nat.gcd x0 y0)}) => match x with | ⟨(x, y), _⟩ => (⟨[(0, uV x), (1, uV y)], [], 0⟩ : ES)) (fun (x : {x : Nat × Nat // match x with | (x, y) => (x ≤ 9223372036854775807) ∧ (y ≤ 9223372036854775807) ∧ (Nat.gcd x y = Nat.gcd x0 y0)}) => match x with | ⟨(x, y), _⟩ => y) ⟨((x0 : Nat), (y0 : Nat)), (show (x0 ≤ 9223372036854775807) ∧ (y0 ≤ 9223372036854775807) ∧ (Nat.gcd x0 y0 = Nat.gcd x0 y0) from ⟨zl145, zl145, rfl⟩)⟩ [] (P := ((((x0 : Nat) : Int) : Int) = ((x0 : Nat) : Int)) ∧ ((((y0 : Nat) : Int) : Int) = ((y0 : Nat) : Int))) zk ⟨rfl, rfl⟩ ?_
 rintro ⟨⟨x, y⟩, hinv0⟩
 obtain ⟨hx, hy, hg⟩ : (x ≤ 9223372036854775807) ∧ (y ≤ 9223372036854775807) ∧ (Nat.gcd x y = Nat.gcd x0 y0) := hinv0
 refine AW.es (l := [(0, uV x), (1, uV y)]) (g := []) (nx := 0) rfl rfl rfl ?_
 have hmd : y = 0 ∨ x % y < y := (Nat.eq_zero_or_pos y).imp id (fun h9 => Nat.mod_lt _ h9)
 refine AW.seq ?_
 by_cases hx1 : (((y : Nat) : Int) ≠ 0)
 ·refine zr [.no, .b true] [0, 1, 6] [] ((((y : Nat) : Int) ≠ 0)) [(0, uV x), (1, uV y), (6, bV true)] [] 0 zo ?_
  refine zts ?_
  refine AW.block ?_
  refine zg [.no, .no, .no, .ps, .no, .no] [0, 1] [] (((0 : Int) ≤ (((x : Nat) : Int) : Int)) ∧ ((0 : Int) < (((y : Nat) : Int) : Int))) [(0, uV y), (1, iV (↑x % ↑y))] [] 0 ⟨zo, zo⟩ ?_
  exact Rd.of ⟨((y : Nat), ((x % y) : Nat)), (show (y ≤ 9223372036854775807) ∧ ((x % y) ≤ 9223372036854775807) ∧ (Nat.gcd y (x % y) = Nat.gcd x0 y0) from ⟨zl145, zl145, (by rw [Nat.gcd_comm, ← Nat.gcd_rec, Nat.gcd_comm]; exact hg)⟩)⟩ [] (P := ((((y : Nat) : Int) : Int) = ((y : Nat) : Int)) ∧ (((((x % y) : Nat) : Int) : Int) = (((x : Nat) : Int) % ((y : Nat) : Int)))) zk ⟨rfl, zl144⟩ (show (x % y) < y from (by first | omega | (show _ < _; simp; omega)))
 ·refine zr [.no, .b false] [0, 1, 6] [] (¬ (((y : Nat) : Int) ≠ 0)) [(0, uV x), (1, uV y), (6, bV false)] [] 0 zo ?_
  refine zf ?_
  refine AW.exit ?_
  refine zr [.no, .no] [4] [] True [(4, uV x)] [] 0 trivial ?_
  refine AW.ret ?_
  exact EndP.of (.inr rfl) [] (P := (((((Nat.gcd x0 y0) : Nat) : Int) : Int) = ((x : Nat) : Int))) zk (by rw [← hg, show y = 0 by omega, Nat.gcd_zero_right])
theorem zl143 {p : Prop} (h : p := by first | exact decide_eq_true (by omega) | exact decide_eq_false (by omega)) : p := h
theorem R_isTerm (n : Int)  : Fun 58 [iE n] (toG []) 0 (.e (.c (.d (D.lit (.bool (decide (1 ≤ n ∧ n ≤ 68719476736))))))) (toG []) 0 := by
 refine Fun.mk (n := 9) Tryz.func58 rfl rfl (Nat.le_of_ble_eq_true rfl) ?_
 intro cx hcx
 refine zr [.no] [0] [] True [(0, iV n)] [] 0 trivial ?_
 by_cases hx1 : ((1 : Int) ≤ n)
 ·by_cases hx2 : (n ≤ 68719476736)
  ·refine zr [.no, .b true, .no, .no, .b true, .no, .no] [2] [] ((((1 : Int) ≤ n)) ∧ ((n ≤ 68719476736))) [(2, bV true)] [] 0 ⟨zo, zo⟩ ?_
   refine AW.ret ?_
   exact EndP.of (.inr rfl) [] (P := ((decide (1 ≤ n ∧ n ≤ 68719476736)) = true)) zk zl143
  ·refine zr [.no, .b true, .no, .no, .b false, .no, .no] [2] [] ((((1 : Int) ≤ n)) ∧ (¬ (n ≤ 68719476736))) [(2, bV false)] [] 0 ⟨zo, zo⟩ ?_
   refine AW.ret ?_
   exact EndP.of (.inr rfl) [] (P := ((decide (1 ≤ n ∧ n ≤ 68719476736)) = false)) zk zl143
 ·refine zr [.no, .b false, .no, .no, .no] [2] [] (¬ ((1 : Int) ≤ n)) [(2, bV false)] [] 0 zo ?_
  refine AW.ret ?_
  exact EndP.of (.inr rfl) [] (P := ((decide (1 ≤ n ∧ n ≤ 68719476736)) = false)) zk zl143
theorem zl142 {p : Prop} (h : p := by first | omega | with_reducible assumption | (simp <;> omega) | rfl | assumption) : p := h
theorem zl140 {p : Prop} (h : p := by first | exact ratOk_f (by omega) | exact ratOk_t (by omega) (by omega) (by omega) | exact ratOk_g (by omega)) : p := h
theorem R_Valid_p (n d : Int)  : Fun 103 [.agg [iC n, iC d]] (toG []) 0 (.e (.c (.d (D.lit (.bool (ratOk n d)))))) (toG []) 0 := by
 refine Fun.mk (n := 19) Tryz.func103 rfl rfl (Nat.le_of_ble_eq_true rfl) ?_
 intro cx hcx
 refine zr [.no, .no] [1] [0] True [(1, rV 0 0)] [(0, some (29, .ds [iD n, iD d]))] 1 trivial ?_
 rcases Bool.eq_false_or_eq_true (decide (1 ≤ n ∧ n ≤ 68719476736)) with hx1 | hx1
 ·have hx2 : (((1 : Int) ≤ n) ∧ (n ≤ 68719476736)) := of_decide_eq_true hx1
  rcases Bool.eq_false_or_eq_true (decide (1 ≤ d ∧ d ≤ 68719476736)) with hx3 | hx3
  ·have hx4 : (((1 : Int) ≤ d) ∧ (d ≤ 68719476736)) := of_decide_eq_true hx3
   by_cases hx5 : ((((Nat.gcd (Int.toNat n) (Int.toNat d)) : Nat) : Int) = 1)
   ·refine zr [.no, .no, .call [] (bV true) [] 0 [] none, .no, .no, .no, .call [] (bV true) [] 0 [] none, .no, .no, .no, .no, .no, .no, .call [] (uV (Nat.gcd (Int.toNat n) (Int.toNat d))) [] 0 [] (some [uE (Int.toNat n), uE (Int.toNat d)]), .b true, .no, .no] [2] [] ((Fun 58 [iE n] (toG []) 0 (bV true) (toG []) 0) ∧ (Fun 58 [iE d] (toG []) 0 (bV true) (toG []) 0) ∧ (((((Int.toNat n) : Nat) : Int) : Int) = n) ∧ (((((Int.toNat d) : Nat) : Int) : Int) = d) ∧ (_) ∧ (((((Nat.gcd (Int.toNat n) (Int.toNat d)) : Nat) : Int) = 1))) [(2, bV true)] [] 1 ⟨(by have h0 := (R_isTerm n); rw [hx1] at h0; exact h0), (by have h0 := (R_isTerm d); rw [hx3] at h0; exact h0), zo, zo, (R_gcd_p (Int.toNat n) (Int.toNat d) zl142 zl142), zo⟩ ?_
    refine AW.ret ?_
    exact EndP.of (.inr rfl) [] (P := ((ratOk n d) = true)) zk zl140
   ·refine zr [.no, .no, .call [] (bV true) [] 0 [] none, .no, .no, .no, .call [] (bV true) [] 0 [] none, .no, .no, .no, .no, .no, .no, .call [] (uV (Nat.gcd (Int.toNat n) (Int.toNat d))) [] 0 [] (some [uE (Int.toNat n), uE (Int.toNat d)]), .b false, .no, .no] [2] [] ((Fun 58 [iE n] (toG []) 0 (bV true) (toG []) 0) ∧ (Fun 58 [iE d] (toG []) 0 (bV true) (toG []) 0) ∧ (((((Int.toNat n) : Nat) : Int) : Int) = n) ∧ (((((Int.toNat d) : Nat) : Int) : Int) = d) ∧ (_) ∧ (¬ ((((Nat.gcd (Int.toNat n) (Int.toNat d)) : Nat) : Int) = 1))) [(2, bV false)] [] 1 ⟨(by have h0 := (R_isTerm n); rw [hx1] at h0; exact h0), (by have h0 := (R_isTerm d); rw [hx3] at h0; exact h0), zo, zo, (R_gcd_p (Int.toNat n) (Int.toNat d) zl142 zl142), zo⟩ ?_
    refine AW.ret ?_
    exact EndP.of (.inr rfl) [] (P := ((ratOk n d) = false)) zk zl140
  ·have hx6 : ¬ (((1 : Int) ≤ d) ∧ (d ≤ 68719476736)) := of_decide_eq_false hx3
   refine zr [.no, .no, .call [] (bV true) [] 0 [] none, .no, .no, .no, .call [] (bV false) [] 0 [] none, .no, .no, .no, .no] [2] [] ((Fun 58 [iE n] (toG []) 0 (bV true) (toG []) 0) ∧ (Fun 58 [iE d] (toG []) 0 (bV false) (toG []) 0)) [(2, bV false)] [] 1 ⟨(by have h0 := (R_isTerm n); rw [hx1] at h0; exact h0), (by have h0 := (R_isTerm d); rw [hx3] at h0; exact h0)⟩ ?_
   refine AW.ret ?_
   exact EndP.of (.inr rfl) [] (P := ((ratOk n d) = false)) zk zl140
 ·have hx7 : ¬ (((1 : Int) ≤ n) ∧ (n ≤ 68719476736)) := of_decide_eq_false hx1
  refine zr [.no, .no, .call [] (bV false) [] 0 [] none, .no, .no, .no, .no, .no] [2] [] (Fun 58 [iE n] (toG []) 0 (bV false) (toG []) 0) [(2, bV false)] [] 1 (by have h0 := (R_isTerm n); rw [hx1] at h0; exact h0) ?_
  refine AW.ret ?_
  exact EndP.of (.inr rfl) [] (P := ((ratOk n d) = false)) zk zl140
theorem R_Valid_r (n d : Int)  : Fun 106 [.agg [iC n, iC d]] (toG []) 0 (.e (.c (.d (D.lit (.bool (ratOk n d)))))) (toG []) 0 := by
 refine Fun.mk (n := 29) Tryz.func106 rfl rfl (Nat.le_of_ble_eq_true rfl) ?_
 intro cx hcx
 refine zr [.no, .no] [1] [0] True [(1, rV 0 0)] [(0, some (29, .ds [iD n, iD d]))] 1 trivial ?_
 by_cases hx1 : ((1 : Int) ≤ n)
 ·by_cases hx2 : ((1 : Int) ≤ d)
  ·by_cases hx3 : (n ≤ 68719476736)
   ·by_cases hx4 : (d ≤ 68719476736)
    ·by_cases hx5 : ((((Nat.gcd (Int.toNat n) (Int.toNat d)) : Nat) : Int) = 1)
     ·refine zr [.no, .no, .b true, .no, .no, .no, .b true, .no, .no, .no, .no, .b true, .no, .no, .no, .no, .b true, .no, .no, .no, .no, .no, .no, .call [] (uV (Nat.gcd (Int.toNat n) (Int.toNat d))) [] 0 [] (some [uE (Int.toNat n), uE (Int.toNat d)]), .b true, .no, .no] [2] [] ((((1 : Int) ≤ n)) ∧ (((1 : Int) ≤ d)) ∧ ((n ≤ 68719476736)) ∧ ((d ≤ 68719476736)) ∧ (((((Int.toNat n) : Nat) : Int) : Int) = n) ∧ (((((Int.toNat d) : Nat) : Int) : Int) = d) ∧ (_) ∧ (((((Nat.gcd (Int.toNat n) (Int.toNat d)) : Nat) : Int) = 1))) [(2, bV true)] [] 1 ⟨zo, zo, zo, zo, zo, zo, (R_gcd_r (Int.toNat n) (Int.toNat d) zl142 zl142), zo⟩ ?_
      refine AW.ret ?_
      exact EndP.of (.inr rfl) [] (P := ((ratOk n d) = true)) zk zl140
     ·refine zr [.no, .no, .b true, .no, .no, .no, .b true, .no, .no, .no, .no, .b true, .no, .no, .no, .no, .b true, .no, .no, .no, .no, .no, .no, .call [] (uV (Nat.gcd (Int.toNat n) (Int.toNat d))) [] 0 [] (some [uE (Int.toNat n), uE (Int.toNat d)]), .b false, .no, .no] [2] [] ((((1 : Int) ≤ n)) ∧ (((1 : Int) ≤ d)) ∧ ((n ≤ 68719476736)) ∧ ((d ≤ 68719476736)) ∧ (((((Int.toNat n) : Nat) : Int) : Int) = n) ∧ (((((Int.toNat d) : Nat) : Int) : Int) = d) ∧ (_) ∧ (¬ ((((Nat.gcd (Int.toNat n) (Int.toNat d)) : Nat) : Int) = 1))) [(2, bV false)] [] 1 ⟨zo, zo, zo, zo, zo, zo, (R_gcd_r (Int.toNat n) (Int.toNat d) zl142 zl142), zo⟩ ?_
      refine AW.ret ?_
      exact EndP.of (.inr rfl) [] (P := ((ratOk n d) = false)) zk zl140
    ·refine zr [.no, .no, .b true, .no, .no, .no, .b true, .no, .no, .no, .no, .b true, .no, .no, .no, .no, .b false, .no, .no, .no, .no] [2] [] ((((1 : Int) ≤ n)) ∧ (((1 : Int) ≤ d)) ∧ ((n ≤ 68719476736)) ∧ (¬ (d ≤ 68719476736))) [(2, bV false)] [] 1 ⟨zo, zo, zo, zo⟩ ?_
     refine AW.ret ?_
     exact EndP.of (.inr rfl) [] (P := ((ratOk n d) = false)) zk zl140
   ·refine zr [.no, .no, .b true, .no, .no, .no, .b true, .no, .no, .no, .no, .b false, .no, .no, .no, .no, .no, .no] [2] [] ((((1 : Int) ≤ n)) ∧ (((1 : Int) ≤ d)) ∧ (¬ (n ≤ 68719476736))) [(2, bV false)] [] 1 ⟨zo, zo, zo⟩ ?_
    refine AW.ret ?_
    exact EndP.of (.inr rfl) [] (P := ((ratOk n d) = false)) zk zl140
  ·refine zr [.no, .no, .b true, .no, .no, .no, .b false, .no, .no, .no, .no, .no, .no, .no, .no] [2] [] ((((1 : Int) ≤ n)) ∧ (¬ ((1 : Int) ≤ d))) [(2, bV false)] [] 1 ⟨zo, zo⟩ ?_
   refine AW.ret ?_
   exact EndP.of (.inr rfl) [] (P := ((ratOk n d) = false)) zk zl140
 ·refine zr [.no, .no, .b false, .no, .no, .no, .no, .no, .no, .no, .no, .no] [2] [] (¬ ((1 : Int) ≤ n)) [(2, bV false)] [] 1 zo ?_
  refine AW.ret ?_
  exact EndP.of (.inr rfl) [] (P := ((ratOk n d) = false)) zk zl140
theorem P_parts (n d a p f : Int) (h : 1 ≤ d ∧ d ≤ 768000) : Fun 105 [.agg [iC n, iC d, iC a, iC p, iC f]] (toG []) 0 (iV (d * 65536)) (toG []) 0 := by
 refine Fun.mk (n := 7) Tryz.func105 rfl rfl (Nat.le_of_ble_eq_true rfl) ?_
 intro cx hcx
 refine zr [.no, .no] [1] [0] True [(1, rV 0 0)] [(0, some (31, .ds [iD n, iD d, iD a, iD p, iD f]))] 1 trivial ?_
 refine zr [.no, .no, .no, .w, .no] [2] [] ((-9223372036854775808) ≤ (d * 65536) ∧ (d * 65536) ≤ 9223372036854775807) [(2, iV (d * 65536))] [] 1 ⟨by omega, by omega⟩ ?_
 refine AW.ret ?_
 exact EndP.of (.inr rfl) [] (P := (((d * 65536) : Int) = (d * 65536))) zk rfl
theorem P_rParts (n d a p f : Int) (h : 1 ≤ d ∧ d ≤ 768000) : Fun 107 [.agg [iC n, iC d, iC a, iC p, iC f]] (toG []) 0 (iV (d * 65536)) (toG []) 0 := by
 refine Fun.mk (n := 7) Tryz.func107 rfl rfl (Nat.le_of_ble_eq_true rfl) ?_
 intro cx hcx
 refine zr [.no, .no] [1] [0] True [(1, rV 0 0)] [(0, some (31, .ds [iD n, iD d, iD a, iD p, iD f]))] 1 trivial ?_
 refine zr [.no, .no, .no, .w, .no] [2] [] ((-9223372036854775808) ≤ (d * 65536) ∧ (d * 65536) ≤ 9223372036854775807) [(2, iV (d * 65536))] [] 1 ⟨by omega, by omega⟩ ?_
 refine AW.ret ?_
 exact EndP.of (.inr rfl) [] (P := (((d * 65536) : Int) = (d * 65536))) zk rfl
theorem P_step (n d a p f : Int) (h1 : 1 ≤ n ∧ n ≤ 768000) (h2 : -4096 ≤ a ∧ a ≤ 4096) : Fun 137 [.agg [iC n, iC d, iC a, iC p, iC f]] (toG []) 0 (iV (stp n a)) (toG []) 0 := by
 have hst : 61440 ≤ stp n a ∧ stp n a ≤ 53477376000 := stp_in h1 h2
 have hse : stp n a = n * (65536 + a) := rfl
 refine Fun.mk (n := 10) Tryz.func137 rfl rfl (Nat.le_of_ble_eq_true rfl) ?_
 intro cx hcx
 refine zr [.no, .no] [1] [0] True [(1, rV 0 0)] [(0, some (31, .ds [iD n, iD d, iD a, iD p, iD f]))] 1 trivial ?_
 refine zr [.no, .no, .no, .no, .no, .w, .wi (stp n a), .no] [2] [] (((-9223372036854775808) ≤ (65536 + a) ∧ (65536 + a) ≤ 9223372036854775807) ∧ ((-9223372036854775808) ≤ (n * (65536 + a)) ∧ (n * (65536 + a)) ≤ 9223372036854775807) ∧ (((n * (65536 + a)) : Int) = (stp n a))) [(2, iV (stp n a))] [] 1 ⟨⟨by omega, by omega⟩, ⟨by omega, by omega⟩, zo⟩ ?_
 refine AW.ret ?_
 exact EndP.of (.inr rfl) [] (P := (((stp n a) : Int) = (stp n a))) zk rfl
theorem P_isAdjust (n : Int)  : Fun 104 [iE n] (toG []) 0 (.e (.c (.d (D.lit (.bool (decide (-4096 ≤ n ∧ n ≤ 4096))))))) (toG []) 0 := by
 refine Fun.mk (n := 9) Tryz.func104 rfl rfl (Nat.le_of_ble_eq_true rfl) ?_
 intro cx hcx
 refine zr [.no] [0] [] True [(0, iV n)] [] 0 trivial ?_
 by_cases hx1 : (((-4096) : Int) ≤ n)
 ·by_cases hx2 : (n ≤ 4096)
  ·refine zr [.no, .b true, .no, .no, .b true, .no, .no] [2] [] (((((-4096) : Int) ≤ n)) ∧ ((n ≤ 4096))) [(2, bV true)] [] 0 ⟨zo, zo⟩ ?_
   refine AW.ret ?_
   exact EndP.of (.inr rfl) [] (P := ((decide (-4096 ≤ n ∧ n ≤ 4096)) = true)) zk zl143
  ·refine zr [.no, .b true, .no, .no, .b false, .no, .no] [2] [] (((((-4096) : Int) ≤ n)) ∧ (¬ (n ≤ 4096))) [(2, bV false)] [] 0 ⟨zo, zo⟩ ?_
   refine AW.ret ?_
   exact EndP.of (.inr rfl) [] (P := ((decide (-4096 ≤ n ∧ n ≤ 4096)) = false)) zk zl143
 ·refine zr [.no, .b false, .no, .no, .no] [2] [] (¬ (((-4096) : Int) ≤ n)) [(2, bV false)] [] 0 zo ?_
  refine AW.ret ?_
  exact EndP.of (.inr rfl) [] (P := ((decide (-4096 ≤ n ∧ n ≤ 4096)) = false)) zk zl143
theorem zl141 {p : Prop} (h : p := by first | exact phB_t (by assumption) (by omega) | exact phB_r (by assumption) | exact phB_f (by omega)) : p := h
theorem P_Valid (n d a p f : Int)  : Fun 69 [.agg [iC n, iC d, iC a, iC p, iC f]] (toG []) 0 (.e (.c (.d (D.lit (.bool (phB n d a p f)))))) (toG []) 0 := by
 refine Fun.mk (n := 44) Tryz.func69 rfl rfl (Nat.le_of_ble_eq_true rfl) ?_
 intro cx hcx
 refine zr [.no, .no] [1] [0] True [(1, rV 0 0)] [(0, some (31, .ds [iD n, iD d, iD a, iD p, iD f]))] 1 trivial ?_
 refine AW.seq ?_
 rcases Bool.eq_false_or_eq_true (ratOk n d) with hx1 | hx1
 ·have hrt : 1 ≤ n ∧ n ≤ 68719476736 ∧ 1 ≤ d ∧ d ≤ 68719476736 := ratOk_of hx1
  by_cases hx2 : ((768000 : Int) < n)
  ·refine zr [.no, .no, .call [] (bV true) [] 0 [] none, .no, .no, .no, .no, .no, .b true, .no, .no, .no] [1, 18] [0] ((Fun 103 [.agg [iC n, iC d]] (toG []) 0 (bV true) (toG []) 0) ∧ (((768000 : Int) < n))) [(1, rV 0 0), (18, bV true)] [(0, some (31, .ds [iD n, iD d, iD a, iD p, iD f]))] 1 ⟨(by have h0 := (R_Valid_p n d); rw [hx1] at h0; exact h0), zo⟩ ?_
   refine zt ?_
   refine zr [.no] [2] [] True [(2, bV false)] [] 1 trivial ?_
   refine AW.ret ?_
   exact EndP.of (.inr rfl) [] (P := ((phB n d a p f) = false)) zk zl141
  ·by_cases hx3 : ((768000 : Int) < d)
   ·refine zr [.no, .no, .call [] (bV true) [] 0 [] none, .no, .no, .no, .no, .no, .b false, .no, .no, .no, .no, .no, .b true, .no] [1, 18] [0] ((Fun 103 [.agg [iC n, iC d]] (toG []) 0 (bV true) (toG []) 0) ∧ (¬ ((768000 : Int) < n)) ∧ (((768000 : Int) < d))) [(1, rV 0 0), (18, bV true)] [(0, some (31, .ds [iD n, iD d, iD a, iD p, iD f]))] 1 ⟨(by have h0 := (R_Valid_p n d); rw [hx1] at h0; exact h0), zo, zo⟩ ?_
    refine zt ?_
    refine zr [.no] [2] [] True [(2, bV false)] [] 1 trivial ?_
    refine AW.ret ?_
    exact EndP.of (.inr rfl) [] (P := ((phB n d a p f) = false)) zk zl141
   ·refine zr [.no, .no, .call [] (bV true) [] 0 [] none, .no, .no, .no, .no, .no, .b false, .no, .no, .no, .no, .no, .b false, .no] [1, 18] [0] ((Fun 103 [.agg [iC n, iC d]] (toG []) 0 (bV true) (toG []) 0) ∧ (¬ ((768000 : Int) < n)) ∧ (¬ ((768000 : Int) < d))) [(1, rV 0 0), (18, bV false)] [(0, some (31, .ds [iD n, iD d, iD a, iD p, iD f]))] 1 ⟨(by have h0 := (R_Valid_p n d); rw [hx1] at h0; exact h0), zo, zo⟩ ?_
    refine zfs ?_
    rcases Bool.eq_false_or_eq_true (decide (-4096 ≤ a ∧ a ≤ 4096)) with hx4 | hx4
    ·have hx5 : ((((-4096) : Int) ≤ a) ∧ (a ≤ 4096)) := of_decide_eq_true hx4
     by_cases hx6 : ((0 : Int) ≤ p)
     ·by_cases hx7 : (p ≤ 1125899906842624)
      ·by_cases hx8 : ((0 : Int) ≤ f)
       ·by_cases hx9 : (f < (d * 65536))
        ·refine zr [.no, .no, .call [] (bV true) [] 0 [] none, .no, .no, .no, .b true, .no, .no, .no, .no, .b true, .no, .no, .no, .no, .b true, .no, .no, .no, .no, .no, .call [] (iV (d * 65536)) [] 0 [] none, .b true, .no, .no] [2] [] ((Fun 104 [iE a] (toG []) 0 (bV true) (toG []) 0) ∧ (((0 : Int) ≤ p)) ∧ ((p ≤ 1125899906842624)) ∧ (((0 : Int) ≤ f)) ∧ (_) ∧ ((f < (d * 65536)))) [(2, bV true)] [] 1 ⟨(by have h0 := (P_isAdjust a); rw [hx4] at h0; exact h0), zo, zo, zo, (P_parts n d a p f zo), zo⟩ ?_
         refine AW.ret ?_
         exact EndP.of (.inr rfl) [] (P := ((phB n d a p f) = true)) zk zl141
        ·refine zr [.no, .no, .call [] (bV true) [] 0 [] none, .no, .no, .no, .b true, .no, .no, .no, .no, .b true, .no, .no, .no, .no, .b true, .no, .no, .no, .no, .no, .call [] (iV (d * 65536)) [] 0 [] none, .b false, .no, .no] [2] [] ((Fun 104 [iE a] (toG []) 0 (bV true) (toG []) 0) ∧ (((0 : Int) ≤ p)) ∧ ((p ≤ 1125899906842624)) ∧ (((0 : Int) ≤ f)) ∧ (_) ∧ (¬ (f < (d * 65536)))) [(2, bV false)] [] 1 ⟨(by have h0 := (P_isAdjust a); rw [hx4] at h0; exact h0), zo, zo, zo, (P_parts n d a p f zo), zo⟩ ?_
         refine AW.ret ?_
         exact EndP.of (.inr rfl) [] (P := ((phB n d a p f) = false)) zk zl141
       ·refine zr [.no, .no, .call [] (bV true) [] 0 [] none, .no, .no, .no, .b true, .no, .no, .no, .no, .b true, .no, .no, .no, .no, .b false, .no, .no, .no, .no] [2] [] ((Fun 104 [iE a] (toG []) 0 (bV true) (toG []) 0) ∧ (((0 : Int) ≤ p)) ∧ ((p ≤ 1125899906842624)) ∧ (¬ ((0 : Int) ≤ f))) [(2, bV false)] [] 1 ⟨(by have h0 := (P_isAdjust a); rw [hx4] at h0; exact h0), zo, zo, zo⟩ ?_
        refine AW.ret ?_
        exact EndP.of (.inr rfl) [] (P := ((phB n d a p f) = false)) zk zl141
      ·refine zr [.no, .no, .call [] (bV true) [] 0 [] none, .no, .no, .no, .b true, .no, .no, .no, .no, .b false, .no, .no, .no, .no, .no, .no] [2] [] ((Fun 104 [iE a] (toG []) 0 (bV true) (toG []) 0) ∧ (((0 : Int) ≤ p)) ∧ (¬ (p ≤ 1125899906842624))) [(2, bV false)] [] 1 ⟨(by have h0 := (P_isAdjust a); rw [hx4] at h0; exact h0), zo, zo⟩ ?_
       refine AW.ret ?_
       exact EndP.of (.inr rfl) [] (P := ((phB n d a p f) = false)) zk zl141
     ·refine zr [.no, .no, .call [] (bV true) [] 0 [] none, .no, .no, .no, .b false, .no, .no, .no, .no, .no, .no, .no, .no] [2] [] ((Fun 104 [iE a] (toG []) 0 (bV true) (toG []) 0) ∧ (¬ ((0 : Int) ≤ p))) [(2, bV false)] [] 1 ⟨(by have h0 := (P_isAdjust a); rw [hx4] at h0; exact h0), zo⟩ ?_
      refine AW.ret ?_
      exact EndP.of (.inr rfl) [] (P := ((phB n d a p f) = false)) zk zl141
    ·have hx10 : ¬ ((((-4096) : Int) ≤ a) ∧ (a ≤ 4096)) := of_decide_eq_false hx4
     refine zr [.no, .no, .call [] (bV false) [] 0 [] none, .no, .no, .no, .no, .no, .no, .no, .no, .no] [2] [] (Fun 104 [iE a] (toG []) 0 (bV false) (toG []) 0) [(2, bV false)] [] 1 (by have h0 := (P_isAdjust a); rw [hx4] at h0; exact h0) ?_
     refine AW.ret ?_
     exact EndP.of (.inr rfl) [] (P := ((phB n d a p f) = false)) zk zl141
 ·refine zr [.no, .no, .call [] (bV false) [] 0 [] none, .no, .no, .no, .no, .no] [1, 18] [0] (Fun 103 [.agg [iC n, iC d]] (toG []) 0 (bV false) (toG []) 0) [(1, rV 0 0), (18, bV true)] [(0, some (31, .ds [iD n, iD d, iD a, iD p, iD f]))] 1 (by have h0 := (R_Valid_p n d); rw [hx1] at h0; exact h0) ?_
  refine zt ?_
  refine zr [.no] [2] [] True [(2, bV false)] [] 1 trivial ?_
  refine AW.ret ?_
  exact EndP.of (.inr rfl) [] (P := ((phB n d a p f) = false)) zk zl141
theorem P_rValid (n d a p f : Int)  : Fun 72 [.agg [iC n, iC d, iC a, iC p, iC f]] (toG []) 0 (.e (.c (.d (D.lit (.bool (phB n d a p f)))))) (toG []) 0 := by
 refine Fun.mk (n := 50) Tryz.func72 rfl rfl (Nat.le_of_ble_eq_true rfl) ?_
 intro cx hcx
 refine zr [.no, .no] [1] [0] True [(1, rV 0 0)] [(0, some (31, .ds [iD n, iD d, iD a, iD p, iD f]))] 1 trivial ?_
 rcases Bool.eq_false_or_eq_true (ratOk n d) with hx1 | hx1
 ·have hrt : 1 ≤ n ∧ n ≤ 68719476736 ∧ 1 ≤ d ∧ d ≤ 68719476736 := ratOk_of hx1
  by_cases hx2 : (n ≤ 768000)
  ·by_cases hx3 : (d ≤ 768000)
   ·by_cases hx4 : (((-4096) : Int) ≤ a)
    ·by_cases hx5 : (a ≤ 4096)
     ·by_cases hx6 : ((0 : Int) ≤ p)
      ·by_cases hx7 : (p ≤ 1125899906842624)
       ·by_cases hx8 : ((0 : Int) ≤ f)
        ·by_cases hx9 : (f < (d * 65536))
         ·refine zr [.no, .no, .call [] (bV true) [] 0 [] none, .no, .no, .no, .no, .b true, .no, .no, .no, .no, .no, .b true, .no, .no, .no, .no, .b true, .no, .no, .no, .no, .b true, .no, .no, .no, .no, .b true, .no, .no, .no, .no, .b true, .no, .no, .no, .no, .b true, .no, .no, .no, .no, .no, .call [] (iV (d * 65536)) [] 0 [] none, .b true, .no, .no] [2] [] ((Fun 106 [.agg [iC n, iC d]] (toG []) 0 (bV true) (toG []) 0) ∧ ((n ≤ 768000)) ∧ ((d ≤ 768000)) ∧ ((((-4096) : Int) ≤ a)) ∧ ((a ≤ 4096)) ∧ (((0 : Int) ≤ p)) ∧ ((p ≤ 1125899906842624)) ∧ (((0 : Int) ≤ f)) ∧ (_) ∧ ((f < (d * 65536)))) [(2, bV true)] [] 1 ⟨(by have h0 := (R_Valid_r n d); rw [hx1] at h0; exact h0), zo, zo, zo, zo, zo, zo, zo, (P_rParts n d a p f zo), zo⟩ ?_
          refine AW.ret ?_
          exact EndP.of (.inr rfl) [] (P := ((phB n d a p f) = true)) zk zl141
         ·refine zr [.no, .no, .call [] (bV true) [] 0 [] none, .no, .no, .no, .no, .b true, .no, .no, .no, .no, .no, .b true, .no, .no, .no, .no, .b true, .no, .no, .no, .no, .b true, .no, .no, .no, .no, .b true, .no, .no, .no, .no, .b true, .no, .no, .no, .no, .b true, .no, .no, .no, .no, .no, .call [] (iV (d * 65536)) [] 0 [] none, .b false, .no, .no] [2] [] ((Fun 106 [.agg [iC n, iC d]] (toG []) 0 (bV true) (toG []) 0) ∧ ((n ≤ 768000)) ∧ ((d ≤ 768000)) ∧ ((((-4096) : Int) ≤ a)) ∧ ((a ≤ 4096)) ∧ (((0 : Int) ≤ p)) ∧ ((p ≤ 1125899906842624)) ∧ (((0 : Int) ≤ f)) ∧ (_) ∧ (¬ (f < (d * 65536)))) [(2, bV false)] [] 1 ⟨(by have h0 := (R_Valid_r n d); rw [hx1] at h0; exact h0), zo, zo, zo, zo, zo, zo, zo, (P_rParts n d a p f zo), zo⟩ ?_
          refine AW.ret ?_
          exact EndP.of (.inr rfl) [] (P := ((phB n d a p f) = false)) zk zl141
        ·refine zr [.no, .no, .call [] (bV true) [] 0 [] none, .no, .no, .no, .no, .b true, .no, .no, .no, .no, .no, .b true, .no, .no, .no, .no, .b true, .no, .no, .no, .no, .b true, .no, .no, .no, .no, .b true, .no, .no, .no, .no, .b true, .no, .no, .no, .no, .b false, .no, .no, .no, .no] [2] [] ((Fun 106 [.agg [iC n, iC d]] (toG []) 0 (bV true) (toG []) 0) ∧ ((n ≤ 768000)) ∧ ((d ≤ 768000)) ∧ ((((-4096) : Int) ≤ a)) ∧ ((a ≤ 4096)) ∧ (((0 : Int) ≤ p)) ∧ ((p ≤ 1125899906842624)) ∧ (¬ ((0 : Int) ≤ f))) [(2, bV false)] [] 1 ⟨(by have h0 := (R_Valid_r n d); rw [hx1] at h0; exact h0), zo, zo, zo, zo, zo, zo, zo⟩ ?_
         refine AW.ret ?_
         exact EndP.of (.inr rfl) [] (P := ((phB n d a p f) = false)) zk zl141
       ·refine zr [.no, .no, .call [] (bV true) [] 0 [] none, .no, .no, .no, .no, .b true, .no, .no, .no, .no, .no, .b true, .no, .no, .no, .no, .b true, .no, .no, .no, .no, .b true, .no, .no, .no, .no, .b true, .no, .no, .no, .no, .b false, .no, .no, .no, .no, .no, .no] [2] [] ((Fun 106 [.agg [iC n, iC d]] (toG []) 0 (bV true) (toG []) 0) ∧ ((n ≤ 768000)) ∧ ((d ≤ 768000)) ∧ ((((-4096) : Int) ≤ a)) ∧ ((a ≤ 4096)) ∧ (((0 : Int) ≤ p)) ∧ (¬ (p ≤ 1125899906842624))) [(2, bV false)] [] 1 ⟨(by have h0 := (R_Valid_r n d); rw [hx1] at h0; exact h0), zo, zo, zo, zo, zo, zo⟩ ?_
        refine AW.ret ?_
        exact EndP.of (.inr rfl) [] (P := ((phB n d a p f) = false)) zk zl141
      ·refine zr [.no, .no, .call [] (bV true) [] 0 [] none, .no, .no, .no, .no, .b true, .no, .no, .no, .no, .no, .b true, .no, .no, .no, .no, .b true, .no, .no, .no, .no, .b true, .no, .no, .no, .no, .b false, .no, .no, .no, .no, .no, .no, .no, .no] [2] [] ((Fun 106 [.agg [iC n, iC d]] (toG []) 0 (bV true) (toG []) 0) ∧ ((n ≤ 768000)) ∧ ((d ≤ 768000)) ∧ ((((-4096) : Int) ≤ a)) ∧ ((a ≤ 4096)) ∧ (¬ ((0 : Int) ≤ p))) [(2, bV false)] [] 1 ⟨(by have h0 := (R_Valid_r n d); rw [hx1] at h0; exact h0), zo, zo, zo, zo, zo⟩ ?_
       refine AW.ret ?_
       exact EndP.of (.inr rfl) [] (P := ((phB n d a p f) = false)) zk zl141
     ·refine zr [.no, .no, .call [] (bV true) [] 0 [] none, .no, .no, .no, .no, .b true, .no, .no, .no, .no, .no, .b true, .no, .no, .no, .no, .b true, .no, .no, .no, .no, .b false, .no, .no, .no, .no, .no, .no, .no, .no, .no, .no] [2] [] ((Fun 106 [.agg [iC n, iC d]] (toG []) 0 (bV true) (toG []) 0) ∧ ((n ≤ 768000)) ∧ ((d ≤ 768000)) ∧ ((((-4096) : Int) ≤ a)) ∧ (¬ (a ≤ 4096))) [(2, bV false)] [] 1 ⟨(by have h0 := (R_Valid_r n d); rw [hx1] at h0; exact h0), zo, zo, zo, zo⟩ ?_
      refine AW.ret ?_
      exact EndP.of (.inr rfl) [] (P := ((phB n d a p f) = false)) zk zl141
    ·refine zr [.no, .no, .call [] (bV true) [] 0 [] none, .no, .no, .no, .no, .b true, .no, .no, .no, .no, .no, .b true, .no, .no, .no, .no, .b false, .no, .no, .no, .no, .no, .no, .no, .no, .no, .no, .no, .no] [2] [] ((Fun 106 [.agg [iC n, iC d]] (toG []) 0 (bV true) (toG []) 0) ∧ ((n ≤ 768000)) ∧ ((d ≤ 768000)) ∧ (¬ (((-4096) : Int) ≤ a))) [(2, bV false)] [] 1 ⟨(by have h0 := (R_Valid_r n d); rw [hx1] at h0; exact h0), zo, zo, zo⟩ ?_
     refine AW.ret ?_
     exact EndP.of (.inr rfl) [] (P := ((phB n d a p f) = false)) zk zl141
   ·refine zr [.no, .no, .call [] (bV true) [] 0 [] none, .no, .no, .no, .no, .b true, .no, .no, .no, .no, .no, .b false, .no, .no, .no, .no, .no, .no, .no, .no, .no, .no, .no, .no, .no, .no] [2] [] ((Fun 106 [.agg [iC n, iC d]] (toG []) 0 (bV true) (toG []) 0) ∧ ((n ≤ 768000)) ∧ (¬ (d ≤ 768000))) [(2, bV false)] [] 1 ⟨(by have h0 := (R_Valid_r n d); rw [hx1] at h0; exact h0), zo, zo⟩ ?_
    refine AW.ret ?_
    exact EndP.of (.inr rfl) [] (P := ((phB n d a p f) = false)) zk zl141
  ·refine zr [.no, .no, .call [] (bV true) [] 0 [] none, .no, .no, .no, .no, .b false, .no, .no, .no, .no, .no, .no, .no, .no, .no, .no, .no, .no, .no, .no, .no, .no] [2] [] ((Fun 106 [.agg [iC n, iC d]] (toG []) 0 (bV true) (toG []) 0) ∧ (¬ (n ≤ 768000))) [(2, bV false)] [] 1 ⟨(by have h0 := (R_Valid_r n d); rw [hx1] at h0; exact h0), zo⟩ ?_
   refine AW.ret ?_
   exact EndP.of (.inr rfl) [] (P := ((phB n d a p f) = false)) zk zl141
 ·refine zr [.no, .no, .call [] (bV false) [] 0 [] none, .no, .no, .no, .no, .no, .no, .no, .no, .no, .no, .no, .no, .no, .no, .no, .no, .no] [2] [] (Fun 106 [.agg [iC n, iC d]] (toG []) 0 (bV false) (toG []) 0) [(2, bV false)] [] 1 (by have h0 := (R_Valid_r n d); rw [hx1] at h0; exact h0) ?_
  refine AW.ret ?_
  exact EndP.of (.inr rfl) [] (P := ((phB n d a p f) = false)) zk zl141
theorem P_New (n d : Int) (h : phB n d 0 0 0 = true) : Fun 59 [.agg [iC n, iC d]] (toG []) 0 (.tup [.agg [iC n, iC d, iC 0, iC 0, iC 0], iE 0]) (toG []) 0 := by
 refine Fun.mk (n := 12) Tryz.func59 rfl rfl (Nat.le_of_ble_eq_true rfl) ?_
 intro cx hcx
 refine zr [.no, .no, .no] [1, 2] [0, 1] True [(1, rV 0 0), (2, rV 1 0)] [(0, some (29, .ds [iD n, iD d])), (1, some (31, .ds [iD 0, iD 0, iD 0, iD 0, iD 0]))] 2 trivial ?_
 refine zr [.no, .no, .no, .no] [2, 4] [1, 2] True [(2, rV 1 0), (4, rV 2 0)] [(1, some (31, .ds [iD 0, iD 0, iD 0, iD 0, iD 0])), (2, some (31, .ds [iD n, iD d, iD 0, iD 0, iD 0]))] 3 trivial ?_
 refine AW.seq ?_
 refine zr [.no, .call [] (bV true) [] 0 [] none, .no] [2, 4, 9] [1, 2] (Fun 69 [.agg [iC n, iC d, iC 0, iC 0, iC 0]] (toG []) 0 (bV true) (toG []) 0) [(2, rV 1 0), (4, rV 2 0), (9, bV false)] [(1, some (31, .ds [iD 0, iD 0, iD 0, iD 0, iD 0])), (2, some (31, .ds [iD n, iD d, iD 0, iD 0, iD 0]))] 3 (by have h0 := (P_Valid n d 0 0 0); rw [h] at h0; exact h0) ?_
 refine zfs ?_
 refine zr [.no, .no, .no] [2, 3] [1] True [(2, rV 1 0), (3, iV 0)] [(1, some (31, .ds [iD n, iD d, iD 0, iD 0, iD 0]))] 3 trivial ?_
 refine AW.ret ?_
 exact EndP.of (.inr rfl) [] (P := ((n : Int) = n) ∧ ((d : Int) = d) ∧ ((0 : Int) = 0) ∧ ((0 : Int) = 0) ∧ ((0 : Int) = 0) ∧ ((0 : Int) = 0)) zk ⟨rfl, rfl, rfl, rfl, rfl, rfl⟩
theorem P_check (n d a p f : Int) (x m : Int) (hv : PhV n d a p f) (hx : 0 ≤ x ∧ x ≤ m) : Fun 127 [.agg [iC n, iC d, iC a, iC p, iC f], iE x, iE m] (toG []) 0 (iV 0) (toG []) 0 := by
 have hok : phB n d a p f = true := hv.ok
 have hbd : (1 ≤ n ∧ n ≤ 768000) ∧ (1 ≤ d ∧ d ≤ 768000) ∧ (-4096 ≤ a ∧ a ≤ 4096) ∧ (0 ≤ p ∧ p ≤ 1125899906842624) ∧ 0 ≤ f ∧ f < d * 65536 := hv.b
 have hst : 61440 ≤ stp n a ∧ stp n a ≤ 53477376000 := stp_in hv.b.1 hv.b.2.2.1
 refine Fun.mk (n := 17) Tryz.func127 rfl rfl (Nat.le_of_ble_eq_true rfl) ?_
 intro cx hcx
 refine zr [.no, .no] [1, 2, 3] [0] True [(1, iV x), (2, iV m), (3, rV 0 0)] [(0, some (31, .ds [iD n, iD d, iD a, iD p, iD f]))] 1 trivial ?_
 refine AW.seq ?_
 refine zr [.no, .call [] (bV true) [] 0 [] none, .no] [1, 2, 9] [] (Fun 69 [.agg [iC n, iC d, iC a, iC p, iC f]] (toG []) 0 (bV true) (toG []) 0) [(1, iV x), (2, iV m), (9, bV false)] [] 1 (by have h0 := (P_Valid n d a p f); rw [hok] at h0; exact h0) ?_
 refine zfs ?_
 refine AW.seq ?_
 refine zr [.no, .b false, .no, .no, .no, .b false, .no] [16] [] ((¬ (x < 0)) ∧ (¬ (m < x))) [(16, bV false)] [] 1 ⟨zo, zo⟩ ?_
 refine zfs ?_
 refine zr [.no] [6] [] True [(6, iV 0)] [] 1 trivial ?_
 refine AW.ret ?_
 exact EndP.of (.inr rfl) [] (P := ((0 : Int) = 0)) zk rfl
theorem P_moved (n d a p f : Int) (i : Nat) (hv : PhV n d a p f) (hi : i ≤ 65537) : Fun 136 [.agg [iC n, iC d, iC a, iC p, iC f], iE ((i : Nat) : Int)] (toG []) 0 (iV (mvV f (stp n a) i)) (toG []) 0 := by
 have hok : phB n d a p f = true := hv.ok
 have hbd : (1 ≤ n ∧ n ≤ 768000) ∧ (1 ≤ d ∧ d ≤ 768000) ∧ (-4096 ≤ a ∧ a ≤ 4096) ∧ (0 ≤ p ∧ p ≤ 1125899906842624) ∧ 0 ≤ f ∧ f < d * 65536 := hv.b
 have hst : 61440 ≤ stp n a ∧ stp n a ≤ 53477376000 := stp_in hv.b.1 hv.b.2.2.1
 have hmi : 0 ≤ mvV f (stp n a) i ∧ mvV f (stp n a) i ≤ 3600000000000000 := mv_in (by omega) (by omega) (by omega)
 have hme : mvV f (stp n a) i = f + ((i : Nat) : Int) * stp n a := rfl
 have hpi : 0 ≤ ((i : Nat) : Int) * stp n a := Int.mul_nonneg (by omega) (by omega)
 refine Fun.mk (n := 12) Tryz.func136 rfl rfl (Nat.le_of_ble_eq_true rfl) ?_
 intro cx hcx
 refine zr [.no, .no] [1, 2] [0] True [(1, uV i), (2, rV 0 0)] [(0, some (31, .ds [iD n, iD d, iD a, iD p, iD f]))] 1 trivial ?_
 have hx1 : (((61440 : Int) ≤ (stp n a)) ∧ ((stp n a) ≤ 53477376000)) := stp_in zo zo
 refine zr [.no, .no, .no, .no, .call [] (iV (stp n a)) [] 0 [] none, .w, .w, .no] [4] [] ((_) ∧ ((-9223372036854775808) ≤ (((i : Nat) : Int) * (stp n a)) ∧ (((i : Nat) : Int) * (stp n a)) ≤ 9223372036854775807) ∧ ((-9223372036854775808) ≤ (f + (((i : Nat) : Int) * (stp n a))) ∧ (f + (((i : Nat) : Int) * (stp n a))) ≤ 9223372036854775807)) [(4, iV (f + (↑i * (stp n a))))] [] 1 ⟨(P_step n d a p f zo zo), ⟨by omega, by omega⟩, ⟨by omega, by omega⟩⟩ ?_
 refine AW.ret ?_
 exact EndP.of (.inr rfl) [] (P := (((mvV f (stp n a) i) : Int) = (f + (((i : Nat) : Int) * (stp n a))))) zk (by first | omega | rfl | assumption | (simp; done) | (simp; omega))
theorem P_At (n d a p f : Int) (i : Nat) (hv : PhV n d a p f) (hi : i ≤ 65536) : Fun 132 [.agg [iC n, iC d, iC a, iC p, iC f], iE ((i : Nat) : Int)] (toG []) 0 (.tup [iE (p + ((mvV f (stp n a) i) / (d * 65536))), iE ((mvV f (stp n a) i) % (d * 65536)), iE 0]) (toG []) 0 := by
 have hok : phB n d a p f = true := hv.ok
 have hbd : (1 ≤ n ∧ n ≤ 768000) ∧ (1 ≤ d ∧ d ≤ 768000) ∧ (-4096 ≤ a ∧ a ≤ 4096) ∧ (0 ≤ p ∧ p ≤ 1125899906842624) ∧ 0 ≤ f ∧ f < d * 65536 := hv.b
 have hst : 61440 ≤ stp n a ∧ stp n a ≤ 53477376000 := stp_in hv.b.1 hv.b.2.2.1
 have hmi : 0 ≤ mvV f (stp n a) i ∧ mvV f (stp n a) i ≤ 3600000000000000 := mv_in (by omega) (by omega) (by omega)
 have hqi : 0 ≤ (mvV f (stp n a) i / (d * 65536)) ∧ (mvV f (stp n a) i / (d * 65536)) ≤ mvV f (stp n a) i ∧ 0 ≤ (mvV f (stp n a) i % (d * 65536)) ∧ (mvV f (stp n a) i % (d * 65536)) < d * 65536 := quo_in (by omega) (by omega)
 have hme : mvV f (stp n a) i = f + ((i : Nat) : Int) * stp n a := rfl
 have hpi : 0 ≤ ((i : Nat) : Int) * stp n a := Int.mul_nonneg (by omega) (by omega)
 refine Fun.mk (n := 29) Tryz.func132 rfl rfl (Nat.le_of_ble_eq_true rfl) ?_
 intro cx hcx
 refine zr [.no, .no, .no, .no] [1, 2] [0] True [(1, uV i), (2, rV 0 0)] [(0, some (31, .ds [iD n, iD d, iD a, iD p, iD f]))] 1 trivial ?_
 refine AW.seq ?_
 refine zr [.no, .no, .call [] (iV 0) [] 0 [] none, .no] [1, 2, 7] [0] _ [(1, uV i), (2, rV 0 0), (7, iV 0)] [(0, some (31, .ds [iD n, iD d, iD a, iD p, iD f]))] 1 (P_check n d a p f ((i : Nat) : Int) 65536 zl142 zo) ?_
 refine zr [.no, .b false] [1, 2, 7, 13] [0] (¬ ((0 : Int) ≠ 0)) [(1, uV i), (2, rV 0 0), (7, iV 0), (13, bV false)] [(0, some (31, .ds [iD n, iD d, iD a, iD p, iD f]))] 1 zo ?_
 refine zfs ?_
 have hx1 : (((0 : Int) ≤ (mvV f (stp n a) i)) ∧ ((mvV f (stp n a) i) ≤ 3600000000000000)) := (by have h9 := PhV.b (show PhV n d a p f by assumption); have h8 := stp_in h9.1 h9.2.2.1; exact mv_in zo zo zo)
 refine zr [.no, .no, .call [] (iV (mvV f (stp n a) i)) [] 0 [] none, .no] [2, 8] [0] _ [(2, rV 0 0), (8, iV (mvV f (stp n a) i))] [(0, some (31, .ds [iD n, iD d, iD a, iD p, iD f]))] 1 (P_moved n d a p f i zl142 zo) ?_
 refine zr [.no, .no, .no, .no, .call [] (iV (d * 65536)) [] 0 [] none, .ps, .w, .no, .no, .call [] (iV (d * 65536)) [] 0 [] none, .ps, .no, .no, .no] [4, 5, 6] [] ((_) ∧ ((0 : Int) ≤ ((mvV f (stp n a) i) : Int)) ∧ ((0 : Int) < ((d * 65536) : Int)) ∧ ((-9223372036854775808) ≤ (mvV f (stp n a) i) ∧ (mvV f (stp n a) i) ≤ 9223372036854775807) ∧ ((-9223372036854775808) ≤ (p + ((mvV f (stp n a) i) / (d * 65536))) ∧ (p + ((mvV f (stp n a) i) / (d * 65536))) ≤ 9223372036854775807) ∧ (_) ∧ ((0 : Int) ≤ ((mvV f (stp n a) i) : Int)) ∧ ((0 : Int) < ((d * 65536) : Int))) [(4, iV (p + ((mvV f (stp n a) i) / (d * 65536)))), (5, iV ((mvV f (stp n a) i) % (d * 65536))), (6, iV 0)] [] 1 ⟨(P_parts n d a p f zo), zo, zo, ⟨by omega, by omega⟩, ⟨by omega, by omega⟩, (P_parts n d a p f zo), zo, zo⟩ ?_
 refine AW.ret ?_
 exact EndP.of (.inr rfl) [] (P := (((p + ((mvV f (stp n a) i) / (d * 65536))) : Int) = (p + ((mvV f (stp n a) i) / (d * 65536)))) ∧ ((((mvV f (stp n a) i) % (d * 65536)) : Int) = ((mvV f (stp n a) i) % (d * 65536))) ∧ ((0 : Int) = 0)) zk ⟨rfl, rfl, rfl⟩
theorem P_Advance (n d a p f : Int) (i : Nat) (hv : PhV n d a p f) (hi : i ≤ 65536) (hb : p + (mvV f (stp n a) i / (d * 65536)) ≤ 1125899906842624) : Fun 118 [.agg [iC n, iC d, iC a, iC p, iC f], iE ((i : Nat) : Int)] (toG []) 0 (.tup [.agg [iC n, iC d, iC a, iC (p + ((mvV f (stp n a) i) / (d * 65536))), iC ((mvV f (stp n a) i) % (d * 65536))], iE 0]) (toG []) 0 := by
 refine Fun.mk (n := 28) Tryz.func118 rfl rfl (Nat.le_of_ble_eq_true rfl) ?_
 intro cx hcx
 refine zr [.no, .no, .no] [1, 2, 4] [0, 1] True [(1, uV i), (2, rV 0 0), (4, rV 1 0)] [(0, some (31, .ds [iD n, iD d, iD a, iD p, iD f])), (1, some (31, .ds [iD 0, iD 0, iD 0, iD 0, iD 0]))] 2 trivial ?_
 have hx1 : (((0 : Int) ≤ ((mvV f (stp n a) i) / (d * 65536))) ∧ ((((mvV f (stp n a) i) / (d * 65536)) ≤ 3600000000000000) ∧ (((0 : Int) ≤ ((mvV f (stp n a) i) % (d * 65536))) ∧ (((mvV f (stp n a) i) % (d * 65536)) < (d * 65536))))) := (by have h9 := PhV.b (show PhV n d a p f by assumption); have h8 := stp_in h9.1 h9.2.2.1; have h7 := @mv_in f (stp n a) i (show 0 ≤ f ∧ f < 50331648000 by omega) (show 0 ≤ stp n a ∧ stp n a ≤ 53477376000 by omega) zo; have h6 := quo_in h7.1 (show 0 < d * 65536 by omega); omega)
 refine zr [.no, .no, .call [] (.tup [iE (p + ((mvV f (stp n a) i) / (d * 65536))), iE ((mvV f (stp n a) i) % (d * 65536)), iE 0]) [] 0 [] none, .no, .no, .no, .no, .no, .no, .no] [2, 4, 6, 7, 8] [0, 1] _ [(2, rV 0 0), (4, rV 1 0), (6, iV (p + ((mvV f (stp n a) i) / (d * 65536)))), (7, iV ((mvV f (stp n a) i) % (d * 65536))), (8, iV 0)] [(0, some (31, .ds [iD n, iD d, iD a, iD p, iD f])), (1, some (31, .ds [iD 0, iD 0, iD 0, iD 0, iD 0]))] 2 (P_At n d a p f i zl142 zo) ?_
 refine AW.seq ?_
 refine zr [.no, .b false] [2, 4, 6, 7, 8, 17] [0, 1] (¬ ((0 : Int) ≠ 0)) [(2, rV 0 0), (4, rV 1 0), (6, iV (p + ((mvV f (stp n a) i) / (d * 65536)))), (7, iV ((mvV f (stp n a) i) % (d * 65536))), (8, iV 0), (17, bV false)] [(0, some (31, .ds [iD n, iD d, iD a, iD p, iD f])), (1, some (31, .ds [iD 0, iD 0, iD 0, iD 0, iD 0]))] 2 zo ?_
 refine zfs ?_
 refine AW.seq ?_
 refine zr [.no, .b false] [2, 4, 6, 7, 21] [0, 1] (¬ ((1125899906842624 : Int) < (p + ((mvV f (stp n a) i) / (d * 65536))))) [(2, rV 0 0), (4, rV 1 0), (6, iV (p + ((mvV f (stp n a) i) / (d * 65536)))), (7, iV ((mvV f (stp n a) i) % (d * 65536))), (21, bV false)] [(0, some (31, .ds [iD n, iD d, iD a, iD p, iD f])), (1, some (31, .ds [iD 0, iD 0, iD 0, iD 0, iD 0]))] 2 zo ?_
 refine zfs ?_
 refine zr [.no, .no, .no, .no, .no, .no] [2, 4] [0, 1] True [(2, rV 0 0), (4, rV 1 0)] [(0, some (31, .ds [iD n, iD d, iD a, iD (p + ((mvV f (stp n a) i) / (d * 65536))), iD ((mvV f (stp n a) i) % (d * 65536))])), (1, some (31, .ds [iD 0, iD 0, iD 0, iD 0, iD 0]))] 2 trivial ?_
 refine zr [.no, .no, .no] [4, 5] [1] True [(4, rV 1 0), (5, iV 0)] [(1, some (31, .ds [iD n, iD d, iD a, iD (p + ((mvV f (stp n a) i) / (d * 65536))), iD ((mvV f (stp n a) i) % (d * 65536))]))] 2 trivial ?_
 refine AW.ret ?_
 exact EndP.of (.inr rfl) [] (P := ((n : Int) = n) ∧ ((d : Int) = d) ∧ ((a : Int) = a) ∧ (((p + ((mvV f (stp n a) i) / (d * 65536))) : Int) = (p + ((mvV f (stp n a) i) / (d * 65536)))) ∧ ((((mvV f (stp n a) i) % (d * 65536)) : Int) = ((mvV f (stp n a) i) % (d * 65536))) ∧ ((0 : Int) = 0)) zk ⟨rfl, rfl, rfl, rfl, rfl, rfl⟩
theorem P_need (n d a p f : Int) (i : Nat) (hv : PhV n d a p f) (hi : i ≤ 65537) : Fun 129 [.agg [iC n, iC d, iC a, iC p, iC f], iE ((i : Nat) : Int)] (toG []) 0 (iV (needV f (stp n a) (d * 65536) i)) (toG []) 0 := by
 have hok : phB n d a p f = true := hv.ok
 have hbd : (1 ≤ n ∧ n ≤ 768000) ∧ (1 ≤ d ∧ d ≤ 768000) ∧ (-4096 ≤ a ∧ a ≤ 4096) ∧ (0 ≤ p ∧ p ≤ 1125899906842624) ∧ 0 ≤ f ∧ f < d * 65536 := hv.b
 have hst : 61440 ≤ stp n a ∧ stp n a ≤ 53477376000 := stp_in hv.b.1 hv.b.2.2.1
 have hni : 0 ≤ needV f (stp n a) (d * 65536) i ∧ needV f (stp n a) (d * 65536) i ≤ 3600000000000002 := needV_in (by omega) (by omega) (by omega) (by omega)
 refine Fun.mk (n := 22) Tryz.func129 rfl rfl (Nat.le_of_ble_eq_true rfl) ?_
 intro cx hcx
 refine zr [.no, .no] [1, 2] [0] True [(1, uV i), (2, rV 0 0)] [(0, some (31, .ds [iD n, iD d, iD a, iD p, iD f]))] 1 trivial ?_
 refine AW.seq ?_
 by_cases hx1 : (((i : Nat) : Int) = 0)
 ·refine zr [.no, .b true] [1, 2, 6] [0] ((((i : Nat) : Int) = 0)) [(1, uV i), (2, rV 0 0), (6, bV true)] [(0, some (31, .ds [iD n, iD d, iD a, iD p, iD f]))] 1 zo ?_
  refine zt ?_
  refine zr [.no] [4] [] True [(4, iV 0)] [] 1 trivial ?_
  refine AW.ret ?_
  exact EndP.of (.inr rfl) [] (P := (((needV f (stp n a) (d * 65536) i) : Int) = 0)) zk (by first | rfl | omega | (rw [show i = 0 by omega, needV_0]) | (rw [needV_s _ _ _ (show ¬ i = 0 by omega)]; omega) | (rw [needV_s _ _ _ (show ¬ i = 0 by omega)]))
 ·have hn9 : 0 ≤ mvV f (stp n a) (i - 1) ∧ mvV f (stp n a) (i - 1) ≤ 3600000000000000 ∧ 0 ≤ (mvV f (stp n a) i / (d * 65536)) ∧ (mvV f (stp n a) i / (d * 65536)) ≤ mvV f (stp n a) i ∧ 0 ≤ (mvV f (stp n a) (i - 1) / (d * 65536)) ∧ (mvV f (stp n a) (i - 1) / (d * 65536)) ≤ mvV f (stp n a) (i - 1) ∧ 0 ≤ mvV f (stp n a) i ∧ mvV f (stp n a) i ≤ 3600000000000000 := by have h7 := mv_in (f := f) (s := stp n a) (i := i - 1) (by omega) (by omega) (by omega); have h6 := mv_in (f := f) (s := stp n a) (i := i) (by omega) (by omega) (by omega); have h5 := quo_in h7.1 (show 0 < d * 65536 by omega); have h4 := quo_in h6.1 (show 0 < d * 65536 by omega); omega
  refine zr [.no, .b false] [1, 2, 6] [0] (¬ (((i : Nat) : Int) = 0)) [(1, uV i), (2, rV 0 0), (6, bV false)] [(0, some (31, .ds [iD n, iD d, iD a, iD p, iD f]))] 1 zo ?_
  refine zfs ?_
  have hx2 : (((0 : Int) ≤ (mvV f (stp n a) (i - 1))) ∧ ((mvV f (stp n a) (i - 1)) ≤ 3600000000000000)) := (by have h9 := PhV.b (show PhV n d a p f by assumption); have h8 := stp_in h9.1 h9.2.2.1; exact mv_in zo zo zo)
  have hx3 : (((0 : Int) ≤ (mvV f (stp n a) i)) ∧ ((mvV f (stp n a) i) ≤ 3600000000000000)) := (by have h9 := PhV.b (show PhV n d a p f by assumption); have h8 := stp_in h9.1 h9.2.2.1; exact mv_in zo zo zo)
  refine zr [.no, .no, .w, .call [] (iV (mvV f (stp n a) (i - 1))) [] 0 [] (some [.agg [iC n, iC d, iC a, iC p, iC f], uE (i - 1)]), .no, .call [] (iV (d * 65536)) [] 0 [] none, .ps, .w, .no, .no, .call [] (iV (mvV f (stp n a) i)) [] 0 [] none, .no, .call [] (iV (d * 65536)) [] 0 [] none, .ps, .no, .no] [4] [] (((-9223372036854775808) ≤ (((i : Nat) : Int) - 1) ∧ (((i : Nat) : Int) - 1) ≤ 9223372036854775807) ∧ ((n : Int) = n) ∧ ((d : Int) = d) ∧ ((a : Int) = a) ∧ ((p : Int) = p) ∧ ((f : Int) = f) ∧ (((((i - 1) : Nat) : Int) : Int) = (((i : Nat) : Int) - 1)) ∧ (_) ∧ (_) ∧ ((0 : Int) ≤ ((mvV f (stp n a) (i - 1)) : Int)) ∧ ((0 : Int) < ((d * 65536) : Int)) ∧ ((-9223372036854775808) ≤ (mvV f (stp n a) (i - 1)) ∧ (mvV f (stp n a) (i - 1)) ≤ 9223372036854775807) ∧ ((-9223372036854775808) ≤ (((mvV f (stp n a) (i - 1)) / (d * 65536)) + 2) ∧ (((mvV f (stp n a) (i - 1)) / (d * 65536)) + 2) ≤ 9223372036854775807) ∧ (_) ∧ (_) ∧ ((0 : Int) ≤ ((mvV f (stp n a) i) : Int)) ∧ ((0 : Int) < ((d * 65536) : Int)) ∧ ((-9223372036854775808) ≤ (mvV f (stp n a) i) ∧ (mvV f (stp n a) i) ≤ 9223372036854775807)) [(4, iV (max (((mvV f (stp n a) (i - 1)) / (d * 65536)) + 2) ((mvV f (stp n a) i) / (d * 65536))))] [] 1 ⟨⟨by omega, by omega⟩, rfl, rfl, rfl, rfl, rfl, zo, (P_moved n d a p f (i - 1) zl142 zo), (P_parts n d a p f zo), zo, zo, ⟨by omega, by omega⟩, ⟨by omega, by omega⟩, (P_moved n d a p f i zl142 zo), (P_parts n d a p f zo), zo, zo, ⟨by omega, by omega⟩⟩ ?_
  refine AW.ret ?_
  exact EndP.of (.inr rfl) [] (P := (((needV f (stp n a) (d * 65536) i) : Int) = (max (((mvV f (stp n a) (i - 1)) / (d * 65536)) + 2) ((mvV f (stp n a) i) / (d * 65536))))) zk (by first | rfl | omega | (rw [show i = 0 by omega, needV_0]) | (rw [needV_s _ _ _ (show ¬ i = 0 by omega)]; omega) | (rw [needV_s _ _ _ (show ¬ i = 0 by omega)]))
theorem P_Need (n d a p f : Int) (i : Nat) (hv : PhV n d a p f) (hi : i ≤ 65536) : Fun 131 [.agg [iC n, iC d, iC a, iC p, iC f], iE ((i : Nat) : Int)] (toG []) 0 (.tup [iE (needV f (stp n a) (d * 65536) i), iE 0]) (toG []) 0 := by
 refine Fun.mk (n := 16) Tryz.func131 rfl rfl (Nat.le_of_ble_eq_true rfl) ?_
 intro cx hcx
 refine zr [.no, .no, .no] [1, 2] [0] True [(1, uV i), (2, rV 0 0)] [(0, some (31, .ds [iD n, iD d, iD a, iD p, iD f]))] 1 trivial ?_
 refine AW.seq ?_
 refine zr [.no, .no, .call [] (iV 0) [] 0 [] none, .no] [1, 2, 6] [0] _ [(1, uV i), (2, rV 0 0), (6, iV 0)] [(0, some (31, .ds [iD n, iD d, iD a, iD p, iD f]))] 1 (P_check n d a p f ((i : Nat) : Int) 65536 zl142 zo) ?_
 refine zr [.no, .b false] [1, 2, 6, 11] [0] (¬ ((0 : Int) ≠ 0)) [(1, uV i), (2, rV 0 0), (6, iV 0), (11, bV false)] [(0, some (31, .ds [iD n, iD d, iD a, iD p, iD f]))] 1 zo ?_
 refine zfs ?_
 have hx1 : (((0 : Int) ≤ (needV f (stp n a) (d * 65536) i)) ∧ ((needV f (stp n a) (d * 65536) i) ≤ 3600000000000002)) := (by have h9 := PhV.b (show PhV n d a p f by assumption); have h8 := stp_in h9.1 h9.2.2.1; exact needV_in zo zo zo zo)
 refine zr [.no, .no, .call [] (iV (needV f (stp n a) (d * 65536) i)) [] 0 [] none, .no, .no] [4, 5] [] _ [(4, iV (needV f (stp n a) (d * 65536) i)), (5, iV 0)] [] 1 (P_need n d a p f i zl142 zo) ?_
 refine AW.ret ?_
 exact EndP.of (.inr rfl) [] (P := (((needV f (stp n a) (d * 65536) i) : Int) = (needV f (stp n a) (d * 65536) i)) ∧ ((0 : Int) = 0)) zk ⟨rfl, rfl⟩
theorem P_tooMany (n d a p f : Int) (h : Int) (k : Nat) (hv : PhV n d a p f) (hk : k ≤ 65536) : Fun 128 [iE ((k : Nat) : Int), .c (.ptr 0 0), .c (.ptr 1 0)] (toG [(0, some (31, .ds [iD n, iD d, iD a, iD p, iD f])), (1, some (2, .ds [iD h]))]) 2 (.e (.c (.d (D.lit (.bool (decide (h < needV f (stp n a) (d * 65536) (k + 1)))))))) (toG [(0, some (31, .ds [iD n, iD d, iD a, iD p, iD f])), (1, some (2, .ds [iD h]))]) 2 := by
 refine Fun.mk (n := 11) Tryz.func128 rfl rfl (Nat.le_of_ble_eq_true rfl) ?_
 intro cx hcx
 refine zr [.no] [0, 1, 2] [0, 1] True [(0, uV k), (1, rV 0 0), (2, rV 1 0)] [(0, some (31, .ds [iD n, iD d, iD a, iD p, iD f])), (1, some (2, .ds [iD h]))] 2 trivial ?_
 by_cases hx2 : (h < (needV f (stp n a) (d * 65536) (k + 1)))
 ·have hx3 : (((0 : Int) ≤ (needV f (stp n a) (d * 65536) (k + 1))) ∧ ((needV f (stp n a) (d * 65536) (k + 1)) ≤ 3600000000000002)) := (by have h9 := PhV.b (show PhV n d a p f by assumption); have h8 := stp_in h9.1 h9.2.2.1; exact needV_in zo zo zo zo)
  refine zr [.no, .no, .w, .call [] (iV (needV f (stp n a) (d * 65536) (k + 1))) [] 0 [] none, .no, .b true, .no] [4] [0, 1] (((-9223372036854775808) ≤ (((k : Nat) : Int) + 1) ∧ (((k : Nat) : Int) + 1) ≤ 9223372036854775807) ∧ (_) ∧ ((h < (needV f (stp n a) (d * 65536) (k + 1))))) [(4, bV true)] [(0, some (31, .ds [iD n, iD d, iD a, iD p, iD f])), (1, some (2, .ds [iD h]))] 2 ⟨⟨by omega, by omega⟩, (P_need n d a p f (k + 1) zl142 zo), zo⟩ ?_
  refine AW.ret ?_
  exact EndP.of (.inr rfl) [] (P := ((decide (h < needV f (stp n a) (d * 65536) (k + 1))) = true) ∧ (([iD n, iD d, iD a, iD p, iD f] : List D) = [iD n, iD d, iD a, iD p, iD f]) ∧ (([iD h] : List D) = [iD h])) zk ⟨zl143, rfl, rfl⟩
 ·have hx4 : (((0 : Int) ≤ (needV f (stp n a) (d * 65536) (k + 1))) ∧ ((needV f (stp n a) (d * 65536) (k + 1)) ≤ 3600000000000002)) := (by have h9 := PhV.b (show PhV n d a p f by assumption); have h8 := stp_in h9.1 h9.2.2.1; exact needV_in zo zo zo zo)
  refine zr [.no, .no, .w, .call [] (iV (needV f (stp n a) (d * 65536) (k + 1))) [] 0 [] none, .no, .b false, .no] [4] [0, 1] (((-9223372036854775808) ≤ (((k : Nat) : Int) + 1) ∧ (((k : Nat) : Int) + 1) ≤ 9223372036854775807) ∧ (_) ∧ (¬ (h < (needV f (stp n a) (d * 65536) (k + 1))))) [(4, bV false)] [(0, some (31, .ds [iD n, iD d, iD a, iD p, iD f])), (1, some (2, .ds [iD h]))] 2 ⟨⟨by omega, by omega⟩, (P_need n d a p f (k + 1) zl142 zo), zo⟩ ?_
  refine AW.ret ?_
  exact EndP.of (.inr rfl) [] (P := ((decide (h < needV f (stp n a) (d * 65536) (k + 1))) = false) ∧ (([iD n, iD d, iD a, iD p, iD f] : List D) = [iD n, iD d, iD a, iD p, iD f]) ∧ (([iD h] : List D) = [iD h])) zk ⟨zl143, rfl, rfl⟩
theorem P_Search (n d a p f : Int) (h : Int) (hv : PhV n d a p f) : Fun 130 [iE 65536, .c (.fn 128 [(0, 0), (1, 0)])] (toG [(0, some (31, .ds [iD n, iD d, iD a, iD p, iD f])), (1, some (2, .ds [iD h]))]) 2 (iV (((mkF f (stp n a) (d * 65536) h) : Nat) : Int)) (toG [(0, some (31, .ds [iD n, iD d, iD a, iD p, iD f])), (1, some (2, .ds [iD h]))]) 2 := by
 have hok : phB n d a p f = true := hv.ok
 have hbd : (1 ≤ n ∧ n ≤ 768000) ∧ (1 ≤ d ∧ d ≤ 768000) ∧ (-4096 ≤ a ∧ a ≤ 4096) ∧ (0 ≤ p ∧ p ≤ 1125899906842624) ∧ 0 ≤ f ∧ f < d * 65536 := hv.b
 have hst : 61440 ≤ stp n a ∧ stp n a ≤ 53477376000 := stp_in hv.b.1 hv.b.2.2.1
 refine Fun.mk (n := 26) Tryz.func130 rfl rfl (Nat.le_of_ble_eq_true rfl) ?_
 intro cx hcx
 refine zr [.no] [0, 1] [0, 1] True [(0, iV 65536), (1, .e (.c (.fn 128 [(0, 0), (1, 0)])))] [(0, some (31, .ds [iD n, iD d, iD a, iD p, iD f])), (1, some (2, .ds [iD h]))] 2 trivial ?_
 refine zr [.no, .no, .no] [1, 5, 6] [0, 1] True [(1, .e (.c (.fn 128 [(0, 0), (1, 0)]))), (5, iV 0), (6, iV 65536)] [(0, some (31, .ds [iD n, iD d, iD a, iD p, iD f])), (1, some (2, .ds [iD h]))] 2 trivial ?_
 refine AW.seq ?_
 refine AW.block ?_
 refine AW.loopE 2 hcx (fun (x : {x : Nat × Nat // match x with | (i, j) => (i ≤ j) ∧ (j ≤ 65536) ∧ (i = 0 ∨ needV f (stp n a) (d * 65536) (i) ≤ h) ∧ (j = 65536 ∨ h < needV f (stp n a) (d * 65536) (j + 1))}) => match x with | ⟨(i, j), _⟩ => (⟨[(1, .e (.c (.fn 128 [(0, 0), (1, 0)]))), (5, uV i), (6, uV j)], [(0, some (31, .ds [iD n, iD d, iD a, iD p, iD f])), (1, some (2, .ds [iD h]))], 2⟩ : ES)) (fun (x : {x : Nat × Nat // match x with | (i, j) => (i ≤ j) ∧ (j ≤ 65536) ∧ (i = 0 ∨ needV f (stp n a) (d * 65536) (i) ≤ h) ∧ (j = 65536 ∨ h < needV f (stp n a) (d * 65536) (j + 1))}) => match x with | ⟨(i, j), _⟩ => j - i) ⟨((0 : Nat), (65536 : Nat)), (show ((0 : Nat) ≤ (65536 : Nat)) ∧ ((65536 : Nat) ≤ 65536) ∧ ((0 : Nat) = 0 ∨ needV f (stp n a) (d * 65536) ((0 : Nat)) ≤ h) ∧ ((65536 : Nat) = 65536 ∨ h < needV f (stp n a) (d * 65536) ((65536 : Nat) + 1)) from ⟨zl145, zl145, zl145, zl145⟩)⟩ [] (P := ((0 : Int) = 0) ∧ ((65536 : Int) = 65536) ∧ (([iD n, iD d, iD a, iD p, iD f] : List D) = [iD n, iD d, iD a, iD p, iD f]) ∧ (([iD h] : List D) = [iD h])) zk ⟨rfl, rfl, rfl, rfl⟩ ?_
 rintro ⟨⟨i, j⟩, hinv0⟩
 obtain ⟨hij, hj, hl, hr⟩ : (i ≤ j) ∧ (j ≤ 65536) ∧ (i = 0 ∨ needV f (stp n a) (d * 65536) (i) ≤ h) ∧ (j = 65536 ∨ h < needV f (stp n a) (d * 65536) (j + 1)) := hinv0
 refine AW.es (l := [(1, .e (.c (.fn 128 [(0, 0), (1, 0)]))), (5, uV i), (6, uV j)]) (g := [(0, some (31, .ds [iD n, iD d, iD a, iD p, iD f])), (1, some (2, .ds [iD h]))]) (nx := 2) rfl rfl rfl ?_
 refine AW.seq ?_
 by_cases hx1 : (((i : Nat) : Int) < ((j : Nat) : Int))
 ·refine zr [.no, .no, .b true] [1, 5, 6, 11] [0, 1] ((((i : Nat) : Int) < ((j : Nat) : Int))) [(1, .e (.c (.fn 128 [(0, 0), (1, 0)]))), (5, uV i), (6, uV j), (11, bV true)] [(0, some (31, .ds [iD n, iD d, iD a, iD p, iD f])), (1, some (2, .ds [iD h]))] 2 zo ?_
  refine zts ?_
  refine AW.block ?_
  refine zr [.no, .no, .w, .w, .n 1, .w, .no] [1, 5, 6, 7] [0, 1] (((-9223372036854775808) ≤ (((i : Nat) : Int) + ((j : Nat) : Int)) ∧ (((i : Nat) : Int) + ((j : Nat) : Int)) ≤ 9223372036854775807) ∧ (0 ≤ (((i : Nat) : Int) + ((j : Nat) : Int)) ∧ (((i : Nat) : Int) + ((j : Nat) : Int)) ≤ 18446744073709551615) ∧ ((1 : Int) = 1) ∧ ((1 : Nat) ≤ 64) ∧ ((-9223372036854775808) ≤ ((((i : Nat) : Int) + ((j : Nat) : Int)) / 2) ∧ ((((i : Nat) : Int) + ((j : Nat) : Int)) / 2) ≤ 9223372036854775807)) [(1, .e (.c (.fn 128 [(0, 0), (1, 0)]))), (5, uV i), (6, uV j), (7, iV ((↑i + ↑j) / 2))] [(0, some (31, .ds [iD n, iD d, iD a, iD p, iD f])), (1, some (2, .ds [iD h]))] 2 ⟨⟨by omega, by omega⟩, ⟨by omega, by omega⟩, rfl, zo, ⟨by omega, by omega⟩⟩ ?_
  rcases Bool.eq_false_or_eq_true (decide (h < needV f (stp n a) (d * 65536) (((i + j) / 2) + 1))) with hx2 | hx2
  ·have hx3 : (h < (needV f (stp n a) (d * 65536) (((i + j) / 2) + 1))) := of_decide_eq_true hx2
   refine zr [.no, .no, .call [0, 1] (bV true) [(0, some (31, .ds [iD n, iD d, iD a, iD p, iD f])), (1, some (2, .ds [iD h]))] 2 [] none, .no] [1, 5, 6, 7, 21] [0, 1] (Fun 128 [iE ((((i : Nat) : Int) + ((j : Nat) : Int)) / 2), .c (.ptr 0 0), .c (.ptr 1 0)] (toG [(0, some (31, .ds [iD n, iD d, iD a, iD p, iD f])), (1, some (2, .ds [iD h]))]) 2 (bV true) (toG [(0, some (31, .ds [iD n, iD d, iD a, iD p, iD f])), (1, some (2, .ds [iD h]))]) 2) [(1, .e (.c (.fn 128 [(0, 0), (1, 0)]))), (5, uV i), (6, uV j), (7, iV ((↑i + ↑j) / 2)), (21, bV false)] [(0, some (31, .ds [iD n, iD d, iD a, iD p, iD f])), (1, some (2, .ds [iD h]))] 2 (by have h0 := (P_tooMany n d a p f h ((i + j) / 2) zl142 zo); rw [hx2] at h0; exact h0) ?_
   refine zf ?_
   refine zg [.no, .no] [1, 5, 6] [0, 1] True [(1, .e (.c (.fn 128 [(0, 0), (1, 0)]))), (5, uV i), (6, iV ((↑i + ↑j) / 2))] [(0, some (31, .ds [iD n, iD d, iD a, iD p, iD f])), (1, some (2, .ds [iD h]))] 2 trivial ?_
   exact Rd.of ⟨((i : Nat), (((i + j) / 2) : Nat)), (show (i ≤ ((i + j) / 2)) ∧ (((i + j) / 2) ≤ 65536) ∧ (i = 0 ∨ needV f (stp n a) (d * 65536) (i) ≤ h) ∧ (((i + j) / 2) = 65536 ∨ h < needV f (stp n a) (d * 65536) (((i + j) / 2) + 1)) from ⟨zl145, zl145, zl145, zl145⟩)⟩ [] (P := ((((i : Nat) : Int) : Int) = ((i : Nat) : Int)) ∧ ((((((i + j) / 2) : Nat) : Int) : Int) = ((((i : Nat) : Int) + ((j : Nat) : Int)) / 2)) ∧ (([iD n, iD d, iD a, iD p, iD f] : List D) = [iD n, iD d, iD a, iD p, iD f]) ∧ (([iD h] : List D) = [iD h])) zk ⟨rfl, zl144, rfl, rfl⟩ (show ((i + j) / 2) - i < j - i from (by first | omega | (show _ < _; simp; omega)))
  ·have hx4 : ¬ (h < (needV f (stp n a) (d * 65536) (((i + j) / 2) + 1))) := of_decide_eq_false hx2
   refine zr [.no, .no, .call [0, 1] (bV false) [(0, some (31, .ds [iD n, iD d, iD a, iD p, iD f])), (1, some (2, .ds [iD h]))] 2 [] none, .no] [1, 5, 6, 7, 21] [0, 1] (Fun 128 [iE ((((i : Nat) : Int) + ((j : Nat) : Int)) / 2), .c (.ptr 0 0), .c (.ptr 1 0)] (toG [(0, some (31, .ds [iD n, iD d, iD a, iD p, iD f])), (1, some (2, .ds [iD h]))]) 2 (bV false) (toG [(0, some (31, .ds [iD n, iD d, iD a, iD p, iD f])), (1, some (2, .ds [iD h]))]) 2) [(1, .e (.c (.fn 128 [(0, 0), (1, 0)]))), (5, uV i), (6, uV j), (7, iV ((↑i + ↑j) / 2)), (21, bV true)] [(0, some (31, .ds [iD n, iD d, iD a, iD p, iD f])), (1, some (2, .ds [iD h]))] 2 (by have h0 := (P_tooMany n d a p f h ((i + j) / 2) zl142 zo); rw [hx2] at h0; exact h0) ?_
   refine zt ?_
   refine zg [.no, .w, .no] [1, 5, 6] [0, 1] ((-9223372036854775808) ≤ (((((i : Nat) : Int) + ((j : Nat) : Int)) / 2) + 1) ∧ (((((i : Nat) : Int) + ((j : Nat) : Int)) / 2) + 1) ≤ 9223372036854775807) [(1, .e (.c (.fn 128 [(0, 0), (1, 0)]))), (5, iV (((↑i + ↑j) / 2) + 1)), (6, uV j)] [(0, some (31, .ds [iD n, iD d, iD a, iD p, iD f])), (1, some (2, .ds [iD h]))] 2 ⟨by omega, by omega⟩ ?_
   exact Rd.of ⟨(((((i + j) / 2) + 1) : Nat), (j : Nat)), (show ((((i + j) / 2) + 1) ≤ j) ∧ (j ≤ 65536) ∧ ((((i + j) / 2) + 1) = 0 ∨ needV f (stp n a) (d * 65536) ((((i + j) / 2) + 1)) ≤ h) ∧ (j = 65536 ∨ h < needV f (stp n a) (d * 65536) (j + 1)) from ⟨zl145, zl145, zl145, zl145⟩)⟩ [] (P := (((((((i + j) / 2) + 1) : Nat) : Int) : Int) = (((((i : Nat) : Int) + ((j : Nat) : Int)) / 2) + 1)) ∧ ((((j : Nat) : Int) : Int) = ((j : Nat) : Int)) ∧ (([iD n, iD d, iD a, iD p, iD f] : List D) = [iD n, iD d, iD a, iD p, iD f]) ∧ (([iD h] : List D) = [iD h])) zk ⟨zl144, rfl, rfl, rfl⟩ (show j - (((i + j) / 2) + 1) < j - i from (by first | omega | (show _ < _; simp; omega)))
 ·refine zr [.no, .no, .b false] [1, 5, 6, 11] [0, 1] (¬ (((i : Nat) : Int) < ((j : Nat) : Int))) [(1, .e (.c (.fn 128 [(0, 0), (1, 0)]))), (5, uV i), (6, uV j), (11, bV false)] [(0, some (31, .ds [iD n, iD d, iD a, iD p, iD f])), (1, some (2, .ds [iD h]))] 2 zo ?_
  refine zf ?_
  refine AW.exit ?_
  refine zr [.no, .no] [4] [0, 1] True [(4, uV i)] [(0, some (31, .ds [iD n, iD d, iD a, iD p, iD f])), (1, some (2, .ds [iD h]))] 2 trivial ?_
  refine AW.ret ?_
  exact EndP.of (.inr rfl) [] (P := (((((mkF f (stp n a) (d * 65536) h) : Nat) : Int) : Int) = ((i : Nat) : Int)) ∧ (([iD n, iD d, iD a, iD p, iD f] : List D) = [iD n, iD d, iD a, iD p, iD f]) ∧ (([iD h] : List D) = [iD h])) zk ⟨(by first | rfl | exact (mkF_eq zo zo zo zo zo (by rw [show i = j by omega]; exact hr)).symm), rfl, rfl⟩
theorem P_Make (n d a p f : Int) (h : Int) (hv : PhV n d a p f) (hh : 0 ≤ h ∧ h ≤ 1099511627776) : Fun 114 [.agg [iC n, iC d, iC a, iC p, iC f], iE h] (toG []) 0 (.tup [iE (((mkF f (stp n a) (d * 65536) h) : Nat) : Int), iE 0]) (toG []) 0 := by
 refine Fun.mk (n := 17) Tryz.func114 rfl rfl (Nat.le_of_ble_eq_true rfl) ?_
 intro cx hcx
 refine zr [.no, .no, .no, .no] [2, 3] [0, 1] True [(2, rV 0 0), (3, rV 1 0)] [(0, some (31, .ds [iD n, iD d, iD a, iD p, iD f])), (1, some (2, .ds [iD h]))] 2 trivial ?_
 refine AW.seq ?_
 refine zr [.no, .no, .call [] (iV 0) [] 0 [] none, .no] [2, 3, 6] [0, 1] _ [(2, rV 0 0), (3, rV 1 0), (6, iV 0)] [(0, some (31, .ds [iD n, iD d, iD a, iD p, iD f])), (1, some (2, .ds [iD h]))] 2 (P_check n d a p f h 1099511627776 zl142 zo) ?_
 refine zr [.no, .b false] [2, 3, 6, 12] [0, 1] (¬ ((0 : Int) ≠ 0)) [(2, rV 0 0), (3, rV 1 0), (6, iV 0), (12, bV false)] [(0, some (31, .ds [iD n, iD d, iD a, iD p, iD f])), (1, some (2, .ds [iD h]))] 2 zo ?_
 refine zfs ?_
 refine zr [.no, .no] [7] [0, 1] True [(7, .e (.c (.fn 128 [(0, 0), (1, 0)])))] [(0, some (31, .ds [iD n, iD d, iD a, iD p, iD f])), (1, some (2, .ds [iD h]))] 2 trivial ?_
 refine zr [.no, .call [0, 1] (uV (mkF f (stp n a) (d * 65536) h)) [(0, some (31, .ds [iD n, iD d, iD a, iD p, iD f])), (1, some (2, .ds [iD h]))] 2 [] none, .no, .no] [4, 5] [] _ [(4, uV (mkF f (stp n a) (d * 65536) h)), (5, iV 0)] [] 2 (P_Search n d a p f h zl142) ?_
 refine AW.ret ?_
 exact EndP.of (.inr rfl) [] (P := (((((mkF f (stp n a) (d * 65536) h) : Nat) : Int) : Int) = (((mkF f (stp n a) (d * 65536) h) : Nat) : Int)) ∧ ((0 : Int) = 0)) zk ⟨rfl, rfl⟩
end Go.Proofs.YtigiolfloefjnaaGreatDoor
