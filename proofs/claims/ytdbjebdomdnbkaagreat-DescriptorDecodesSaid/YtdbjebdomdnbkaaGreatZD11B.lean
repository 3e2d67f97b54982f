/- Readers. No statement is proved here. -/
import Derived.Test.YtdbjebdomdnbkaaGreatZD11A
namespace Go.Proofs.YtdbjebdomdnbkaaGreat
open Go.ChangeShapes Go.WideShapes Go.ChangeAt Go.RowKit
open List renaming drop → ka5, getD → ka0, length → ka1, length_take → kb4, take → ka2
open Nat renaming le_of_ble_eq_true → ka3
set_option linter.unusedVariables false
set_option linter.unusedSimpArgs false
/-! chapter 11: readers -/
set_option maxHeartbeats 4000000
set_option maxRecDepth 100000
structure RS where
  a : Nat
  q : Int
def kT (u : RS) : Nat := u.a
def qC (u : RS) : Int := u.q
def qE : RS := ⟨4, 0⟩
theorem u5e {x : D} {a b c d : Int} (h : a = b) (h2 : c = d) : ([x, iD a, iD c] : List D) = [x, iD b, iD d] := by rw [h, h2]
def kE (s : Nat) (l : List Int) (u : RS) : RS := if u.q = 0 then (if u.a + s ≤ l.length then ⟨u.a + s, 0⟩ else ⟨0, 4⟩) else u
def kK (l : List Int) (u : RS) : Nat := if u.q = 0 ∧ u.a + 2 ≤ l.length then (g16 l u.a).toNat else 0
def qU (l : List Int) (u : RS) : Int := if u.q = 0 ∧ u.a + 4 ≤ l.length then g32 l u.a else 0
def uW (l : List Int) (u : RS) : Int := if u.q = 0 ∧ u.a + 8 ≤ l.length then g64 l u.a else 0
theorem pG {s : Nat} {l : List Int} {u : RS} (h : ¬ qC u = 0) : kE s l u = u := if_neg h
theorem xL {s m : Nat} {l : List Int} {u : RS} (hm : l.length = m) (h : qC u = 0) (h1 : kT u + s ≤ m) : kT (kE s l u) = kT u + s ∧ qC (kE s l u) = 0 := by
  subst hm
  have e : kE s l u = ⟨u.a + s, 0⟩ := by unfold kE; rw [if_pos (show u.q = 0 from h), if_pos (show u.a + s ≤ _ from h1)]
  rw [e]; exact ⟨rfl, rfl⟩
theorem mJ {s m : Nat} {l : List Int} {u : RS} (hm : l.length = m) (h : qC u = 0) (h1 : ¬ kT u + s ≤ m) : kT (kE s l u) = 0 ∧ qC (kE s l u) = 4 := by
  subst hm
  have e : kE s l u = ⟨0, 4⟩ := by unfold kE; rw [if_pos (show u.q = 0 from h), if_neg (show ¬ u.a + s ≤ _ from h1)]
  rw [e]; exact ⟨rfl, rfl⟩
theorem yG {s m : Nat} {l : List Int} {u : RS} (hm : l.length = m) (hu : kT u ≤ m) : kT (kE s l u) ≤ m := by
  by_cases h : qC u = 0
  · by_cases h1 : kT u + s ≤ m
    · have := xL hm h h1; omega
    · have := mJ hm h h1; omega
  · rw [pG h]; exact hu
theorem u4t {l : List Int} {u : RS} (h : ¬ qC u = 0) : kK l u = 0 := if_neg fun e => h e.1
theorem u4s {l : List Int} {u : RS} (h : ¬ qC u = 0) : qU l u = 0 := if_neg fun e => h e.1
theorem u4r {l : List Int} {u : RS} (h : ¬ qC u = 0) : uW l u = 0 := if_neg fun e => h e.1
theorem u00 {m : Nat} {l : List Int} {u : RS} (hm : l.length = m) (h1 : ¬ kT u + 2 ≤ m) : kK l u = 0 := by subst hm; exact if_neg fun e => h1 e.2
theorem k9y {m : Nat} {l : List Int} {u : RS} (hm : l.length = m) (h1 : ¬ kT u + 4 ≤ m) : qU l u = 0 := by subst hm; exact if_neg fun e => h1 e.2
theorem k9w {m : Nat} {l : List Int} {u : RS} (hm : l.length = m) (h1 : ¬ kT u + 8 ≤ m) : uW l u = 0 := by subst hm; exact if_neg fun e => h1 e.2
theorem k9z {m : Nat} {l : List Int} {u : RS} (hm : l.length = m) (hy : Byt l) (h : qC u = 0) (h1 : kT u + 2 ≤ m) : ((kK l u : Nat) : Int) = g16 l (kT u) := by
  subst hm
  have e : kK l u = (g16 l u.a).toNat := if_pos ⟨h, h1⟩
  rw [e]; exact Int.toNat_of_nonneg (g16_rng hy h1).1
theorem k9x {m : Nat} {l : List Int} {u : RS} (hm : l.length = m) (h : qC u = 0) (h1 : kT u + 4 ≤ m) : qU l u = g32 l (kT u) := by subst hm; exact if_pos ⟨h, h1⟩
theorem k9v {m : Nat} {l : List Int} {u : RS} (hm : l.length = m) (h : qC u = 0) (h1 : kT u + 8 ≤ m) : uW l u = g64 l (kT u) := by subst hm; exact if_pos ⟨h, h1⟩
theorem qY {l : List Int} (hy : Byt l) (u : RS) : kK l u ≤ 65535 := by
  by_cases h : u.q = 0 ∧ u.a + 2 ≤ l.length
  · have e : kK l u = (g16 l u.a).toNat := if_pos h
    have := g16_rng hy h.2; omega
  · have e : kK l u = 0 := if_neg h
    omega
theorem d9 {l : List Int} (hy : Byt l) (u : RS) : 0 ≤ qU l u ∧ qU l u ≤ 4294967295 := by
  by_cases h : u.q = 0 ∧ u.a + 4 ≤ l.length
  · have e : qU l u = g32 l u.a := if_pos h
    have := g32_rng hy h.2; omega
  · have e : qU l u = 0 := if_neg h
    omega
theorem oD {l : List Int} (hy : Byt l) (u : RS) : 0 ≤ uW l u ∧ uW l u ≤ 18446744073709551615 := by
  by_cases h : u.q = 0 ∧ u.a + 8 ≤ l.length
  · have e : uW l u = g64 l u.a := if_pos h
    have := g64_rng hy h.2; omega
  · have e : uW l u = 0 := if_neg h
    omega
def uI (l : List Int) (a : Nat) : Nat := (ka0 l a 0).toNat
def vC (l : List Int) (a : Nat) : Int := if a = l.length then 4 else if 64 < uI l a then 3 else if l.length < a + 1 + uI l a then 4 else 0
def uA (l : List Int) (u : RS) : RS := if u.q = 0 then (if vC l u.a = 0 then ⟨u.a + 1 + uI l u.a, 0⟩ else ⟨0, vC l u.a⟩) else u
def aP (l : List Int) (u : RS) : List Int := if u.q = 0 ∧ vC l u.a = 0 then ka2 (uI l u.a) (ka5 (u.a + 1) l) else []
theorem zH {l : List Int} {a : Nat} (hy : Byt l) (h : a < l.length) : ka0 l a 0 = ((uI l a : Nat) : Int) := by
  have := hy.at a h
  unfold uI; omega
theorem u02 {l : List Int} {a m : Nat} (hm : l.length = m) (h : a = m) : vC l a = 4 := by subst hm; exact if_pos h
theorem u04 {l : List Int} {a m : Nat} (hm : l.length = m) (h : ¬ a = m) (h1 : 64 < uI l a) : vC l a = 3 := by subst hm; unfold vC; rw [if_neg h, if_pos h1]
theorem u03 {l : List Int} {a m : Nat} (hm : l.length = m) (h : ¬ a = m) (h1 : ¬ 64 < uI l a) (h2 : m < a + 1 + uI l a) : vC l a = 4 := by subst hm; unfold vC; rw [if_neg h, if_neg h1, if_pos h2]
theorem zI {l : List Int} {a m : Nat} (hm : l.length = m) (h : ¬ a = m) (h1 : ¬ 64 < uI l a) (h2 : ¬ m < a + 1 + uI l a) : vC l a = 0 := by subst hm; unfold vC; rw [if_neg h, if_neg h1, if_neg h2]
theorem k7c (l : List Int) (a : Nat) : 0 ≤ vC l a ∧ vC l a ≤ 4 := by unfold vC; repeat' split <;> omega
theorem r8 {l : List Int} {a m : Nat} (hm : l.length = m) (h : vC l a = 0) : ¬ a = m ∧ uI l a ≤ 64 ∧ a + 1 + uI l a ≤ m := by
  subst hm; unfold vC at h
  split at h
  · omega
  · split at h
    · omega
    · split at h <;> omega
theorem k0s {l : List Int} {u : RS} (h : ¬ qC u = 0) : uA l u = u ∧ aP l u = [] := ⟨if_neg h, if_neg fun e => h e.1⟩
theorem k7b {l : List Int} {u : RS} (h : qC u = 0) (h1 : vC l (kT u) = 0) : kT (uA l u) = kT u + 1 + uI l (kT u) ∧ qC (uA l u) = 0 ∧ aP l u = ka2 (uI l (kT u)) (ka5 (kT u + 1) l) := by
  have e : uA l u = ⟨u.a + 1 + uI l u.a, 0⟩ := by unfold uA; rw [if_pos (show u.q = 0 from h), if_pos (show vC l u.a = 0 from h1)]
  rw [e]; exact ⟨rfl, rfl, if_pos ⟨h, h1⟩⟩
theorem iQ {l : List Int} {u : RS} (h : qC u = 0) (h1 : ¬ vC l (kT u) = 0) : kT (uA l u) = 0 ∧ qC (uA l u) = vC l (kT u) ∧ aP l u = [] := by
  have e : uA l u = ⟨0, vC l u.a⟩ := by unfold uA; rw [if_pos (show u.q = 0 from h), if_neg (show ¬ vC l u.a = 0 from h1)]
  rw [e]; exact ⟨rfl, rfl, if_neg fun e => h1 e.2⟩
theorem u01 {m : Nat} {l : List Int} {u : RS} (hm : l.length = m) (hu : kT u ≤ m) : kT (uA l u) ≤ m := by
  by_cases h : qC u = 0
  · by_cases h1 : vC l (kT u) = 0
    · have := k7b h h1; have := r8 hm h1; omega
    · have := iQ h h1; omega
  · rw [(k0s h).1]; exact hu
theorem oF {l : List Int} (hy : Byt l) (u : RS) : Byt (aP l u) := by
  unfold aP; split
  · exact (hy.drop _).take _
  · exact Byt.nil
theorem oE (l : List Int) (u : RS) : ka1 (aP l u) ≤ 64 := by
  unfold aP; split
  · rename_i h; have := r8 rfl h.2; rw [kb4]; omega
  · exact Nat.zero_le _
theorem vZ {p : Prop} (h : p := by exact u5e (by omega) (by omega)) : p := h
theorem aL (l : List Int) (m : Nat) (u : RS) (hm : ka1 l = m) (hb : m ≤ 1000000) (hy : Byt l) (hu : kT u ≤ m) : Fun 51 [.c (.ptr 0 0)] (kD [(0, some (62, .ds [D.sl (dI .u8 l) m, iD (((kT u) : Nat) : Int), iD (qC u)]))]) 1 (iV (((kK l u) : Nat) : Int)) (kD [(0, some (62, .ds [D.sl (dI .u8 l) m, iD (((kT (kE 2 l u)) : Nat) : Int), iD (qC (kE 2 l u))]))]) 1 := by
  refine Fun.mk (n := 34) Tryz.func51 rfl rfl (ka3 rfl) ?_
  intro cx hcx
  refine kG [.no] True [(0, rV 0 0)] [(0, some (62, .ds [db l m, uD (kT u), iD (qC u)]))] 1 trivial ?_
  refine AW.seq ?_
  by_cases hx1 : ((qC u) ≠ 0)
  · refine zr (kJ 4 [.b true]) [0, 10] [0] (((qC u) ≠ 0)) [(0, rV 0 0), (10, bV true)] [(0, some (62, .ds [db l m, uD (kT u), iD (qC u)]))] 1 zo ?_
    refine zt ?_
    refine kG [.no] True [(2, iV 0)] [(0, some (62, .ds [db l m, uD (kT u), iD (qC u)]))] 1 trivial ?_
    have hx2 : kT (kE 2 l u) = kT u := (by rw [pG (by omega)])
    have hx3 : qC (kE 2 l u) = qC u := (by rw [pG (by omega)])
    have hx4 : ((kK l u : Nat) : Int) = 0 := (by rw [u4t (by omega)]; rfl)
    refine AW.ret ?_
    exact kB (.inr rfl) [] (P := (((kK l u : Int) : Int) = 0) ∧ (([db l m, uD (kT (kE 2 l u)), iD (qC (kE 2 l u))] : List D) = [db l m, uD (kT u), iD (qC u)])) zk ⟨zo, vZ⟩
  · refine zr (kJ 4 [.b false]) [0, 10] [0] (¬ ((qC u) ≠ 0)) [(0, rV 0 0), (10, bV false)] [(0, some (62, .ds [db l m, uD (kT u), iD (qC u)]))] 1 zo ?_
    refine uM ?_
    by_cases hx5 : (((kT u) + 2) ≤ m)
    · have hx6 : (((0 : Int) ≤ (g16 l (kT u))) ∧ ((g16 l (kT u)) ≤ 65535)) := g16_rng (kL : Byt l) zo
      refine kG (kJ 8 (.call [] (.tup [.c (.d (D.lit (.int .u16 (g16 l (kT u))))), uE ((kT u) + 2), iE 0]) [] 0 [] none :: kJ 7 [])) _ [(0, rV 0 0), (3, kP (D.lit (.int .u16 (g16 l (kT u))))), (4, uV ((kT u) + 2)), (5, iV 0)] [(0, some (62, .ds [db l m, uD (kT u), iD (qC u)]))] 1 (W_Get16 l m (kT u) zo zo (kL : Byt l) zo) ?_
      refine kG (kJ 10 []) True [(3, kP (D.lit (.int .u16 (g16 l (kT u)))))] [(0, some (62, .ds [db l m, uD ((kT u) + 2), iD 0]))] 1 trivial ?_
      refine kV [.no, .w, .no] (qB (g16 l (kT u))) [(2, iV (g16 l (kT u)))] ⟨by omega, by omega⟩ ?_
      have hx7 : kT (kE 2 l u) = kT u + 2 := (xL hm zo zo).1
      have hx8 : qC (kE 2 l u) = 0 := (xL hm zo zo).2
      have hx9 : ((kK l u : Nat) : Int) = g16 l (kT u) := (k9z hm hy zo zo)
      refine AW.ret ?_
      exact kB (.inr rfl) [] (P := (((kK l u : Int) : Int) = (g16 l (kT u))) ∧ (([db l m, uD (kT (kE 2 l u)), iD (qC (kE 2 l u))] : List D) = [db l m, uD ((kT u) + 2), iD 0])) zk ⟨zo, vZ⟩
    · refine zr (kJ 8 (.call [] (.tup [.c (.d (D.lit (.int .u16 0))), iE 0, iE 4]) [] 0 [] none :: kJ 7 [])) [0, 3, 4, 5] [0] _ [(0, rV 0 0), (3, kP (D.lit (.int .u16 0))), (4, iV 0), (5, iV 4)] [(0, some (62, .ds [db l m, uD (kT u), iD (qC u)]))] 1 (W_Get16_s l m (kT u) zo zo (kL : Byt l) zo zo) ?_
      refine kG (kJ 10 []) True [(3, kP (D.lit (.int .u16 0)))] [(0, some (62, .ds [db l m, iD 0, iD 4]))] 1 trivial ?_
      refine kV [.no, .w, .no] (qB (0 : Int)) [(2, iV 0)] ⟨by omega, by omega⟩ ?_
      have hx10 : kT (kE 2 l u) = 0 := (mJ hm zo zo).1
      have hx11 : qC (kE 2 l u) = 4 := (mJ hm zo zo).2
      have hx12 : ((kK l u : Nat) : Int) = 0 := (by rw [u00 hm (by omega)]; rfl)
      refine AW.ret ?_
      exact kB (.inr rfl) [] (P := (((kK l u : Int) : Int) = 0) ∧ (([db l m, uD (kT (kE 2 l u)), iD (qC (kE 2 l u))] : List D) = [db l m, iD 0, iD 4])) zk ⟨zo, vZ⟩
theorem rM (l : List Int) (m : Nat) (u : RS) (hm : ka1 l = m) (hb : m ≤ 1000000) (hy : Byt l) (hu : kT u ≤ m) : Fun 52 [.c (.ptr 0 0)] (kD [(0, some (62, .ds [D.sl (dI .u8 l) m, iD (((kT u) : Nat) : Int), iD (qC u)]))]) 1 (iV (qU l u)) (kD [(0, some (62, .ds [D.sl (dI .u8 l) m, iD (((kT (kE 4 l u)) : Nat) : Int), iD (qC (kE 4 l u))]))]) 1 := by
  refine Fun.mk (n := 34) Tryz.func52 rfl rfl (ka3 rfl) ?_
  intro cx hcx
  refine kG [.no] True [(0, rV 0 0)] [(0, some (62, .ds [db l m, uD (kT u), iD (qC u)]))] 1 trivial ?_
  refine AW.seq ?_
  by_cases hx1 : ((qC u) ≠ 0)
  · refine zr (kJ 4 [.b true]) [0, 10] [0] (((qC u) ≠ 0)) [(0, rV 0 0), (10, bV true)] [(0, some (62, .ds [db l m, uD (kT u), iD (qC u)]))] 1 zo ?_
    refine zt ?_
    refine kG [.no] True [(2, iV 0)] [(0, some (62, .ds [db l m, uD (kT u), iD (qC u)]))] 1 trivial ?_
    have hx2 : kT (kE 4 l u) = kT u := (by rw [pG (by omega)])
    have hx3 : qC (kE 4 l u) = qC u := (by rw [pG (by omega)])
    have hx4 : qU l u = 0 := (by rw [u4s (by omega)])
    refine AW.ret ?_
    exact kB (.inr rfl) [] (P := (((qU l u) : Int) = 0) ∧ (([db l m, uD (kT (kE 4 l u)), iD (qC (kE 4 l u))] : List D) = [db l m, uD (kT u), iD (qC u)])) zk ⟨zo, vZ⟩
  · refine zr (kJ 4 [.b false]) [0, 10] [0] (¬ ((qC u) ≠ 0)) [(0, rV 0 0), (10, bV false)] [(0, some (62, .ds [db l m, uD (kT u), iD (qC u)]))] 1 zo ?_
    refine uM ?_
    by_cases hx5 : (((kT u) + 4) ≤ m)
    · have hx6 : (((0 : Int) ≤ (g32 l (kT u))) ∧ ((g32 l (kT u)) ≤ 4294967295)) := g32_rng (kL : Byt l) zo
      refine kG (kJ 8 (.call [] (.tup [.c (.d (D.lit (.int .u32 (g32 l (kT u))))), uE ((kT u) + 4), iE 0]) [] 0 [] none :: kJ 7 [])) _ [(0, rV 0 0), (3, kP (D.lit (.int .u32 (g32 l (kT u))))), (4, uV ((kT u) + 4)), (5, iV 0)] [(0, some (62, .ds [db l m, uD (kT u), iD (qC u)]))] 1 (W_Get32 l m (kT u) zo zo (kL : Byt l) zo) ?_
      refine kG (kJ 10 []) True [(3, kP (D.lit (.int .u32 (g32 l (kT u)))))] [(0, some (62, .ds [db l m, uD ((kT u) + 4), iD 0]))] 1 trivial ?_
      refine kV [.no, .w, .no] (qB (g32 l (kT u))) [(2, iV (g32 l (kT u)))] ⟨by omega, by omega⟩ ?_
      have hx7 : kT (kE 4 l u) = kT u + 4 := (xL hm zo zo).1
      have hx8 : qC (kE 4 l u) = 0 := (xL hm zo zo).2
      have hx9 : qU l u = g32 l (kT u) := (k9x hm zo zo)
      refine AW.ret ?_
      exact kB (.inr rfl) [] (P := (((qU l u) : Int) = (g32 l (kT u))) ∧ (([db l m, uD (kT (kE 4 l u)), iD (qC (kE 4 l u))] : List D) = [db l m, uD ((kT u) + 4), iD 0])) zk ⟨zo, vZ⟩
    · refine zr (kJ 8 (.call [] (.tup [.c (.d (D.lit (.int .u32 0))), iE 0, iE 4]) [] 0 [] none :: kJ 7 [])) [0, 3, 4, 5] [0] _ [(0, rV 0 0), (3, kP (D.lit (.int .u32 0))), (4, iV 0), (5, iV 4)] [(0, some (62, .ds [db l m, uD (kT u), iD (qC u)]))] 1 (W_Get32_s l m (kT u) zo zo (kL : Byt l) zo zo) ?_
      refine kG (kJ 10 []) True [(3, kP (D.lit (.int .u32 0)))] [(0, some (62, .ds [db l m, iD 0, iD 4]))] 1 trivial ?_
      refine kV [.no, .w, .no] (qB (0 : Int)) [(2, iV 0)] ⟨by omega, by omega⟩ ?_
      have hx10 : kT (kE 4 l u) = 0 := (mJ hm zo zo).1
      have hx11 : qC (kE 4 l u) = 4 := (mJ hm zo zo).2
      have hx12 : qU l u = 0 := (by rw [k9y hm (by omega)])
      refine AW.ret ?_
      exact kB (.inr rfl) [] (P := (((qU l u) : Int) = 0) ∧ (([db l m, uD (kT (kE 4 l u)), iD (qC (kE 4 l u))] : List D) = [db l m, iD 0, iD 4])) zk ⟨zo, vZ⟩
theorem k9k (l : List Int) (m : Nat) (u : RS) (hm : ka1 l = m) (hb : m ≤ 1000000) (hy : Byt l) (hu : kT u ≤ m) : Fun 49 [.c (.ptr 0 0)] (kD [(0, some (62, .ds [D.sl (dI .u8 l) m, iD (((kT u) : Nat) : Int), iD (qC u)]))]) 1 (kP (D.lit (.int .u64 (uW l u)))) (kD [(0, some (62, .ds [D.sl (dI .u8 l) m, iD (((kT (kE 8 l u)) : Nat) : Int), iD (qC (kE 8 l u))]))]) 1 := by
  refine Fun.mk (n := 33) Tryz.func49 rfl rfl (ka3 rfl) ?_
  intro cx hcx
  refine kG [.no] True [(0, rV 0 0)] [(0, some (62, .ds [db l m, uD (kT u), iD (qC u)]))] 1 trivial ?_
  refine AW.seq ?_
  by_cases hx1 : ((qC u) ≠ 0)
  · refine zr (kJ 4 [.b true]) [0, 10] [0] (((qC u) ≠ 0)) [(0, rV 0 0), (10, bV true)] [(0, some (62, .ds [db l m, uD (kT u), iD (qC u)]))] 1 zo ?_
    refine zt ?_
    refine kG [.no] True [(2, kP (D.lit (.int .u64 0)))] [(0, some (62, .ds [db l m, uD (kT u), iD (qC u)]))] 1 trivial ?_
    have hx2 : kT (kE 8 l u) = kT u := (by rw [pG (by omega)])
    have hx3 : qC (kE 8 l u) = qC u := (by rw [pG (by omega)])
    have hx4 : uW l u = 0 := (by rw [u4r (by omega)])
    refine AW.ret ?_
    exact kB (.inr rfl) [] (P := (((uW l u) : Int) = 0) ∧ (([db l m, uD (kT (kE 8 l u)), iD (qC (kE 8 l u))] : List D) = [db l m, uD (kT u), iD (qC u)])) zk ⟨zo, vZ⟩
  · refine zr (kJ 4 [.b false]) [0, 10] [0] (¬ ((qC u) ≠ 0)) [(0, rV 0 0), (10, bV false)] [(0, some (62, .ds [db l m, uD (kT u), iD (qC u)]))] 1 zo ?_
    refine uM ?_
    by_cases hx5 : (((kT u) + 8) ≤ m)
    · have hx6 : (((0 : Int) ≤ (g64 l (kT u))) ∧ ((g64 l (kT u)) ≤ 18446744073709551615)) := g64_rng (kL : Byt l) zo
      refine kG (kJ 8 (.call [] (.tup [.c (.d (D.lit (.int .u64 (g64 l (kT u))))), uE ((kT u) + 8), iE 0]) [] 0 [] none :: kJ 7 [])) _ [(0, rV 0 0), (3, kP (D.lit (.int .u64 (g64 l (kT u))))), (4, uV ((kT u) + 8)), (5, iV 0)] [(0, some (62, .ds [db l m, uD (kT u), iD (qC u)]))] 1 (W_Get64 l m (kT u) zo zo (kL : Byt l) zo) ?_
      refine kG (kJ 10 []) True [(3, kP (D.lit (.int .u64 (g64 l (kT u)))))] [(0, some (62, .ds [db l m, uD ((kT u) + 8), iD 0]))] 1 trivial ?_
      refine kV [.no, .no] True [(2, kP (D.lit (.int .u64 (g64 l (kT u)))))] trivial ?_
      have hx7 : kT (kE 8 l u) = kT u + 8 := (xL hm zo zo).1
      have hx8 : qC (kE 8 l u) = 0 := (xL hm zo zo).2
      have hx9 : uW l u = g64 l (kT u) := (k9v hm zo zo)
      refine AW.ret ?_
      exact kB (.inr rfl) [] (P := (((uW l u) : Int) = (g64 l (kT u))) ∧ (([db l m, uD (kT (kE 8 l u)), iD (qC (kE 8 l u))] : List D) = [db l m, uD ((kT u) + 8), iD 0])) zk ⟨zo, vZ⟩
    · refine zr (kJ 8 (.call [] (.tup [.c (.d (D.lit (.int .u64 0))), iE 0, iE 4]) [] 0 [] none :: kJ 7 [])) [0, 3, 4, 5] [0] _ [(0, rV 0 0), (3, kP (D.lit (.int .u64 0))), (4, iV 0), (5, iV 4)] [(0, some (62, .ds [db l m, uD (kT u), iD (qC u)]))] 1 (W_Get64_s l m (kT u) zo zo (kL : Byt l) zo zo) ?_
      refine kG (kJ 10 []) True [(3, kP (D.lit (.int .u64 0)))] [(0, some (62, .ds [db l m, iD 0, iD 4]))] 1 trivial ?_
      refine kV [.no, .no] True [(2, kP (D.lit (.int .u64 0)))] trivial ?_
      have hx10 : kT (kE 8 l u) = 0 := (mJ hm zo zo).1
      have hx11 : qC (kE 8 l u) = 4 := (mJ hm zo zo).2
      have hx12 : uW l u = 0 := (by rw [k9w hm (by omega)])
      refine AW.ret ?_
      exact kB (.inr rfl) [] (P := (((uW l u) : Int) = 0) ∧ (([db l m, uD (kT (kE 8 l u)), iD (qC (kE 8 l u))] : List D) = [db l m, iD 0, iD 4])) zk ⟨zo, vZ⟩
theorem u7h (l : List Int) (m a : Nat) (hm : ka1 l = m) (hb : m ≤ 1000000) (hy : Byt l) (h1 : a = m) : Fun 73 [.c (.d (D.sl (dI .u8 l) m)), iE ((a : Nat) : Int)] (kD []) 0 (.tup [.c (.d (D.lit (.string (strOfNums ([] : List Int))))), iE 0, iE 4]) (kD []) 0 := by
  refine Fun.mk (n := 47) Tryz.func73 rfl rfl (ka3 rfl) ?_
  intro cx hcx
  refine kG [.no, .no, .no] True [(0, sV .u8 l m), (1, uV a)] [] 0 trivial ?_
  refine AW.seq ?_
  refine kV (.no :: .b false :: kJ 4 [.b false, .no]) ((¬ ((a : Int) < 0)) ∧ (¬ ((m : Int) < (a : Int)))) [(0, sV .u8 l m), (1, uV a), (15, bV false)] ⟨zo, zo⟩ ?_
  refine uM ?_
  refine AW.seq ?_
  refine kV [.no, .no, .no, .b true] (((a : Int) = (m : Int))) [(0, sV .u8 l m), (1, uV a), (19, bV true)] zo ?_
  refine zt ?_
  refine kV [.no, .no, .no] True [(4, kP (D.lit ((.string (ByteArray.mk #[]))))), (5, iV 0), (6, iV 4)] trivial ?_
  refine AW.ret ?_
  exact kB (.inr rfl) [] (P := ((.string (strOfNums ([] : List Int)) : Value) = .string (ByteArray.mk #[])) ∧ (kM 0) ∧ (kM 4)) zk ⟨(congrArg (fun x9 => Value.string (strOfNums x9)) (show ([] : List Int) = ([] : List Int) from rfl)), rfl, rfl⟩
theorem u7k (l : List Int) (m a : Nat) (hm : ka1 l = m) (hb : m ≤ 1000000) (hy : Byt l) (h1 : a < m) (h2 : 64 < uI l a) : Fun 73 [.c (.d (D.sl (dI .u8 l) m)), iE ((a : Nat) : Int)] (kD []) 0 (.tup [.c (.d (D.lit (.string (strOfNums ([] : List Int))))), iE 0, iE 3]) (kD []) 0 := by
  have hz : ka0 l a 0 = ((uI l a : Nat) : Int) := zH hy (by omega)
  refine Fun.mk (n := 47) Tryz.func73 rfl rfl (ka3 rfl) ?_
  intro cx hcx
  refine kG [.no, .no, .no] True [(0, sV .u8 l m), (1, uV a)] [] 0 trivial ?_
  refine AW.seq ?_
  refine kV (.no :: .b false :: kJ 4 [.b false, .no]) ((¬ ((a : Int) < 0)) ∧ (¬ ((m : Int) < (a : Int)))) [(0, sV .u8 l m), (1, uV a), (15, bV false)] ⟨zo, zo⟩ ?_
  refine uM ?_
  refine AW.seq ?_
  refine kV [.no, .no, .no, .b false] (¬ ((a : Int) = (m : Int))) [(0, sV .u8 l m), (1, uV a), (19, bV false)] zo ?_
  refine uM ?_
  have hx1 : 0 ≤ (ka0 l a 0) ∧ (ka0 l a 0) ≤ 255 := (kL : Byt l).at _ zo
  refine kV [.no, .no, .n a, .d (D.lit (.int .u8 (uI l a : Int))), .w, .no] ((kM (a : Int)) ∧ (a < m) ∧ ((ka5 a (dI .u8 l))[0]? = some (D.lit (.int .u8 (uI l a : Int)))) ∧ (qB (uI l a : Int))) [(0, sV .u8 l m), (1, uV a), (7, uV (uI l a))] ⟨rfl, zo, (by rw [show (uI l a : Int) = (ka0 l a 0) by omega]; exact qN _ _ _ zo), ⟨by omega, by omega⟩⟩ ?_
  refine AW.seq ?_
  refine kV [.no, .b true] (((64 : Int) < (uI l a : Int))) [(0, sV .u8 l m), (1, uV a), (7, uV (uI l a)), (26, bV true)] zo ?_
  refine zt ?_
  refine kV [.no, .no, .no] True [(4, kP (D.lit ((.string (ByteArray.mk #[]))))), (5, iV 0), (6, iV 3)] trivial ?_
  refine AW.ret ?_
  exact kB (.inr rfl) [] (P := ((.string (strOfNums ([] : List Int)) : Value) = .string (ByteArray.mk #[])) ∧ (kM 0) ∧ (kM 3)) zk ⟨(congrArg (fun x9 => Value.string (strOfNums x9)) (show ([] : List Int) = ([] : List Int) from rfl)), rfl, rfl⟩
theorem u7j (l : List Int) (m a : Nat) (hm : ka1 l = m) (hb : m ≤ 1000000) (hy : Byt l) (h1 : a < m) (h2 : ¬ 64 < uI l a) (h3 : m < a + 1 + uI l a) : Fun 73 [.c (.d (D.sl (dI .u8 l) m)), iE ((a : Nat) : Int)] (kD []) 0 (.tup [.c (.d (D.lit (.string (strOfNums ([] : List Int))))), iE 0, iE 4]) (kD []) 0 := by
  have hz : ka0 l a 0 = ((uI l a : Nat) : Int) := zH hy (by omega)
  refine Fun.mk (n := 47) Tryz.func73 rfl rfl (ka3 rfl) ?_
  intro cx hcx
  refine kG [.no, .no, .no] True [(0, sV .u8 l m), (1, uV a)] [] 0 trivial ?_
  refine AW.seq ?_
  refine kV (.no :: .b false :: kJ 4 [.b false, .no]) ((¬ ((a : Int) < 0)) ∧ (¬ ((m : Int) < (a : Int)))) [(0, sV .u8 l m), (1, uV a), (15, bV false)] ⟨zo, zo⟩ ?_
  refine uM ?_
  refine AW.seq ?_
  refine kV [.no, .no, .no, .b false] (¬ ((a : Int) = (m : Int))) [(0, sV .u8 l m), (1, uV a), (19, bV false)] zo ?_
  refine uM ?_
  have hx1 : 0 ≤ (ka0 l a 0) ∧ (ka0 l a 0) ≤ 255 := (kL : Byt l).at _ zo
  refine kV [.no, .no, .n a, .d (D.lit (.int .u8 (uI l a : Int))), .w, .no] ((kM (a : Int)) ∧ (a < m) ∧ ((ka5 a (dI .u8 l))[0]? = some (D.lit (.int .u8 (uI l a : Int)))) ∧ (qB (uI l a : Int))) [(0, sV .u8 l m), (1, uV a), (7, uV (uI l a))] ⟨rfl, zo, (by rw [show (uI l a : Int) = (ka0 l a 0) by omega]; exact qN _ _ _ zo), ⟨by omega, by omega⟩⟩ ?_
  refine AW.seq ?_
  refine kV [.no, .b false] (¬ ((64 : Int) < (uI l a : Int))) [(0, sV .u8 l m), (1, uV a), (7, uV (uI l a)), (26, bV false)] zo ?_
  refine uM ?_
  refine AW.seq ?_
  refine kV [.no, .no, .no, .w, .w, .no, .b true] ((qB ((m : Int) - (a : Int))) ∧ (qB (((m : Int) - (a : Int)) - 1)) ∧ (((((m : Int) - (a : Int)) - 1) < (uI l a : Int)))) [(0, sV .u8 l m), (1, uV a), (7, uV (uI l a)), (33, bV true)] ⟨⟨by omega, by omega⟩, ⟨by omega, by omega⟩, zo⟩ ?_
  refine zt ?_
  refine kV [.no, .no, .no] True [(4, kP (D.lit ((.string (ByteArray.mk #[]))))), (5, iV 0), (6, iV 4)] trivial ?_
  refine AW.ret ?_
  exact kB (.inr rfl) [] (P := ((.string (strOfNums ([] : List Int)) : Value) = .string (ByteArray.mk #[])) ∧ (kM 0) ∧ (kM 4)) zk ⟨(congrArg (fun x9 => Value.string (strOfNums x9)) (show ([] : List Int) = ([] : List Int) from rfl)), rfl, rfl⟩
theorem u7i (l : List Int) (m a : Nat) (hm : ka1 l = m) (hb : m ≤ 1000000) (hy : Byt l) (h1 : a < m) (h2 : ¬ 64 < uI l a) (h3 : ¬ m < a + 1 + uI l a) : Fun 73 [.c (.d (D.sl (dI .u8 l) m)), iE ((a : Nat) : Int)] (kD []) 0 (.tup [.c (.d (D.lit (.string (strOfNums (ka2 (uI l a) (ka5 (a + 1) l)))))), iE ((((a + 1) + (uI l a)) : Nat) : Int), iE 0]) (kD []) 0 := by
  have hz : ka0 l a 0 = ((uI l a : Nat) : Int) := zH hy (by omega)
  refine Fun.mk (n := 47) Tryz.func73 rfl rfl (ka3 rfl) ?_
  intro cx hcx
  refine kG [.no, .no, .no] True [(0, sV .u8 l m), (1, uV a)] [] 0 trivial ?_
  refine AW.seq ?_
  refine kV (.no :: .b false :: kJ 4 [.b false, .no]) ((¬ ((a : Int) < 0)) ∧ (¬ ((m : Int) < (a : Int)))) [(0, sV .u8 l m), (1, uV a), (15, bV false)] ⟨zo, zo⟩ ?_
  refine uM ?_
  refine AW.seq ?_
  refine kV [.no, .no, .no, .b false] (¬ ((a : Int) = (m : Int))) [(0, sV .u8 l m), (1, uV a), (19, bV false)] zo ?_
  refine uM ?_
  have hx1 : 0 ≤ (ka0 l a 0) ∧ (ka0 l a 0) ≤ 255 := (kL : Byt l).at _ zo
  refine kV [.no, .no, .n a, .d (D.lit (.int .u8 (uI l a : Int))), .w, .no] ((kM (a : Int)) ∧ (a < m) ∧ ((ka5 a (dI .u8 l))[0]? = some (D.lit (.int .u8 (uI l a : Int)))) ∧ (qB (uI l a : Int))) [(0, sV .u8 l m), (1, uV a), (7, uV (uI l a))] ⟨rfl, zo, (by rw [show (uI l a : Int) = (ka0 l a 0) by omega]; exact qN _ _ _ zo), ⟨by omega, by omega⟩⟩ ?_
  refine AW.seq ?_
  refine kV [.no, .b false] (¬ ((64 : Int) < (uI l a : Int))) [(0, sV .u8 l m), (1, uV a), (7, uV (uI l a)), (26, bV false)] zo ?_
  refine uM ?_
  refine AW.seq ?_
  refine kV [.no, .no, .no, .w, .w, .no, .b false] ((qB ((m : Int) - (a : Int))) ∧ (qB (((m : Int) - (a : Int)) - 1)) ∧ (¬ ((((m : Int) - (a : Int)) - 1) < (uI l a : Int)))) [(0, sV .u8 l m), (1, uV a), (7, uV (uI l a)), (33, bV false)] ⟨⟨by omega, by omega⟩, ⟨by omega, by omega⟩, zo⟩ ?_
  refine uM ?_
  refine kV [.no, .no, .w, .no, .w, .no, .w, .sls (a + 1) ((a + 1) + (uI l a)) (uI l a) (dI .u8 (ka2 (uI l a) (ka5 (a + 1) l))), .st none (ka2 (uI l a) (ka5 (a + 1) l)), .no, .w, .no, .w, .no, .no, .no] ((qB ((a : Int) + 1)) ∧ (qB ((a : Int) + 1)) ∧ (qB (((a : Int) + 1) + (uI l a : Int))) ∧ ((((a : Int) + 1) : Int) = (((a + 1) : Nat) : Int)) ∧ (((((a : Int) + 1) + (uI l a : Int)) : Int) = ((((a + 1) + (uI l a)) : Nat) : Int)) ∧ ((a + 1) ≤ ((a + 1) + (uI l a))) ∧ (((a + 1) + (uI l a)) ≤ m) ∧ (((a + 1) + (uI l a)) - (a + 1) = (uI l a)) ∧ (ka2 ((uI l a) * 1) (ka5 ((a + 1) * 1) (dI .u8 l)) = (dI .u8 (ka2 (uI l a) (ka5 (a + 1) l)))) ∧ ((dI .u8 (ka2 (uI l a) (ka5 (a + 1) l))).length = (uI l a) * 1) ∧ (kY (dI .u8 (ka2 (uI l a) (ka5 (a + 1) l)))) ∧ (qB ((a : Int) + 1)) ∧ (qB (((a : Int) + 1) + (uI l a : Int)))) [(4, kP (D.lit (.string (strOfNums (ka2 (uI l a) (ka5 (a + 1) l)))))), (5, iV ((↑a + 1) + (uI l a : Int))), (6, iV 0)] ⟨⟨by omega, by omega⟩, ⟨by omega, by omega⟩, ⟨by omega, by omega⟩, (by rfl), (by rfl), zo, zo, zo, (by (simp only [c9, bY, uK, Nat.mul_one, Nat.zero_mul, List.drop_zero, List.nil_append, List.append_nil]; done)), (by (simp only [qA, k8, pbL_len, uF, List.length_append, List.length_cons, List.length_nil, kb4, List.length_drop, List.length_replicate, List.length_set, List.length_map, List.length_reverse, Nat.mul_one] <;> omega)), rfl, ⟨by omega, by omega⟩, ⟨by omega, by omega⟩⟩ ?_
  refine AW.ret ?_
  exact kB (.inr rfl) [] (P := ((.string (strOfNums (ka2 (uI l a) (ka5 (a + 1) l))) : Value) = .string (strOfNums (ka2 (uI l a) (ka5 (a + 1) l)))) ∧ ((((((a + 1) + (uI l a)) : Nat) : Int) : Int) = (((a : Int) + 1) + (uI l a : Int))) ∧ (kM 0)) zk ⟨rfl, zo, rfl⟩
abbrev dM (l : List Int) (m : Nat) (u : RS) : BC := .ds [D.sl (dI .u8 l) m, iD (((kT u) : Nat) : Int), iD (qC u)]
theorem u3v (l : List Int) (m : Nat) (u : RS) (hm : ka1 l = m) (hb : m ≤ 1000000) (hy : Byt l) (hu : kT u ≤ m) : Fun 50 [.c (.ptr 0 0)] (kD [(0, some (62, .ds [D.sl (dI .u8 l) m, iD (((kT u) : Nat) : Int), iD (qC u)]))]) 1 (kP (D.lit (.string (strOfNums (aP l u))))) (kD [(0, some (62, .ds [D.sl (dI .u8 l) m, iD (((kT (uA l u)) : Nat) : Int), iD (qC (uA l u))]))]) 1 := by
  refine Fun.mk (n := 33) Tryz.func50 rfl rfl (ka3 rfl) ?_
  intro cx hcx
  refine kG [.no] True [(0, rV 0 0)] [(0, some (62, (dM l m u)))] 1 trivial ?_
  refine AW.seq ?_
  by_cases hx1 : ((qC u) ≠ 0)
  · refine zr (kJ 4 [.b true]) [0, 10] [0] (((qC u) ≠ 0)) [(0, rV 0 0), (10, bV true)] [(0, some (62, (dM l m u)))] 1 zo ?_
    refine zt ?_
    refine kG [.no] True [(2, kP (D.lit ((.string (ByteArray.mk #[])))))] [(0, some (62, (dM l m u)))] 1 trivial ?_
    have hx2 : kT (uA l u) = kT u := (by rw [(k0s (by omega)).1])
    have hx3 : qC (uA l u) = qC u := (by rw [(k0s (by omega)).1])
    have hz1 : aP l u = [] := (k0s (by omega)).2
    refine AW.ret ?_
    exact kB (.inr rfl) [] (P := ((.string (strOfNums (aP l u)) : Value) = .string (ByteArray.mk #[])) ∧ (([db l m, uD (kT (uA l u)), iD (qC (uA l u))] : List D) = [db l m, uD (kT u), iD (qC u)])) zk ⟨(congrArg (fun x9 => Value.string (strOfNums x9)) (show (aP l u) = ([] : List Int) from (by (rw [hz1]; done)))), vZ⟩
  · refine zr (kJ 4 [.b false]) [0, 10] [0] (¬ ((qC u) ≠ 0)) [(0, rV 0 0), (10, bV false)] [(0, some (62, (dM l m u)))] 1 zo ?_
    refine uM ?_
    by_cases hx4 : ((kT u) = m)
    · refine zr (kJ 8 (.call [] (.tup [.c (.d (D.lit (.string (strOfNums ([] : List Int))))), iE 0, iE 4]) [] 0 [] none :: kJ 7 [])) [0, 3, 4, 5] [0] _ [(0, rV 0 0), (3, kP (D.lit (.string (strOfNums ([] : List Int))))), (4, iV 0), (5, iV 4)] [(0, some (62, (dM l m u)))] 1 (u7h l m (kT u) zo zo (kL : Byt l) zo) ?_
      refine kG (kJ 10 []) True [(3, kP (D.lit (.string (strOfNums ([] : List Int)))))] [(0, some (62, .ds [db l m, iD 0, iD 4]))] 1 trivial ?_
      refine kV [.no, .no] True [(2, kP (D.lit (.string (strOfNums ([] : List Int)))))] trivial ?_
      have hze : vC l (kT u) = 4 := (u02 hm (by omega))
      have hx5 : kT (uA l u) = 0 := (iQ zo zo).1
      have hx6 : qC (uA l u) = 4 := ((iQ zo zo).2.1.trans hze)
      have hz1 : aP l u = [] := (iQ (by omega) (by omega)).2.2
      refine AW.ret ?_
      exact kB (.inr rfl) [] (P := ((.string (strOfNums (aP l u)) : Value) = .string (strOfNums ([] : List Int))) ∧ (([db l m, uD (kT (uA l u)), iD (qC (uA l u))] : List D) = [db l m, iD 0, iD 4])) zk ⟨(congrArg (fun x9 => Value.string (strOfNums x9)) (show (aP l u) = ([] : List Int) from (by (rw [hz1]; done)))), vZ⟩
    · by_cases hx7 : ((64 : Nat) < (uI l (kT u)))
      · refine zr (kJ 8 (.call [] (.tup [.c (.d (D.lit (.string (strOfNums ([] : List Int))))), iE 0, iE 3]) [] 0 [] none :: kJ 7 [])) [0, 3, 4, 5] [0] _ [(0, rV 0 0), (3, kP (D.lit (.string (strOfNums ([] : List Int))))), (4, iV 0), (5, iV 3)] [(0, some (62, (dM l m u)))] 1 (u7k l m (kT u) zo zo (kL : Byt l) zo zo) ?_
        refine kG (kJ 10 []) True [(3, kP (D.lit (.string (strOfNums ([] : List Int)))))] [(0, some (62, .ds [db l m, iD 0, iD 3]))] 1 trivial ?_
        refine kV [.no, .no] True [(2, kP (D.lit (.string (strOfNums ([] : List Int)))))] trivial ?_
        have hze : vC l (kT u) = 3 := (u04 hm (by omega) (by omega))
        have hx8 : kT (uA l u) = 0 := (iQ zo zo).1
        have hx9 : qC (uA l u) = 3 := ((iQ zo zo).2.1.trans hze)
        have hz1 : aP l u = [] := (iQ (by omega) (by omega)).2.2
        refine AW.ret ?_
        exact kB (.inr rfl) [] (P := ((.string (strOfNums (aP l u)) : Value) = .string (strOfNums ([] : List Int))) ∧ (([db l m, uD (kT (uA l u)), iD (qC (uA l u))] : List D) = [db l m, iD 0, iD 3])) zk ⟨(congrArg (fun x9 => Value.string (strOfNums x9)) (show (aP l u) = ([] : List Int) from (by (rw [hz1]; done)))), vZ⟩
      · by_cases hx10 : (m < (((kT u) + 1) + (uI l (kT u))))
        · refine zr (kJ 8 (.call [] (.tup [.c (.d (D.lit (.string (strOfNums ([] : List Int))))), iE 0, iE 4]) [] 0 [] none :: kJ 7 [])) [0, 3, 4, 5] [0] _ [(0, rV 0 0), (3, kP (D.lit (.string (strOfNums ([] : List Int))))), (4, iV 0), (5, iV 4)] [(0, some (62, (dM l m u)))] 1 (u7j l m (kT u) zo zo (kL : Byt l) zo zo zo) ?_
          refine kG (kJ 10 []) True [(3, kP (D.lit (.string (strOfNums ([] : List Int)))))] [(0, some (62, .ds [db l m, iD 0, iD 4]))] 1 trivial ?_
          refine kV [.no, .no] True [(2, kP (D.lit (.string (strOfNums ([] : List Int)))))] trivial ?_
          have hze : vC l (kT u) = 4 := (u03 hm (by omega) (by omega) (by omega))
          have hx11 : kT (uA l u) = 0 := (iQ zo zo).1
          have hx12 : qC (uA l u) = 4 := ((iQ zo zo).2.1.trans hze)
          have hz1 : aP l u = [] := (iQ (by omega) (by omega)).2.2
          refine AW.ret ?_
          exact kB (.inr rfl) [] (P := ((.string (strOfNums (aP l u)) : Value) = .string (strOfNums ([] : List Int))) ∧ (([db l m, uD (kT (uA l u)), iD (qC (uA l u))] : List D) = [db l m, iD 0, iD 4])) zk ⟨(congrArg (fun x9 => Value.string (strOfNums x9)) (show (aP l u) = ([] : List Int) from (by (rw [hz1]; done)))), vZ⟩
        · refine zr (kJ 8 (.call [] (.tup [.c (.d (D.lit (.string (strOfNums (ka2 (uI l (kT u)) (ka5 ((kT u) + 1) l)))))), uE (((kT u) + 1) + (uI l (kT u))), iE 0]) [] 0 [] none :: kJ 7 [])) [0, 3, 4, 5] [0] _ [(0, rV 0 0), (3, kP (D.lit (.string (strOfNums (ka2 (uI l (kT u)) (ka5 ((kT u) + 1) l)))))), (4, uV (((kT u) + 1) + (uI l (kT u)))), (5, iV 0)] [(0, some (62, (dM l m u)))] 1 (u7i l m (kT u) zo zo (kL : Byt l) zo zo zo) ?_
          refine kG (kJ 10 []) True [(3, kP (D.lit (.string (strOfNums (ka2 (uI l (kT u)) (ka5 ((kT u) + 1) l))))))] [(0, some (62, .ds [db l m, uD (((kT u) + 1) + (uI l (kT u))), iD 0]))] 1 trivial ?_
          refine kV [.no, .no] True [(2, kP (D.lit (.string (strOfNums (ka2 (uI l (kT u)) (ka5 ((kT u) + 1) l))))))] trivial ?_
          have hze : vC l (kT u) = 0 := (zI hm (by omega) (by omega) (by omega))
          have hx13 : kT (uA l u) = kT u + 1 + uI l (kT u) := (k7b zo hze).1
          have hx14 : qC (uA l u) = 0 := (k7b zo hze).2.1
          have hz1 : aP l u = ka2 (uI l (kT u)) (ka5 (kT u + 1) l) := (k7b (by omega) hze).2.2
          refine AW.ret ?_
          exact kB (.inr rfl) [] (P := ((.string (strOfNums (aP l u)) : Value) = .string (strOfNums (ka2 (uI l (kT u)) (ka5 ((kT u) + 1) l)))) ∧ (([db l m, uD (kT (uA l u)), iD (qC (uA l u))] : List D) = [db l m, uD (((kT u) + 1) + (uI l (kT u))), iD 0])) zk ⟨(congrArg (fun x9 => Value.string (strOfNums x9)) (show (aP l u) = (ka2 (uI l (kT u)) (ka5 ((kT u) + 1) l)) from (by (rw [hz1]; done)))), vZ⟩
end Go.Proofs.YtdbjebdomdnbkaaGreat
