/- Readers. No statement is proved here. -/
import Derived.Test.YtdbjebdomdnbkaaZD11A
namespace Go.Proofs.Ytdbjebdomdnbkaa
open Go.ChangeShapes Go.WideShapes Go.ChangeAt Go.RowKit
open List renaming append_nil → kd0, drop → ka7, drop_zero → kd1, getD → ka0, length → ka1, length_append → ka3, length_cons → kb1, length_drop → kb2, length_nil → kb5, length_replicate → kb6, length_set → kc2, length_take → kb3, nil_append → ke6, take → ka2
open Nat renaming le_of_ble_eq_true → ka4, mul_one → kc6, zero_mul → kd9
set_option linter.unusedVariables false
set_option linter.unusedSimpArgs false
/-! chapter 11: readers -/
set_option maxHeartbeats 4000000
set_option maxRecDepth 100000
structure RS where
  a : Nat
  q : Int
def kV (u : RS) : Nat := u.a
def qA (u : RS) : Int := u.q
def qG : RS := ⟨4, 0⟩
theorem u4w {x : D} {a b c d : Int} (h : a = b) (h2 : c = d) : ([x, iD a, iD c] : List D) = [x, iD b, iD d] := by rw [h, h2]
def kG (s : Nat) (l : List Int) (u : RS) : RS := if u.q = 0 then (if u.a + s ≤ l.length then ⟨u.a + s, 0⟩ else ⟨0, 4⟩) else u
def k9 (l : List Int) (u : RS) : Nat := if u.q = 0 ∧ u.a + 2 ≤ l.length then (g16 l u.a).toNat else 0
def yG (l : List Int) (u : RS) : Int := if u.q = 0 ∧ u.a + 4 ≤ l.length then g32 l u.a else 0
def aO (l : List Int) (u : RS) : Int := if u.q = 0 ∧ u.a + 8 ≤ l.length then g64 l u.a else 0
theorem t5 {s : Nat} {l : List Int} {u : RS} (h : ¬ qA u = 0) : kG s l u = u := if_neg h
theorem xS {s m : Nat} {l : List Int} {u : RS} (hm : l.length = m) (h : qA u = 0) (h1 : kV u + s ≤ m) : kV (kG s l u) = kV u + s ∧ qA (kG s l u) = 0 := by
  subst hm
  have e : kG s l u = ⟨u.a + s, 0⟩ := by unfold kG; rw [if_pos (show u.q = 0 from h), if_pos (show u.a + s ≤ _ from h1)]
  rw [e]; exact ⟨rfl, rfl⟩
theorem rM {s m : Nat} {l : List Int} {u : RS} (hm : l.length = m) (h : qA u = 0) (h1 : ¬ kV u + s ≤ m) : kV (kG s l u) = 0 ∧ qA (kG s l u) = 4 := by
  subst hm
  have e : kG s l u = ⟨0, 4⟩ := by unfold kG; rw [if_pos (show u.q = 0 from h), if_neg (show ¬ u.a + s ≤ _ from h1)]
  rw [e]; exact ⟨rfl, rfl⟩
theorem yF {s m : Nat} {l : List Int} {u : RS} (hm : l.length = m) (hu : kV u ≤ m) : kV (kG s l u) ≤ m := by
  by_cases h : qA u = 0
  · by_cases h1 : kV u + s ≤ m
    · have := xS hm h h1; omega
    · have := rM hm h h1; omega
  · rw [t5 h]; exact hu
theorem u4h {l : List Int} {u : RS} (h : ¬ qA u = 0) : k9 l u = 0 := if_neg fun e => h e.1
theorem u4e {l : List Int} {u : RS} (h : ¬ qA u = 0) : yG l u = 0 := if_neg fun e => h e.1
theorem u4b {l : List Int} {u : RS} (h : ¬ qA u = 0) : aO l u = 0 := if_neg fun e => h e.1
theorem u4g {m : Nat} {l : List Int} {u : RS} (hm : l.length = m) (h1 : ¬ kV u + 2 ≤ m) : k9 l u = 0 := by subst hm; exact if_neg fun e => h1 e.2
theorem u4d {m : Nat} {l : List Int} {u : RS} (hm : l.length = m) (h1 : ¬ kV u + 4 ≤ m) : yG l u = 0 := by subst hm; exact if_neg fun e => h1 e.2
theorem u4a {m : Nat} {l : List Int} {u : RS} (hm : l.length = m) (h1 : ¬ kV u + 8 ≤ m) : aO l u = 0 := by subst hm; exact if_neg fun e => h1 e.2
theorem u4f {m : Nat} {l : List Int} {u : RS} (hm : l.length = m) (hy : Byt l) (h : qA u = 0) (h1 : kV u + 2 ≤ m) : ((k9 l u : Nat) : Int) = g16 l (kV u) := by
  subst hm
  have e : k9 l u = (g16 l u.a).toNat := if_pos ⟨h, h1⟩
  rw [e]; exact Int.toNat_of_nonneg (g16_rng hy h1).1
theorem u4c {m : Nat} {l : List Int} {u : RS} (hm : l.length = m) (h : qA u = 0) (h1 : kV u + 4 ≤ m) : yG l u = g32 l (kV u) := by subst hm; exact if_pos ⟨h, h1⟩
theorem u49 {m : Nat} {l : List Int} {u : RS} (hm : l.length = m) (h : qA u = 0) (h1 : kV u + 8 ≤ m) : aO l u = g64 l (kV u) := by subst hm; exact if_pos ⟨h, h1⟩
theorem vA {l : List Int} (hy : Byt l) (u : RS) : k9 l u ≤ 65535 := by
  by_cases h : u.q = 0 ∧ u.a + 2 ≤ l.length
  · have e : k9 l u = (g16 l u.a).toNat := if_pos h
    have := g16_rng hy h.2; omega
  · have e : k9 l u = 0 := if_neg h
    omega
theorem pD {l : List Int} (hy : Byt l) (u : RS) : 0 ≤ yG l u ∧ yG l u ≤ 4294967295 := by
  by_cases h : u.q = 0 ∧ u.a + 4 ≤ l.length
  · have e : yG l u = g32 l u.a := if_pos h
    have := g32_rng hy h.2; omega
  · have e : yG l u = 0 := if_neg h
    omega
theorem zV {l : List Int} (hy : Byt l) (u : RS) : 0 ≤ aO l u ∧ aO l u ≤ 18446744073709551615 := by
  by_cases h : u.q = 0 ∧ u.a + 8 ≤ l.length
  · have e : aO l u = g64 l u.a := if_pos h
    have := g64_rng hy h.2; omega
  · have e : aO l u = 0 := if_neg h
    omega
def uS (l : List Int) (a : Nat) : Nat := (ka0 l a 0).toNat
def g9 (l : List Int) (a : Nat) : Int := if a = l.length then 4 else if 64 < uS l a then 3 else if l.length < a + 1 + uS l a then 4 else 0
def qX (l : List Int) (u : RS) : RS := if u.q = 0 then (if g9 l u.a = 0 then ⟨u.a + 1 + uS l u.a, 0⟩ else ⟨0, g9 l u.a⟩) else u
def bC (l : List Int) (u : RS) : List Int := if u.q = 0 ∧ g9 l u.a = 0 then ka2 (uS l u.a) (ka7 (u.a + 1) l) else []
theorem k2o {l : List Int} {a : Nat} (hy : Byt l) (h : a < l.length) : ka0 l a 0 = ((uS l a : Nat) : Int) := by
  have := hy.at a h
  unfold uS; omega
theorem u4j {l : List Int} {a m : Nat} (hm : l.length = m) (h : a = m) : g9 l a = 4 := by subst hm; exact if_pos h
theorem u4l {l : List Int} {a m : Nat} (hm : l.length = m) (h : ¬ a = m) (h1 : 64 < uS l a) : g9 l a = 3 := by subst hm; unfold g9; rw [if_neg h, if_pos h1]
theorem u4k {l : List Int} {a m : Nat} (hm : l.length = m) (h : ¬ a = m) (h1 : ¬ 64 < uS l a) (h2 : m < a + 1 + uS l a) : g9 l a = 4 := by subst hm; unfold g9; rw [if_neg h, if_neg h1, if_pos h2]
theorem k2p {l : List Int} {a m : Nat} (hm : l.length = m) (h : ¬ a = m) (h1 : ¬ 64 < uS l a) (h2 : ¬ m < a + 1 + uS l a) : g9 l a = 0 := by subst hm; unfold g9; rw [if_neg h, if_neg h1, if_neg h2]
theorem k2q {l : List Int} {a m : Nat} (hm : l.length = m) (h : g9 l a = 0) : ¬ a = m ∧ uS l a ≤ 64 ∧ a + 1 + uS l a ≤ m := by
  subst hm; unfold g9 at h
  split at h
  · omega
  · split at h
    · omega
    · split at h <;> omega
theorem k2n {l : List Int} {u : RS} (h : ¬ qA u = 0) : qX l u = u ∧ bC l u = [] := ⟨if_neg h, if_neg fun e => h e.1⟩
theorem k77 {l : List Int} {u : RS} (h : qA u = 0) (h1 : g9 l (kV u) = 0) : kV (qX l u) = kV u + 1 + uS l (kV u) ∧ qA (qX l u) = 0 ∧ bC l u = ka2 (uS l (kV u)) (ka7 (kV u + 1) l) := by
  have e : qX l u = ⟨u.a + 1 + uS l u.a, 0⟩ := by unfold qX; rw [if_pos (show u.q = 0 from h), if_pos (show g9 l u.a = 0 from h1)]
  rw [e]; exact ⟨rfl, rfl, if_pos ⟨h, h1⟩⟩
theorem lF {l : List Int} {u : RS} (h : qA u = 0) (h1 : ¬ g9 l (kV u) = 0) : kV (qX l u) = 0 ∧ qA (qX l u) = g9 l (kV u) ∧ bC l u = [] := by
  have e : qX l u = ⟨0, g9 l u.a⟩ := by unfold qX; rw [if_pos (show u.q = 0 from h), if_neg (show ¬ g9 l u.a = 0 from h1)]
  rw [e]; exact ⟨rfl, rfl, if_neg fun e => h1 e.2⟩
theorem k9u {m : Nat} {l : List Int} {u : RS} (hm : l.length = m) (hu : kV u ≤ m) : kV (qX l u) ≤ m := by
  by_cases h : qA u = 0
  · by_cases h1 : g9 l (kV u) = 0
    · have := k77 h h1; have := k2q hm h1; omega
    · have := lF h h1; omega
  · rw [(k2n h).1]; exact hu
theorem zY {l : List Int} (hy : Byt l) (u : RS) : Byt (bC l u) := by
  unfold bC; split
  · exact (hy.drop _).take _
  · exact Byt.nil
theorem pE (l : List Int) (u : RS) : ka1 (bC l u) ≤ 64 := by
  unfold bC; split
  · rename_i h; have := k2q rfl h.2; rw [kb3]; omega
  · exact Nat.zero_le _
theorem b8 {p : Prop} (h : p := by first | omega | rfl | assumption | (simp; done) | (simp; omega)) : p := h
theorem v6 {p : Prop} (h : p := by first | rfl | exact u4w (by omega) (by omega)) : p := h
theorem yZ {p : Prop} (h : p := by first | omega | with_reducible assumption | (simp only [kU, kT, pbL_len, ka3, kb1, kb5, kb3, kb2, kb6, kc2] <;> omega) | rfl | assumption) : p := h
theorem aJ (l : List Int) (m : Nat) (u : RS) (hm : ka1 l = m) (hb : m ≤ 1000000) (hy : Byt l) (hu : kV u ≤ m) : Fun 55 [.c (.ptr 0 0)] (kF [(0, some (73, .ds [D.sl (dI .u8 l) m, iD (((kV u) : Nat) : Int), iD (qA u)]))]) 1 (iV (((k9 l u) : Nat) : Int)) (kF [(0, some (73, .ds [D.sl (dI .u8 l) m, iD (((kV (kG 2 l u)) : Nat) : Int), iD (qA (kG 2 l u))]))]) 1 := by
  refine Fun.mk (n := 34) Try.func55 rfl rfl (ka4 rfl) ?_
  intro cx hcx
  refine kI [.no] True [(0, rV 0 0)] [(0, some (73, .ds [db l m, uD (kV u), iD (qA u)]))] 1 trivial ?_
  refine AW.seq ?_
  by_cases hx1 : ((qA u) ≠ 0)
  · refine zr (kJ 4 [.b true]) [0, 10] [0] (((qA u) ≠ 0)) [(0, rV 0 0), (10, bV true)] [(0, some (73, .ds [db l m, uD (kV u), iD (qA u)]))] 1 zo ?_
    refine zt ?_
    refine kI [.no] True [(2, iV 0)] [(0, some (73, .ds [db l m, uD (kV u), iD (qA u)]))] 1 trivial ?_
    have hx2 : kV (kG 2 l u) = kV u := (by rw [t5 (by omega)])
    have hx3 : qA (kG 2 l u) = qA u := (by rw [t5 (by omega)])
    have hx4 : ((k9 l u : Nat) : Int) = 0 := (by rw [u4h (by omega)]; rfl)
    refine AW.ret ?_
    exact kC (.inr rfl) [] (P := (((k9 l u : Int) : Int) = 0) ∧ (([db l m, uD (kV (kG 2 l u)), iD (qA (kG 2 l u))] : List D) = [db l m, uD (kV u), iD (qA u)])) zk ⟨b8, v6⟩
  · refine zr (kJ 4 [.b false]) [0, 10] [0] (¬ ((qA u) ≠ 0)) [(0, rV 0 0), (10, bV false)] [(0, some (73, .ds [db l m, uD (kV u), iD (qA u)]))] 1 zo ?_
    refine yC ?_
    by_cases hx5 : (((kV u) + 2) ≤ m)
    · have hx6 : (((0 : Int) ≤ (g16 l (kV u))) ∧ ((g16 l (kV u)) ≤ 65535)) := g16_rng (kQ : Byt l) zo
      refine kI (kJ 8 (.call [] (.tup [.c (.d (D.lit (.int .u16 (g16 l (kV u))))), uE ((kV u) + 2), iE 0]) [] 0 [] none :: kJ 7 [])) _ [(0, rV 0 0), (3, kS (D.lit (.int .u16 (g16 l (kV u))))), (4, uV ((kV u) + 2)), (5, iV 0)] [(0, some (73, .ds [db l m, uD (kV u), iD (qA u)]))] 1 (W_Get16 l m (kV u) zo zo (kQ : Byt l) yZ) ?_
      refine kI (kJ 10 []) True [(3, kS (D.lit (.int .u16 (g16 l (kV u)))))] [(0, some (73, .ds [db l m, uD ((kV u) + 2), iD 0]))] 1 trivial ?_
      refine k8 [.no, .w, .no] (qJ (g16 l (kV u))) [(2, iV (g16 l (kV u)))] ⟨by omega, by omega⟩ ?_
      have hx7 : kV (kG 2 l u) = kV u + 2 := (xS hm zo zo).1
      have hx8 : qA (kG 2 l u) = 0 := (xS hm zo zo).2
      have hx9 : ((k9 l u : Nat) : Int) = g16 l (kV u) := (u4f hm hy zo zo)
      refine AW.ret ?_
      exact kC (.inr rfl) [] (P := (((k9 l u : Int) : Int) = (g16 l (kV u))) ∧ (([db l m, uD (kV (kG 2 l u)), iD (qA (kG 2 l u))] : List D) = [db l m, uD ((kV u) + 2), iD 0])) zk ⟨b8, v6⟩
    · refine zr (kJ 8 (.call [] (.tup [.c (.d (D.lit (.int .u16 0))), iE 0, iE 4]) [] 0 [] none :: kJ 7 [])) [0, 3, 4, 5] [0] _ [(0, rV 0 0), (3, kS (D.lit (.int .u16 0))), (4, iV 0), (5, iV 4)] [(0, some (73, .ds [db l m, uD (kV u), iD (qA u)]))] 1 (W_Get16_s l m (kV u) zo zo (kQ : Byt l) yZ yZ) ?_
      refine kI (kJ 10 []) True [(3, kS (D.lit (.int .u16 0)))] [(0, some (73, .ds [db l m, iD 0, iD 4]))] 1 trivial ?_
      refine k8 [.no, .w, .no] (qJ (0 : Int)) [(2, iV 0)] ⟨by omega, by omega⟩ ?_
      have hx10 : kV (kG 2 l u) = 0 := (rM hm zo zo).1
      have hx11 : qA (kG 2 l u) = 4 := (rM hm zo zo).2
      have hx12 : ((k9 l u : Nat) : Int) = 0 := (by rw [u4g hm (by omega)]; rfl)
      refine AW.ret ?_
      exact kC (.inr rfl) [] (P := (((k9 l u : Int) : Int) = 0) ∧ (([db l m, uD (kV (kG 2 l u)), iD (qA (kG 2 l u))] : List D) = [db l m, iD 0, iD 4])) zk ⟨b8, v6⟩
theorem sN (l : List Int) (m : Nat) (u : RS) (hm : ka1 l = m) (hb : m ≤ 1000000) (hy : Byt l) (hu : kV u ≤ m) : Fun 56 [.c (.ptr 0 0)] (kF [(0, some (73, .ds [D.sl (dI .u8 l) m, iD (((kV u) : Nat) : Int), iD (qA u)]))]) 1 (iV (yG l u)) (kF [(0, some (73, .ds [D.sl (dI .u8 l) m, iD (((kV (kG 4 l u)) : Nat) : Int), iD (qA (kG 4 l u))]))]) 1 := by
  refine Fun.mk (n := 34) Try.func56 rfl rfl (ka4 rfl) ?_
  intro cx hcx
  refine kI [.no] True [(0, rV 0 0)] [(0, some (73, .ds [db l m, uD (kV u), iD (qA u)]))] 1 trivial ?_
  refine AW.seq ?_
  by_cases hx1 : ((qA u) ≠ 0)
  · refine zr (kJ 4 [.b true]) [0, 10] [0] (((qA u) ≠ 0)) [(0, rV 0 0), (10, bV true)] [(0, some (73, .ds [db l m, uD (kV u), iD (qA u)]))] 1 zo ?_
    refine zt ?_
    refine kI [.no] True [(2, iV 0)] [(0, some (73, .ds [db l m, uD (kV u), iD (qA u)]))] 1 trivial ?_
    have hx2 : kV (kG 4 l u) = kV u := (by rw [t5 (by omega)])
    have hx3 : qA (kG 4 l u) = qA u := (by rw [t5 (by omega)])
    have hx4 : yG l u = 0 := (by rw [u4e (by omega)])
    refine AW.ret ?_
    exact kC (.inr rfl) [] (P := (((yG l u) : Int) = 0) ∧ (([db l m, uD (kV (kG 4 l u)), iD (qA (kG 4 l u))] : List D) = [db l m, uD (kV u), iD (qA u)])) zk ⟨b8, v6⟩
  · refine zr (kJ 4 [.b false]) [0, 10] [0] (¬ ((qA u) ≠ 0)) [(0, rV 0 0), (10, bV false)] [(0, some (73, .ds [db l m, uD (kV u), iD (qA u)]))] 1 zo ?_
    refine yC ?_
    by_cases hx5 : (((kV u) + 4) ≤ m)
    · have hx6 : (((0 : Int) ≤ (g32 l (kV u))) ∧ ((g32 l (kV u)) ≤ 4294967295)) := g32_rng (kQ : Byt l) zo
      refine kI (kJ 8 (.call [] (.tup [.c (.d (D.lit (.int .u32 (g32 l (kV u))))), uE ((kV u) + 4), iE 0]) [] 0 [] none :: kJ 7 [])) _ [(0, rV 0 0), (3, kS (D.lit (.int .u32 (g32 l (kV u))))), (4, uV ((kV u) + 4)), (5, iV 0)] [(0, some (73, .ds [db l m, uD (kV u), iD (qA u)]))] 1 (W_Get32 l m (kV u) zo zo (kQ : Byt l) yZ) ?_
      refine kI (kJ 10 []) True [(3, kS (D.lit (.int .u32 (g32 l (kV u)))))] [(0, some (73, .ds [db l m, uD ((kV u) + 4), iD 0]))] 1 trivial ?_
      refine k8 [.no, .w, .no] (qJ (g32 l (kV u))) [(2, iV (g32 l (kV u)))] ⟨by omega, by omega⟩ ?_
      have hx7 : kV (kG 4 l u) = kV u + 4 := (xS hm zo zo).1
      have hx8 : qA (kG 4 l u) = 0 := (xS hm zo zo).2
      have hx9 : yG l u = g32 l (kV u) := (u4c hm zo zo)
      refine AW.ret ?_
      exact kC (.inr rfl) [] (P := (((yG l u) : Int) = (g32 l (kV u))) ∧ (([db l m, uD (kV (kG 4 l u)), iD (qA (kG 4 l u))] : List D) = [db l m, uD ((kV u) + 4), iD 0])) zk ⟨b8, v6⟩
    · refine zr (kJ 8 (.call [] (.tup [.c (.d (D.lit (.int .u32 0))), iE 0, iE 4]) [] 0 [] none :: kJ 7 [])) [0, 3, 4, 5] [0] _ [(0, rV 0 0), (3, kS (D.lit (.int .u32 0))), (4, iV 0), (5, iV 4)] [(0, some (73, .ds [db l m, uD (kV u), iD (qA u)]))] 1 (W_Get32_s l m (kV u) zo zo (kQ : Byt l) yZ yZ) ?_
      refine kI (kJ 10 []) True [(3, kS (D.lit (.int .u32 0)))] [(0, some (73, .ds [db l m, iD 0, iD 4]))] 1 trivial ?_
      refine k8 [.no, .w, .no] (qJ (0 : Int)) [(2, iV 0)] ⟨by omega, by omega⟩ ?_
      have hx10 : kV (kG 4 l u) = 0 := (rM hm zo zo).1
      have hx11 : qA (kG 4 l u) = 4 := (rM hm zo zo).2
      have hx12 : yG l u = 0 := (by rw [u4d hm (by omega)])
      refine AW.ret ?_
      exact kC (.inr rfl) [] (P := (((yG l u) : Int) = 0) ∧ (([db l m, uD (kV (kG 4 l u)), iD (qA (kG 4 l u))] : List D) = [db l m, iD 0, iD 4])) zk ⟨b8, v6⟩
theorem k9i (l : List Int) (m : Nat) (u : RS) (hm : ka1 l = m) (hb : m ≤ 1000000) (hy : Byt l) (hu : kV u ≤ m) : Fun 53 [.c (.ptr 0 0)] (kF [(0, some (73, .ds [D.sl (dI .u8 l) m, iD (((kV u) : Nat) : Int), iD (qA u)]))]) 1 (kS (D.lit (.int .u64 (aO l u)))) (kF [(0, some (73, .ds [D.sl (dI .u8 l) m, iD (((kV (kG 8 l u)) : Nat) : Int), iD (qA (kG 8 l u))]))]) 1 := by
  refine Fun.mk (n := 33) Try.func53 rfl rfl (ka4 rfl) ?_
  intro cx hcx
  refine kI [.no] True [(0, rV 0 0)] [(0, some (73, .ds [db l m, uD (kV u), iD (qA u)]))] 1 trivial ?_
  refine AW.seq ?_
  by_cases hx1 : ((qA u) ≠ 0)
  · refine zr (kJ 4 [.b true]) [0, 10] [0] (((qA u) ≠ 0)) [(0, rV 0 0), (10, bV true)] [(0, some (73, .ds [db l m, uD (kV u), iD (qA u)]))] 1 zo ?_
    refine zt ?_
    refine kI [.no] True [(2, kS (D.lit (.int .u64 0)))] [(0, some (73, .ds [db l m, uD (kV u), iD (qA u)]))] 1 trivial ?_
    have hx2 : kV (kG 8 l u) = kV u := (by rw [t5 (by omega)])
    have hx3 : qA (kG 8 l u) = qA u := (by rw [t5 (by omega)])
    have hx4 : aO l u = 0 := (by rw [u4b (by omega)])
    refine AW.ret ?_
    exact kC (.inr rfl) [] (P := (((aO l u) : Int) = 0) ∧ (([db l m, uD (kV (kG 8 l u)), iD (qA (kG 8 l u))] : List D) = [db l m, uD (kV u), iD (qA u)])) zk ⟨b8, v6⟩
  · refine zr (kJ 4 [.b false]) [0, 10] [0] (¬ ((qA u) ≠ 0)) [(0, rV 0 0), (10, bV false)] [(0, some (73, .ds [db l m, uD (kV u), iD (qA u)]))] 1 zo ?_
    refine yC ?_
    by_cases hx5 : (((kV u) + 8) ≤ m)
    · have hx6 : (((0 : Int) ≤ (g64 l (kV u))) ∧ ((g64 l (kV u)) ≤ 18446744073709551615)) := g64_rng (kQ : Byt l) zo
      refine kI (kJ 8 (.call [] (.tup [.c (.d (D.lit (.int .u64 (g64 l (kV u))))), uE ((kV u) + 8), iE 0]) [] 0 [] none :: kJ 7 [])) _ [(0, rV 0 0), (3, kS (D.lit (.int .u64 (g64 l (kV u))))), (4, uV ((kV u) + 8)), (5, iV 0)] [(0, some (73, .ds [db l m, uD (kV u), iD (qA u)]))] 1 (W_Get64 l m (kV u) zo zo (kQ : Byt l) yZ) ?_
      refine kI (kJ 10 []) True [(3, kS (D.lit (.int .u64 (g64 l (kV u)))))] [(0, some (73, .ds [db l m, uD ((kV u) + 8), iD 0]))] 1 trivial ?_
      refine k8 [.no, .no] True [(2, kS (D.lit (.int .u64 (g64 l (kV u)))))] trivial ?_
      have hx7 : kV (kG 8 l u) = kV u + 8 := (xS hm zo zo).1
      have hx8 : qA (kG 8 l u) = 0 := (xS hm zo zo).2
      have hx9 : aO l u = g64 l (kV u) := (u49 hm zo zo)
      refine AW.ret ?_
      exact kC (.inr rfl) [] (P := (((aO l u) : Int) = (g64 l (kV u))) ∧ (([db l m, uD (kV (kG 8 l u)), iD (qA (kG 8 l u))] : List D) = [db l m, uD ((kV u) + 8), iD 0])) zk ⟨b8, v6⟩
    · refine zr (kJ 8 (.call [] (.tup [.c (.d (D.lit (.int .u64 0))), iE 0, iE 4]) [] 0 [] none :: kJ 7 [])) [0, 3, 4, 5] [0] _ [(0, rV 0 0), (3, kS (D.lit (.int .u64 0))), (4, iV 0), (5, iV 4)] [(0, some (73, .ds [db l m, uD (kV u), iD (qA u)]))] 1 (W_Get64_s l m (kV u) zo zo (kQ : Byt l) yZ yZ) ?_
      refine kI (kJ 10 []) True [(3, kS (D.lit (.int .u64 0)))] [(0, some (73, .ds [db l m, iD 0, iD 4]))] 1 trivial ?_
      refine k8 [.no, .no] True [(2, kS (D.lit (.int .u64 0)))] trivial ?_
      have hx10 : kV (kG 8 l u) = 0 := (rM hm zo zo).1
      have hx11 : qA (kG 8 l u) = 4 := (rM hm zo zo).2
      have hx12 : aO l u = 0 := (by rw [u4a hm (by omega)])
      refine AW.ret ?_
      exact kC (.inr rfl) [] (P := (((aO l u) : Int) = 0) ∧ (([db l m, uD (kV (kG 8 l u)), iD (qA (kG 8 l u))] : List D) = [db l m, iD 0, iD 4])) zk ⟨b8, v6⟩
theorem u6w (l : List Int) (m a : Nat) (hm : ka1 l = m) (hb : m ≤ 1000000) (hy : Byt l) (h1 : a = m) : Fun 68 [.c (.d (D.sl (dI .u8 l) m)), iE ((a : Nat) : Int)] (kF []) 0 (.tup [.c (.d (D.lit (.string (strOfNums ([] : List Int))))), iE 0, iE 4]) (kF []) 0 := by
  refine Fun.mk (n := 47) Try.func68 rfl rfl (ka4 rfl) ?_
  intro cx hcx
  refine kI [.no, .no, .no] True [(0, sV .u8 l m), (1, uV a)] [] 0 trivial ?_
  refine AW.seq ?_
  refine k8 (.no :: .b false :: kJ 4 [.b false, .no]) ((¬ ((a : Int) < 0)) ∧ (¬ ((m : Int) < (a : Int)))) [(0, sV .u8 l m), (1, uV a), (15, bV false)] ⟨zo, zo⟩ ?_
  refine yC ?_
  refine AW.seq ?_
  refine k8 [.no, .no, .no, .b true] (((a : Int) = (m : Int))) [(0, sV .u8 l m), (1, uV a), (19, bV true)] zo ?_
  refine zt ?_
  refine k8 [.no, .no, .no] True [(4, kS (D.lit ((.string (ByteArray.mk #[]))))), (5, iV 0), (6, iV 4)] trivial ?_
  refine AW.ret ?_
  exact kC (.inr rfl) [] (P := ((.string (strOfNums ([] : List Int)) : Value) = .string (ByteArray.mk #[])) ∧ (kN 0) ∧ (kN 4)) zk ⟨(congrArg (fun x9 => Value.string (strOfNums x9)) (show ([] : List Int) = ([] : List Int) from rfl)), rfl, rfl⟩
theorem w4 {p : Prop} (h : p := by first | omega | (simp only [kU, kT, pbL_len, ka3, kb1, kb5, kb3, kb2, kb6, kc2] <;> omega)) : p := h
theorem o5 {p : Prop} (h : p := by first | omega | (simp only [kU, kT, pbL_len, qM, ka3, kb1, kb5, kb3, kb2, kb6, kc2, List.length_map, List.length_reverse, kc6] <;> omega) | rfl) : p := h
theorem u6z (l : List Int) (m a : Nat) (hm : ka1 l = m) (hb : m ≤ 1000000) (hy : Byt l) (h1 : a < m) (h2 : 64 < uS l a) : Fun 68 [.c (.d (D.sl (dI .u8 l) m)), iE ((a : Nat) : Int)] (kF []) 0 (.tup [.c (.d (D.lit (.string (strOfNums ([] : List Int))))), iE 0, iE 3]) (kF []) 0 := by
  have hz : ka0 l a 0 = ((uS l a : Nat) : Int) := k2o hy (by omega)
  refine Fun.mk (n := 47) Try.func68 rfl rfl (ka4 rfl) ?_
  intro cx hcx
  refine kI [.no, .no, .no] True [(0, sV .u8 l m), (1, uV a)] [] 0 trivial ?_
  refine AW.seq ?_
  refine k8 (.no :: .b false :: kJ 4 [.b false, .no]) ((¬ ((a : Int) < 0)) ∧ (¬ ((m : Int) < (a : Int)))) [(0, sV .u8 l m), (1, uV a), (15, bV false)] ⟨zo, zo⟩ ?_
  refine yC ?_
  refine AW.seq ?_
  refine k8 [.no, .no, .no, .b false] (¬ ((a : Int) = (m : Int))) [(0, sV .u8 l m), (1, uV a), (19, bV false)] zo ?_
  refine yC ?_
  have hx1 : 0 ≤ (ka0 l a 0) ∧ (ka0 l a 0) ≤ 255 := (kQ : Byt l).at _ w4
  refine k8 [.no, .no, .n a, .d (D.lit (.int .u8 (uS l a : Int))), .w, .no] ((kN (a : Int)) ∧ (a < m) ∧ ((ka7 a (dI .u8 l))[0]? = some (D.lit (.int .u8 (uS l a : Int)))) ∧ (qJ (uS l a : Int))) [(0, sV .u8 l m), (1, uV a), (7, uV (uS l a))] ⟨rfl, zo, (by rw [show (uS l a : Int) = (ka0 l a 0) by omega]; exact qW _ _ _ o5), ⟨by omega, by omega⟩⟩ ?_
  refine AW.seq ?_
  refine k8 [.no, .b true] (((64 : Int) < (uS l a : Int))) [(0, sV .u8 l m), (1, uV a), (7, uV (uS l a)), (26, bV true)] zo ?_
  refine zt ?_
  refine k8 [.no, .no, .no] True [(4, kS (D.lit ((.string (ByteArray.mk #[]))))), (5, iV 0), (6, iV 3)] trivial ?_
  refine AW.ret ?_
  exact kC (.inr rfl) [] (P := ((.string (strOfNums ([] : List Int)) : Value) = .string (ByteArray.mk #[])) ∧ (kN 0) ∧ (kN 3)) zk ⟨(congrArg (fun x9 => Value.string (strOfNums x9)) (show ([] : List Int) = ([] : List Int) from rfl)), rfl, rfl⟩
theorem u6y (l : List Int) (m a : Nat) (hm : ka1 l = m) (hb : m ≤ 1000000) (hy : Byt l) (h1 : a < m) (h2 : ¬ 64 < uS l a) (h3 : m < a + 1 + uS l a) : Fun 68 [.c (.d (D.sl (dI .u8 l) m)), iE ((a : Nat) : Int)] (kF []) 0 (.tup [.c (.d (D.lit (.string (strOfNums ([] : List Int))))), iE 0, iE 4]) (kF []) 0 := by
  have hz : ka0 l a 0 = ((uS l a : Nat) : Int) := k2o hy (by omega)
  refine Fun.mk (n := 47) Try.func68 rfl rfl (ka4 rfl) ?_
  intro cx hcx
  refine kI [.no, .no, .no] True [(0, sV .u8 l m), (1, uV a)] [] 0 trivial ?_
  refine AW.seq ?_
  refine k8 (.no :: .b false :: kJ 4 [.b false, .no]) ((¬ ((a : Int) < 0)) ∧ (¬ ((m : Int) < (a : Int)))) [(0, sV .u8 l m), (1, uV a), (15, bV false)] ⟨zo, zo⟩ ?_
  refine yC ?_
  refine AW.seq ?_
  refine k8 [.no, .no, .no, .b false] (¬ ((a : Int) = (m : Int))) [(0, sV .u8 l m), (1, uV a), (19, bV false)] zo ?_
  refine yC ?_
  have hx1 : 0 ≤ (ka0 l a 0) ∧ (ka0 l a 0) ≤ 255 := (kQ : Byt l).at _ w4
  refine k8 [.no, .no, .n a, .d (D.lit (.int .u8 (uS l a : Int))), .w, .no] ((kN (a : Int)) ∧ (a < m) ∧ ((ka7 a (dI .u8 l))[0]? = some (D.lit (.int .u8 (uS l a : Int)))) ∧ (qJ (uS l a : Int))) [(0, sV .u8 l m), (1, uV a), (7, uV (uS l a))] ⟨rfl, zo, (by rw [show (uS l a : Int) = (ka0 l a 0) by omega]; exact qW _ _ _ o5), ⟨by omega, by omega⟩⟩ ?_
  refine AW.seq ?_
  refine k8 [.no, .b false] (¬ ((64 : Int) < (uS l a : Int))) [(0, sV .u8 l m), (1, uV a), (7, uV (uS l a)), (26, bV false)] zo ?_
  refine yC ?_
  refine AW.seq ?_
  refine k8 [.no, .no, .no, .w, .w, .no, .b true] ((qJ ((m : Int) - (a : Int))) ∧ (qJ (((m : Int) - (a : Int)) - 1)) ∧ (((((m : Int) - (a : Int)) - 1) < (uS l a : Int)))) [(0, sV .u8 l m), (1, uV a), (7, uV (uS l a)), (33, bV true)] ⟨⟨by omega, by omega⟩, ⟨by omega, by omega⟩, zo⟩ ?_
  refine zt ?_
  refine k8 [.no, .no, .no] True [(4, kS (D.lit ((.string (ByteArray.mk #[]))))), (5, iV 0), (6, iV 4)] trivial ?_
  refine AW.ret ?_
  exact kC (.inr rfl) [] (P := ((.string (strOfNums ([] : List Int)) : Value) = .string (ByteArray.mk #[])) ∧ (kN 0) ∧ (kN 4)) zk ⟨(congrArg (fun x9 => Value.string (strOfNums x9)) (show ([] : List Int) = ([] : List Int) from rfl)), rfl, rfl⟩
theorem u6x (l : List Int) (m a : Nat) (hm : ka1 l = m) (hb : m ≤ 1000000) (hy : Byt l) (h1 : a < m) (h2 : ¬ 64 < uS l a) (h3 : ¬ m < a + 1 + uS l a) : Fun 68 [.c (.d (D.sl (dI .u8 l) m)), iE ((a : Nat) : Int)] (kF []) 0 (.tup [.c (.d (D.lit (.string (strOfNums (ka2 (uS l a) (ka7 (a + 1) l)))))), iE ((((a + 1) + (uS l a)) : Nat) : Int), iE 0]) (kF []) 0 := by
  have hz : ka0 l a 0 = ((uS l a : Nat) : Int) := k2o hy (by omega)
  refine Fun.mk (n := 47) Try.func68 rfl rfl (ka4 rfl) ?_
  intro cx hcx
  refine kI [.no, .no, .no] True [(0, sV .u8 l m), (1, uV a)] [] 0 trivial ?_
  refine AW.seq ?_
  refine k8 (.no :: .b false :: kJ 4 [.b false, .no]) ((¬ ((a : Int) < 0)) ∧ (¬ ((m : Int) < (a : Int)))) [(0, sV .u8 l m), (1, uV a), (15, bV false)] ⟨zo, zo⟩ ?_
  refine yC ?_
  refine AW.seq ?_
  refine k8 [.no, .no, .no, .b false] (¬ ((a : Int) = (m : Int))) [(0, sV .u8 l m), (1, uV a), (19, bV false)] zo ?_
  refine yC ?_
  have hx1 : 0 ≤ (ka0 l a 0) ∧ (ka0 l a 0) ≤ 255 := (kQ : Byt l).at _ w4
  refine k8 [.no, .no, .n a, .d (D.lit (.int .u8 (uS l a : Int))), .w, .no] ((kN (a : Int)) ∧ (a < m) ∧ ((ka7 a (dI .u8 l))[0]? = some (D.lit (.int .u8 (uS l a : Int)))) ∧ (qJ (uS l a : Int))) [(0, sV .u8 l m), (1, uV a), (7, uV (uS l a))] ⟨rfl, zo, (by rw [show (uS l a : Int) = (ka0 l a 0) by omega]; exact qW _ _ _ o5), ⟨by omega, by omega⟩⟩ ?_
  refine AW.seq ?_
  refine k8 [.no, .b false] (¬ ((64 : Int) < (uS l a : Int))) [(0, sV .u8 l m), (1, uV a), (7, uV (uS l a)), (26, bV false)] zo ?_
  refine yC ?_
  refine AW.seq ?_
  refine k8 [.no, .no, .no, .w, .w, .no, .b false] ((qJ ((m : Int) - (a : Int))) ∧ (qJ (((m : Int) - (a : Int)) - 1)) ∧ (¬ ((((m : Int) - (a : Int)) - 1) < (uS l a : Int)))) [(0, sV .u8 l m), (1, uV a), (7, uV (uS l a)), (33, bV false)] ⟨⟨by omega, by omega⟩, ⟨by omega, by omega⟩, zo⟩ ?_
  refine yC ?_
  refine k8 [.no, .no, .w, .no, .w, .no, .w, .sls (a + 1) ((a + 1) + (uS l a)) (uS l a) (dI .u8 (ka2 (uS l a) (ka7 (a + 1) l))), .st none (ka2 (uS l a) (ka7 (a + 1) l)), .no, .w, .no, .w, .no, .no, .no] ((qJ ((a : Int) + 1)) ∧ (qJ ((a : Int) + 1)) ∧ (qJ (((a : Int) + 1) + (uS l a : Int))) ∧ ((((a : Int) + 1) : Int) = (((a + 1) : Nat) : Int)) ∧ (((((a : Int) + 1) + (uS l a : Int)) : Int) = ((((a + 1) + (uS l a)) : Nat) : Int)) ∧ ((a + 1) ≤ ((a + 1) + (uS l a))) ∧ (((a + 1) + (uS l a)) ≤ m) ∧ (((a + 1) + (uS l a)) - (a + 1) = (uS l a)) ∧ (ka2 ((uS l a) * 1) (ka7 ((a + 1) * 1) (dI .u8 l)) = (dI .u8 (ka2 (uS l a) (ka7 (a + 1) l)))) ∧ ((dI .u8 (ka2 (uS l a) (ka7 (a + 1) l))).length = (uS l a) * 1) ∧ (kZ (dI .u8 (ka2 (uS l a) (ka7 (a + 1) l)))) ∧ (qJ ((a : Int) + 1)) ∧ (qJ (((a : Int) + 1) + (uS l a : Int)))) [(4, kS (D.lit (.string (strOfNums (ka2 (uS l a) (ka7 (a + 1) l)))))), (5, iV ((↑a + 1) + (uS l a : Int))), (6, iV 0)] ⟨⟨by omega, by omega⟩, ⟨by omega, by omega⟩, ⟨by omega, by omega⟩, (by first | rfl | omega), (by first | rfl | omega), zo, zo, zo, (by first | rfl | with_reducible assumption | exact qT _ _ _ | exact dF _ _ _ | (simp only [yO, uA, qT, kc6, kd9, kd1, ke6, kd0]; done) | (simp only [yO, uA, qT, kc6, kd9, kd1, ke6, kd0]; rfl) | (rw [List.take_of_length_le (by simp only [kU, kT, pbL_len, qM, kb2, kb6, kc6] <;> omega)]; first | rfl | (simp only [uA, kc6, kd9, kd1]; done) | (simp only [uA, kc6, kd9, kd1]; rfl))), o5, rfl, ⟨by omega, by omega⟩, ⟨by omega, by omega⟩⟩ ?_
  refine AW.ret ?_
  exact kC (.inr rfl) [] (P := ((.string (strOfNums (ka2 (uS l a) (ka7 (a + 1) l))) : Value) = .string (strOfNums (ka2 (uS l a) (ka7 (a + 1) l)))) ∧ ((((((a + 1) + (uS l a)) : Nat) : Int) : Int) = (((a : Int) + 1) + (uS l a : Int))) ∧ (kN 0)) zk ⟨rfl, b8, rfl⟩
abbrev eB (l : List Int) (m : Nat) (u : RS) : BC := .ds [D.sl (dI .u8 l) m, iD (((kV u) : Nat) : Int), iD (qA u)]
theorem u39 (l : List Int) (m : Nat) (u : RS) (hm : ka1 l = m) (hb : m ≤ 1000000) (hy : Byt l) (hu : kV u ≤ m) : Fun 54 [.c (.ptr 0 0)] (kF [(0, some (73, .ds [D.sl (dI .u8 l) m, iD (((kV u) : Nat) : Int), iD (qA u)]))]) 1 (kS (D.lit (.string (strOfNums (bC l u))))) (kF [(0, some (73, .ds [D.sl (dI .u8 l) m, iD (((kV (qX l u)) : Nat) : Int), iD (qA (qX l u))]))]) 1 := by
  refine Fun.mk (n := 33) Try.func54 rfl rfl (ka4 rfl) ?_
  intro cx hcx
  refine kI [.no] True [(0, rV 0 0)] [(0, some (73, (eB l m u)))] 1 trivial ?_
  refine AW.seq ?_
  by_cases hx1 : ((qA u) ≠ 0)
  · refine zr (kJ 4 [.b true]) [0, 10] [0] (((qA u) ≠ 0)) [(0, rV 0 0), (10, bV true)] [(0, some (73, (eB l m u)))] 1 zo ?_
    refine zt ?_
    refine kI [.no] True [(2, kS (D.lit ((.string (ByteArray.mk #[])))))] [(0, some (73, (eB l m u)))] 1 trivial ?_
    have hx2 : kV (qX l u) = kV u := (by rw [(k2n (by omega)).1])
    have hx3 : qA (qX l u) = qA u := (by rw [(k2n (by omega)).1])
    have hz1 : bC l u = [] := (k2n (by omega)).2
    refine AW.ret ?_
    exact kC (.inr rfl) [] (P := ((.string (strOfNums (bC l u)) : Value) = .string (ByteArray.mk #[])) ∧ (([db l m, uD (kV (qX l u)), iD (qA (qX l u))] : List D) = [db l m, uD (kV u), iD (qA u)])) zk ⟨(congrArg (fun x9 => Value.string (strOfNums x9)) (show (bC l u) = ([] : List Int) from (by first | rfl | (rw [hz1]; done) | (rw [hz1]; rfl)))), v6⟩
  · refine zr (kJ 4 [.b false]) [0, 10] [0] (¬ ((qA u) ≠ 0)) [(0, rV 0 0), (10, bV false)] [(0, some (73, (eB l m u)))] 1 zo ?_
    refine yC ?_
    by_cases hx4 : ((kV u) = m)
    · refine zr (kJ 8 (.call [] (.tup [.c (.d (D.lit (.string (strOfNums ([] : List Int))))), iE 0, iE 4]) [] 0 [] none :: kJ 7 [])) [0, 3, 4, 5] [0] _ [(0, rV 0 0), (3, kS (D.lit (.string (strOfNums ([] : List Int))))), (4, iV 0), (5, iV 4)] [(0, some (73, (eB l m u)))] 1 (u6w l m (kV u) zo zo (kQ : Byt l) yZ) ?_
      refine kI (kJ 10 []) True [(3, kS (D.lit (.string (strOfNums ([] : List Int)))))] [(0, some (73, .ds [db l m, iD 0, iD 4]))] 1 trivial ?_
      refine k8 [.no, .no] True [(2, kS (D.lit (.string (strOfNums ([] : List Int)))))] trivial ?_
      have hze : g9 l (kV u) = 4 := (u4j hm (by omega))
      have hx5 : kV (qX l u) = 0 := (lF zo zo).1
      have hx6 : qA (qX l u) = 4 := ((lF zo zo).2.1.trans hze)
      have hz1 : bC l u = [] := (lF (by omega) (by omega)).2.2
      refine AW.ret ?_
      exact kC (.inr rfl) [] (P := ((.string (strOfNums (bC l u)) : Value) = .string (strOfNums ([] : List Int))) ∧ (([db l m, uD (kV (qX l u)), iD (qA (qX l u))] : List D) = [db l m, iD 0, iD 4])) zk ⟨(congrArg (fun x9 => Value.string (strOfNums x9)) (show (bC l u) = ([] : List Int) from (by first | rfl | (rw [hz1]; done) | (rw [hz1]; rfl)))), v6⟩
    · by_cases hx7 : ((64 : Nat) < (uS l (kV u)))
      · refine zr (kJ 8 (.call [] (.tup [.c (.d (D.lit (.string (strOfNums ([] : List Int))))), iE 0, iE 3]) [] 0 [] none :: kJ 7 [])) [0, 3, 4, 5] [0] _ [(0, rV 0 0), (3, kS (D.lit (.string (strOfNums ([] : List Int))))), (4, iV 0), (5, iV 3)] [(0, some (73, (eB l m u)))] 1 (u6z l m (kV u) zo zo (kQ : Byt l) yZ yZ) ?_
        refine kI (kJ 10 []) True [(3, kS (D.lit (.string (strOfNums ([] : List Int)))))] [(0, some (73, .ds [db l m, iD 0, iD 3]))] 1 trivial ?_
        refine k8 [.no, .no] True [(2, kS (D.lit (.string (strOfNums ([] : List Int)))))] trivial ?_
        have hze : g9 l (kV u) = 3 := (u4l hm (by omega) (by omega))
        have hx8 : kV (qX l u) = 0 := (lF zo zo).1
        have hx9 : qA (qX l u) = 3 := ((lF zo zo).2.1.trans hze)
        have hz1 : bC l u = [] := (lF (by omega) (by omega)).2.2
        refine AW.ret ?_
        exact kC (.inr rfl) [] (P := ((.string (strOfNums (bC l u)) : Value) = .string (strOfNums ([] : List Int))) ∧ (([db l m, uD (kV (qX l u)), iD (qA (qX l u))] : List D) = [db l m, iD 0, iD 3])) zk ⟨(congrArg (fun x9 => Value.string (strOfNums x9)) (show (bC l u) = ([] : List Int) from (by first | rfl | (rw [hz1]; done) | (rw [hz1]; rfl)))), v6⟩
      · by_cases hx10 : (m < (((kV u) + 1) + (uS l (kV u))))
        · refine zr (kJ 8 (.call [] (.tup [.c (.d (D.lit (.string (strOfNums ([] : List Int))))), iE 0, iE 4]) [] 0 [] none :: kJ 7 [])) [0, 3, 4, 5] [0] _ [(0, rV 0 0), (3, kS (D.lit (.string (strOfNums ([] : List Int))))), (4, iV 0), (5, iV 4)] [(0, some (73, (eB l m u)))] 1 (u6y l m (kV u) zo zo (kQ : Byt l) yZ yZ yZ) ?_
          refine kI (kJ 10 []) True [(3, kS (D.lit (.string (strOfNums ([] : List Int)))))] [(0, some (73, .ds [db l m, iD 0, iD 4]))] 1 trivial ?_
          refine k8 [.no, .no] True [(2, kS (D.lit (.string (strOfNums ([] : List Int)))))] trivial ?_
          have hze : g9 l (kV u) = 4 := (u4k hm (by omega) (by omega) (by omega))
          have hx11 : kV (qX l u) = 0 := (lF zo zo).1
          have hx12 : qA (qX l u) = 4 := ((lF zo zo).2.1.trans hze)
          have hz1 : bC l u = [] := (lF (by omega) (by omega)).2.2
          refine AW.ret ?_
          exact kC (.inr rfl) [] (P := ((.string (strOfNums (bC l u)) : Value) = .string (strOfNums ([] : List Int))) ∧ (([db l m, uD (kV (qX l u)), iD (qA (qX l u))] : List D) = [db l m, iD 0, iD 4])) zk ⟨(congrArg (fun x9 => Value.string (strOfNums x9)) (show (bC l u) = ([] : List Int) from (by first | rfl | (rw [hz1]; done) | (rw [hz1]; rfl)))), v6⟩
        · refine zr (kJ 8 (.call [] (.tup [.c (.d (D.lit (.string (strOfNums (ka2 (uS l (kV u)) (ka7 ((kV u) + 1) l)))))), uE (((kV u) + 1) + (uS l (kV u))), iE 0]) [] 0 [] none :: kJ 7 [])) [0, 3, 4, 5] [0] _ [(0, rV 0 0), (3, kS (D.lit (.string (strOfNums (ka2 (uS l (kV u)) (ka7 ((kV u) + 1) l)))))), (4, uV (((kV u) + 1) + (uS l (kV u)))), (5, iV 0)] [(0, some (73, (eB l m u)))] 1 (u6x l m (kV u) zo zo (kQ : Byt l) yZ yZ yZ) ?_
          refine kI (kJ 10 []) True [(3, kS (D.lit (.string (strOfNums (ka2 (uS l (kV u)) (ka7 ((kV u) + 1) l))))))] [(0, some (73, .ds [db l m, uD (((kV u) + 1) + (uS l (kV u))), iD 0]))] 1 trivial ?_
          refine k8 [.no, .no] True [(2, kS (D.lit (.string (strOfNums (ka2 (uS l (kV u)) (ka7 ((kV u) + 1) l))))))] trivial ?_
          have hze : g9 l (kV u) = 0 := (k2p hm (by omega) (by omega) (by omega))
          have hx13 : kV (qX l u) = kV u + 1 + uS l (kV u) := (k77 zo hze).1
          have hx14 : qA (qX l u) = 0 := (k77 zo hze).2.1
          have hz1 : bC l u = ka2 (uS l (kV u)) (ka7 (kV u + 1) l) := (k77 (by omega) hze).2.2
          refine AW.ret ?_
          exact kC (.inr rfl) [] (P := ((.string (strOfNums (bC l u)) : Value) = .string (strOfNums (ka2 (uS l (kV u)) (ka7 ((kV u) + 1) l)))) ∧ (([db l m, uD (kV (qX l u)), iD (qA (qX l u))] : List D) = [db l m, uD (((kV u) + 1) + (uS l (kV u))), iD 0])) zk ⟨(congrArg (fun x9 => Value.string (strOfNums x9)) (show (bC l u) = (ka2 (uS l (kV u)) (ka7 ((kV u) + 1) l)) from (by first | rfl | (rw [hz1]; done) | (rw [hz1]; rfl)))), v6⟩
end Go.Proofs.Ytdbjebdomdnbkaa
