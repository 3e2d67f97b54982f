/- Readers. No statement is proved here. -/
import Derived.Test.YtalbpleglapihaaZD11A
namespace Go.Proofs.Ytalbpleglapihaa
open Go.ChangeShapes Go.WideShapes Go.ChangeAt Go.RowKit
open List renaming append_nil → kc8, drop → ka7, drop_zero → kd2, getD → ka0, length → ka1, length_append → ka4, length_cons → kb1, length_drop → kb2, length_nil → kb6, length_replicate → kb4, length_set → kc2, length_take → kb3, nil_append → kf0, take → ka2
open Nat renaming le_of_ble_eq_true → ka5, mul_one → kc4, zero_mul → kd8
set_option linter.unusedVariables false
set_option linter.unusedSimpArgs false
/-! chapter 11: readers -/
set_option maxHeartbeats 4000000
set_option maxRecDepth 100000
structure RS where
  a : Nat
  q : Int
def kL (u : RS) : Nat := u.a
def kU (u : RS) : Int := u.q
def qB : RS := ⟨4, 0⟩
theorem u2f {x : D} {a b c d : Int} (h : a = b) (h2 : c = d) : ([x, iD a, iD c] : List D) = [x, iD b, iD d] := by rw [h, h2]
def kD (s : Nat) (l : List Int) (u : RS) : RS := if u.q = 0 then (if u.a + s ≤ l.length then ⟨u.a + s, 0⟩ else ⟨0, 4⟩) else u
def kV (l : List Int) (u : RS) : Nat := if u.q = 0 ∧ u.a + 2 ≤ l.length then (g16 l u.a).toNat else 0
def u7 (l : List Int) (u : RS) : Int := if u.q = 0 ∧ u.a + 4 ≤ l.length then g32 l u.a else 0
def vQ (l : List Int) (u : RS) : Int := if u.q = 0 ∧ u.a + 8 ≤ l.length then g64 l u.a else 0
theorem rQ {s : Nat} {l : List Int} {u : RS} (h : ¬ kU u = 0) : kD s l u = u := if_neg h
theorem tS {s m : Nat} {l : List Int} {u : RS} (hm : l.length = m) (h : kU u = 0) (h1 : kL u + s ≤ m) : kL (kD s l u) = kL u + s ∧ kU (kD s l u) = 0 := by
  subst hm
  have e : kD s l u = ⟨u.a + s, 0⟩ := by unfold kD; rw [if_pos (show u.q = 0 from h), if_pos (show u.a + s ≤ _ from h1)]
  rw [e]; exact ⟨rfl, rfl⟩
theorem nU {s m : Nat} {l : List Int} {u : RS} (hm : l.length = m) (h : kU u = 0) (h1 : ¬ kL u + s ≤ m) : kL (kD s l u) = 0 ∧ kU (kD s l u) = 4 := by
  subst hm
  have e : kD s l u = ⟨0, 4⟩ := by unfold kD; rw [if_pos (show u.q = 0 from h), if_neg (show ¬ u.a + s ≤ _ from h1)]
  rw [e]; exact ⟨rfl, rfl⟩
theorem uX {s m : Nat} {l : List Int} {u : RS} (hm : l.length = m) (hu : kL u ≤ m) : kL (kD s l u) ≤ m := by
  by_cases h : kU u = 0
  · by_cases h1 : kL u + s ≤ m
    · have := tS hm h h1; omega
    · have := nU hm h h1; omega
  · rw [rQ h]; exact hu
theorem u1z {l : List Int} {u : RS} (h : ¬ kU u = 0) : kV l u = 0 := if_neg fun e => h e.1
theorem u1w {l : List Int} {u : RS} (h : ¬ kU u = 0) : u7 l u = 0 := if_neg fun e => h e.1
theorem u1t {l : List Int} {u : RS} (h : ¬ kU u = 0) : vQ l u = 0 := if_neg fun e => h e.1
theorem u1y {m : Nat} {l : List Int} {u : RS} (hm : l.length = m) (h1 : ¬ kL u + 2 ≤ m) : kV l u = 0 := by subst hm; exact if_neg fun e => h1 e.2
theorem u1v {m : Nat} {l : List Int} {u : RS} (hm : l.length = m) (h1 : ¬ kL u + 4 ≤ m) : u7 l u = 0 := by subst hm; exact if_neg fun e => h1 e.2
theorem u1s {m : Nat} {l : List Int} {u : RS} (hm : l.length = m) (h1 : ¬ kL u + 8 ≤ m) : vQ l u = 0 := by subst hm; exact if_neg fun e => h1 e.2
theorem u1x {m : Nat} {l : List Int} {u : RS} (hm : l.length = m) (hy : Byt l) (h : kU u = 0) (h1 : kL u + 2 ≤ m) : ((kV l u : Nat) : Int) = g16 l (kL u) := by
  subst hm
  have e : kV l u = (g16 l u.a).toNat := if_pos ⟨h, h1⟩
  rw [e]; exact Int.toNat_of_nonneg (g16_rng hy h1).1
theorem u1u {m : Nat} {l : List Int} {u : RS} (hm : l.length = m) (h : kU u = 0) (h1 : kL u + 4 ≤ m) : u7 l u = g32 l (kL u) := by subst hm; exact if_pos ⟨h, h1⟩
theorem u1r {m : Nat} {l : List Int} {u : RS} (hm : l.length = m) (h : kU u = 0) (h1 : kL u + 8 ≤ m) : vQ l u = g64 l (kL u) := by subst hm; exact if_pos ⟨h, h1⟩
theorem yE {l : List Int} (hy : Byt l) (u : RS) : kV l u ≤ 65535 := by
  by_cases h : u.q = 0 ∧ u.a + 2 ≤ l.length
  · have e : kV l u = (g16 l u.a).toNat := if_pos h
    have := g16_rng hy h.2; omega
  · have e : kV l u = 0 := if_neg h
    omega
theorem mN {l : List Int} (hy : Byt l) (u : RS) : 0 ≤ u7 l u ∧ u7 l u ≤ 4294967295 := by
  by_cases h : u.q = 0 ∧ u.a + 4 ≤ l.length
  · have e : u7 l u = g32 l u.a := if_pos h
    have := g32_rng hy h.2; omega
  · have e : u7 l u = 0 := if_neg h
    omega
theorem wO {l : List Int} (hy : Byt l) (u : RS) : 0 ≤ vQ l u ∧ vQ l u ≤ 18446744073709551615 := by
  by_cases h : u.q = 0 ∧ u.a + 8 ≤ l.length
  · have e : vQ l u = g64 l u.a := if_pos h
    have := g64_rng hy h.2; omega
  · have e : vQ l u = 0 := if_neg h
    omega
def uN (l : List Int) (a : Nat) : Nat := (ka0 l a 0).toNat
def fD (l : List Int) (a : Nat) : Int := if a = l.length then 4 else if 64 < uN l a then 3 else if l.length < a + 1 + uN l a then 4 else 0
def qO (l : List Int) (u : RS) : RS := if u.q = 0 then (if fD l u.a = 0 then ⟨u.a + 1 + uN l u.a, 0⟩ else ⟨0, fD l u.a⟩) else u
def aA (l : List Int) (u : RS) : List Int := if u.q = 0 ∧ fD l u.a = 0 then ka2 (uN l u.a) (ka7 (u.a + 1) l) else []
theorem k0n {l : List Int} {a : Nat} (hy : Byt l) (h : a < l.length) : ka0 l a 0 = ((uN l a : Nat) : Int) := by
  have := hy.at a h
  unfold uN; omega
theorem u21 {l : List Int} {a m : Nat} (hm : l.length = m) (h : a = m) : fD l a = 4 := by subst hm; exact if_pos h
theorem u23 {l : List Int} {a m : Nat} (hm : l.length = m) (h : ¬ a = m) (h1 : 64 < uN l a) : fD l a = 3 := by subst hm; unfold fD; rw [if_neg h, if_pos h1]
theorem u22 {l : List Int} {a m : Nat} (hm : l.length = m) (h : ¬ a = m) (h1 : ¬ 64 < uN l a) (h2 : m < a + 1 + uN l a) : fD l a = 4 := by subst hm; unfold fD; rw [if_neg h, if_neg h1, if_pos h2]
theorem k0o {l : List Int} {a m : Nat} (hm : l.length = m) (h : ¬ a = m) (h1 : ¬ 64 < uN l a) (h2 : ¬ m < a + 1 + uN l a) : fD l a = 0 := by subst hm; unfold fD; rw [if_neg h, if_neg h1, if_neg h2]
theorem k0p {l : List Int} {a m : Nat} (hm : l.length = m) (h : fD l a = 0) : ¬ a = m ∧ uN l a ≤ 64 ∧ a + 1 + uN l a ≤ m := by
  subst hm; unfold fD at h
  split at h
  · omega
  · split at h
    · omega
    · split at h <;> omega
theorem k0m {l : List Int} {u : RS} (h : ¬ kU u = 0) : qO l u = u ∧ aA l u = [] := ⟨if_neg h, if_neg fun e => h e.1⟩
theorem k58 {l : List Int} {u : RS} (h : kU u = 0) (h1 : fD l (kL u) = 0) : kL (qO l u) = kL u + 1 + uN l (kL u) ∧ kU (qO l u) = 0 ∧ aA l u = ka2 (uN l (kL u)) (ka7 (kL u + 1) l) := by
  have e : qO l u = ⟨u.a + 1 + uN l u.a, 0⟩ := by unfold qO; rw [if_pos (show u.q = 0 from h), if_pos (show fD l u.a = 0 from h1)]
  rw [e]; exact ⟨rfl, rfl, if_pos ⟨h, h1⟩⟩
theorem hC {l : List Int} {u : RS} (h : kU u = 0) (h1 : ¬ fD l (kL u) = 0) : kL (qO l u) = 0 ∧ kU (qO l u) = fD l (kL u) ∧ aA l u = [] := by
  have e : qO l u = ⟨0, fD l u.a⟩ := by unfold qO; rw [if_pos (show u.q = 0 from h), if_neg (show ¬ fD l u.a = 0 from h1)]
  rw [e]; exact ⟨rfl, rfl, if_neg fun e => h1 e.2⟩
theorem k7p {m : Nat} {l : List Int} {u : RS} (hm : l.length = m) (hu : kL u ≤ m) : kL (qO l u) ≤ m := by
  by_cases h : kU u = 0
  · by_cases h1 : fD l (kL u) = 0
    · have := k58 h h1; have := k0p hm h1; omega
    · have := hC h h1; omega
  · rw [(k0m h).1]; exact hu
theorem wR {l : List Int} (hy : Byt l) (u : RS) : Byt (aA l u) := by
  unfold aA; split
  · exact (hy.drop _).take _
  · exact Byt.nil
theorem mO (l : List Int) (u : RS) : ka1 (aA l u) ≤ 64 := by
  unfold aA; split
  · rename_i h; have := k0p rfl h.2; rw [kb3]; omega
  · exact Nat.zero_le _
theorem aH {p : Prop} (h : p := by first | omega | rfl | assumption | (simp; done) | (simp; omega)) : p := h
theorem y4 {p : Prop} (h : p := by first | rfl | exact u2f (by omega) (by omega)) : p := h
theorem yA {p : Prop} (h : p := by first | omega | with_reducible assumption | (simp only [kR, kO, pbL_len, ka4, kb1, kb6, kb3, kb2, kb4, kc2] <;> omega) | rfl | assumption) : p := h
theorem vG (l : List Int) (m : Nat) (u : RS) (hm : ka1 l = m) (hb : m ≤ 1000000) (hy : Byt l) (hu : kL u ≤ m) : Fun 40 [.c (.ptr 0 0)] (kG [(0, some (59, .ds [D.sl (dI .u8 l) m, iD (((kL u) : Nat) : Int), iD (kU u)]))]) 1 (iV (((kV l u) : Nat) : Int)) (kG [(0, some (59, .ds [D.sl (dI .u8 l) m, iD (((kL (kD 2 l u)) : Nat) : Int), iD (kU (kD 2 l u))]))]) 1 := by
  refine Fun.mk (n := 34) Try.func40 rfl rfl (ka5 rfl) ?_
  intro cx hcx
  refine kK [.no] True [(0, rV 0 0)] [(0, some (59, .ds [db l m, uD (kL u), iD (kU u)]))] 1 trivial ?_
  refine AW.seq ?_
  by_cases hx1 : ((kU u) ≠ 0)
  · refine zr (kS 4 [.b true]) [0, 10] [0] (((kU u) ≠ 0)) [(0, rV 0 0), (10, bV true)] [(0, some (59, .ds [db l m, uD (kL u), iD (kU u)]))] 1 zo ?_
    refine zt ?_
    refine kK [.no] True [(2, iV 0)] [(0, some (59, .ds [db l m, uD (kL u), iD (kU u)]))] 1 trivial ?_
    have hx2 : kL (kD 2 l u) = kL u := (by rw [rQ (by omega)])
    have hx3 : kU (kD 2 l u) = kU u := (by rw [rQ (by omega)])
    have hx4 : ((kV l u : Nat) : Int) = 0 := (by rw [u1z (by omega)]; rfl)
    refine AW.ret ?_
    exact kC (.inr rfl) [] (P := (((kV l u : Int) : Int) = 0) ∧ (([db l m, uD (kL (kD 2 l u)), iD (kU (kD 2 l u))] : List D) = [db l m, uD (kL u), iD (kU u)])) zk ⟨aH, y4⟩
  · refine zr (kS 4 [.b false]) [0, 10] [0] (¬ ((kU u) ≠ 0)) [(0, rV 0 0), (10, bV false)] [(0, some (59, .ds [db l m, uD (kL u), iD (kU u)]))] 1 zo ?_
    refine yM ?_
    by_cases hx5 : (((kL u) + 2) ≤ m)
    · have hx6 : (((0 : Int) ≤ (g16 l (kL u))) ∧ ((g16 l (kL u)) ≤ 65535)) := g16_rng (kP : Byt l) zo
      refine kK (kS 8 (.call [] (.tup [.c (.d (D.lit (.int .u16 (g16 l (kL u))))), uE ((kL u) + 2), iE 0]) [] 0 [] none :: kS 7 [])) _ [(0, rV 0 0), (3, kT (D.lit (.int .u16 (g16 l (kL u))))), (4, uV ((kL u) + 2)), (5, iV 0)] [(0, some (59, .ds [db l m, uD (kL u), iD (kU u)]))] 1 (W_Get16 l m (kL u) zo zo (kP : Byt l) yA) ?_
      refine kK (kS 10 []) True [(3, kT (D.lit (.int .u16 (g16 l (kL u)))))] [(0, some (59, .ds [db l m, uD ((kL u) + 2), iD 0]))] 1 trivial ?_
      refine kX [.no, .w, .no] (qL (g16 l (kL u))) [(2, iV (g16 l (kL u)))] ⟨by omega, by omega⟩ ?_
      have hx7 : kL (kD 2 l u) = kL u + 2 := (tS hm zo zo).1
      have hx8 : kU (kD 2 l u) = 0 := (tS hm zo zo).2
      have hx9 : ((kV l u : Nat) : Int) = g16 l (kL u) := (u1x hm hy zo zo)
      refine AW.ret ?_
      exact kC (.inr rfl) [] (P := (((kV l u : Int) : Int) = (g16 l (kL u))) ∧ (([db l m, uD (kL (kD 2 l u)), iD (kU (kD 2 l u))] : List D) = [db l m, uD ((kL u) + 2), iD 0])) zk ⟨aH, y4⟩
    · refine zr (kS 8 (.call [] (.tup [.c (.d (D.lit (.int .u16 0))), iE 0, iE 4]) [] 0 [] none :: kS 7 [])) [0, 3, 4, 5] [0] _ [(0, rV 0 0), (3, kT (D.lit (.int .u16 0))), (4, iV 0), (5, iV 4)] [(0, some (59, .ds [db l m, uD (kL u), iD (kU u)]))] 1 (W_Get16_s l m (kL u) zo zo (kP : Byt l) yA yA) ?_
      refine kK (kS 10 []) True [(3, kT (D.lit (.int .u16 0)))] [(0, some (59, .ds [db l m, iD 0, iD 4]))] 1 trivial ?_
      refine kX [.no, .w, .no] (qL (0 : Int)) [(2, iV 0)] ⟨by omega, by omega⟩ ?_
      have hx10 : kL (kD 2 l u) = 0 := (nU hm zo zo).1
      have hx11 : kU (kD 2 l u) = 4 := (nU hm zo zo).2
      have hx12 : ((kV l u : Nat) : Int) = 0 := (by rw [u1y hm (by omega)]; rfl)
      refine AW.ret ?_
      exact kC (.inr rfl) [] (P := (((kV l u : Int) : Int) = 0) ∧ (([db l m, uD (kL (kD 2 l u)), iD (kU (kD 2 l u))] : List D) = [db l m, iD 0, iD 4])) zk ⟨aH, y4⟩
theorem oR (l : List Int) (m : Nat) (u : RS) (hm : ka1 l = m) (hb : m ≤ 1000000) (hy : Byt l) (hu : kL u ≤ m) : Fun 41 [.c (.ptr 0 0)] (kG [(0, some (59, .ds [D.sl (dI .u8 l) m, iD (((kL u) : Nat) : Int), iD (kU u)]))]) 1 (iV (u7 l u)) (kG [(0, some (59, .ds [D.sl (dI .u8 l) m, iD (((kL (kD 4 l u)) : Nat) : Int), iD (kU (kD 4 l u))]))]) 1 := by
  refine Fun.mk (n := 34) Try.func41 rfl rfl (ka5 rfl) ?_
  intro cx hcx
  refine kK [.no] True [(0, rV 0 0)] [(0, some (59, .ds [db l m, uD (kL u), iD (kU u)]))] 1 trivial ?_
  refine AW.seq ?_
  by_cases hx1 : ((kU u) ≠ 0)
  · refine zr (kS 4 [.b true]) [0, 10] [0] (((kU u) ≠ 0)) [(0, rV 0 0), (10, bV true)] [(0, some (59, .ds [db l m, uD (kL u), iD (kU u)]))] 1 zo ?_
    refine zt ?_
    refine kK [.no] True [(2, iV 0)] [(0, some (59, .ds [db l m, uD (kL u), iD (kU u)]))] 1 trivial ?_
    have hx2 : kL (kD 4 l u) = kL u := (by rw [rQ (by omega)])
    have hx3 : kU (kD 4 l u) = kU u := (by rw [rQ (by omega)])
    have hx4 : u7 l u = 0 := (by rw [u1w (by omega)])
    refine AW.ret ?_
    exact kC (.inr rfl) [] (P := (((u7 l u) : Int) = 0) ∧ (([db l m, uD (kL (kD 4 l u)), iD (kU (kD 4 l u))] : List D) = [db l m, uD (kL u), iD (kU u)])) zk ⟨aH, y4⟩
  · refine zr (kS 4 [.b false]) [0, 10] [0] (¬ ((kU u) ≠ 0)) [(0, rV 0 0), (10, bV false)] [(0, some (59, .ds [db l m, uD (kL u), iD (kU u)]))] 1 zo ?_
    refine yM ?_
    by_cases hx5 : (((kL u) + 4) ≤ m)
    · have hx6 : (((0 : Int) ≤ (g32 l (kL u))) ∧ ((g32 l (kL u)) ≤ 4294967295)) := g32_rng (kP : Byt l) zo
      refine kK (kS 8 (.call [] (.tup [.c (.d (D.lit (.int .u32 (g32 l (kL u))))), uE ((kL u) + 4), iE 0]) [] 0 [] none :: kS 7 [])) _ [(0, rV 0 0), (3, kT (D.lit (.int .u32 (g32 l (kL u))))), (4, uV ((kL u) + 4)), (5, iV 0)] [(0, some (59, .ds [db l m, uD (kL u), iD (kU u)]))] 1 (W_Get32 l m (kL u) zo zo (kP : Byt l) yA) ?_
      refine kK (kS 10 []) True [(3, kT (D.lit (.int .u32 (g32 l (kL u)))))] [(0, some (59, .ds [db l m, uD ((kL u) + 4), iD 0]))] 1 trivial ?_
      refine kX [.no, .w, .no] (qL (g32 l (kL u))) [(2, iV (g32 l (kL u)))] ⟨by omega, by omega⟩ ?_
      have hx7 : kL (kD 4 l u) = kL u + 4 := (tS hm zo zo).1
      have hx8 : kU (kD 4 l u) = 0 := (tS hm zo zo).2
      have hx9 : u7 l u = g32 l (kL u) := (u1u hm zo zo)
      refine AW.ret ?_
      exact kC (.inr rfl) [] (P := (((u7 l u) : Int) = (g32 l (kL u))) ∧ (([db l m, uD (kL (kD 4 l u)), iD (kU (kD 4 l u))] : List D) = [db l m, uD ((kL u) + 4), iD 0])) zk ⟨aH, y4⟩
    · refine zr (kS 8 (.call [] (.tup [.c (.d (D.lit (.int .u32 0))), iE 0, iE 4]) [] 0 [] none :: kS 7 [])) [0, 3, 4, 5] [0] _ [(0, rV 0 0), (3, kT (D.lit (.int .u32 0))), (4, iV 0), (5, iV 4)] [(0, some (59, .ds [db l m, uD (kL u), iD (kU u)]))] 1 (W_Get32_s l m (kL u) zo zo (kP : Byt l) yA yA) ?_
      refine kK (kS 10 []) True [(3, kT (D.lit (.int .u32 0)))] [(0, some (59, .ds [db l m, iD 0, iD 4]))] 1 trivial ?_
      refine kX [.no, .w, .no] (qL (0 : Int)) [(2, iV 0)] ⟨by omega, by omega⟩ ?_
      have hx10 : kL (kD 4 l u) = 0 := (nU hm zo zo).1
      have hx11 : kU (kD 4 l u) = 4 := (nU hm zo zo).2
      have hx12 : u7 l u = 0 := (by rw [u1v hm (by omega)])
      refine AW.ret ?_
      exact kC (.inr rfl) [] (P := (((u7 l u) : Int) = 0) ∧ (([db l m, uD (kL (kD 4 l u)), iD (kU (kD 4 l u))] : List D) = [db l m, iD 0, iD 4])) zk ⟨aH, y4⟩
theorem k7e (l : List Int) (m : Nat) (u : RS) (hm : ka1 l = m) (hb : m ≤ 1000000) (hy : Byt l) (hu : kL u ≤ m) : Fun 38 [.c (.ptr 0 0)] (kG [(0, some (59, .ds [D.sl (dI .u8 l) m, iD (((kL u) : Nat) : Int), iD (kU u)]))]) 1 (kT (D.lit (.int .u64 (vQ l u)))) (kG [(0, some (59, .ds [D.sl (dI .u8 l) m, iD (((kL (kD 8 l u)) : Nat) : Int), iD (kU (kD 8 l u))]))]) 1 := by
  refine Fun.mk (n := 33) Try.func38 rfl rfl (ka5 rfl) ?_
  intro cx hcx
  refine kK [.no] True [(0, rV 0 0)] [(0, some (59, .ds [db l m, uD (kL u), iD (kU u)]))] 1 trivial ?_
  refine AW.seq ?_
  by_cases hx1 : ((kU u) ≠ 0)
  · refine zr (kS 4 [.b true]) [0, 10] [0] (((kU u) ≠ 0)) [(0, rV 0 0), (10, bV true)] [(0, some (59, .ds [db l m, uD (kL u), iD (kU u)]))] 1 zo ?_
    refine zt ?_
    refine kK [.no] True [(2, kT (D.lit (.int .u64 0)))] [(0, some (59, .ds [db l m, uD (kL u), iD (kU u)]))] 1 trivial ?_
    have hx2 : kL (kD 8 l u) = kL u := (by rw [rQ (by omega)])
    have hx3 : kU (kD 8 l u) = kU u := (by rw [rQ (by omega)])
    have hx4 : vQ l u = 0 := (by rw [u1t (by omega)])
    refine AW.ret ?_
    exact kC (.inr rfl) [] (P := (((vQ l u) : Int) = 0) ∧ (([db l m, uD (kL (kD 8 l u)), iD (kU (kD 8 l u))] : List D) = [db l m, uD (kL u), iD (kU u)])) zk ⟨aH, y4⟩
  · refine zr (kS 4 [.b false]) [0, 10] [0] (¬ ((kU u) ≠ 0)) [(0, rV 0 0), (10, bV false)] [(0, some (59, .ds [db l m, uD (kL u), iD (kU u)]))] 1 zo ?_
    refine yM ?_
    by_cases hx5 : (((kL u) + 8) ≤ m)
    · have hx6 : (((0 : Int) ≤ (g64 l (kL u))) ∧ ((g64 l (kL u)) ≤ 18446744073709551615)) := g64_rng (kP : Byt l) zo
      refine kK (kS 8 (.call [] (.tup [.c (.d (D.lit (.int .u64 (g64 l (kL u))))), uE ((kL u) + 8), iE 0]) [] 0 [] none :: kS 7 [])) _ [(0, rV 0 0), (3, kT (D.lit (.int .u64 (g64 l (kL u))))), (4, uV ((kL u) + 8)), (5, iV 0)] [(0, some (59, .ds [db l m, uD (kL u), iD (kU u)]))] 1 (W_Get64 l m (kL u) zo zo (kP : Byt l) yA) ?_
      refine kK (kS 10 []) True [(3, kT (D.lit (.int .u64 (g64 l (kL u)))))] [(0, some (59, .ds [db l m, uD ((kL u) + 8), iD 0]))] 1 trivial ?_
      refine kX [.no, .no] True [(2, kT (D.lit (.int .u64 (g64 l (kL u)))))] trivial ?_
      have hx7 : kL (kD 8 l u) = kL u + 8 := (tS hm zo zo).1
      have hx8 : kU (kD 8 l u) = 0 := (tS hm zo zo).2
      have hx9 : vQ l u = g64 l (kL u) := (u1r hm zo zo)
      refine AW.ret ?_
      exact kC (.inr rfl) [] (P := (((vQ l u) : Int) = (g64 l (kL u))) ∧ (([db l m, uD (kL (kD 8 l u)), iD (kU (kD 8 l u))] : List D) = [db l m, uD ((kL u) + 8), iD 0])) zk ⟨aH, y4⟩
    · refine zr (kS 8 (.call [] (.tup [.c (.d (D.lit (.int .u64 0))), iE 0, iE 4]) [] 0 [] none :: kS 7 [])) [0, 3, 4, 5] [0] _ [(0, rV 0 0), (3, kT (D.lit (.int .u64 0))), (4, iV 0), (5, iV 4)] [(0, some (59, .ds [db l m, uD (kL u), iD (kU u)]))] 1 (W_Get64_s l m (kL u) zo zo (kP : Byt l) yA yA) ?_
      refine kK (kS 10 []) True [(3, kT (D.lit (.int .u64 0)))] [(0, some (59, .ds [db l m, iD 0, iD 4]))] 1 trivial ?_
      refine kX [.no, .no] True [(2, kT (D.lit (.int .u64 0)))] trivial ?_
      have hx10 : kL (kD 8 l u) = 0 := (nU hm zo zo).1
      have hx11 : kU (kD 8 l u) = 4 := (nU hm zo zo).2
      have hx12 : vQ l u = 0 := (by rw [u1s hm (by omega)])
      refine AW.ret ?_
      exact kC (.inr rfl) [] (P := (((vQ l u) : Int) = 0) ∧ (([db l m, uD (kL (kD 8 l u)), iD (kU (kD 8 l u))] : List D) = [db l m, iD 0, iD 4])) zk ⟨aH, y4⟩
theorem u4c (l : List Int) (m a : Nat) (hm : ka1 l = m) (hb : m ≤ 1000000) (hy : Byt l) (h1 : a = m) : Fun 55 [.c (.d (D.sl (dI .u8 l) m)), iE ((a : Nat) : Int)] (kG []) 0 (.tup [.c (.d (D.lit (.string (strOfNums ([] : List Int))))), iE 0, iE 4]) (kG []) 0 := by
  refine Fun.mk (n := 47) Try.func55 rfl rfl (ka5 rfl) ?_
  intro cx hcx
  refine kK [.no, .no, .no] True [(0, sV .u8 l m), (1, uV a)] [] 0 trivial ?_
  refine AW.seq ?_
  refine kX (.no :: .b false :: kS 4 [.b false, .no]) ((¬ ((a : Int) < 0)) ∧ (¬ ((m : Int) < (a : Int)))) [(0, sV .u8 l m), (1, uV a), (15, bV false)] ⟨zo, zo⟩ ?_
  refine yM ?_
  refine AW.seq ?_
  refine kX [.no, .no, .no, .b true] (((a : Int) = (m : Int))) [(0, sV .u8 l m), (1, uV a), (19, bV true)] zo ?_
  refine zt ?_
  refine kX [.no, .no, .no] True [(4, kT (D.lit ((.string (ByteArray.mk #[]))))), (5, iV 0), (6, iV 4)] trivial ?_
  refine AW.ret ?_
  exact kC (.inr rfl) [] (P := ((.string (strOfNums ([] : List Int)) : Value) = .string (ByteArray.mk #[])) ∧ (kM 0) ∧ (kM 4)) zk ⟨(congrArg (fun x9 => Value.string (strOfNums x9)) (show ([] : List Int) = ([] : List Int) from rfl)), rfl, rfl⟩
theorem sY {p : Prop} (h : p := by first | omega | (simp only [kR, kO, pbL_len, ka4, kb1, kb6, kb3, kb2, kb4, kc2] <;> omega)) : p := h
theorem mF {p : Prop} (h : p := by first | omega | (simp only [kR, kO, pbL_len, qK, ka4, kb1, kb6, kb3, kb2, kb4, kc2, List.length_map, List.length_reverse, kc4] <;> omega) | rfl) : p := h
theorem u4f (l : List Int) (m a : Nat) (hm : ka1 l = m) (hb : m ≤ 1000000) (hy : Byt l) (h1 : a < m) (h2 : 64 < uN l a) : Fun 55 [.c (.d (D.sl (dI .u8 l) m)), iE ((a : Nat) : Int)] (kG []) 0 (.tup [.c (.d (D.lit (.string (strOfNums ([] : List Int))))), iE 0, iE 3]) (kG []) 0 := by
  have hz : ka0 l a 0 = ((uN l a : Nat) : Int) := k0n hy (by omega)
  refine Fun.mk (n := 47) Try.func55 rfl rfl (ka5 rfl) ?_
  intro cx hcx
  refine kK [.no, .no, .no] True [(0, sV .u8 l m), (1, uV a)] [] 0 trivial ?_
  refine AW.seq ?_
  refine kX (.no :: .b false :: kS 4 [.b false, .no]) ((¬ ((a : Int) < 0)) ∧ (¬ ((m : Int) < (a : Int)))) [(0, sV .u8 l m), (1, uV a), (15, bV false)] ⟨zo, zo⟩ ?_
  refine yM ?_
  refine AW.seq ?_
  refine kX [.no, .no, .no, .b false] (¬ ((a : Int) = (m : Int))) [(0, sV .u8 l m), (1, uV a), (19, bV false)] zo ?_
  refine yM ?_
  have hx1 : 0 ≤ (ka0 l a 0) ∧ (ka0 l a 0) ≤ 255 := (kP : Byt l).at _ sY
  refine kX [.no, .no, .n a, .d (D.lit (.int .u8 (uN l a : Int))), .w, .no] ((kM (a : Int)) ∧ (a < m) ∧ ((ka7 a (dI .u8 l))[0]? = some (D.lit (.int .u8 (uN l a : Int)))) ∧ (qL (uN l a : Int))) [(0, sV .u8 l m), (1, uV a), (7, uV (uN l a))] ⟨rfl, zo, (by rw [show (uN l a : Int) = (ka0 l a 0) by omega]; exact qQ _ _ _ mF), ⟨by omega, by omega⟩⟩ ?_
  refine AW.seq ?_
  refine kX [.no, .b true] (((64 : Int) < (uN l a : Int))) [(0, sV .u8 l m), (1, uV a), (7, uV (uN l a)), (26, bV true)] zo ?_
  refine zt ?_
  refine kX [.no, .no, .no] True [(4, kT (D.lit ((.string (ByteArray.mk #[]))))), (5, iV 0), (6, iV 3)] trivial ?_
  refine AW.ret ?_
  exact kC (.inr rfl) [] (P := ((.string (strOfNums ([] : List Int)) : Value) = .string (ByteArray.mk #[])) ∧ (kM 0) ∧ (kM 3)) zk ⟨(congrArg (fun x9 => Value.string (strOfNums x9)) (show ([] : List Int) = ([] : List Int) from rfl)), rfl, rfl⟩
theorem u4e (l : List Int) (m a : Nat) (hm : ka1 l = m) (hb : m ≤ 1000000) (hy : Byt l) (h1 : a < m) (h2 : ¬ 64 < uN l a) (h3 : m < a + 1 + uN l a) : Fun 55 [.c (.d (D.sl (dI .u8 l) m)), iE ((a : Nat) : Int)] (kG []) 0 (.tup [.c (.d (D.lit (.string (strOfNums ([] : List Int))))), iE 0, iE 4]) (kG []) 0 := by
  have hz : ka0 l a 0 = ((uN l a : Nat) : Int) := k0n hy (by omega)
  refine Fun.mk (n := 47) Try.func55 rfl rfl (ka5 rfl) ?_
  intro cx hcx
  refine kK [.no, .no, .no] True [(0, sV .u8 l m), (1, uV a)] [] 0 trivial ?_
  refine AW.seq ?_
  refine kX (.no :: .b false :: kS 4 [.b false, .no]) ((¬ ((a : Int) < 0)) ∧ (¬ ((m : Int) < (a : Int)))) [(0, sV .u8 l m), (1, uV a), (15, bV false)] ⟨zo, zo⟩ ?_
  refine yM ?_
  refine AW.seq ?_
  refine kX [.no, .no, .no, .b false] (¬ ((a : Int) = (m : Int))) [(0, sV .u8 l m), (1, uV a), (19, bV false)] zo ?_
  refine yM ?_
  have hx1 : 0 ≤ (ka0 l a 0) ∧ (ka0 l a 0) ≤ 255 := (kP : Byt l).at _ sY
  refine kX [.no, .no, .n a, .d (D.lit (.int .u8 (uN l a : Int))), .w, .no] ((kM (a : Int)) ∧ (a < m) ∧ ((ka7 a (dI .u8 l))[0]? = some (D.lit (.int .u8 (uN l a : Int)))) ∧ (qL (uN l a : Int))) [(0, sV .u8 l m), (1, uV a), (7, uV (uN l a))] ⟨rfl, zo, (by rw [show (uN l a : Int) = (ka0 l a 0) by omega]; exact qQ _ _ _ mF), ⟨by omega, by omega⟩⟩ ?_
  refine AW.seq ?_
  refine kX [.no, .b false] (¬ ((64 : Int) < (uN l a : Int))) [(0, sV .u8 l m), (1, uV a), (7, uV (uN l a)), (26, bV false)] zo ?_
  refine yM ?_
  refine AW.seq ?_
  refine kX [.no, .no, .no, .w, .w, .no, .b true] ((qL ((m : Int) - (a : Int))) ∧ (qL (((m : Int) - (a : Int)) - 1)) ∧ (((((m : Int) - (a : Int)) - 1) < (uN l a : Int)))) [(0, sV .u8 l m), (1, uV a), (7, uV (uN l a)), (33, bV true)] ⟨⟨by omega, by omega⟩, ⟨by omega, by omega⟩, zo⟩ ?_
  refine zt ?_
  refine kX [.no, .no, .no] True [(4, kT (D.lit ((.string (ByteArray.mk #[]))))), (5, iV 0), (6, iV 4)] trivial ?_
  refine AW.ret ?_
  exact kC (.inr rfl) [] (P := ((.string (strOfNums ([] : List Int)) : Value) = .string (ByteArray.mk #[])) ∧ (kM 0) ∧ (kM 4)) zk ⟨(congrArg (fun x9 => Value.string (strOfNums x9)) (show ([] : List Int) = ([] : List Int) from rfl)), rfl, rfl⟩
theorem u4d (l : List Int) (m a : Nat) (hm : ka1 l = m) (hb : m ≤ 1000000) (hy : Byt l) (h1 : a < m) (h2 : ¬ 64 < uN l a) (h3 : ¬ m < a + 1 + uN l a) : Fun 55 [.c (.d (D.sl (dI .u8 l) m)), iE ((a : Nat) : Int)] (kG []) 0 (.tup [.c (.d (D.lit (.string (strOfNums (ka2 (uN l a) (ka7 (a + 1) l)))))), iE ((((a + 1) + (uN l a)) : Nat) : Int), iE 0]) (kG []) 0 := by
  have hz : ka0 l a 0 = ((uN l a : Nat) : Int) := k0n hy (by omega)
  refine Fun.mk (n := 47) Try.func55 rfl rfl (ka5 rfl) ?_
  intro cx hcx
  refine kK [.no, .no, .no] True [(0, sV .u8 l m), (1, uV a)] [] 0 trivial ?_
  refine AW.seq ?_
  refine kX (.no :: .b false :: kS 4 [.b false, .no]) ((¬ ((a : Int) < 0)) ∧ (¬ ((m : Int) < (a : Int)))) [(0, sV .u8 l m), (1, uV a), (15, bV false)] ⟨zo, zo⟩ ?_
  refine yM ?_
  refine AW.seq ?_
  refine kX [.no, .no, .no, .b false] (¬ ((a : Int) = (m : Int))) [(0, sV .u8 l m), (1, uV a), (19, bV false)] zo ?_
  refine yM ?_
  have hx1 : 0 ≤ (ka0 l a 0) ∧ (ka0 l a 0) ≤ 255 := (kP : Byt l).at _ sY
  refine kX [.no, .no, .n a, .d (D.lit (.int .u8 (uN l a : Int))), .w, .no] ((kM (a : Int)) ∧ (a < m) ∧ ((ka7 a (dI .u8 l))[0]? = some (D.lit (.int .u8 (uN l a : Int)))) ∧ (qL (uN l a : Int))) [(0, sV .u8 l m), (1, uV a), (7, uV (uN l a))] ⟨rfl, zo, (by rw [show (uN l a : Int) = (ka0 l a 0) by omega]; exact qQ _ _ _ mF), ⟨by omega, by omega⟩⟩ ?_
  refine AW.seq ?_
  refine kX [.no, .b false] (¬ ((64 : Int) < (uN l a : Int))) [(0, sV .u8 l m), (1, uV a), (7, uV (uN l a)), (26, bV false)] zo ?_
  refine yM ?_
  refine AW.seq ?_
  refine kX [.no, .no, .no, .w, .w, .no, .b false] ((qL ((m : Int) - (a : Int))) ∧ (qL (((m : Int) - (a : Int)) - 1)) ∧ (¬ ((((m : Int) - (a : Int)) - 1) < (uN l a : Int)))) [(0, sV .u8 l m), (1, uV a), (7, uV (uN l a)), (33, bV false)] ⟨⟨by omega, by omega⟩, ⟨by omega, by omega⟩, zo⟩ ?_
  refine yM ?_
  refine kX [.no, .no, .w, .no, .w, .no, .w, .sls (a + 1) ((a + 1) + (uN l a)) (uN l a) (dI .u8 (ka2 (uN l a) (ka7 (a + 1) l))), .st none (ka2 (uN l a) (ka7 (a + 1) l)), .no, .w, .no, .w, .no, .no, .no] ((qL ((a : Int) + 1)) ∧ (qL ((a : Int) + 1)) ∧ (qL (((a : Int) + 1) + (uN l a : Int))) ∧ ((((a : Int) + 1) : Int) = (((a + 1) : Nat) : Int)) ∧ (((((a : Int) + 1) + (uN l a : Int)) : Int) = ((((a + 1) + (uN l a)) : Nat) : Int)) ∧ ((a + 1) ≤ ((a + 1) + (uN l a))) ∧ (((a + 1) + (uN l a)) ≤ m) ∧ (((a + 1) + (uN l a)) - (a + 1) = (uN l a)) ∧ (ka2 ((uN l a) * 1) (ka7 ((a + 1) * 1) (dI .u8 l)) = (dI .u8 (ka2 (uN l a) (ka7 (a + 1) l)))) ∧ ((dI .u8 (ka2 (uN l a) (ka7 (a + 1) l))).length = (uN l a) * 1) ∧ (k8 (dI .u8 (ka2 (uN l a) (ka7 (a + 1) l)))) ∧ (qL ((a : Int) + 1)) ∧ (qL (((a : Int) + 1) + (uN l a : Int)))) [(4, kT (D.lit (.string (strOfNums (ka2 (uN l a) (ka7 (a + 1) l)))))), (5, iV ((↑a + 1) + (uN l a : Int))), (6, iV 0)] ⟨⟨by omega, by omega⟩, ⟨by omega, by omega⟩, ⟨by omega, by omega⟩, (by first | rfl | omega), (by first | rfl | omega), zo, zo, zo, (by first | rfl | with_reducible assumption | exact qN _ _ _ | exact bP _ _ _ | (simp only [yP, uB, qN, kc4, kd8, kd2, kf0, kc8]; done) | (simp only [yP, uB, qN, kc4, kd8, kd2, kf0, kc8]; rfl) | (rw [List.take_of_length_le (by simp only [kR, kO, pbL_len, qK, kb2, kb4, kc4] <;> omega)]; first | rfl | (simp only [uB, kc4, kd8, kd2]; done) | (simp only [uB, kc4, kd8, kd2]; rfl))), mF, rfl, ⟨by omega, by omega⟩, ⟨by omega, by omega⟩⟩ ?_
  refine AW.ret ?_
  exact kC (.inr rfl) [] (P := ((.string (strOfNums (ka2 (uN l a) (ka7 (a + 1) l))) : Value) = .string (strOfNums (ka2 (uN l a) (ka7 (a + 1) l)))) ∧ ((((((a + 1) + (uN l a)) : Nat) : Int) : Int) = (((a : Int) + 1) + (uN l a : Int))) ∧ (kM 0)) zk ⟨rfl, aH, rfl⟩
abbrev cI (l : List Int) (m : Nat) (u : RS) : BC := .ds [D.sl (dI .u8 l) m, iD (((kL u) : Nat) : Int), iD (kU u)]
theorem u13 (l : List Int) (m : Nat) (u : RS) (hm : ka1 l = m) (hb : m ≤ 1000000) (hy : Byt l) (hu : kL u ≤ m) : Fun 39 [.c (.ptr 0 0)] (kG [(0, some (59, .ds [D.sl (dI .u8 l) m, iD (((kL u) : Nat) : Int), iD (kU u)]))]) 1 (kT (D.lit (.string (strOfNums (aA l u))))) (kG [(0, some (59, .ds [D.sl (dI .u8 l) m, iD (((kL (qO l u)) : Nat) : Int), iD (kU (qO l u))]))]) 1 := by
  refine Fun.mk (n := 33) Try.func39 rfl rfl (ka5 rfl) ?_
  intro cx hcx
  refine kK [.no] True [(0, rV 0 0)] [(0, some (59, (cI l m u)))] 1 trivial ?_
  refine AW.seq ?_
  by_cases hx1 : ((kU u) ≠ 0)
  · refine zr (kS 4 [.b true]) [0, 10] [0] (((kU u) ≠ 0)) [(0, rV 0 0), (10, bV true)] [(0, some (59, (cI l m u)))] 1 zo ?_
    refine zt ?_
    refine kK [.no] True [(2, kT (D.lit ((.string (ByteArray.mk #[])))))] [(0, some (59, (cI l m u)))] 1 trivial ?_
    have hx2 : kL (qO l u) = kL u := (by rw [(k0m (by omega)).1])
    have hx3 : kU (qO l u) = kU u := (by rw [(k0m (by omega)).1])
    have hz1 : aA l u = [] := (k0m (by omega)).2
    refine AW.ret ?_
    exact kC (.inr rfl) [] (P := ((.string (strOfNums (aA l u)) : Value) = .string (ByteArray.mk #[])) ∧ (([db l m, uD (kL (qO l u)), iD (kU (qO l u))] : List D) = [db l m, uD (kL u), iD (kU u)])) zk ⟨(congrArg (fun x9 => Value.string (strOfNums x9)) (show (aA l u) = ([] : List Int) from (by first | rfl | (rw [hz1]; done) | (rw [hz1]; rfl)))), y4⟩
  · refine zr (kS 4 [.b false]) [0, 10] [0] (¬ ((kU u) ≠ 0)) [(0, rV 0 0), (10, bV false)] [(0, some (59, (cI l m u)))] 1 zo ?_
    refine yM ?_
    by_cases hx4 : ((kL u) = m)
    · refine zr (kS 8 (.call [] (.tup [.c (.d (D.lit (.string (strOfNums ([] : List Int))))), iE 0, iE 4]) [] 0 [] none :: kS 7 [])) [0, 3, 4, 5] [0] _ [(0, rV 0 0), (3, kT (D.lit (.string (strOfNums ([] : List Int))))), (4, iV 0), (5, iV 4)] [(0, some (59, (cI l m u)))] 1 (u4c l m (kL u) zo zo (kP : Byt l) yA) ?_
      refine kK (kS 10 []) True [(3, kT (D.lit (.string (strOfNums ([] : List Int)))))] [(0, some (59, .ds [db l m, iD 0, iD 4]))] 1 trivial ?_
      refine kX [.no, .no] True [(2, kT (D.lit (.string (strOfNums ([] : List Int)))))] trivial ?_
      have hze : fD l (kL u) = 4 := (u21 hm (by omega))
      have hx5 : kL (qO l u) = 0 := (hC zo zo).1
      have hx6 : kU (qO l u) = 4 := ((hC zo zo).2.1.trans hze)
      have hz1 : aA l u = [] := (hC (by omega) (by omega)).2.2
      refine AW.ret ?_
      exact kC (.inr rfl) [] (P := ((.string (strOfNums (aA l u)) : Value) = .string (strOfNums ([] : List Int))) ∧ (([db l m, uD (kL (qO l u)), iD (kU (qO l u))] : List D) = [db l m, iD 0, iD 4])) zk ⟨(congrArg (fun x9 => Value.string (strOfNums x9)) (show (aA l u) = ([] : List Int) from (by first | rfl | (rw [hz1]; done) | (rw [hz1]; rfl)))), y4⟩
    · by_cases hx7 : ((64 : Nat) < (uN l (kL u)))
      · refine zr (kS 8 (.call [] (.tup [.c (.d (D.lit (.string (strOfNums ([] : List Int))))), iE 0, iE 3]) [] 0 [] none :: kS 7 [])) [0, 3, 4, 5] [0] _ [(0, rV 0 0), (3, kT (D.lit (.string (strOfNums ([] : List Int))))), (4, iV 0), (5, iV 3)] [(0, some (59, (cI l m u)))] 1 (u4f l m (kL u) zo zo (kP : Byt l) yA yA) ?_
        refine kK (kS 10 []) True [(3, kT (D.lit (.string (strOfNums ([] : List Int)))))] [(0, some (59, .ds [db l m, iD 0, iD 3]))] 1 trivial ?_
        refine kX [.no, .no] True [(2, kT (D.lit (.string (strOfNums ([] : List Int)))))] trivial ?_
        have hze : fD l (kL u) = 3 := (u23 hm (by omega) (by omega))
        have hx8 : kL (qO l u) = 0 := (hC zo zo).1
        have hx9 : kU (qO l u) = 3 := ((hC zo zo).2.1.trans hze)
        have hz1 : aA l u = [] := (hC (by omega) (by omega)).2.2
        refine AW.ret ?_
        exact kC (.inr rfl) [] (P := ((.string (strOfNums (aA l u)) : Value) = .string (strOfNums ([] : List Int))) ∧ (([db l m, uD (kL (qO l u)), iD (kU (qO l u))] : List D) = [db l m, iD 0, iD 3])) zk ⟨(congrArg (fun x9 => Value.string (strOfNums x9)) (show (aA l u) = ([] : List Int) from (by first | rfl | (rw [hz1]; done) | (rw [hz1]; rfl)))), y4⟩
      · by_cases hx10 : (m < (((kL u) + 1) + (uN l (kL u))))
        · refine zr (kS 8 (.call [] (.tup [.c (.d (D.lit (.string (strOfNums ([] : List Int))))), iE 0, iE 4]) [] 0 [] none :: kS 7 [])) [0, 3, 4, 5] [0] _ [(0, rV 0 0), (3, kT (D.lit (.string (strOfNums ([] : List Int))))), (4, iV 0), (5, iV 4)] [(0, some (59, (cI l m u)))] 1 (u4e l m (kL u) zo zo (kP : Byt l) yA yA yA) ?_
          refine kK (kS 10 []) True [(3, kT (D.lit (.string (strOfNums ([] : List Int)))))] [(0, some (59, .ds [db l m, iD 0, iD 4]))] 1 trivial ?_
          refine kX [.no, .no] True [(2, kT (D.lit (.string (strOfNums ([] : List Int)))))] trivial ?_
          have hze : fD l (kL u) = 4 := (u22 hm (by omega) (by omega) (by omega))
          have hx11 : kL (qO l u) = 0 := (hC zo zo).1
          have hx12 : kU (qO l u) = 4 := ((hC zo zo).2.1.trans hze)
          have hz1 : aA l u = [] := (hC (by omega) (by omega)).2.2
          refine AW.ret ?_
          exact kC (.inr rfl) [] (P := ((.string (strOfNums (aA l u)) : Value) = .string (strOfNums ([] : List Int))) ∧ (([db l m, uD (kL (qO l u)), iD (kU (qO l u))] : List D) = [db l m, iD 0, iD 4])) zk ⟨(congrArg (fun x9 => Value.string (strOfNums x9)) (show (aA l u) = ([] : List Int) from (by first | rfl | (rw [hz1]; done) | (rw [hz1]; rfl)))), y4⟩
        · refine zr (kS 8 (.call [] (.tup [.c (.d (D.lit (.string (strOfNums (ka2 (uN l (kL u)) (ka7 ((kL u) + 1) l)))))), uE (((kL u) + 1) + (uN l (kL u))), iE 0]) [] 0 [] none :: kS 7 [])) [0, 3, 4, 5] [0] _ [(0, rV 0 0), (3, kT (D.lit (.string (strOfNums (ka2 (uN l (kL u)) (ka7 ((kL u) + 1) l)))))), (4, uV (((kL u) + 1) + (uN l (kL u)))), (5, iV 0)] [(0, some (59, (cI l m u)))] 1 (u4d l m (kL u) zo zo (kP : Byt l) yA yA yA) ?_
          refine kK (kS 10 []) True [(3, kT (D.lit (.string (strOfNums (ka2 (uN l (kL u)) (ka7 ((kL u) + 1) l))))))] [(0, some (59, .ds [db l m, uD (((kL u) + 1) + (uN l (kL u))), iD 0]))] 1 trivial ?_
          refine kX [.no, .no] True [(2, kT (D.lit (.string (strOfNums (ka2 (uN l (kL u)) (ka7 ((kL u) + 1) l))))))] trivial ?_
          have hze : fD l (kL u) = 0 := (k0o hm (by omega) (by omega) (by omega))
          have hx13 : kL (qO l u) = kL u + 1 + uN l (kL u) := (k58 zo hze).1
          have hx14 : kU (qO l u) = 0 := (k58 zo hze).2.1
          have hz1 : aA l u = ka2 (uN l (kL u)) (ka7 (kL u + 1) l) := (k58 (by omega) hze).2.2
          refine AW.ret ?_
          exact kC (.inr rfl) [] (P := ((.string (strOfNums (aA l u)) : Value) = .string (strOfNums (ka2 (uN l (kL u)) (ka7 ((kL u) + 1) l)))) ∧ (([db l m, uD (kL (qO l u)), iD (kU (qO l u))] : List D) = [db l m, uD (((kL u) + 1) + (uN l (kL u))), iD 0])) zk ⟨(congrArg (fun x9 => Value.string (strOfNums x9)) (show (aA l u) = (ka2 (uN l (kL u)) (ka7 ((kL u) + 1) l)) from (by first | rfl | (rw [hz1]; done) | (rw [hz1]; rfl)))), y4⟩
end Go.Proofs.Ytalbpleglapihaa
