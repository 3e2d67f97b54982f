/- Readers. No statement is proved here. -/
import Derived.Test.YtalbpleglapihaaZD11A
namespace Go.Proofs.Ytalbpleglapihaa
open Go.ChangeShapes Go.WideShapes Go.ChangeAt Go.RowKit
open List renaming append_nil → kc8, drop → ka7, drop_zero → kc9, getD → ka0, length → ka1, length_append → ka4, length_cons → kb3, length_drop → kb2, length_nil → kb5, length_replicate → kb4, length_set → kc3, length_take → kb1, nil_append → ke7, take → ka2
open Nat renaming le_of_ble_eq_true → ka5, mul_one → kc4, zero_mul → kd4
set_option linter.unusedVariables false
set_option linter.unusedSimpArgs false
/-! chapter 11: readers -/
set_option maxHeartbeats 4000000
set_option maxRecDepth 100000
structure RS where
  a : Nat
  q : Int
def kL (u : RS) : Nat := u.a
def kT (u : RS) : Int := u.q
def kZ : RS := ⟨4, 0⟩
theorem u0p {x : D} {a b c d : Int} (h : a = b) (h2 : c = d) : ([x, iD a, iD c] : List D) = [x, iD b, iD d] := by rw [h, h2]
def kD (s : Nat) (l : List Int) (u : RS) : RS := if u.q = 0 then (if u.a + s ≤ l.length then ⟨u.a + s, 0⟩ else ⟨0, 4⟩) else u
def kV (l : List Int) (u : RS) : Nat := if u.q = 0 ∧ u.a + 2 ≤ l.length then (g16 l u.a).toNat else 0
def yA (l : List Int) (u : RS) : Int := if u.q = 0 ∧ u.a + 4 ≤ l.length then g32 l u.a else 0
def vK (l : List Int) (u : RS) : Int := if u.q = 0 ∧ u.a + 8 ≤ l.length then g64 l u.a else 0
theorem pD {s : Nat} {l : List Int} {u : RS} (h : ¬ kT u = 0) : kD s l u = u := if_neg h
theorem sH {s m : Nat} {l : List Int} {u : RS} (hm : l.length = m) (h : kT u = 0) (h1 : kL u + s ≤ m) : kL (kD s l u) = kL u + s ∧ kT (kD s l u) = 0 := by
  subst hm
  have e : kD s l u = ⟨u.a + s, 0⟩ := by unfold kD; rw [if_pos (show u.q = 0 from h), if_pos (show u.a + s ≤ _ from h1)]
  rw [e]; exact ⟨rfl, rfl⟩
theorem mO {s m : Nat} {l : List Int} {u : RS} (hm : l.length = m) (h : kT u = 0) (h1 : ¬ kL u + s ≤ m) : kL (kD s l u) = 0 ∧ kT (kD s l u) = 4 := by
  subst hm
  have e : kD s l u = ⟨0, 4⟩ := by unfold kD; rw [if_pos (show u.q = 0 from h), if_neg (show ¬ u.a + s ≤ _ from h1)]
  rw [e]; exact ⟨rfl, rfl⟩
theorem uW {s m : Nat} {l : List Int} {u : RS} (hm : l.length = m) (hu : kL u ≤ m) : kL (kD s l u) ≤ m := by
  by_cases h : kT u = 0
  · by_cases h1 : kL u + s ≤ m
    · have := sH hm h h1; omega
    · have := mO hm h h1; omega
  · rw [pD h]; exact hu
theorem u0b {l : List Int} {u : RS} (h : ¬ kT u = 0) : kV l u = 0 := if_neg fun e => h e.1
theorem u08 {l : List Int} {u : RS} (h : ¬ kT u = 0) : yA l u = 0 := if_neg fun e => h e.1
theorem u05 {l : List Int} {u : RS} (h : ¬ kT u = 0) : vK l u = 0 := if_neg fun e => h e.1
theorem u0a {m : Nat} {l : List Int} {u : RS} (hm : l.length = m) (h1 : ¬ kL u + 2 ≤ m) : kV l u = 0 := by subst hm; exact if_neg fun e => h1 e.2
theorem u07 {m : Nat} {l : List Int} {u : RS} (hm : l.length = m) (h1 : ¬ kL u + 4 ≤ m) : yA l u = 0 := by subst hm; exact if_neg fun e => h1 e.2
theorem u04 {m : Nat} {l : List Int} {u : RS} (hm : l.length = m) (h1 : ¬ kL u + 8 ≤ m) : vK l u = 0 := by subst hm; exact if_neg fun e => h1 e.2
theorem u09 {m : Nat} {l : List Int} {u : RS} (hm : l.length = m) (hy : Byt l) (h : kT u = 0) (h1 : kL u + 2 ≤ m) : ((kV l u : Nat) : Int) = g16 l (kL u) := by
  subst hm
  have e : kV l u = (g16 l u.a).toNat := if_pos ⟨h, h1⟩
  rw [e]; exact Int.toNat_of_nonneg (g16_rng hy h1).1
theorem u06 {m : Nat} {l : List Int} {u : RS} (hm : l.length = m) (h : kT u = 0) (h1 : kL u + 4 ≤ m) : yA l u = g32 l (kL u) := by subst hm; exact if_pos ⟨h, h1⟩
theorem u03 {m : Nat} {l : List Int} {u : RS} (hm : l.length = m) (h : kT u = 0) (h1 : kL u + 8 ≤ m) : vK l u = g64 l (kL u) := by subst hm; exact if_pos ⟨h, h1⟩
theorem yE {l : List Int} (hy : Byt l) (u : RS) : kV l u ≤ 65535 := by
  by_cases h : u.q = 0 ∧ u.a + 2 ≤ l.length
  · have e : kV l u = (g16 l u.a).toNat := if_pos h
    have := g16_rng hy h.2; omega
  · have e : kV l u = 0 := if_neg h
    omega
theorem lN {l : List Int} (hy : Byt l) (u : RS) : 0 ≤ yA l u ∧ yA l u ≤ 4294967295 := by
  by_cases h : u.q = 0 ∧ u.a + 4 ≤ l.length
  · have e : yA l u = g32 l u.a := if_pos h
    have := g32_rng hy h.2; omega
  · have e : yA l u = 0 := if_neg h
    omega
theorem tK {l : List Int} (hy : Byt l) (u : RS) : 0 ≤ vK l u ∧ vK l u ≤ 18446744073709551615 := by
  by_cases h : u.q = 0 ∧ u.a + 8 ≤ l.length
  · have e : vK l u = g64 l u.a := if_pos h
    have := g64_rng hy h.2; omega
  · have e : vK l u = 0 := if_neg h
    omega
def uN (l : List Int) (a : Nat) : Nat := (ka0 l a 0).toNat
def eN (l : List Int) (a : Nat) : Int := if a = l.length then 4 else if 64 < uN l a then 3 else if l.length < a + 1 + uN l a then 4 else 0
def qO (l : List Int) (u : RS) : RS := if u.q = 0 then (if eN l u.a = 0 then ⟨u.a + 1 + uN l u.a, 0⟩ else ⟨0, eN l u.a⟩) else u
def vZ (l : List Int) (u : RS) : List Int := if u.q = 0 ∧ eN l u.a = 0 then ka2 (uN l u.a) (ka7 (u.a + 1) l) else []
theorem zS {l : List Int} {a : Nat} (hy : Byt l) (h : a < l.length) : ka0 l a 0 = ((uN l a : Nat) : Int) := by
  have := hy.at a h
  unfold uN; omega
theorem u0d {l : List Int} {a m : Nat} (hm : l.length = m) (h : a = m) : eN l a = 4 := by subst hm; exact if_pos h
theorem u0f {l : List Int} {a m : Nat} (hm : l.length = m) (h : ¬ a = m) (h1 : 64 < uN l a) : eN l a = 3 := by subst hm; unfold eN; rw [if_neg h, if_pos h1]
theorem u0e {l : List Int} {a m : Nat} (hm : l.length = m) (h : ¬ a = m) (h1 : ¬ 64 < uN l a) (h2 : m < a + 1 + uN l a) : eN l a = 4 := by subst hm; unfold eN; rw [if_neg h, if_neg h1, if_pos h2]
theorem zT {l : List Int} {a m : Nat} (hm : l.length = m) (h : ¬ a = m) (h1 : ¬ 64 < uN l a) (h2 : ¬ m < a + 1 + uN l a) : eN l a = 0 := by subst hm; unfold eN; rw [if_neg h, if_neg h1, if_neg h2]
theorem zU {l : List Int} {a m : Nat} (hm : l.length = m) (h : eN l a = 0) : ¬ a = m ∧ uN l a ≤ 64 ∧ a + 1 + uN l a ≤ m := by
  subst hm; unfold eN at h
  split at h
  · omega
  · split at h
    · omega
    · split at h <;> omega
theorem zR {l : List Int} {u : RS} (h : ¬ kT u = 0) : qO l u = u ∧ vZ l u = [] := ⟨if_neg h, if_neg fun e => h e.1⟩
theorem k3z {l : List Int} {u : RS} (h : kT u = 0) (h1 : eN l (kL u) = 0) : kL (qO l u) = kL u + 1 + uN l (kL u) ∧ kT (qO l u) = 0 ∧ vZ l u = ka2 (uN l (kL u)) (ka7 (kL u + 1) l) := by
  have e : qO l u = ⟨u.a + 1 + uN l u.a, 0⟩ := by unfold qO; rw [if_pos (show u.q = 0 from h), if_pos (show eN l u.a = 0 from h1)]
  rw [e]; exact ⟨rfl, rfl, if_pos ⟨h, h1⟩⟩
theorem gI {l : List Int} {u : RS} (h : kT u = 0) (h1 : ¬ eN l (kL u) = 0) : kL (qO l u) = 0 ∧ kT (qO l u) = eN l (kL u) ∧ vZ l u = [] := by
  have e : qO l u = ⟨0, eN l u.a⟩ := by unfold qO; rw [if_pos (show u.q = 0 from h), if_neg (show ¬ eN l u.a = 0 from h1)]
  rw [e]; exact ⟨rfl, rfl, if_neg fun e => h1 e.2⟩
theorem k6c {m : Nat} {l : List Int} {u : RS} (hm : l.length = m) (hu : kL u ≤ m) : kL (qO l u) ≤ m := by
  by_cases h : kT u = 0
  · by_cases h1 : eN l (kL u) = 0
    · have := k3z h h1; have := zU hm h1; omega
    · have := gI h h1; omega
  · rw [(zR h).1]; exact hu
theorem tN {l : List Int} (hy : Byt l) (u : RS) : Byt (vZ l u) := by
  unfold vZ; split
  · exact (hy.drop _).take _
  · exact Byt.nil
theorem lO (l : List Int) (u : RS) : ka1 (vZ l u) ≤ 64 := by
  unfold vZ; split
  · rename_i h; have := zU rfl h.2; rw [kb1]; omega
  · exact Nat.zero_le _
theorem aB {p : Prop} (h : p := by first | omega | rfl | assumption | (simp; done) | (simp; omega)) : p := h
theorem y5 {p : Prop} (h : p := by first | rfl | exact u0p (by omega) (by omega)) : p := h
theorem yC {p : Prop} (h : p := by first | omega | with_reducible assumption | (simp only [kR, kQ, pbL_len, ka4, kb3, kb5, kb1, kb2, kb4, kc3] <;> omega) | rfl | assumption) : p := h
theorem vC (l : List Int) (m : Nat) (u : RS) (hm : ka1 l = m) (hb : m ≤ 1000000) (hy : Byt l) (hu : kL u ≤ m) : Fun 40 [.c (.ptr 0 0)] (kG [(0, some (59, .ds [D.sl (dI .u8 l) m, iD (((kL u) : Nat) : Int), iD (kT u)]))]) 1 (iV (((kV l u) : Nat) : Int)) (kG [(0, some (59, .ds [D.sl (dI .u8 l) m, iD (((kL (kD 2 l u)) : Nat) : Int), iD (kT (kD 2 l u))]))]) 1 := by
  refine Fun.mk (n := 34) Try.func40 rfl rfl (ka5 rfl) ?_
  intro cx hcx
  refine kK [.no] True [(0, rV 0 0)] [(0, some (59, .ds [db l m, uD (kL u), iD (kT u)]))] 1 trivial ?_
  refine AW.seq ?_
  by_cases hx1 : ((kT u) ≠ 0)
  · refine zr (kU 4 [.b true]) [0, 10] [0] (((kT u) ≠ 0)) [(0, rV 0 0), (10, bV true)] [(0, some (59, .ds [db l m, uD (kL u), iD (kT u)]))] 1 zo ?_
    refine zt ?_
    refine kK [.no] True [(2, iV 0)] [(0, some (59, .ds [db l m, uD (kL u), iD (kT u)]))] 1 trivial ?_
    have hx2 : kL (kD 2 l u) = kL u := (by rw [pD (by omega)])
    have hx3 : kT (kD 2 l u) = kT u := (by rw [pD (by omega)])
    have hx4 : ((kV l u : Nat) : Int) = 0 := (by rw [u0b (by omega)]; rfl)
    refine AW.ret ?_
    exact kC (.inr rfl) [] (P := (((kV l u : Int) : Int) = 0) ∧ (([db l m, uD (kL (kD 2 l u)), iD (kT (kD 2 l u))] : List D) = [db l m, uD (kL u), iD (kT u)])) zk ⟨aB, y5⟩
  · refine zr (kU 4 [.b false]) [0, 10] [0] (¬ ((kT u) ≠ 0)) [(0, rV 0 0), (10, bV false)] [(0, some (59, .ds [db l m, uD (kL u), iD (kT u)]))] 1 zo ?_
    refine yY ?_
    by_cases hx5 : (((kL u) + 2) ≤ m)
    · have hx6 : (((0 : Int) ≤ (g16 l (kL u))) ∧ ((g16 l (kL u)) ≤ 65535)) := g16_rng (kS : Byt l) zo
      refine kK (kU 8 (.call [] (.tup [.c (.d (D.lit (.int .u16 (g16 l (kL u))))), uE ((kL u) + 2), iE 0]) [] 0 [] none :: kU 7 [])) _ [(0, rV 0 0), (3, kP (D.lit (.int .u16 (g16 l (kL u))))), (4, uV ((kL u) + 2)), (5, iV 0)] [(0, some (59, .ds [db l m, uD (kL u), iD (kT u)]))] 1 (W_Get16 l m (kL u) zo zo (kS : Byt l) yC) ?_
      refine kK (kU 10 []) True [(3, kP (D.lit (.int .u16 (g16 l (kL u)))))] [(0, some (59, .ds [db l m, uD ((kL u) + 2), iD 0]))] 1 trivial ?_
      refine kX [.no, .w, .no] (qM (g16 l (kL u))) [(2, iV (g16 l (kL u)))] ⟨by omega, by omega⟩ ?_
      have hx7 : kL (kD 2 l u) = kL u + 2 := (sH hm zo zo).1
      have hx8 : kT (kD 2 l u) = 0 := (sH hm zo zo).2
      have hx9 : ((kV l u : Nat) : Int) = g16 l (kL u) := (u09 hm hy zo zo)
      refine AW.ret ?_
      exact kC (.inr rfl) [] (P := (((kV l u : Int) : Int) = (g16 l (kL u))) ∧ (([db l m, uD (kL (kD 2 l u)), iD (kT (kD 2 l u))] : List D) = [db l m, uD ((kL u) + 2), iD 0])) zk ⟨aB, y5⟩
    · refine zr (kU 8 (.call [] (.tup [.c (.d (D.lit (.int .u16 0))), iE 0, iE 4]) [] 0 [] none :: kU 7 [])) [0, 3, 4, 5] [0] _ [(0, rV 0 0), (3, kP (D.lit (.int .u16 0))), (4, iV 0), (5, iV 4)] [(0, some (59, .ds [db l m, uD (kL u), iD (kT u)]))] 1 (W_Get16_s l m (kL u) zo zo (kS : Byt l) yC yC) ?_
      refine kK (kU 10 []) True [(3, kP (D.lit (.int .u16 0)))] [(0, some (59, .ds [db l m, iD 0, iD 4]))] 1 trivial ?_
      refine kX [.no, .w, .no] (qM (0 : Int)) [(2, iV 0)] ⟨by omega, by omega⟩ ?_
      have hx10 : kL (kD 2 l u) = 0 := (mO hm zo zo).1
      have hx11 : kT (kD 2 l u) = 4 := (mO hm zo zo).2
      have hx12 : ((kV l u : Nat) : Int) = 0 := (by rw [u0a hm (by omega)]; rfl)
      refine AW.ret ?_
      exact kC (.inr rfl) [] (P := (((kV l u : Int) : Int) = 0) ∧ (([db l m, uD (kL (kD 2 l u)), iD (kT (kD 2 l u))] : List D) = [db l m, iD 0, iD 4])) zk ⟨aB, y5⟩
theorem nJ (l : List Int) (m : Nat) (u : RS) (hm : ka1 l = m) (hb : m ≤ 1000000) (hy : Byt l) (hu : kL u ≤ m) : Fun 41 [.c (.ptr 0 0)] (kG [(0, some (59, .ds [D.sl (dI .u8 l) m, iD (((kL u) : Nat) : Int), iD (kT u)]))]) 1 (iV (yA l u)) (kG [(0, some (59, .ds [D.sl (dI .u8 l) m, iD (((kL (kD 4 l u)) : Nat) : Int), iD (kT (kD 4 l u))]))]) 1 := by
  refine Fun.mk (n := 34) Try.func41 rfl rfl (ka5 rfl) ?_
  intro cx hcx
  refine kK [.no] True [(0, rV 0 0)] [(0, some (59, .ds [db l m, uD (kL u), iD (kT u)]))] 1 trivial ?_
  refine AW.seq ?_
  by_cases hx1 : ((kT u) ≠ 0)
  · refine zr (kU 4 [.b true]) [0, 10] [0] (((kT u) ≠ 0)) [(0, rV 0 0), (10, bV true)] [(0, some (59, .ds [db l m, uD (kL u), iD (kT u)]))] 1 zo ?_
    refine zt ?_
    refine kK [.no] True [(2, iV 0)] [(0, some (59, .ds [db l m, uD (kL u), iD (kT u)]))] 1 trivial ?_
    have hx2 : kL (kD 4 l u) = kL u := (by rw [pD (by omega)])
    have hx3 : kT (kD 4 l u) = kT u := (by rw [pD (by omega)])
    have hx4 : yA l u = 0 := (by rw [u08 (by omega)])
    refine AW.ret ?_
    exact kC (.inr rfl) [] (P := (((yA l u) : Int) = 0) ∧ (([db l m, uD (kL (kD 4 l u)), iD (kT (kD 4 l u))] : List D) = [db l m, uD (kL u), iD (kT u)])) zk ⟨aB, y5⟩
  · refine zr (kU 4 [.b false]) [0, 10] [0] (¬ ((kT u) ≠ 0)) [(0, rV 0 0), (10, bV false)] [(0, some (59, .ds [db l m, uD (kL u), iD (kT u)]))] 1 zo ?_
    refine yY ?_
    by_cases hx5 : (((kL u) + 4) ≤ m)
    · have hx6 : (((0 : Int) ≤ (g32 l (kL u))) ∧ ((g32 l (kL u)) ≤ 4294967295)) := g32_rng (kS : Byt l) zo
      refine kK (kU 8 (.call [] (.tup [.c (.d (D.lit (.int .u32 (g32 l (kL u))))), uE ((kL u) + 4), iE 0]) [] 0 [] none :: kU 7 [])) _ [(0, rV 0 0), (3, kP (D.lit (.int .u32 (g32 l (kL u))))), (4, uV ((kL u) + 4)), (5, iV 0)] [(0, some (59, .ds [db l m, uD (kL u), iD (kT u)]))] 1 (W_Get32 l m (kL u) zo zo (kS : Byt l) yC) ?_
      refine kK (kU 10 []) True [(3, kP (D.lit (.int .u32 (g32 l (kL u)))))] [(0, some (59, .ds [db l m, uD ((kL u) + 4), iD 0]))] 1 trivial ?_
      refine kX [.no, .w, .no] (qM (g32 l (kL u))) [(2, iV (g32 l (kL u)))] ⟨by omega, by omega⟩ ?_
      have hx7 : kL (kD 4 l u) = kL u + 4 := (sH hm zo zo).1
      have hx8 : kT (kD 4 l u) = 0 := (sH hm zo zo).2
      have hx9 : yA l u = g32 l (kL u) := (u06 hm zo zo)
      refine AW.ret ?_
      exact kC (.inr rfl) [] (P := (((yA l u) : Int) = (g32 l (kL u))) ∧ (([db l m, uD (kL (kD 4 l u)), iD (kT (kD 4 l u))] : List D) = [db l m, uD ((kL u) + 4), iD 0])) zk ⟨aB, y5⟩
    · refine zr (kU 8 (.call [] (.tup [.c (.d (D.lit (.int .u32 0))), iE 0, iE 4]) [] 0 [] none :: kU 7 [])) [0, 3, 4, 5] [0] _ [(0, rV 0 0), (3, kP (D.lit (.int .u32 0))), (4, iV 0), (5, iV 4)] [(0, some (59, .ds [db l m, uD (kL u), iD (kT u)]))] 1 (W_Get32_s l m (kL u) zo zo (kS : Byt l) yC yC) ?_
      refine kK (kU 10 []) True [(3, kP (D.lit (.int .u32 0)))] [(0, some (59, .ds [db l m, iD 0, iD 4]))] 1 trivial ?_
      refine kX [.no, .w, .no] (qM (0 : Int)) [(2, iV 0)] ⟨by omega, by omega⟩ ?_
      have hx10 : kL (kD 4 l u) = 0 := (mO hm zo zo).1
      have hx11 : kT (kD 4 l u) = 4 := (mO hm zo zo).2
      have hx12 : yA l u = 0 := (by rw [u07 hm (by omega)])
      refine AW.ret ?_
      exact kC (.inr rfl) [] (P := (((yA l u) : Int) = 0) ∧ (([db l m, uD (kL (kD 4 l u)), iD (kT (kD 4 l u))] : List D) = [db l m, iD 0, iD 4])) zk ⟨aB, y5⟩
theorem k62 (l : List Int) (m : Nat) (u : RS) (hm : ka1 l = m) (hb : m ≤ 1000000) (hy : Byt l) (hu : kL u ≤ m) : Fun 38 [.c (.ptr 0 0)] (kG [(0, some (59, .ds [D.sl (dI .u8 l) m, iD (((kL u) : Nat) : Int), iD (kT u)]))]) 1 (kP (D.lit (.int .u64 (vK l u)))) (kG [(0, some (59, .ds [D.sl (dI .u8 l) m, iD (((kL (kD 8 l u)) : Nat) : Int), iD (kT (kD 8 l u))]))]) 1 := by
  refine Fun.mk (n := 33) Try.func38 rfl rfl (ka5 rfl) ?_
  intro cx hcx
  refine kK [.no] True [(0, rV 0 0)] [(0, some (59, .ds [db l m, uD (kL u), iD (kT u)]))] 1 trivial ?_
  refine AW.seq ?_
  by_cases hx1 : ((kT u) ≠ 0)
  · refine zr (kU 4 [.b true]) [0, 10] [0] (((kT u) ≠ 0)) [(0, rV 0 0), (10, bV true)] [(0, some (59, .ds [db l m, uD (kL u), iD (kT u)]))] 1 zo ?_
    refine zt ?_
    refine kK [.no] True [(2, kP (D.lit (.int .u64 0)))] [(0, some (59, .ds [db l m, uD (kL u), iD (kT u)]))] 1 trivial ?_
    have hx2 : kL (kD 8 l u) = kL u := (by rw [pD (by omega)])
    have hx3 : kT (kD 8 l u) = kT u := (by rw [pD (by omega)])
    have hx4 : vK l u = 0 := (by rw [u05 (by omega)])
    refine AW.ret ?_
    exact kC (.inr rfl) [] (P := (((vK l u) : Int) = 0) ∧ (([db l m, uD (kL (kD 8 l u)), iD (kT (kD 8 l u))] : List D) = [db l m, uD (kL u), iD (kT u)])) zk ⟨aB, y5⟩
  · refine zr (kU 4 [.b false]) [0, 10] [0] (¬ ((kT u) ≠ 0)) [(0, rV 0 0), (10, bV false)] [(0, some (59, .ds [db l m, uD (kL u), iD (kT u)]))] 1 zo ?_
    refine yY ?_
    by_cases hx5 : (((kL u) + 8) ≤ m)
    · have hx6 : (((0 : Int) ≤ (g64 l (kL u))) ∧ ((g64 l (kL u)) ≤ 18446744073709551615)) := g64_rng (kS : Byt l) zo
      refine kK (kU 8 (.call [] (.tup [.c (.d (D.lit (.int .u64 (g64 l (kL u))))), uE ((kL u) + 8), iE 0]) [] 0 [] none :: kU 7 [])) _ [(0, rV 0 0), (3, kP (D.lit (.int .u64 (g64 l (kL u))))), (4, uV ((kL u) + 8)), (5, iV 0)] [(0, some (59, .ds [db l m, uD (kL u), iD (kT u)]))] 1 (W_Get64 l m (kL u) zo zo (kS : Byt l) yC) ?_
      refine kK (kU 10 []) True [(3, kP (D.lit (.int .u64 (g64 l (kL u)))))] [(0, some (59, .ds [db l m, uD ((kL u) + 8), iD 0]))] 1 trivial ?_
      refine kX [.no, .no] True [(2, kP (D.lit (.int .u64 (g64 l (kL u)))))] trivial ?_
      have hx7 : kL (kD 8 l u) = kL u + 8 := (sH hm zo zo).1
      have hx8 : kT (kD 8 l u) = 0 := (sH hm zo zo).2
      have hx9 : vK l u = g64 l (kL u) := (u03 hm zo zo)
      refine AW.ret ?_
      exact kC (.inr rfl) [] (P := (((vK l u) : Int) = (g64 l (kL u))) ∧ (([db l m, uD (kL (kD 8 l u)), iD (kT (kD 8 l u))] : List D) = [db l m, uD ((kL u) + 8), iD 0])) zk ⟨aB, y5⟩
    · refine zr (kU 8 (.call [] (.tup [.c (.d (D.lit (.int .u64 0))), iE 0, iE 4]) [] 0 [] none :: kU 7 [])) [0, 3, 4, 5] [0] _ [(0, rV 0 0), (3, kP (D.lit (.int .u64 0))), (4, iV 0), (5, iV 4)] [(0, some (59, .ds [db l m, uD (kL u), iD (kT u)]))] 1 (W_Get64_s l m (kL u) zo zo (kS : Byt l) yC yC) ?_
      refine kK (kU 10 []) True [(3, kP (D.lit (.int .u64 0)))] [(0, some (59, .ds [db l m, iD 0, iD 4]))] 1 trivial ?_
      refine kX [.no, .no] True [(2, kP (D.lit (.int .u64 0)))] trivial ?_
      have hx10 : kL (kD 8 l u) = 0 := (mO hm zo zo).1
      have hx11 : kT (kD 8 l u) = 4 := (mO hm zo zo).2
      have hx12 : vK l u = 0 := (by rw [u04 hm (by omega)])
      refine AW.ret ?_
      exact kC (.inr rfl) [] (P := (((vK l u) : Int) = 0) ∧ (([db l m, uD (kL (kD 8 l u)), iD (kT (kD 8 l u))] : List D) = [db l m, iD 0, iD 4])) zk ⟨aB, y5⟩
theorem u2q (l : List Int) (m a : Nat) (hm : ka1 l = m) (hb : m ≤ 1000000) (hy : Byt l) (h1 : a = m) : Fun 55 [.c (.d (D.sl (dI .u8 l) m)), iE ((a : Nat) : Int)] (kG []) 0 (.tup [.c (.d (D.lit (.string (strOfNums ([] : List Int))))), iE 0, iE 4]) (kG []) 0 := by
  refine Fun.mk (n := 47) Try.func55 rfl rfl (ka5 rfl) ?_
  intro cx hcx
  refine kK [.no, .no, .no] True [(0, sV .u8 l m), (1, uV a)] [] 0 trivial ?_
  refine AW.seq ?_
  refine kX (.no :: .b false :: kU 4 [.b false, .no]) ((¬ ((a : Int) < 0)) ∧ (¬ ((m : Int) < (a : Int)))) [(0, sV .u8 l m), (1, uV a), (15, bV false)] ⟨zo, zo⟩ ?_
  refine yY ?_
  refine AW.seq ?_
  refine kX [.no, .no, .no, .b true] (((a : Int) = (m : Int))) [(0, sV .u8 l m), (1, uV a), (19, bV true)] zo ?_
  refine zt ?_
  refine kX [.no, .no, .no] True [(4, kP (D.lit ((.string (ByteArray.mk #[]))))), (5, iV 0), (6, iV 4)] trivial ?_
  refine AW.ret ?_
  exact kC (.inr rfl) [] (P := ((.string (strOfNums ([] : List Int)) : Value) = .string (ByteArray.mk #[])) ∧ (kN 0) ∧ (kN 4)) zk ⟨(congrArg (fun x9 => Value.string (strOfNums x9)) (show ([] : List Int) = ([] : List Int) from rfl)), rfl, rfl⟩
theorem rK {p : Prop} (h : p := by first | omega | (simp only [kR, kQ, pbL_len, ka4, kb3, kb5, kb1, kb2, kb4, kc3] <;> omega)) : p := h
theorem lG {p : Prop} (h : p := by first | omega | (simp only [kR, kQ, pbL_len, qL, ka4, kb3, kb5, kb1, kb2, kb4, kc3, List.length_map, List.length_reverse, kc4] <;> omega) | rfl) : p := h
theorem u2t (l : List Int) (m a : Nat) (hm : ka1 l = m) (hb : m ≤ 1000000) (hy : Byt l) (h1 : a < m) (h2 : 64 < uN l a) : Fun 55 [.c (.d (D.sl (dI .u8 l) m)), iE ((a : Nat) : Int)] (kG []) 0 (.tup [.c (.d (D.lit (.string (strOfNums ([] : List Int))))), iE 0, iE 3]) (kG []) 0 := by
  have hz : ka0 l a 0 = ((uN l a : Nat) : Int) := zS hy (by omega)
  refine Fun.mk (n := 47) Try.func55 rfl rfl (ka5 rfl) ?_
  intro cx hcx
  refine kK [.no, .no, .no] True [(0, sV .u8 l m), (1, uV a)] [] 0 trivial ?_
  refine AW.seq ?_
  refine kX (.no :: .b false :: kU 4 [.b false, .no]) ((¬ ((a : Int) < 0)) ∧ (¬ ((m : Int) < (a : Int)))) [(0, sV .u8 l m), (1, uV a), (15, bV false)] ⟨zo, zo⟩ ?_
  refine yY ?_
  refine AW.seq ?_
  refine kX [.no, .no, .no, .b false] (¬ ((a : Int) = (m : Int))) [(0, sV .u8 l m), (1, uV a), (19, bV false)] zo ?_
  refine yY ?_
  have hx1 : 0 ≤ (ka0 l a 0) ∧ (ka0 l a 0) ≤ 255 := (kS : Byt l).at _ rK
  refine kX [.no, .no, .n a, .d (D.lit (.int .u8 (uN l a : Int))), .w, .no] ((kN (a : Int)) ∧ (a < m) ∧ ((ka7 a (dI .u8 l))[0]? = some (D.lit (.int .u8 (uN l a : Int)))) ∧ (qM (uN l a : Int))) [(0, sV .u8 l m), (1, uV a), (7, uV (uN l a))] ⟨rfl, zo, (by rw [show (uN l a : Int) = (ka0 l a 0) by omega]; exact qU _ _ _ lG), ⟨by omega, by omega⟩⟩ ?_
  refine AW.seq ?_
  refine kX [.no, .b true] (((64 : Int) < (uN l a : Int))) [(0, sV .u8 l m), (1, uV a), (7, uV (uN l a)), (26, bV true)] zo ?_
  refine zt ?_
  refine kX [.no, .no, .no] True [(4, kP (D.lit ((.string (ByteArray.mk #[]))))), (5, iV 0), (6, iV 3)] trivial ?_
  refine AW.ret ?_
  exact kC (.inr rfl) [] (P := ((.string (strOfNums ([] : List Int)) : Value) = .string (ByteArray.mk #[])) ∧ (kN 0) ∧ (kN 3)) zk ⟨(congrArg (fun x9 => Value.string (strOfNums x9)) (show ([] : List Int) = ([] : List Int) from rfl)), rfl, rfl⟩
theorem u2s (l : List Int) (m a : Nat) (hm : ka1 l = m) (hb : m ≤ 1000000) (hy : Byt l) (h1 : a < m) (h2 : ¬ 64 < uN l a) (h3 : m < a + 1 + uN l a) : Fun 55 [.c (.d (D.sl (dI .u8 l) m)), iE ((a : Nat) : Int)] (kG []) 0 (.tup [.c (.d (D.lit (.string (strOfNums ([] : List Int))))), iE 0, iE 4]) (kG []) 0 := by
  have hz : ka0 l a 0 = ((uN l a : Nat) : Int) := zS hy (by omega)
  refine Fun.mk (n := 47) Try.func55 rfl rfl (ka5 rfl) ?_
  intro cx hcx
  refine kK [.no, .no, .no] True [(0, sV .u8 l m), (1, uV a)] [] 0 trivial ?_
  refine AW.seq ?_
  refine kX (.no :: .b false :: kU 4 [.b false, .no]) ((¬ ((a : Int) < 0)) ∧ (¬ ((m : Int) < (a : Int)))) [(0, sV .u8 l m), (1, uV a), (15, bV false)] ⟨zo, zo⟩ ?_
  refine yY ?_
  refine AW.seq ?_
  refine kX [.no, .no, .no, .b false] (¬ ((a : Int) = (m : Int))) [(0, sV .u8 l m), (1, uV a), (19, bV false)] zo ?_
  refine yY ?_
  have hx1 : 0 ≤ (ka0 l a 0) ∧ (ka0 l a 0) ≤ 255 := (kS : Byt l).at _ rK
  refine kX [.no, .no, .n a, .d (D.lit (.int .u8 (uN l a : Int))), .w, .no] ((kN (a : Int)) ∧ (a < m) ∧ ((ka7 a (dI .u8 l))[0]? = some (D.lit (.int .u8 (uN l a : Int)))) ∧ (qM (uN l a : Int))) [(0, sV .u8 l m), (1, uV a), (7, uV (uN l a))] ⟨rfl, zo, (by rw [show (uN l a : Int) = (ka0 l a 0) by omega]; exact qU _ _ _ lG), ⟨by omega, by omega⟩⟩ ?_
  refine AW.seq ?_
  refine kX [.no, .b false] (¬ ((64 : Int) < (uN l a : Int))) [(0, sV .u8 l m), (1, uV a), (7, uV (uN l a)), (26, bV false)] zo ?_
  refine yY ?_
  refine AW.seq ?_
  refine kX [.no, .no, .no, .w, .w, .no, .b true] ((qM ((m : Int) - (a : Int))) ∧ (qM (((m : Int) - (a : Int)) - 1)) ∧ (((((m : Int) - (a : Int)) - 1) < (uN l a : Int)))) [(0, sV .u8 l m), (1, uV a), (7, uV (uN l a)), (33, bV true)] ⟨⟨by omega, by omega⟩, ⟨by omega, by omega⟩, zo⟩ ?_
  refine zt ?_
  refine kX [.no, .no, .no] True [(4, kP (D.lit ((.string (ByteArray.mk #[]))))), (5, iV 0), (6, iV 4)] trivial ?_
  refine AW.ret ?_
  exact kC (.inr rfl) [] (P := ((.string (strOfNums ([] : List Int)) : Value) = .string (ByteArray.mk #[])) ∧ (kN 0) ∧ (kN 4)) zk ⟨(congrArg (fun x9 => Value.string (strOfNums x9)) (show ([] : List Int) = ([] : List Int) from rfl)), rfl, rfl⟩
theorem u2r (l : List Int) (m a : Nat) (hm : ka1 l = m) (hb : m ≤ 1000000) (hy : Byt l) (h1 : a < m) (h2 : ¬ 64 < uN l a) (h3 : ¬ m < a + 1 + uN l a) : Fun 55 [.c (.d (D.sl (dI .u8 l) m)), iE ((a : Nat) : Int)] (kG []) 0 (.tup [.c (.d (D.lit (.string (strOfNums (ka2 (uN l a) (ka7 (a + 1) l)))))), iE ((((a + 1) + (uN l a)) : Nat) : Int), iE 0]) (kG []) 0 := by
  have hz : ka0 l a 0 = ((uN l a : Nat) : Int) := zS hy (by omega)
  refine Fun.mk (n := 47) Try.func55 rfl rfl (ka5 rfl) ?_
  intro cx hcx
  refine kK [.no, .no, .no] True [(0, sV .u8 l m), (1, uV a)] [] 0 trivial ?_
  refine AW.seq ?_
  refine kX (.no :: .b false :: kU 4 [.b false, .no]) ((¬ ((a : Int) < 0)) ∧ (¬ ((m : Int) < (a : Int)))) [(0, sV .u8 l m), (1, uV a), (15, bV false)] ⟨zo, zo⟩ ?_
  refine yY ?_
  refine AW.seq ?_
  refine kX [.no, .no, .no, .b false] (¬ ((a : Int) = (m : Int))) [(0, sV .u8 l m), (1, uV a), (19, bV false)] zo ?_
  refine yY ?_
  have hx1 : 0 ≤ (ka0 l a 0) ∧ (ka0 l a 0) ≤ 255 := (kS : Byt l).at _ rK
  refine kX [.no, .no, .n a, .d (D.lit (.int .u8 (uN l a : Int))), .w, .no] ((kN (a : Int)) ∧ (a < m) ∧ ((ka7 a (dI .u8 l))[0]? = some (D.lit (.int .u8 (uN l a : Int)))) ∧ (qM (uN l a : Int))) [(0, sV .u8 l m), (1, uV a), (7, uV (uN l a))] ⟨rfl, zo, (by rw [show (uN l a : Int) = (ka0 l a 0) by omega]; exact qU _ _ _ lG), ⟨by omega, by omega⟩⟩ ?_
  refine AW.seq ?_
  refine kX [.no, .b false] (¬ ((64 : Int) < (uN l a : Int))) [(0, sV .u8 l m), (1, uV a), (7, uV (uN l a)), (26, bV false)] zo ?_
  refine yY ?_
  refine AW.seq ?_
  refine kX [.no, .no, .no, .w, .w, .no, .b false] ((qM ((m : Int) - (a : Int))) ∧ (qM (((m : Int) - (a : Int)) - 1)) ∧ (¬ ((((m : Int) - (a : Int)) - 1) < (uN l a : Int)))) [(0, sV .u8 l m), (1, uV a), (7, uV (uN l a)), (33, bV false)] ⟨⟨by omega, by omega⟩, ⟨by omega, by omega⟩, zo⟩ ?_
  refine yY ?_
  refine kX [.no, .no, .w, .no, .w, .no, .w, .sls (a + 1) ((a + 1) + (uN l a)) (uN l a) (dI .u8 (ka2 (uN l a) (ka7 (a + 1) l))), .st none (ka2 (uN l a) (ka7 (a + 1) l)), .no, .w, .no, .w, .no, .no, .no] ((qM ((a : Int) + 1)) ∧ (qM ((a : Int) + 1)) ∧ (qM (((a : Int) + 1) + (uN l a : Int))) ∧ ((((a : Int) + 1) : Int) = (((a + 1) : Nat) : Int)) ∧ (((((a : Int) + 1) + (uN l a : Int)) : Int) = ((((a + 1) + (uN l a)) : Nat) : Int)) ∧ ((a + 1) ≤ ((a + 1) + (uN l a))) ∧ (((a + 1) + (uN l a)) ≤ m) ∧ (((a + 1) + (uN l a)) - (a + 1) = (uN l a)) ∧ (ka2 ((uN l a) * 1) (ka7 ((a + 1) * 1) (dI .u8 l)) = (dI .u8 (ka2 (uN l a) (ka7 (a + 1) l)))) ∧ ((dI .u8 (ka2 (uN l a) (ka7 (a + 1) l))).length = (uN l a) * 1) ∧ (k9 (dI .u8 (ka2 (uN l a) (ka7 (a + 1) l)))) ∧ (qM ((a : Int) + 1)) ∧ (qM (((a : Int) + 1) + (uN l a : Int)))) [(4, kP (D.lit (.string (strOfNums (ka2 (uN l a) (ka7 (a + 1) l)))))), (5, iV ((↑a + 1) + (uN l a : Int))), (6, iV 0)] ⟨⟨by omega, by omega⟩, ⟨by omega, by omega⟩, ⟨by omega, by omega⟩, (by first | rfl | omega), (by first | rfl | omega), zo, zo, zo, (by first | rfl | with_reducible assumption | exact qK _ _ _ | exact aJ _ _ _ | (simp only [u6, qT, qK, kc4, kd4, kc9, ke7, kc8]; done) | (simp only [u6, qT, qK, kc4, kd4, kc9, ke7, kc8]; rfl) | (rw [List.take_of_length_le (by simp only [kR, kQ, pbL_len, qL, kb2, kb4, kc4] <;> omega)]; first | rfl | (simp only [qT, kc4, kd4, kc9]; done) | (simp only [qT, kc4, kd4, kc9]; rfl))), lG, rfl, ⟨by omega, by omega⟩, ⟨by omega, by omega⟩⟩ ?_
  refine AW.ret ?_
  exact kC (.inr rfl) [] (P := ((.string (strOfNums (ka2 (uN l a) (ka7 (a + 1) l))) : Value) = .string (strOfNums (ka2 (uN l a) (ka7 (a + 1) l)))) ∧ ((((((a + 1) + (uN l a)) : Nat) : Int) : Int) = (((a : Int) + 1) + (uN l a : Int))) ∧ (kN 0)) zk ⟨rfl, aB, rfl⟩
abbrev bP (l : List Int) (m : Nat) (u : RS) : BC := .ds [D.sl (dI .u8 l) m, iD (((kL u) : Nat) : Int), iD (kT u)]
theorem k9j (l : List Int) (m : Nat) (u : RS) (hm : ka1 l = m) (hb : m ≤ 1000000) (hy : Byt l) (hu : kL u ≤ m) : Fun 39 [.c (.ptr 0 0)] (kG [(0, some (59, .ds [D.sl (dI .u8 l) m, iD (((kL u) : Nat) : Int), iD (kT u)]))]) 1 (kP (D.lit (.string (strOfNums (vZ l u))))) (kG [(0, some (59, .ds [D.sl (dI .u8 l) m, iD (((kL (qO l u)) : Nat) : Int), iD (kT (qO l u))]))]) 1 := by
  refine Fun.mk (n := 33) Try.func39 rfl rfl (ka5 rfl) ?_
  intro cx hcx
  refine kK [.no] True [(0, rV 0 0)] [(0, some (59, (bP l m u)))] 1 trivial ?_
  refine AW.seq ?_
  by_cases hx1 : ((kT u) ≠ 0)
  · refine zr (kU 4 [.b true]) [0, 10] [0] (((kT u) ≠ 0)) [(0, rV 0 0), (10, bV true)] [(0, some (59, (bP l m u)))] 1 zo ?_
    refine zt ?_
    refine kK [.no] True [(2, kP (D.lit ((.string (ByteArray.mk #[])))))] [(0, some (59, (bP l m u)))] 1 trivial ?_
    have hx2 : kL (qO l u) = kL u := (by rw [(zR (by omega)).1])
    have hx3 : kT (qO l u) = kT u := (by rw [(zR (by omega)).1])
    have hz1 : vZ l u = [] := (zR (by omega)).2
    refine AW.ret ?_
    exact kC (.inr rfl) [] (P := ((.string (strOfNums (vZ l u)) : Value) = .string (ByteArray.mk #[])) ∧ (([db l m, uD (kL (qO l u)), iD (kT (qO l u))] : List D) = [db l m, uD (kL u), iD (kT u)])) zk ⟨(congrArg (fun x9 => Value.string (strOfNums x9)) (show (vZ l u) = ([] : List Int) from (by first | rfl | (rw [hz1]; done) | (rw [hz1]; rfl)))), y5⟩
  · refine zr (kU 4 [.b false]) [0, 10] [0] (¬ ((kT u) ≠ 0)) [(0, rV 0 0), (10, bV false)] [(0, some (59, (bP l m u)))] 1 zo ?_
    refine yY ?_
    by_cases hx4 : ((kL u) = m)
    · refine zr (kU 8 (.call [] (.tup [.c (.d (D.lit (.string (strOfNums ([] : List Int))))), iE 0, iE 4]) [] 0 [] none :: kU 7 [])) [0, 3, 4, 5] [0] _ [(0, rV 0 0), (3, kP (D.lit (.string (strOfNums ([] : List Int))))), (4, iV 0), (5, iV 4)] [(0, some (59, (bP l m u)))] 1 (u2q l m (kL u) zo zo (kS : Byt l) yC) ?_
      refine kK (kU 10 []) True [(3, kP (D.lit (.string (strOfNums ([] : List Int)))))] [(0, some (59, .ds [db l m, iD 0, iD 4]))] 1 trivial ?_
      refine kX [.no, .no] True [(2, kP (D.lit (.string (strOfNums ([] : List Int)))))] trivial ?_
      have hze : eN l (kL u) = 4 := (u0d hm (by omega))
      have hx5 : kL (qO l u) = 0 := (gI zo zo).1
      have hx6 : kT (qO l u) = 4 := ((gI zo zo).2.1.trans hze)
      have hz1 : vZ l u = [] := (gI (by omega) (by omega)).2.2
      refine AW.ret ?_
      exact kC (.inr rfl) [] (P := ((.string (strOfNums (vZ l u)) : Value) = .string (strOfNums ([] : List Int))) ∧ (([db l m, uD (kL (qO l u)), iD (kT (qO l u))] : List D) = [db l m, iD 0, iD 4])) zk ⟨(congrArg (fun x9 => Value.string (strOfNums x9)) (show (vZ l u) = ([] : List Int) from (by first | rfl | (rw [hz1]; done) | (rw [hz1]; rfl)))), y5⟩
    · by_cases hx7 : ((64 : Nat) < (uN l (kL u)))
      · refine zr (kU 8 (.call [] (.tup [.c (.d (D.lit (.string (strOfNums ([] : List Int))))), iE 0, iE 3]) [] 0 [] none :: kU 7 [])) [0, 3, 4, 5] [0] _ [(0, rV 0 0), (3, kP (D.lit (.string (strOfNums ([] : List Int))))), (4, iV 0), (5, iV 3)] [(0, some (59, (bP l m u)))] 1 (u2t l m (kL u) zo zo (kS : Byt l) yC yC) ?_
        refine kK (kU 10 []) True [(3, kP (D.lit (.string (strOfNums ([] : List Int)))))] [(0, some (59, .ds [db l m, iD 0, iD 3]))] 1 trivial ?_
        refine kX [.no, .no] True [(2, kP (D.lit (.string (strOfNums ([] : List Int)))))] trivial ?_
        have hze : eN l (kL u) = 3 := (u0f hm (by omega) (by omega))
        have hx8 : kL (qO l u) = 0 := (gI zo zo).1
        have hx9 : kT (qO l u) = 3 := ((gI zo zo).2.1.trans hze)
        have hz1 : vZ l u = [] := (gI (by omega) (by omega)).2.2
        refine AW.ret ?_
        exact kC (.inr rfl) [] (P := ((.string (strOfNums (vZ l u)) : Value) = .string (strOfNums ([] : List Int))) ∧ (([db l m, uD (kL (qO l u)), iD (kT (qO l u))] : List D) = [db l m, iD 0, iD 3])) zk ⟨(congrArg (fun x9 => Value.string (strOfNums x9)) (show (vZ l u) = ([] : List Int) from (by first | rfl | (rw [hz1]; done) | (rw [hz1]; rfl)))), y5⟩
      · by_cases hx10 : (m < (((kL u) + 1) + (uN l (kL u))))
        · refine zr (kU 8 (.call [] (.tup [.c (.d (D.lit (.string (strOfNums ([] : List Int))))), iE 0, iE 4]) [] 0 [] none :: kU 7 [])) [0, 3, 4, 5] [0] _ [(0, rV 0 0), (3, kP (D.lit (.string (strOfNums ([] : List Int))))), (4, iV 0), (5, iV 4)] [(0, some (59, (bP l m u)))] 1 (u2s l m (kL u) zo zo (kS : Byt l) yC yC yC) ?_
          refine kK (kU 10 []) True [(3, kP (D.lit (.string (strOfNums ([] : List Int)))))] [(0, some (59, .ds [db l m, iD 0, iD 4]))] 1 trivial ?_
          refine kX [.no, .no] True [(2, kP (D.lit (.string (strOfNums ([] : List Int)))))] trivial ?_
          have hze : eN l (kL u) = 4 := (u0e hm (by omega) (by omega) (by omega))
          have hx11 : kL (qO l u) = 0 := (gI zo zo).1
          have hx12 : kT (qO l u) = 4 := ((gI zo zo).2.1.trans hze)
          have hz1 : vZ l u = [] := (gI (by omega) (by omega)).2.2
          refine AW.ret ?_
          exact kC (.inr rfl) [] (P := ((.string (strOfNums (vZ l u)) : Value) = .string (strOfNums ([] : List Int))) ∧ (([db l m, uD (kL (qO l u)), iD (kT (qO l u))] : List D) = [db l m, iD 0, iD 4])) zk ⟨(congrArg (fun x9 => Value.string (strOfNums x9)) (show (vZ l u) = ([] : List Int) from (by first | rfl | (rw [hz1]; done) | (rw [hz1]; rfl)))), y5⟩
        · refine zr (kU 8 (.call [] (.tup [.c (.d (D.lit (.string (strOfNums (ka2 (uN l (kL u)) (ka7 ((kL u) + 1) l)))))), uE (((kL u) + 1) + (uN l (kL u))), iE 0]) [] 0 [] none :: kU 7 [])) [0, 3, 4, 5] [0] _ [(0, rV 0 0), (3, kP (D.lit (.string (strOfNums (ka2 (uN l (kL u)) (ka7 ((kL u) + 1) l)))))), (4, uV (((kL u) + 1) + (uN l (kL u)))), (5, iV 0)] [(0, some (59, (bP l m u)))] 1 (u2r l m (kL u) zo zo (kS : Byt l) yC yC yC) ?_
          refine kK (kU 10 []) True [(3, kP (D.lit (.string (strOfNums (ka2 (uN l (kL u)) (ka7 ((kL u) + 1) l))))))] [(0, some (59, .ds [db l m, uD (((kL u) + 1) + (uN l (kL u))), iD 0]))] 1 trivial ?_
          refine kX [.no, .no] True [(2, kP (D.lit (.string (strOfNums (ka2 (uN l (kL u)) (ka7 ((kL u) + 1) l))))))] trivial ?_
          have hze : eN l (kL u) = 0 := (zT hm (by omega) (by omega) (by omega))
          have hx13 : kL (qO l u) = kL u + 1 + uN l (kL u) := (k3z zo hze).1
          have hx14 : kT (qO l u) = 0 := (k3z zo hze).2.1
          have hz1 : vZ l u = ka2 (uN l (kL u)) (ka7 (kL u + 1) l) := (k3z (by omega) hze).2.2
          refine AW.ret ?_
          exact kC (.inr rfl) [] (P := ((.string (strOfNums (vZ l u)) : Value) = .string (strOfNums (ka2 (uN l (kL u)) (ka7 ((kL u) + 1) l)))) ∧ (([db l m, uD (kL (qO l u)), iD (kT (qO l u))] : List D) = [db l m, uD (((kL u) + 1) + (uN l (kL u))), iD 0])) zk ⟨(congrArg (fun x9 => Value.string (strOfNums x9)) (show (vZ l u) = (ka2 (uN l (kL u)) (ka7 ((kL u) + 1) l)) from (by first | rfl | (rw [hz1]; done) | (rw [hz1]; rfl)))), y5⟩
end Go.Proofs.Ytalbpleglapihaa
