/- Readers. No statement is proved here. -/
import Derived.Test.YtalbpleglapihaaZD11A
namespace Go.Proofs.Ytalbpleglapihaa
open Go.ChangeShapes Go.WideShapes Go.ChangeAt Go.RowKit
set_option linter.unusedVariables false
set_option linter.unusedSimpArgs false
/-! chapter 11: readers -/
set_option maxHeartbeats 4000000
set_option maxRecDepth 100000
structure RS where
  a : Nat
  q : Int
def kL (u : RS) : Nat := u.a
def kT (u : RS) : Int := u.q
def kY : RS := ⟨4, 0⟩
theorem u0j {x : D} {a b c d : Int} (h : a = b) (h2 : c = d) : ([x, iD a, iD c] : List D) = [x, iD b, iD d] := by rw [h, h2]
def kD (s : Nat) (l : List Int) (u : RS) : RS := if u.q = 0 then (if u.a + s ≤ l.length then ⟨u.a + s, 0⟩ else ⟨0, 4⟩) else u
def kV (l : List Int) (u : RS) : Nat := if u.q = 0 ∧ u.a + 2 ≤ l.length then (g16 l u.a).toNat else 0
def u9 (l : List Int) (u : RS) : Int := if u.q = 0 ∧ u.a + 4 ≤ l.length then g32 l u.a else 0
def vJ (l : List Int) (u : RS) : Int := if u.q = 0 ∧ u.a + 8 ≤ l.length then g64 l u.a else 0
theorem o9 {s : Nat} {l : List Int} {u : RS} (h : ¬ kT u = 0) : kD s l u = u := if_neg h
theorem sD {s m : Nat} {l : List Int} {u : RS} (hm : l.length = m) (h : kT u = 0) (h1 : kL u + s ≤ m) : kL (kD s l u) = kL u + s ∧ kT (kD s l u) = 0 := by
  subst hm
  have e : kD s l u = ⟨u.a + s, 0⟩ := by unfold kD; rw [if_pos (show u.q = 0 from h), if_pos (show u.a + s ≤ _ from h1)]
  rw [e]; exact ⟨rfl, rfl⟩
theorem mJ {s m : Nat} {l : List Int} {u : RS} (hm : l.length = m) (h : kT u = 0) (h1 : ¬ kL u + s ≤ m) : kL (kD s l u) = 0 ∧ kT (kD s l u) = 4 := by
  subst hm
  have e : kD s l u = ⟨0, 4⟩ := by unfold kD; rw [if_pos (show u.q = 0 from h), if_neg (show ¬ u.a + s ≤ _ from h1)]
  rw [e]; exact ⟨rfl, rfl⟩
theorem uW {s m : Nat} {l : List Int} {u : RS} (hm : l.length = m) (hu : kL u ≤ m) : kL (kD s l u) ≤ m := by
  by_cases h : kT u = 0
  · by_cases h1 : kL u + s ≤ m
    · have := sD hm h h1; omega
    · have := mJ hm h h1; omega
  · rw [o9 h]; exact hu
theorem u05 {l : List Int} {u : RS} (h : ¬ kT u = 0) : kV l u = 0 := if_neg fun e => h e.1
theorem u02 {l : List Int} {u : RS} (h : ¬ kT u = 0) : u9 l u = 0 := if_neg fun e => h e.1
theorem k9z {l : List Int} {u : RS} (h : ¬ kT u = 0) : vJ l u = 0 := if_neg fun e => h e.1
theorem u04 {m : Nat} {l : List Int} {u : RS} (hm : l.length = m) (h1 : ¬ kL u + 2 ≤ m) : kV l u = 0 := by subst hm; exact if_neg fun e => h1 e.2
theorem u01 {m : Nat} {l : List Int} {u : RS} (hm : l.length = m) (h1 : ¬ kL u + 4 ≤ m) : u9 l u = 0 := by subst hm; exact if_neg fun e => h1 e.2
theorem k9y {m : Nat} {l : List Int} {u : RS} (hm : l.length = m) (h1 : ¬ kL u + 8 ≤ m) : vJ l u = 0 := by subst hm; exact if_neg fun e => h1 e.2
theorem u03 {m : Nat} {l : List Int} {u : RS} (hm : l.length = m) (hy : Byt l) (h : kT u = 0) (h1 : kL u + 2 ≤ m) : ((kV l u : Nat) : Int) = g16 l (kL u) := by
  subst hm
  have e : kV l u = (g16 l u.a).toNat := if_pos ⟨h, h1⟩
  rw [e]; exact Int.toNat_of_nonneg (g16_rng hy h1).1
theorem u00 {m : Nat} {l : List Int} {u : RS} (hm : l.length = m) (h : kT u = 0) (h1 : kL u + 4 ≤ m) : u9 l u = g32 l (kL u) := by subst hm; exact if_pos ⟨h, h1⟩
theorem k9x {m : Nat} {l : List Int} {u : RS} (hm : l.length = m) (h : kT u = 0) (h1 : kL u + 8 ≤ m) : vJ l u = g64 l (kL u) := by subst hm; exact if_pos ⟨h, h1⟩
theorem yD {l : List Int} (hy : Byt l) (u : RS) : kV l u ≤ 65535 := by
  by_cases h : u.q = 0 ∧ u.a + 2 ≤ l.length
  · have e : kV l u = (g16 l u.a).toNat := if_pos h
    have := g16_rng hy h.2; omega
  · have e : kV l u = 0 := if_neg h
    omega
theorem lJ {l : List Int} (hy : Byt l) (u : RS) : 0 ≤ u9 l u ∧ u9 l u ≤ 4294967295 := by
  by_cases h : u.q = 0 ∧ u.a + 4 ≤ l.length
  · have e : u9 l u = g32 l u.a := if_pos h
    have := g32_rng hy h.2; omega
  · have e : u9 l u = 0 := if_neg h
    omega
theorem tG {l : List Int} (hy : Byt l) (u : RS) : 0 ≤ vJ l u ∧ vJ l u ≤ 18446744073709551615 := by
  by_cases h : u.q = 0 ∧ u.a + 8 ≤ l.length
  · have e : vJ l u = g64 l u.a := if_pos h
    have := g64_rng hy h.2; omega
  · have e : vJ l u = 0 := if_neg h
    omega
def uN (l : List Int) (a : Nat) : Nat := (List.getD l a 0).toNat
def eI (l : List Int) (a : Nat) : Int := if a = l.length then 4 else if 64 < uN l a then 3 else if l.length < a + 1 + uN l a then 4 else 0
def qO (l : List Int) (u : RS) : RS := if u.q = 0 then (if eI l u.a = 0 then ⟨u.a + 1 + uN l u.a, 0⟩ else ⟨0, eI l u.a⟩) else u
def vY (l : List Int) (u : RS) : List Int := if u.q = 0 ∧ eI l u.a = 0 then List.take (uN l u.a) (List.drop (u.a + 1) l) else []
theorem zN {l : List Int} {a : Nat} (hy : Byt l) (h : a < l.length) : List.getD l a 0 = ((uN l a : Nat) : Int) := by
  have := hy.at a h
  unfold uN; omega
theorem u07 {l : List Int} {a m : Nat} (hm : l.length = m) (h : a = m) : eI l a = 4 := by subst hm; exact if_pos h
theorem u09 {l : List Int} {a m : Nat} (hm : l.length = m) (h : ¬ a = m) (h1 : 64 < uN l a) : eI l a = 3 := by subst hm; unfold eI; rw [if_neg h, if_pos h1]
theorem u08 {l : List Int} {a m : Nat} (hm : l.length = m) (h : ¬ a = m) (h1 : ¬ 64 < uN l a) (h2 : m < a + 1 + uN l a) : eI l a = 4 := by subst hm; unfold eI; rw [if_neg h, if_neg h1, if_pos h2]
theorem zO {l : List Int} {a m : Nat} (hm : l.length = m) (h : ¬ a = m) (h1 : ¬ 64 < uN l a) (h2 : ¬ m < a + 1 + uN l a) : eI l a = 0 := by subst hm; unfold eI; rw [if_neg h, if_neg h1, if_neg h2]
theorem zP {l : List Int} {a m : Nat} (hm : l.length = m) (h : eI l a = 0) : ¬ a = m ∧ uN l a ≤ 64 ∧ a + 1 + uN l a ≤ m := by
  subst hm; unfold eI at h
  split at h
  · omega
  · split at h
    · omega
    · split at h <;> omega
theorem zM {l : List Int} {u : RS} (h : ¬ kT u = 0) : qO l u = u ∧ vY l u = [] := ⟨if_neg h, if_neg fun e => h e.1⟩
theorem k3s {l : List Int} {u : RS} (h : kT u = 0) (h1 : eI l (kL u) = 0) : kL (qO l u) = kL u + 1 + uN l (kL u) ∧ kT (qO l u) = 0 ∧ vY l u = List.take (uN l (kL u)) (List.drop (kL u + 1) l) := by
  have e : qO l u = ⟨u.a + 1 + uN l u.a, 0⟩ := by unfold qO; rw [if_pos (show u.q = 0 from h), if_pos (show eI l u.a = 0 from h1)]
  rw [e]; exact ⟨rfl, rfl, if_pos ⟨h, h1⟩⟩
theorem gE {l : List Int} {u : RS} (h : kT u = 0) (h1 : ¬ eI l (kL u) = 0) : kL (qO l u) = 0 ∧ kT (qO l u) = eI l (kL u) ∧ vY l u = [] := by
  have e : qO l u = ⟨0, eI l u.a⟩ := by unfold qO; rw [if_pos (show u.q = 0 from h), if_neg (show ¬ eI l u.a = 0 from h1)]
  rw [e]; exact ⟨rfl, rfl, if_neg fun e => h1 e.2⟩
theorem k66 {m : Nat} {l : List Int} {u : RS} (hm : l.length = m) (hu : kL u ≤ m) : kL (qO l u) ≤ m := by
  by_cases h : kT u = 0
  · by_cases h1 : eI l (kL u) = 0
    · have := k3s h h1; have := zP hm h1; omega
    · have := gE h h1; omega
  · rw [(zM h).1]; exact hu
theorem tJ {l : List Int} (hy : Byt l) (u : RS) : Byt (vY l u) := by
  unfold vY; split
  · exact (hy.drop _).take _
  · exact Byt.nil
theorem lK (l : List Int) (u : RS) : List.length (vY l u) ≤ 64 := by
  unfold vY; split
  · rename_i h; have := zP rfl h.2; rw [List.length_take]; omega
  · exact Nat.zero_le _
theorem v9 {p : Prop} (h : p := by first | omega | rfl | assumption | (simp; done) | (simp; omega)) : p := h
theorem y4 {p : Prop} (h : p := by first | rfl | exact u0j (by omega) (by omega)) : p := h
theorem yB {p : Prop} (h : p := by first | omega | with_reducible assumption | (simp only [kR, kQ, pbL_len, List.length_append, List.length_cons, List.length_nil, List.length_take, List.length_drop, List.length_replicate, List.length_set] <;> omega) | rfl | assumption) : p := h
theorem vB (l : List Int) (m : Nat) (u : RS) (hm : List.length l = m) (hb : m ≤ 1000000) (hy : Byt l) (hu : kL u ≤ m) : Fun 40 [.c (.ptr 0 0)] (kG [(0, some (59, .ds [D.sl (dI .u8 l) m, iD (((kL u) : Nat) : Int), iD (kT u)]))]) 1 (iV (((kV l u) : Nat) : Int)) (kG [(0, some (59, .ds [D.sl (dI .u8 l) m, iD (((kL (kD 2 l u)) : Nat) : Int), iD (kT (kD 2 l u))]))]) 1 := by
  refine Fun.mk (n := 34) Try.func40 rfl rfl (Nat.le_of_ble_eq_true rfl) ?_
  intro cx hcx
  refine kK [.no] True [(0, rV 0 0)] [(0, some (59, .ds [db l m, uD (kL u), iD (kT u)]))] 1 trivial ?_
  refine AW.seq ?_
  by_cases hx1 : ((kT u) ≠ 0)
  · refine zr (kU 4 [.b true]) [0, 10] [0] (((kT u) ≠ 0)) [(0, rV 0 0), (10, bV true)] [(0, some (59, .ds [db l m, uD (kL u), iD (kT u)]))] 1 zo ?_
    refine zt ?_
    refine kK [.no] True [(2, iV 0)] [(0, some (59, .ds [db l m, uD (kL u), iD (kT u)]))] 1 trivial ?_
    have hx2 : kL (kD 2 l u) = kL u := (by rw [o9 (by omega)])
    have hx3 : kT (kD 2 l u) = kT u := (by rw [o9 (by omega)])
    have hx4 : ((kV l u : Nat) : Int) = 0 := (by rw [u05 (by omega)]; rfl)
    refine AW.ret ?_
    exact kC (.inr rfl) [] (P := (((kV l u : Int) : Int) = 0) ∧ (([db l m, uD (kL (kD 2 l u)), iD (kT (kD 2 l u))] : List D) = [db l m, uD (kL u), iD (kT u)])) zk ⟨v9, y4⟩
  · refine zr (kU 4 [.b false]) [0, 10] [0] (¬ ((kT u) ≠ 0)) [(0, rV 0 0), (10, bV false)] [(0, some (59, .ds [db l m, uD (kL u), iD (kT u)]))] 1 zo ?_
    refine yW ?_
    by_cases hx5 : (((kL u) + 2) ≤ m)
    · have hx6 : (((0 : Int) ≤ (g16 l (kL u))) ∧ ((g16 l (kL u)) ≤ 65535)) := g16_rng (kS : Byt l) zo
      refine kK (kU 8 (.call [] (.tup [.c (.d (D.lit (.int .u16 (g16 l (kL u))))), uE ((kL u) + 2), iE 0]) [] 0 [] none :: kU 7 [])) _ [(0, rV 0 0), (3, kP (D.lit (.int .u16 (g16 l (kL u))))), (4, uV ((kL u) + 2)), (5, iV 0)] [(0, some (59, .ds [db l m, uD (kL u), iD (kT u)]))] 1 (W_Get16 l m (kL u) zo zo (kS : Byt l) yB) ?_
      refine kK (kU 10 []) True [(3, kP (D.lit (.int .u16 (g16 l (kL u)))))] [(0, some (59, .ds [db l m, uD ((kL u) + 2), iD 0]))] 1 trivial ?_
      refine kX [.no, .w, .no] (qM (g16 l (kL u))) [(2, iV (g16 l (kL u)))] ⟨by omega, by omega⟩ ?_
      have hx7 : kL (kD 2 l u) = kL u + 2 := (sD hm zo zo).1
      have hx8 : kT (kD 2 l u) = 0 := (sD hm zo zo).2
      have hx9 : ((kV l u : Nat) : Int) = g16 l (kL u) := (u03 hm hy zo zo)
      refine AW.ret ?_
      exact kC (.inr rfl) [] (P := (((kV l u : Int) : Int) = (g16 l (kL u))) ∧ (([db l m, uD (kL (kD 2 l u)), iD (kT (kD 2 l u))] : List D) = [db l m, uD ((kL u) + 2), iD 0])) zk ⟨v9, y4⟩
    · refine zr (kU 8 (.call [] (.tup [.c (.d (D.lit (.int .u16 0))), iE 0, iE 4]) [] 0 [] none :: kU 7 [])) [0, 3, 4, 5] [0] _ [(0, rV 0 0), (3, kP (D.lit (.int .u16 0))), (4, iV 0), (5, iV 4)] [(0, some (59, .ds [db l m, uD (kL u), iD (kT u)]))] 1 (W_Get16_s l m (kL u) zo zo (kS : Byt l) yB yB) ?_
      refine kK (kU 10 []) True [(3, kP (D.lit (.int .u16 0)))] [(0, some (59, .ds [db l m, iD 0, iD 4]))] 1 trivial ?_
      refine kX [.no, .w, .no] (qM (0 : Int)) [(2, iV 0)] ⟨by omega, by omega⟩ ?_
      have hx10 : kL (kD 2 l u) = 0 := (mJ hm zo zo).1
      have hx11 : kT (kD 2 l u) = 4 := (mJ hm zo zo).2
      have hx12 : ((kV l u : Nat) : Int) = 0 := (by rw [u04 hm (by omega)]; rfl)
      refine AW.ret ?_
      exact kC (.inr rfl) [] (P := (((kV l u : Int) : Int) = 0) ∧ (([db l m, uD (kL (kD 2 l u)), iD (kT (kD 2 l u))] : List D) = [db l m, iD 0, iD 4])) zk ⟨v9, y4⟩
theorem nF (l : List Int) (m : Nat) (u : RS) (hm : List.length l = m) (hb : m ≤ 1000000) (hy : Byt l) (hu : kL u ≤ m) : Fun 41 [.c (.ptr 0 0)] (kG [(0, some (59, .ds [D.sl (dI .u8 l) m, iD (((kL u) : Nat) : Int), iD (kT u)]))]) 1 (iV (u9 l u)) (kG [(0, some (59, .ds [D.sl (dI .u8 l) m, iD (((kL (kD 4 l u)) : Nat) : Int), iD (kT (kD 4 l u))]))]) 1 := by
  refine Fun.mk (n := 34) Try.func41 rfl rfl (Nat.le_of_ble_eq_true rfl) ?_
  intro cx hcx
  refine kK [.no] True [(0, rV 0 0)] [(0, some (59, .ds [db l m, uD (kL u), iD (kT u)]))] 1 trivial ?_
  refine AW.seq ?_
  by_cases hx1 : ((kT u) ≠ 0)
  · refine zr (kU 4 [.b true]) [0, 10] [0] (((kT u) ≠ 0)) [(0, rV 0 0), (10, bV true)] [(0, some (59, .ds [db l m, uD (kL u), iD (kT u)]))] 1 zo ?_
    refine zt ?_
    refine kK [.no] True [(2, iV 0)] [(0, some (59, .ds [db l m, uD (kL u), iD (kT u)]))] 1 trivial ?_
    have hx2 : kL (kD 4 l u) = kL u := (by rw [o9 (by omega)])
    have hx3 : kT (kD 4 l u) = kT u := (by rw [o9 (by omega)])
    have hx4 : u9 l u = 0 := (by rw [u02 (by omega)])
    refine AW.ret ?_
    exact kC (.inr rfl) [] (P := (((u9 l u) : Int) = 0) ∧ (([db l m, uD (kL (kD 4 l u)), iD (kT (kD 4 l u))] : List D) = [db l m, uD (kL u), iD (kT u)])) zk ⟨v9, y4⟩
  · refine zr (kU 4 [.b false]) [0, 10] [0] (¬ ((kT u) ≠ 0)) [(0, rV 0 0), (10, bV false)] [(0, some (59, .ds [db l m, uD (kL u), iD (kT u)]))] 1 zo ?_
    refine yW ?_
    by_cases hx5 : (((kL u) + 4) ≤ m)
    · have hx6 : (((0 : Int) ≤ (g32 l (kL u))) ∧ ((g32 l (kL u)) ≤ 4294967295)) := g32_rng (kS : Byt l) zo
      refine kK (kU 8 (.call [] (.tup [.c (.d (D.lit (.int .u32 (g32 l (kL u))))), uE ((kL u) + 4), iE 0]) [] 0 [] none :: kU 7 [])) _ [(0, rV 0 0), (3, kP (D.lit (.int .u32 (g32 l (kL u))))), (4, uV ((kL u) + 4)), (5, iV 0)] [(0, some (59, .ds [db l m, uD (kL u), iD (kT u)]))] 1 (W_Get32 l m (kL u) zo zo (kS : Byt l) yB) ?_
      refine kK (kU 10 []) True [(3, kP (D.lit (.int .u32 (g32 l (kL u)))))] [(0, some (59, .ds [db l m, uD ((kL u) + 4), iD 0]))] 1 trivial ?_
      refine kX [.no, .w, .no] (qM (g32 l (kL u))) [(2, iV (g32 l (kL u)))] ⟨by omega, by omega⟩ ?_
      have hx7 : kL (kD 4 l u) = kL u + 4 := (sD hm zo zo).1
      have hx8 : kT (kD 4 l u) = 0 := (sD hm zo zo).2
      have hx9 : u9 l u = g32 l (kL u) := (u00 hm zo zo)
      refine AW.ret ?_
      exact kC (.inr rfl) [] (P := (((u9 l u) : Int) = (g32 l (kL u))) ∧ (([db l m, uD (kL (kD 4 l u)), iD (kT (kD 4 l u))] : List D) = [db l m, uD ((kL u) + 4), iD 0])) zk ⟨v9, y4⟩
    · refine zr (kU 8 (.call [] (.tup [.c (.d (D.lit (.int .u32 0))), iE 0, iE 4]) [] 0 [] none :: kU 7 [])) [0, 3, 4, 5] [0] _ [(0, rV 0 0), (3, kP (D.lit (.int .u32 0))), (4, iV 0), (5, iV 4)] [(0, some (59, .ds [db l m, uD (kL u), iD (kT u)]))] 1 (W_Get32_s l m (kL u) zo zo (kS : Byt l) yB yB) ?_
      refine kK (kU 10 []) True [(3, kP (D.lit (.int .u32 0)))] [(0, some (59, .ds [db l m, iD 0, iD 4]))] 1 trivial ?_
      refine kX [.no, .w, .no] (qM (0 : Int)) [(2, iV 0)] ⟨by omega, by omega⟩ ?_
      have hx10 : kL (kD 4 l u) = 0 := (mJ hm zo zo).1
      have hx11 : kT (kD 4 l u) = 4 := (mJ hm zo zo).2
      have hx12 : u9 l u = 0 := (by rw [u01 hm (by omega)])
      refine AW.ret ?_
      exact kC (.inr rfl) [] (P := (((u9 l u) : Int) = 0) ∧ (([db l m, uD (kL (kD 4 l u)), iD (kT (kD 4 l u))] : List D) = [db l m, iD 0, iD 4])) zk ⟨v9, y4⟩
theorem k5w (l : List Int) (m : Nat) (u : RS) (hm : List.length l = m) (hb : m ≤ 1000000) (hy : Byt l) (hu : kL u ≤ m) : Fun 38 [.c (.ptr 0 0)] (kG [(0, some (59, .ds [D.sl (dI .u8 l) m, iD (((kL u) : Nat) : Int), iD (kT u)]))]) 1 (kP (D.lit (.int .u64 (vJ l u)))) (kG [(0, some (59, .ds [D.sl (dI .u8 l) m, iD (((kL (kD 8 l u)) : Nat) : Int), iD (kT (kD 8 l u))]))]) 1 := by
  refine Fun.mk (n := 33) Try.func38 rfl rfl (Nat.le_of_ble_eq_true rfl) ?_
  intro cx hcx
  refine kK [.no] True [(0, rV 0 0)] [(0, some (59, .ds [db l m, uD (kL u), iD (kT u)]))] 1 trivial ?_
  refine AW.seq ?_
  by_cases hx1 : ((kT u) ≠ 0)
  · refine zr (kU 4 [.b true]) [0, 10] [0] (((kT u) ≠ 0)) [(0, rV 0 0), (10, bV true)] [(0, some (59, .ds [db l m, uD (kL u), iD (kT u)]))] 1 zo ?_
    refine zt ?_
    refine kK [.no] True [(2, kP (D.lit (.int .u64 0)))] [(0, some (59, .ds [db l m, uD (kL u), iD (kT u)]))] 1 trivial ?_
    have hx2 : kL (kD 8 l u) = kL u := (by rw [o9 (by omega)])
    have hx3 : kT (kD 8 l u) = kT u := (by rw [o9 (by omega)])
    have hx4 : vJ l u = 0 := (by rw [k9z (by omega)])
    refine AW.ret ?_
    exact kC (.inr rfl) [] (P := (((vJ l u) : Int) = 0) ∧ (([db l m, uD (kL (kD 8 l u)), iD (kT (kD 8 l u))] : List D) = [db l m, uD (kL u), iD (kT u)])) zk ⟨v9, y4⟩
  · refine zr (kU 4 [.b false]) [0, 10] [0] (¬ ((kT u) ≠ 0)) [(0, rV 0 0), (10, bV false)] [(0, some (59, .ds [db l m, uD (kL u), iD (kT u)]))] 1 zo ?_
    refine yW ?_
    by_cases hx5 : (((kL u) + 8) ≤ m)
    · have hx6 : (((0 : Int) ≤ (g64 l (kL u))) ∧ ((g64 l (kL u)) ≤ 18446744073709551615)) := g64_rng (kS : Byt l) zo
      refine kK (kU 8 (.call [] (.tup [.c (.d (D.lit (.int .u64 (g64 l (kL u))))), uE ((kL u) + 8), iE 0]) [] 0 [] none :: kU 7 [])) _ [(0, rV 0 0), (3, kP (D.lit (.int .u64 (g64 l (kL u))))), (4, uV ((kL u) + 8)), (5, iV 0)] [(0, some (59, .ds [db l m, uD (kL u), iD (kT u)]))] 1 (W_Get64 l m (kL u) zo zo (kS : Byt l) yB) ?_
      refine kK (kU 10 []) True [(3, kP (D.lit (.int .u64 (g64 l (kL u)))))] [(0, some (59, .ds [db l m, uD ((kL u) + 8), iD 0]))] 1 trivial ?_
      refine kX [.no, .no] True [(2, kP (D.lit (.int .u64 (g64 l (kL u)))))] trivial ?_
      have hx7 : kL (kD 8 l u) = kL u + 8 := (sD hm zo zo).1
      have hx8 : kT (kD 8 l u) = 0 := (sD hm zo zo).2
      have hx9 : vJ l u = g64 l (kL u) := (k9x hm zo zo)
      refine AW.ret ?_
      exact kC (.inr rfl) [] (P := (((vJ l u) : Int) = (g64 l (kL u))) ∧ (([db l m, uD (kL (kD 8 l u)), iD (kT (kD 8 l u))] : List D) = [db l m, uD ((kL u) + 8), iD 0])) zk ⟨v9, y4⟩
    · refine zr (kU 8 (.call [] (.tup [.c (.d (D.lit (.int .u64 0))), iE 0, iE 4]) [] 0 [] none :: kU 7 [])) [0, 3, 4, 5] [0] _ [(0, rV 0 0), (3, kP (D.lit (.int .u64 0))), (4, iV 0), (5, iV 4)] [(0, some (59, .ds [db l m, uD (kL u), iD (kT u)]))] 1 (W_Get64_s l m (kL u) zo zo (kS : Byt l) yB yB) ?_
      refine kK (kU 10 []) True [(3, kP (D.lit (.int .u64 0)))] [(0, some (59, .ds [db l m, iD 0, iD 4]))] 1 trivial ?_
      refine kX [.no, .no] True [(2, kP (D.lit (.int .u64 0)))] trivial ?_
      have hx10 : kL (kD 8 l u) = 0 := (mJ hm zo zo).1
      have hx11 : kT (kD 8 l u) = 4 := (mJ hm zo zo).2
      have hx12 : vJ l u = 0 := (by rw [k9y hm (by omega)])
      refine AW.ret ?_
      exact kC (.inr rfl) [] (P := (((vJ l u) : Int) = 0) ∧ (([db l m, uD (kL (kD 8 l u)), iD (kT (kD 8 l u))] : List D) = [db l m, iD 0, iD 4])) zk ⟨v9, y4⟩
theorem u2l (l : List Int) (m a : Nat) (hm : List.length l = m) (hb : m ≤ 1000000) (hy : Byt l) (h1 : a = m) : Fun 55 [.c (.d (D.sl (dI .u8 l) m)), iE ((a : Nat) : Int)] (kG []) 0 (.tup [.c (.d (D.lit (.string (strOfNums ([] : List Int))))), iE 0, iE 4]) (kG []) 0 := by
  refine Fun.mk (n := 47) Try.func55 rfl rfl (Nat.le_of_ble_eq_true rfl) ?_
  intro cx hcx
  refine kK [.no, .no, .no] True [(0, sV .u8 l m), (1, uV a)] [] 0 trivial ?_
  refine AW.seq ?_
  refine kX (.no :: .b false :: kU 4 [.b false, .no]) ((¬ ((a : Int) < 0)) ∧ (¬ ((m : Int) < (a : Int)))) [(0, sV .u8 l m), (1, uV a), (15, bV false)] ⟨zo, zo⟩ ?_
  refine yW ?_
  refine AW.seq ?_
  refine kX [.no, .no, .no, .b true] (((a : Int) = (m : Int))) [(0, sV .u8 l m), (1, uV a), (19, bV true)] zo ?_
  refine zt ?_
  refine kX [.no, .no, .no] True [(4, kP (D.lit ((.string (ByteArray.mk #[]))))), (5, iV 0), (6, iV 4)] trivial ?_
  refine AW.ret ?_
  exact kC (.inr rfl) [] (P := ((.string (strOfNums ([] : List Int)) : Value) = .string (ByteArray.mk #[])) ∧ (kN 0) ∧ (kN 4)) zk ⟨(congrArg (fun x9 => Value.string (strOfNums x9)) (show ([] : List Int) = ([] : List Int) from rfl)), rfl, rfl⟩
theorem rG {p : Prop} (h : p := by first | omega | (simp only [kR, kQ, pbL_len, List.length_append, List.length_cons, List.length_nil, List.length_take, List.length_drop, List.length_replicate, List.length_set] <;> omega)) : p := h
theorem lC {p : Prop} (h : p := by first | omega | (simp only [kR, kQ, pbL_len, qL, List.length_append, List.length_cons, List.length_nil, List.length_take, List.length_drop, List.length_replicate, List.length_set, List.length_map, List.length_reverse, Nat.mul_one] <;> omega) | rfl) : p := h
theorem u2o (l : List Int) (m a : Nat) (hm : List.length l = m) (hb : m ≤ 1000000) (hy : Byt l) (h1 : a < m) (h2 : 64 < uN l a) : Fun 55 [.c (.d (D.sl (dI .u8 l) m)), iE ((a : Nat) : Int)] (kG []) 0 (.tup [.c (.d (D.lit (.string (strOfNums ([] : List Int))))), iE 0, iE 3]) (kG []) 0 := by
  have hz : List.getD l a 0 = ((uN l a : Nat) : Int) := zN hy (by omega)
  refine Fun.mk (n := 47) Try.func55 rfl rfl (Nat.le_of_ble_eq_true rfl) ?_
  intro cx hcx
  refine kK [.no, .no, .no] True [(0, sV .u8 l m), (1, uV a)] [] 0 trivial ?_
  refine AW.seq ?_
  refine kX (.no :: .b false :: kU 4 [.b false, .no]) ((¬ ((a : Int) < 0)) ∧ (¬ ((m : Int) < (a : Int)))) [(0, sV .u8 l m), (1, uV a), (15, bV false)] ⟨zo, zo⟩ ?_
  refine yW ?_
  refine AW.seq ?_
  refine kX [.no, .no, .no, .b false] (¬ ((a : Int) = (m : Int))) [(0, sV .u8 l m), (1, uV a), (19, bV false)] zo ?_
  refine yW ?_
  have hx1 : 0 ≤ (List.getD l a 0) ∧ (List.getD l a 0) ≤ 255 := (kS : Byt l).at _ rG
  refine kX [.no, .no, .n a, .d (D.lit (.int .u8 (uN l a : Int))), .w, .no] ((kN (a : Int)) ∧ (a < m) ∧ ((List.drop a (dI .u8 l))[0]? = some (D.lit (.int .u8 (uN l a : Int)))) ∧ (qM (uN l a : Int))) [(0, sV .u8 l m), (1, uV a), (7, uV (uN l a))] ⟨rfl, zo, (by rw [show (uN l a : Int) = (List.getD l a 0) by omega]; exact qU _ _ _ lC), ⟨by omega, by omega⟩⟩ ?_
  refine AW.seq ?_
  refine kX [.no, .b true] (((64 : Int) < (uN l a : Int))) [(0, sV .u8 l m), (1, uV a), (7, uV (uN l a)), (26, bV true)] zo ?_
  refine zt ?_
  refine kX [.no, .no, .no] True [(4, kP (D.lit ((.string (ByteArray.mk #[]))))), (5, iV 0), (6, iV 3)] trivial ?_
  refine AW.ret ?_
  exact kC (.inr rfl) [] (P := ((.string (strOfNums ([] : List Int)) : Value) = .string (ByteArray.mk #[])) ∧ (kN 0) ∧ (kN 3)) zk ⟨(congrArg (fun x9 => Value.string (strOfNums x9)) (show ([] : List Int) = ([] : List Int) from rfl)), rfl, rfl⟩
theorem u2n (l : List Int) (m a : Nat) (hm : List.length l = m) (hb : m ≤ 1000000) (hy : Byt l) (h1 : a < m) (h2 : ¬ 64 < uN l a) (h3 : m < a + 1 + uN l a) : Fun 55 [.c (.d (D.sl (dI .u8 l) m)), iE ((a : Nat) : Int)] (kG []) 0 (.tup [.c (.d (D.lit (.string (strOfNums ([] : List Int))))), iE 0, iE 4]) (kG []) 0 := by
  have hz : List.getD l a 0 = ((uN l a : Nat) : Int) := zN hy (by omega)
  refine Fun.mk (n := 47) Try.func55 rfl rfl (Nat.le_of_ble_eq_true rfl) ?_
  intro cx hcx
  refine kK [.no, .no, .no] True [(0, sV .u8 l m), (1, uV a)] [] 0 trivial ?_
  refine AW.seq ?_
  refine kX (.no :: .b false :: kU 4 [.b false, .no]) ((¬ ((a : Int) < 0)) ∧ (¬ ((m : Int) < (a : Int)))) [(0, sV .u8 l m), (1, uV a), (15, bV false)] ⟨zo, zo⟩ ?_
  refine yW ?_
  refine AW.seq ?_
  refine kX [.no, .no, .no, .b false] (¬ ((a : Int) = (m : Int))) [(0, sV .u8 l m), (1, uV a), (19, bV false)] zo ?_
  refine yW ?_
  have hx1 : 0 ≤ (List.getD l a 0) ∧ (List.getD l a 0) ≤ 255 := (kS : Byt l).at _ rG
  refine kX [.no, .no, .n a, .d (D.lit (.int .u8 (uN l a : Int))), .w, .no] ((kN (a : Int)) ∧ (a < m) ∧ ((List.drop a (dI .u8 l))[0]? = some (D.lit (.int .u8 (uN l a : Int)))) ∧ (qM (uN l a : Int))) [(0, sV .u8 l m), (1, uV a), (7, uV (uN l a))] ⟨rfl, zo, (by rw [show (uN l a : Int) = (List.getD l a 0) by omega]; exact qU _ _ _ lC), ⟨by omega, by omega⟩⟩ ?_
  refine AW.seq ?_
  refine kX [.no, .b false] (¬ ((64 : Int) < (uN l a : Int))) [(0, sV .u8 l m), (1, uV a), (7, uV (uN l a)), (26, bV false)] zo ?_
  refine yW ?_
  refine AW.seq ?_
  refine kX [.no, .no, .no, .w, .w, .no, .b true] ((qM ((m : Int) - (a : Int))) ∧ (qM (((m : Int) - (a : Int)) - 1)) ∧ (((((m : Int) - (a : Int)) - 1) < (uN l a : Int)))) [(0, sV .u8 l m), (1, uV a), (7, uV (uN l a)), (33, bV true)] ⟨⟨by omega, by omega⟩, ⟨by omega, by omega⟩, zo⟩ ?_
  refine zt ?_
  refine kX [.no, .no, .no] True [(4, kP (D.lit ((.string (ByteArray.mk #[]))))), (5, iV 0), (6, iV 4)] trivial ?_
  refine AW.ret ?_
  exact kC (.inr rfl) [] (P := ((.string (strOfNums ([] : List Int)) : Value) = .string (ByteArray.mk #[])) ∧ (kN 0) ∧ (kN 4)) zk ⟨(congrArg (fun x9 => Value.string (strOfNums x9)) (show ([] : List Int) = ([] : List Int) from rfl)), rfl, rfl⟩
theorem u2m (l : List Int) (m a : Nat) (hm : List.length l = m) (hb : m ≤ 1000000) (hy : Byt l) (h1 : a < m) (h2 : ¬ 64 < uN l a) (h3 : ¬ m < a + 1 + uN l a) : Fun 55 [.c (.d (D.sl (dI .u8 l) m)), iE ((a : Nat) : Int)] (kG []) 0 (.tup [.c (.d (D.lit (.string (strOfNums (List.take (uN l a) (List.drop (a + 1) l)))))), iE ((((a + 1) + (uN l a)) : Nat) : Int), iE 0]) (kG []) 0 := by
  have hz : List.getD l a 0 = ((uN l a : Nat) : Int) := zN hy (by omega)
  refine Fun.mk (n := 47) Try.func55 rfl rfl (Nat.le_of_ble_eq_true rfl) ?_
  intro cx hcx
  refine kK [.no, .no, .no] True [(0, sV .u8 l m), (1, uV a)] [] 0 trivial ?_
  refine AW.seq ?_
  refine kX (.no :: .b false :: kU 4 [.b false, .no]) ((¬ ((a : Int) < 0)) ∧ (¬ ((m : Int) < (a : Int)))) [(0, sV .u8 l m), (1, uV a), (15, bV false)] ⟨zo, zo⟩ ?_
  refine yW ?_
  refine AW.seq ?_
  refine kX [.no, .no, .no, .b false] (¬ ((a : Int) = (m : Int))) [(0, sV .u8 l m), (1, uV a), (19, bV false)] zo ?_
  refine yW ?_
  have hx1 : 0 ≤ (List.getD l a 0) ∧ (List.getD l a 0) ≤ 255 := (kS : Byt l).at _ rG
  refine kX [.no, .no, .n a, .d (D.lit (.int .u8 (uN l a : Int))), .w, .no] ((kN (a : Int)) ∧ (a < m) ∧ ((List.drop a (dI .u8 l))[0]? = some (D.lit (.int .u8 (uN l a : Int)))) ∧ (qM (uN l a : Int))) [(0, sV .u8 l m), (1, uV a), (7, uV (uN l a))] ⟨rfl, zo, (by rw [show (uN l a : Int) = (List.getD l a 0) by omega]; exact qU _ _ _ lC), ⟨by omega, by omega⟩⟩ ?_
  refine AW.seq ?_
  refine kX [.no, .b false] (¬ ((64 : Int) < (uN l a : Int))) [(0, sV .u8 l m), (1, uV a), (7, uV (uN l a)), (26, bV false)] zo ?_
  refine yW ?_
  refine AW.seq ?_
  refine kX [.no, .no, .no, .w, .w, .no, .b false] ((qM ((m : Int) - (a : Int))) ∧ (qM (((m : Int) - (a : Int)) - 1)) ∧ (¬ ((((m : Int) - (a : Int)) - 1) < (uN l a : Int)))) [(0, sV .u8 l m), (1, uV a), (7, uV (uN l a)), (33, bV false)] ⟨⟨by omega, by omega⟩, ⟨by omega, by omega⟩, zo⟩ ?_
  refine yW ?_
  refine kX [.no, .no, .w, .no, .w, .no, .w, .sls (a + 1) ((a + 1) + (uN l a)) (uN l a) (dI .u8 (List.take (uN l a) (List.drop (a + 1) l))), .st none (List.take (uN l a) (List.drop (a + 1) l)), .no, .w, .no, .w, .no, .no, .no] ((qM ((a : Int) + 1)) ∧ (qM ((a : Int) + 1)) ∧ (qM (((a : Int) + 1) + (uN l a : Int))) ∧ ((((a : Int) + 1) : Int) = (((a + 1) : Nat) : Int)) ∧ (((((a : Int) + 1) + (uN l a : Int)) : Int) = ((((a + 1) + (uN l a)) : Nat) : Int)) ∧ ((a + 1) ≤ ((a + 1) + (uN l a))) ∧ (((a + 1) + (uN l a)) ≤ m) ∧ (((a + 1) + (uN l a)) - (a + 1) = (uN l a)) ∧ (List.take ((uN l a) * 1) (List.drop ((a + 1) * 1) (dI .u8 l)) = (dI .u8 (List.take (uN l a) (List.drop (a + 1) l)))) ∧ ((dI .u8 (List.take (uN l a) (List.drop (a + 1) l))).length = (uN l a) * 1) ∧ (k8 (dI .u8 (List.take (uN l a) (List.drop (a + 1) l)))) ∧ (qM ((a : Int) + 1)) ∧ (qM (((a : Int) + 1) + (uN l a : Int)))) [(4, kP (D.lit (.string (strOfNums (List.take (uN l a) (List.drop (a + 1) l)))))), (5, iV ((↑a + 1) + (uN l a : Int))), (6, iV 0)] ⟨⟨by omega, by omega⟩, ⟨by omega, by omega⟩, ⟨by omega, by omega⟩, (by first | rfl | omega), (by first | rfl | omega), zo, zo, zo, (by first | rfl | with_reducible assumption | exact qK _ _ _ | exact aG _ _ _ | (simp only [u5, qT, qK, Nat.mul_one, Nat.zero_mul, List.drop_zero, List.nil_append, List.append_nil]; done) | (simp only [u5, qT, qK, Nat.mul_one, Nat.zero_mul, List.drop_zero, List.nil_append, List.append_nil]; rfl) | (rw [List.take_of_length_le (by simp only [kR, kQ, pbL_len, qL, List.length_drop, List.length_replicate, Nat.mul_one] <;> omega)]; first | rfl | (simp only [qT, Nat.mul_one, Nat.zero_mul, List.drop_zero]; done) | (simp only [qT, Nat.mul_one, Nat.zero_mul, List.drop_zero]; rfl))), lC, rfl, ⟨by omega, by omega⟩, ⟨by omega, by omega⟩⟩ ?_
  refine AW.ret ?_
  exact kC (.inr rfl) [] (P := ((.string (strOfNums (List.take (uN l a) (List.drop (a + 1) l))) : Value) = .string (strOfNums (List.take (uN l a) (List.drop (a + 1) l)))) ∧ ((((((a + 1) + (uN l a)) : Nat) : Int) : Int) = (((a : Int) + 1) + (uN l a : Int))) ∧ (kN 0)) zk ⟨rfl, v9, rfl⟩
abbrev bN (l : List Int) (m : Nat) (u : RS) : BC := .ds [D.sl (dI .u8 l) m, iD (((kL u) : Nat) : Int), iD (kT u)]
theorem k9d (l : List Int) (m : Nat) (u : RS) (hm : List.length l = m) (hb : m ≤ 1000000) (hy : Byt l) (hu : kL u ≤ m) : Fun 39 [.c (.ptr 0 0)] (kG [(0, some (59, .ds [D.sl (dI .u8 l) m, iD (((kL u) : Nat) : Int), iD (kT u)]))]) 1 (kP (D.lit (.string (strOfNums (vY l u))))) (kG [(0, some (59, .ds [D.sl (dI .u8 l) m, iD (((kL (qO l u)) : Nat) : Int), iD (kT (qO l u))]))]) 1 := by
  refine Fun.mk (n := 33) Try.func39 rfl rfl (Nat.le_of_ble_eq_true rfl) ?_
  intro cx hcx
  refine kK [.no] True [(0, rV 0 0)] [(0, some (59, (bN l m u)))] 1 trivial ?_
  refine AW.seq ?_
  by_cases hx1 : ((kT u) ≠ 0)
  · refine zr (kU 4 [.b true]) [0, 10] [0] (((kT u) ≠ 0)) [(0, rV 0 0), (10, bV true)] [(0, some (59, (bN l m u)))] 1 zo ?_
    refine zt ?_
    refine kK [.no] True [(2, kP (D.lit ((.string (ByteArray.mk #[])))))] [(0, some (59, (bN l m u)))] 1 trivial ?_
    have hx2 : kL (qO l u) = kL u := (by rw [(zM (by omega)).1])
    have hx3 : kT (qO l u) = kT u := (by rw [(zM (by omega)).1])
    have hz1 : vY l u = [] := (zM (by omega)).2
    refine AW.ret ?_
    exact kC (.inr rfl) [] (P := ((.string (strOfNums (vY l u)) : Value) = .string (ByteArray.mk #[])) ∧ (([db l m, uD (kL (qO l u)), iD (kT (qO l u))] : List D) = [db l m, uD (kL u), iD (kT u)])) zk ⟨(congrArg (fun x9 => Value.string (strOfNums x9)) (show (vY l u) = ([] : List Int) from (by first | rfl | (rw [hz1]; done) | (rw [hz1]; rfl)))), y4⟩
  · refine zr (kU 4 [.b false]) [0, 10] [0] (¬ ((kT u) ≠ 0)) [(0, rV 0 0), (10, bV false)] [(0, some (59, (bN l m u)))] 1 zo ?_
    refine yW ?_
    by_cases hx4 : ((kL u) = m)
    · refine zr (kU 8 (.call [] (.tup [.c (.d (D.lit (.string (strOfNums ([] : List Int))))), iE 0, iE 4]) [] 0 [] none :: kU 7 [])) [0, 3, 4, 5] [0] _ [(0, rV 0 0), (3, kP (D.lit (.string (strOfNums ([] : List Int))))), (4, iV 0), (5, iV 4)] [(0, some (59, (bN l m u)))] 1 (u2l l m (kL u) zo zo (kS : Byt l) yB) ?_
      refine kK (kU 10 []) True [(3, kP (D.lit (.string (strOfNums ([] : List Int)))))] [(0, some (59, .ds [db l m, iD 0, iD 4]))] 1 trivial ?_
      refine kX [.no, .no] True [(2, kP (D.lit (.string (strOfNums ([] : List Int)))))] trivial ?_
      have hze : eI l (kL u) = 4 := (u07 hm (by omega))
      have hx5 : kL (qO l u) = 0 := (gE zo zo).1
      have hx6 : kT (qO l u) = 4 := ((gE zo zo).2.1.trans hze)
      have hz1 : vY l u = [] := (gE (by omega) (by omega)).2.2
      refine AW.ret ?_
      exact kC (.inr rfl) [] (P := ((.string (strOfNums (vY l u)) : Value) = .string (strOfNums ([] : List Int))) ∧ (([db l m, uD (kL (qO l u)), iD (kT (qO l u))] : List D) = [db l m, iD 0, iD 4])) zk ⟨(congrArg (fun x9 => Value.string (strOfNums x9)) (show (vY l u) = ([] : List Int) from (by first | rfl | (rw [hz1]; done) | (rw [hz1]; rfl)))), y4⟩
    · by_cases hx7 : ((64 : Nat) < (uN l (kL u)))
      · refine zr (kU 8 (.call [] (.tup [.c (.d (D.lit (.string (strOfNums ([] : List Int))))), iE 0, iE 3]) [] 0 [] none :: kU 7 [])) [0, 3, 4, 5] [0] _ [(0, rV 0 0), (3, kP (D.lit (.string (strOfNums ([] : List Int))))), (4, iV 0), (5, iV 3)] [(0, some (59, (bN l m u)))] 1 (u2o l m (kL u) zo zo (kS : Byt l) yB yB) ?_
        refine kK (kU 10 []) True [(3, kP (D.lit (.string (strOfNums ([] : List Int)))))] [(0, some (59, .ds [db l m, iD 0, iD 3]))] 1 trivial ?_
        refine kX [.no, .no] True [(2, kP (D.lit (.string (strOfNums ([] : List Int)))))] trivial ?_
        have hze : eI l (kL u) = 3 := (u09 hm (by omega) (by omega))
        have hx8 : kL (qO l u) = 0 := (gE zo zo).1
        have hx9 : kT (qO l u) = 3 := ((gE zo zo).2.1.trans hze)
        have hz1 : vY l u = [] := (gE (by omega) (by omega)).2.2
        refine AW.ret ?_
        exact kC (.inr rfl) [] (P := ((.string (strOfNums (vY l u)) : Value) = .string (strOfNums ([] : List Int))) ∧ (([db l m, uD (kL (qO l u)), iD (kT (qO l u))] : List D) = [db l m, iD 0, iD 3])) zk ⟨(congrArg (fun x9 => Value.string (strOfNums x9)) (show (vY l u) = ([] : List Int) from (by first | rfl | (rw [hz1]; done) | (rw [hz1]; rfl)))), y4⟩
      · by_cases hx10 : (m < (((kL u) + 1) + (uN l (kL u))))
        · refine zr (kU 8 (.call [] (.tup [.c (.d (D.lit (.string (strOfNums ([] : List Int))))), iE 0, iE 4]) [] 0 [] none :: kU 7 [])) [0, 3, 4, 5] [0] _ [(0, rV 0 0), (3, kP (D.lit (.string (strOfNums ([] : List Int))))), (4, iV 0), (5, iV 4)] [(0, some (59, (bN l m u)))] 1 (u2n l m (kL u) zo zo (kS : Byt l) yB yB yB) ?_
          refine kK (kU 10 []) True [(3, kP (D.lit (.string (strOfNums ([] : List Int)))))] [(0, some (59, .ds [db l m, iD 0, iD 4]))] 1 trivial ?_
          refine kX [.no, .no] True [(2, kP (D.lit (.string (strOfNums ([] : List Int)))))] trivial ?_
          have hze : eI l (kL u) = 4 := (u08 hm (by omega) (by omega) (by omega))
          have hx11 : kL (qO l u) = 0 := (gE zo zo).1
          have hx12 : kT (qO l u) = 4 := ((gE zo zo).2.1.trans hze)
          have hz1 : vY l u = [] := (gE (by omega) (by omega)).2.2
          refine AW.ret ?_
          exact kC (.inr rfl) [] (P := ((.string (strOfNums (vY l u)) : Value) = .string (strOfNums ([] : List Int))) ∧ (([db l m, uD (kL (qO l u)), iD (kT (qO l u))] : List D) = [db l m, iD 0, iD 4])) zk ⟨(congrArg (fun x9 => Value.string (strOfNums x9)) (show (vY l u) = ([] : List Int) from (by first | rfl | (rw [hz1]; done) | (rw [hz1]; rfl)))), y4⟩
        · refine zr (kU 8 (.call [] (.tup [.c (.d (D.lit (.string (strOfNums (List.take (uN l (kL u)) (List.drop ((kL u) + 1) l)))))), uE (((kL u) + 1) + (uN l (kL u))), iE 0]) [] 0 [] none :: kU 7 [])) [0, 3, 4, 5] [0] _ [(0, rV 0 0), (3, kP (D.lit (.string (strOfNums (List.take (uN l (kL u)) (List.drop ((kL u) + 1) l)))))), (4, uV (((kL u) + 1) + (uN l (kL u)))), (5, iV 0)] [(0, some (59, (bN l m u)))] 1 (u2m l m (kL u) zo zo (kS : Byt l) yB yB yB) ?_
          refine kK (kU 10 []) True [(3, kP (D.lit (.string (strOfNums (List.take (uN l (kL u)) (List.drop ((kL u) + 1) l))))))] [(0, some (59, .ds [db l m, uD (((kL u) + 1) + (uN l (kL u))), iD 0]))] 1 trivial ?_
          refine kX [.no, .no] True [(2, kP (D.lit (.string (strOfNums (List.take (uN l (kL u)) (List.drop ((kL u) + 1) l))))))] trivial ?_
          have hze : eI l (kL u) = 0 := (zO hm (by omega) (by omega) (by omega))
          have hx13 : kL (qO l u) = kL u + 1 + uN l (kL u) := (k3s zo hze).1
          have hx14 : kT (qO l u) = 0 := (k3s zo hze).2.1
          have hz1 : vY l u = List.take (uN l (kL u)) (List.drop (kL u + 1) l) := (k3s (by omega) hze).2.2
          refine AW.ret ?_
          exact kC (.inr rfl) [] (P := ((.string (strOfNums (vY l u)) : Value) = .string (strOfNums (List.take (uN l (kL u)) (List.drop ((kL u) + 1) l)))) ∧ (([db l m, uD (kL (qO l u)), iD (kT (qO l u))] : List D) = [db l m, uD (((kL u) + 1) + (uN l (kL u))), iD 0])) zk ⟨(congrArg (fun x9 => Value.string (strOfNums x9)) (show (vY l u) = (List.take (uN l (kL u)) (List.drop ((kL u) + 1) l)) from (by first | rfl | (rw [hz1]; done) | (rw [hz1]; rfl)))), y4⟩
end Go.Proofs.Ytalbpleglapihaa
