/- Writers. No statement is proved here. -/
import Derived.Test.YtalbpleglapihaaZD11D
namespace Go.Proofs.Ytalbpleglapihaa
open Go.ChangeShapes Go.WideShapes Go.ChangeAt Go.RowKit
open List renaming append_assoc → kb7, append_nil → kc8, drop → ka7, getD → ka0, getD_eq_getElem?_getD → ka8, getElem?_eq_getElem → ka9, getElem_mem → kg7, length → ka1, length_append → ka4, length_cons → kb1, length_drop → kb2, length_map → kd0, length_nil → kb6, length_replicate → kb4, length_reverse → kc7, length_set → kc2, length_take → kb3, mem_of_getElem? → kd7
open Nat renaming le_of_ble_eq_true → ka5, le_refl → kc9, mul_one → kc4, zero_le → kd9
set_option linter.unusedVariables false
set_option linter.unusedSimpArgs false
/-! chapter 11: writers -/
set_option maxHeartbeats 4000000
set_option maxRecDepth 100000
def y2 (s : List Int) : List Int := ((ka1 s : Nat) : Int) :: s
theorem qT (s : List Int) : ka1 (y2 s) = 1 + ka1 s := by unfold y2; rw [kb1]; omega
theorem wS {s : List Int} (h : Byt s) (h1 : ka1 s ≤ 64) : Byt (y2 s) := Byt.cons (by omega) h
def R32 (r : List Int) : Prop := ∀ x ∈ r, 0 ≤ x ∧ x ≤ 4294967295
def R16 (r : List Int) : Prop := ∀ x ∈ r, 0 ≤ x ∧ x ≤ 65535
theorem R32.at {r : List Int} (h : R32 r) {i : Nat} (hi : i < r.length) : 0 ≤ ka0 r i 0 ∧ ka0 r i 0 ≤ 4294967295 := by
  rw [ka8, ka9 hi]
  exact h _ (kg7 hi)
theorem R16.at {r : List Int} (h : R16 r) {i : Nat} (hi : i < r.length) : 0 ≤ ka0 r i 0 ∧ ka0 r i 0 ≤ 65535 := by
  rw [ka8, ka9 hi]
  exact h _ (kg7 hi)
theorem k7b : R16 [] := fun x hx => by cases hx
theorem oO : R32 [] := fun x hx => by cases hx
def RmW (m : List (List Int)) : Prop := ∀ x ∈ m, R16 x ∧ ka1 x ≤ 65535
theorem k7a : RmW [] := fun x hx => by cases hx
theorem RmW.at {m : List (List Int)} (h : RmW m) (i : Nat) : R16 (ka0 m i []) ∧ ka1 (ka0 m i []) ≤ 65535 := by
  rw [ka8]
  cases e : m[i]? with
  | none => exact ⟨k7b, kd9 _⟩
  | some l => exact h l (kd7 e)
def pB (r : List Int) : Nat → List Int
  | 0 => []
  | k + 1 => pB r k ++ (pbL (ka0 r (k * 2) 0) 4 ++ pbL (ka0 r (k * 2 + 1) 0) 4)
theorem mH (r : List Int) : ∀ k, ka1 (pB r k) = k * 8
  | 0 => rfl
  | k + 1 => by show ka1 (pB r k ++ _) = _; rw [ka4, mH r k, ka4, pbL_len, pbL_len]; omega
def eX (r : List Int) (n : Nat) : List Int := pbL ((n : Nat) : Int) 2 ++ pB r n
theorem qJ (r : List Int) (n : Nat) : ka1 (eX r n) = 2 + n * 8 := by unfold eX; rw [ka4, pbL_len, mH]
theorem u4i (l r : List Int) (n : Nat) : l ++ (pbL ((n : Nat) : Int) 2 ++ pB r 0) = l ++ pbL ((n : Nat) : Int) 2 := by rw [pB, kc8]
theorem u4g {l r o : List Int} {n k : Nat} (h : l ++ (pbL ((n : Nat) : Int) 2 ++ pB r k) = o) : l ++ (pbL ((n : Nat) : Int) 2 ++ pB r (k + 1)) = o ++ pbL (ka0 r (k * 2) 0) 4 ++ pbL (ka0 r (k * 2 + 1) 0) 4 := by
  subst h; rw [pB]; simp only [kb7]
theorem u4h {l r o : List Int} {n k : Nat} (h : l ++ (pbL ((n : Nat) : Int) 2 ++ pB r k) = o) (hk : k = n) : l ++ eX r n = o := by subst hk; exact h
def pC (m : List Int) : Nat → List Int
  | 0 => []
  | k + 1 => pC m k ++ pbL (ka0 m k 0) 2
theorem mL (m : List Int) : ∀ k, ka1 (pC m k) = k * 2
  | 0 => rfl
  | k + 1 => by show ka1 (pC m k ++ _) = _; rw [ka4, mL m k, pbL_len]; omega
def wpL (m : List Int) : List Int := pbL ((ka1 m : Nat) : Int) 2 ++ pC m m.length
theorem mK (m : List Int) : ka1 (wpL m) = 2 + ka1 m * 2 := by unfold wpL; rw [ka4, pbL_len, mL]
theorem u4l (l m : List Int) : l ++ (pbL ((ka1 m : Nat) : Int) 2 ++ pC m 0) = l ++ pbL ((ka1 m : Nat) : Int) 2 := by rw [pC, kc8]
theorem u4j {l m o : List Int} {k : Nat} (h : l ++ (pbL ((ka1 m : Nat) : Int) 2 ++ pC m k) = o) : l ++ (pbL ((ka1 m : Nat) : Int) 2 ++ pC m (k + 1)) = o ++ pbL (ka0 m k 0) 2 := by
  subst h; rw [pC]; simp only [kb7]
theorem u4k {l m o : List Int} {k : Nat} (h : l ++ (pbL ((ka1 m : Nat) : Int) 2 ++ pC m k) = o) (hk : k = m.length) : l ++ wpL m = o := by subst hk; exact h
def bS (m : List (List Int)) : Nat → List Int
  | 0 => []
  | k + 1 => bS m k ++ wpL (ka0 m k [])
def a9 (m : List (List Int)) : List Int := pbL ((ka1 m : Nat) : Int) 2 ++ bS m m.length
theorem u4r (l : List Int) (m : List (List Int)) : l ++ (pbL ((ka1 m : Nat) : Int) 2 ++ bS m 0) = l ++ pbL ((ka1 m : Nat) : Int) 2 := by rw [bS, kc8]
theorem u4n {l o p : List Int} {m : List (List Int)} {k : Nat} (h : l ++ (pbL ((ka1 m : Nat) : Int) 2 ++ bS m k) = o) (h1 : o ++ wpL (ka0 m k []) = p) : l ++ (pbL ((ka1 m : Nat) : Int) 2 ++ bS m (k + 1)) = p := by
  subst h1; subst h; rw [bS]; simp only [kb7]
theorem u4p {l o : List Int} {m : List (List Int)} {k : Nat} (h : l ++ (pbL ((ka1 m : Nat) : Int) 2 ++ bS m k) = o) (hk : k = m.length) : l ++ a9 m = o := by subst hk; exact h
theorem u4m {l o p : List Int} {m : List (List Int)} {c k : Nat} (hc : m.length = c) (h : l ++ (pbL ((c : Nat) : Int) 2 ++ bS m k) = o) (h1 : o ++ wpL (ka0 m k []) = p) : l ++ (pbL ((c : Nat) : Int) 2 ++ bS m (k + 1)) = p := by subst hc; exact u4n h h1
theorem u4o {l o : List Int} {m : List (List Int)} {c k : Nat} (hc : m.length = c) (h : l ++ (pbL ((c : Nat) : Int) 2 ++ bS m k) = o) (hk : k = c) : l ++ a9 m = o := by subst hc; exact u4p h hk
theorem u1e (m : List (List Int)) (k : Nat) : ka1 (bS m (k + 1)) = ka1 (bS m k) + (2 + ka1 (ka0 m k []) * 2) := by rw [bS, ka4, mK]
theorem u1f {l w o : List Int} {n q : Nat} (h : l ++ w = o) (hn : l.length = n) (hq : o.length = q) : n + ka1 w = q := by subst h; rw [ka4] at hq; omega
theorem k0i (m : List (List Int)) : ∀ k j, k ≤ j → ka1 (bS m k) ≤ ka1 (bS m j)
  | k, 0, h => by rw [show k = 0 by omega]; exact kc9 _
  | k, j + 1, h => by
    by_cases e : k = j + 1
    · subst e; exact kc9 _
    · have := k0i m k j (by omega); rw [bS, ka4]; omega
theorem u4q {m : List (List Int)} {k c : Nat} (hc : m.length = c) (hk : k < c) : ka1 (bS m k) + (2 + ka1 (ka0 m k []) * 2) + 2 ≤ ka1 (a9 m) := by
  subst hc
  have h := k0i m (k + 1) m.length (by omega)
  rw [bS, ka4, mK] at h
  unfold a9; rw [ka4, pbL_len]; omega
def wbX (b : Bx) : List Int := pbL b.k 2 ++ (eX b.r b.rn ++ (a9 b.m ++ eX b.s b.sn))
def bF (bs : List Bx) : Nat → List Int
  | 0 => []
  | k + 1 => bF bs k ++ wbX (fO bs k)
def vF (bs : List Bx) : List Int := pbL ((ka1 bs : Nat) : Int) 2 ++ bF bs bs.length
theorem u50 (l : List Int) (bs : List Bx) : l ++ (pbL ((ka1 bs : Nat) : Int) 2 ++ bF bs 0) = l ++ pbL ((ka1 bs : Nat) : Int) 2 := by rw [bF, kc8]
theorem u4v {l o : List Int} {bs : List Bx} {k : Nat} (h : l ++ (pbL ((ka1 bs : Nat) : Int) 2 ++ bF bs k) = o) : l ++ (pbL ((ka1 bs : Nat) : Int) 2 ++ bF bs (k + 1)) = o ++ pbL (bB bs k) 2 ++ eX (bY bs k) (vJ bs k) ++ a9 (y3 bs k) ++ eX (dP bs k) (bA bs k) := by
  subst h; rw [bF, wbX]; simp only [kb7]; rfl
theorem u4y {l o : List Int} {bs : List Bx} {k : Nat} (h : l ++ (pbL ((ka1 bs : Nat) : Int) 2 ++ bF bs k) = o) (hk : k = bs.length) : l ++ vF bs = o := by subst hk; exact h
theorem u4u {l o : List Int} {bs : List Bx} {c k : Nat} (hc : bs.length = c) (h : l ++ (pbL ((c : Nat) : Int) 2 ++ bF bs k) = o) : l ++ (pbL ((c : Nat) : Int) 2 ++ bF bs (k + 1)) = o ++ pbL (bB bs k) 2 ++ eX (bY bs k) (vJ bs k) ++ a9 (y3 bs k) ++ eX (dP bs k) (bA bs k) := by subst hc; exact u4v h
theorem u4x {l o : List Int} {m : List Bx} {c k : Nat} (hc : m.length = c) (h : l ++ (pbL ((c : Nat) : Int) 2 ++ bF m k) = o) (hk : k = c) : l ++ vF m = o := by subst hc; exact u4y h hk
theorem u4w (m : List Bx) (k : Nat) : ka1 (bF m (k + 1)) = ka1 (bF m k) + (2 + (2 + vJ m k * 8) + ka1 (a9 (y3 m k)) + (2 + bA m k * 8)) := by
  rw [bF, ka4, wbX, ka4, ka4, ka4, pbL_len, qJ, qJ]
  show _ = _ + (2 + (2 + (fO m k).rn * 8) + ka1 (a9 (fO m k).m) + (2 + (fO m k).sn * 8))
  omega
theorem k0j (m : List Bx) : ∀ k j, k ≤ j → ka1 (bF m k) ≤ ka1 (bF m j)
  | k, 0, h => by rw [show k = 0 by omega]; exact kc9 _
  | k, j + 1, h => by
    by_cases e : k = j + 1
    · subst e; exact kc9 _
    · have := k0j m k j (by omega); rw [bF, ka4]; omega
theorem u4z {m : List Bx} {k c : Nat} (hc : m.length = c) (hk : k < c) : ka1 (bF m k) + (2 + (2 + vJ m k * 8) + ka1 (a9 (y3 m k)) + (2 + bA m k * 8)) + 2 ≤ ka1 (vF m) := by
  subst hc
  have h := k0j m (k + 1) m.length (by omega)
  rw [bF, ka4, wbX, ka4, ka4, ka4, pbL_len, qJ, qJ] at h
  unfold vF; rw [ka4, pbL_len]
  show _ + (2 + (2 + (fO m k).rn * 8) + ka1 (a9 (fO m k).m) + (2 + (fO m k).sn * 8)) + 2 ≤ _
  omega
def RbX (b : Bx) : Prop := (0 ≤ b.k ∧ b.k ≤ 65535) ∧ R32 b.r ∧ b.rn ≤ 65535 ∧ R32 b.s ∧ b.sn ≤ 65535 ∧ ka1 b.m ≤ 65535 ∧ RmW b.m
def RbW (bs : List Bx) : Prop := ∀ b ∈ bs, RbX b
theorem RbW.at {bs : List Bx} (h : RbW bs) (i : Nat) : (0 ≤ bB bs i ∧ bB bs i ≤ 65535) ∧ vJ bs i ≤ 65535 ∧ bA bs i ≤ 65535 ∧ ka1 (y3 bs i) ≤ 65535 ∧ R32 (bY bs i) ∧ R32 (dP bs i) ∧ RmW (y3 bs i) := by
  have h1 : RbX (fO bs i) := by
    unfold fO
    rw [ka8]
    cases e : bs[i]? with
    | none => exact ⟨by show (0 : Int) ≤ 0 ∧ (0 : Int) ≤ 65535; omega, oO, kd9 _, oO, kd9 _, kd9 _, k7a⟩
    | some b => exact h b (kd7 e)
  exact ⟨h1.1, h1.2.2.1, h1.2.2.2.2.1, h1.2.2.2.2.2.1, h1.2.1, h1.2.2.2.1, h1.2.2.2.2.2.2⟩
theorem wH (r : List Int) (n : Nat) : Byt (eX r n) := by
  have h : ∀ k, Byt (pB r k) := fun k => by
    induction k with
    | zero => exact Byt.nil
    | succ k ih => exact ih.app ((pbL_byt _ _).app (pbL_byt _ _))
  exact (pbL_byt _ _).app (h n)
theorem k56 (m : List Int) : Byt (wpL m) := by
  have h : ∀ k, Byt (pC m k) := fun k => by
    induction k with
    | zero => exact Byt.nil
    | succ k ih => exact ih.app (pbL_byt _ _)
  exact (pbL_byt _ _).app (h _)
theorem k57 (m : List (List Int)) : Byt (a9 m) := by
  have h : ∀ k, Byt (bS m k) := fun k => by
    induction k with
    | zero => exact Byt.nil
    | succ k ih => exact ih.app (k56 _)
  exact (pbL_byt _ _).app (h _)
theorem wJ (m : List Bx) : Byt (vF m) := by
  have h : ∀ k, Byt (bF m k) := fun k => by
    induction k with
    | zero => exact Byt.nil
    | succ k ih => exact ih.app ((pbL_byt _ _).app ((wH _ _).app ((k57 _).app (wH _ _))))
  exact (pbL_byt _ _).app (h _)
def sI (id : Int) (nm : List Int) (d1 d2 d3 d4 d5 : Int) (bs : List Bx) : List Int := [83, 78, 68, 49] ++ pbL id 8 ++ y2 nm ++ pbL d1 2 ++ pbL d2 2 ++ pbL d3 4 ++ pbL d4 2 ++ pbL d5 2 ++ vF bs
theorem oK (id : Int) (nm : List Int) (d1 d2 d3 d4 d5 : Int) (bs : List Bx) : ka1 (sI id nm d1 d2 d3 d4 d5 bs) = 25 + ka1 nm + ka1 (vF bs) := by
  unfold sI; simp only [ka4, pbL_len, qT, kb1, kb6]; omega
theorem xZ {id : Int} {nm : List Int} {d1 d2 d3 d4 d5 : Int} {bs : List Bx} (h : Byt nm) (h1 : ka1 nm ≤ 64) : Byt (sI id nm d1 d2 d3 d4 d5 bs) :=
  ((((((((Byt.cons (by omega) (Byt.cons (by omega) (Byt.cons (by omega) (Byt.cons (by omega) Byt.nil)))).app (pbL_byt _ _)).app (wS h h1)).app (pbL_byt _ _)).app (pbL_byt _ _)).app (pbL_byt _ _)).app (pbL_byt _ _)).app (pbL_byt _ _)).app (wJ _)
theorem qH {p : Prop} (h : p := by first | omega | with_reducible assumption | (simp only [kR, kO, pbL_len, qT, qJ, ka4, kb1, kb6, kb3, kb2, kb4, kc2] <;> omega) | rfl | assumption) : p := h
theorem vB {p : Prop} (h : p := by first | omega | (simp only [kR, kO, pbL_len, qT, qJ, qK, ka4, kb1, kb6, kb3, kb2, kb4, kc2, kd0, kc7, kc4] <;> omega) | rfl) : p := h
theorem aP (l : List Int) (n : Nat) (x : Int) (hn : ka1 l = n) (h2 : n ≤ 900000) (hx : 0 ≤ x ∧ x ≤ 65535) : Fun 17 [.c (.ptr 0 0), iE x] (kG [(0, some (47, .cs [.own 1 0 n 1 true])), (1, some (5, .ds (dI .u8 l)))]) 2 (.tup []) (kG [(0, some (47, .cs [.own 2 0 (n + 2) 1 true])), (1, none), (2, some (5, .ds (dI .u8 (l ++ (pbL x 2)))))]) 3 := by
  refine Fun.mk (n := 15) Try.func17 rfl rfl (ka5 rfl) ?_
  intro cx hcx
  refine cB (kS 6 [.w, .call [] (sV .u8 (([] : List Int) ++ (pbL x 2)) 2) [] 1 [] none, .ap none (n + 2) (dI .u8 (l ++ (([] : List Int) ++ (pbL x 2)))), .no, .no, .no]) ((0 ≤ x ∧ x ≤ 65535) ∧ (_) ∧ ((dI .u8 (([] : List Int) ++ (pbL x 2))).length = 2 * 1) ∧ (((dI .u8 l) : List D).length = n * 1) ∧ ((n + 2) * 1 ≤ 140737488355328) ∧ (n + 2 = (n + 2)) ∧ (((dI .u8 l) : List D) ++ (dI .u8 (([] : List Int) ++ (pbL x 2))) = (dI .u8 (l ++ (([] : List Int) ++ (pbL x 2)))))) [] [(0, some (47, .cs [.own 3 0 (n + 2) 1 true])), (3, some (5, .ds (dI .u8 (l ++ (([] : List Int) ++ (pbL x 2))))))] 4 ⟨⟨by omega, by omega⟩, (W_Put16_z ([] : List Int) 0 x qH zo zo), vB, vB, zo, zo, (qN .u8 l (([] : List Int) ++ (pbL x 2)))⟩ ?_
  exact kC (.inl rfl) [(2, 3)] (P := (kN 0) ∧ (kN (n + 2)) ∧ (((dI .u8 (l ++ (pbL x 2))) : List D) = (dI .u8 (l ++ (([] : List Int) ++ (pbL x 2)))))) zk ⟨rfl, rfl, (by first | rfl | with_reducible assumption | (simp only [yP, uB, qN]; rfl) | (congr 1; first | assumption | (simp; done) | omega))⟩
theorem wD (l : List Int) (n : Nat) (x : Int) (hn : ka1 l = n) (h2 : n ≤ 900000) (hx : 0 ≤ x ∧ x ≤ 4294967295) : Fun 18 [.c (.ptr 0 0), iE x] (kG [(0, some (47, .cs [.own 1 0 n 1 true])), (1, some (5, .ds (dI .u8 l)))]) 2 (.tup []) (kG [(0, some (47, .cs [.own 2 0 (n + 4) 1 true])), (1, none), (2, some (5, .ds (dI .u8 (l ++ (pbL x 4)))))]) 3 := by
  refine Fun.mk (n := 15) Try.func18 rfl rfl (ka5 rfl) ?_
  intro cx hcx
  refine cB (kS 6 [.w, .call [] (sV .u8 (([] : List Int) ++ (pbL x 4)) 4) [] 1 [] none, .ap none (n + 4) (dI .u8 (l ++ (([] : List Int) ++ (pbL x 4)))), .no, .no, .no]) ((0 ≤ x ∧ x ≤ 4294967295) ∧ (_) ∧ ((dI .u8 (([] : List Int) ++ (pbL x 4))).length = 4 * 1) ∧ (((dI .u8 l) : List D).length = n * 1) ∧ ((n + 4) * 1 ≤ 140737488355328) ∧ (n + 4 = (n + 4)) ∧ (((dI .u8 l) : List D) ++ (dI .u8 (([] : List Int) ++ (pbL x 4))) = (dI .u8 (l ++ (([] : List Int) ++ (pbL x 4)))))) [] [(0, some (47, .cs [.own 3 0 (n + 4) 1 true])), (3, some (5, .ds (dI .u8 (l ++ (([] : List Int) ++ (pbL x 4))))))] 4 ⟨⟨by omega, by omega⟩, (W_Put32_z ([] : List Int) 0 x qH zo zo), vB, vB, zo, zo, (qN .u8 l (([] : List Int) ++ (pbL x 4)))⟩ ?_
  exact kC (.inl rfl) [(2, 3)] (P := (kN 0) ∧ (kN (n + 4)) ∧ (((dI .u8 (l ++ (pbL x 4))) : List D) = (dI .u8 (l ++ (([] : List Int) ++ (pbL x 4)))))) zk ⟨rfl, rfl, (by first | rfl | with_reducible assumption | (simp only [yP, uB, qN]; rfl) | (congr 1; first | assumption | (simp; done) | omega))⟩
theorem k0a (l s : List Int) (n : Nat) (hn : ka1 l = n) (h2 : n ≤ 900000) (hs : Byt s) (h3 : ka1 s ≤ 64) : Fun 32 [.c (.d (D.sl (dI .u8 l) n)), .c (.d (D.lit (.string (strOfNums s))))] (kG []) 0 (.tup [.c (.own 0 0 (n + (1 + (ka1 s))) 1 true), iE 0]) (kG [(0, some (5, .ds (dI .u8 (l ++ (y2 s)))))]) 1 := by
  refine Fun.mk (n := 18) Try.func32 rfl rfl (ka5 rfl) ?_
  intro cx hcx
  refine kK [.no, .no] True [(0, sV .u8 l n), (1, kT (D.lit (.string (strOfNums s))))] [] 0 trivial ?_
  refine AW.seq ?_
  refine kX [.no, .i (ka1 s : Int), .b false] (((ByteArray.size (strOfNums s) : Int) = ((ka1 s : Int) : Int)) ∧ (¬ ((64 : Int) < (ka1 s : Int)))) [(0, sV .u8 l n), (1, kT (D.lit (.string (strOfNums s)))), (8, bV false)] ⟨(by rw [strOfNums_size]), zo⟩ ?_
  refine yM ?_
  refine kK [.no, .no, .i (ka1 s : Int), .w, (.fz (.no)), .no, (.fz (.st none s)), .no, .call [] (oV 0 0 ((n + 1) + (ka1 s)) 1) [(0, some (5, .ds (dI .u8 ((l ++ ([(ka1 s : Int)] : List Int)) ++ s))))] 1 [none] none, .no, .no] (((ByteArray.size (strOfNums s) : Int) = ((ka1 s : Int) : Int)) ∧ (0 ≤ (ka1 s : Int) ∧ (ka1 s : Int) ≤ 255) ∧ (([D.lit (.int .u8 (ka1 s : Int))] : List D).length = 1 * 1) ∧ (cM (strOfNums s) = s) ∧ ((s : List Int).length ≤ 9223372036854775807) ∧ (((dI .u8 s) : List D).length = (ka1 s) * 1) ∧ ([db l n, D.sl [D.lit (.int .u8 (ka1 s : Int))] 1, db s (ka1 s)].length = 3 * 1) ∧ (iO (oV 0 0 ((n + 1) + (ka1 s)) 1) = true) ∧ ((dI .u8 ((l ++ ([(ka1 s : Int)] : List Int)) ++ s)).all xG = true) ∧ (_)) [(4, oV 3 0 ((n + 1) + (ka1 s)) 1), (5, iV 0)] [(3, some (5, .ds (dI .u8 ((l ++ ([(ka1 s : Int)] : List Int)) ++ s))))] 4 ⟨(by rw [strOfNums_size]), ⟨by omega, by omega⟩, vB, (tN (kP : Byt s)), (by first | decide | omega | (simp only [kR, kO, pbL_len, qT, qJ, ka4, kb1, kb6, kb3, kb2] <;> omega)), vB, vB, rfl, (by first | exact k8j _ _ | rfl), (oS l ([(ka1 s : Int)] : List Int) s n 1 (ka1 s) zo qH rfl zo zo zo)⟩ ?_
  refine AW.ret ?_
  exact kC (.inr rfl) [(0, 3)] (P := (kN 0) ∧ (((n + (1 + (ka1 s))) : Nat) = ((n + 1) + (ka1 s))) ∧ (kM 0) ∧ (((dI .u8 (l ++ (y2 s))) : List D) = (dI .u8 ((l ++ ([(ka1 s : Int)] : List Int)) ++ s)))) zk ⟨rfl, (by first | omega | rfl | assumption | (simp; done) | (simp; omega)), rfl, (by first | rfl | (unfold y2; simp; done))⟩
theorem sR (l s : List Int) (n : Nat) (hn : ka1 l = n) (h2 : n ≤ 900000) (hs : Byt s) (h3 : ka1 s ≤ 64) : Fun 32 [.c (.d (D.sl (dI .u8 l) n)), .c (.d (D.lit (.string (strOfNums s))))] (kG []) 0 (.tup [.c (.d (D.sl (dI .u8 (l ++ (y2 s))) (n + (1 + (ka1 s))))), iE 0]) (kG []) 1 := (Fun.frz (y := .tup [.c (.own 0 0 (n + (1 + (ka1 s))) 1 true), iE 0]) (g1 := [(0, some (5, .ds (dI .u8 (l ++ (y2 s)))))]) (y' := .tup [.c (.d (D.sl (dI .u8 (l ++ (y2 s))) (n + (1 + (ka1 s))))), iE 0]) (g1' := []) (ds := (dI .u8 (l ++ (y2 s)))) 0 (k0a l s n hn h2 hs h3) rfl FzG.nil (.tup ⟨.c (FzC.wh ((by simp only [ka4, qT]; omega))), .c (.same _), trivial⟩))
theorem u4b (l s : List Int) (n : Nat) (hn : ka1 l = n) (h2 : n ≤ 900000) (hs : Byt s) (h3 : ka1 s ≤ 64) : Fun 16 [.c (.ptr 0 0), .c (.d (D.lit (.string (strOfNums s))))] (kG [(0, some (47, .cs [.own 1 0 n 1 true])), (1, some (5, .ds (dI .u8 l)))]) 2 (.tup []) (kG [(0, some (47, .cs [.own 2 0 (n + (1 + (ka1 s))) 1 true])), (1, none), (2, some (5, .ds (dI .u8 (l ++ (y2 s)))))]) 3 := by
  refine Fun.mk (n := 20) Try.func16 rfl rfl (ka5 rfl) ?_
  intro cx hcx
  refine kK (.no :: .call [] (.tup [.c (.d (db (([] : List Int) ++ (y2 s)) (0 + (1 + (ka1 s))))), iE 0]) [] 1 [] none :: kS 5 []) _ [(0, rV 0 0), (4, sV .u8 (([] : List Int) ++ (y2 s)) (0 + (1 + (ka1 s))))] [(0, some (47, .cs [.own 1 0 n 1 true])), (1, some (5, .ds (dI .u8 l)))] 3 (sR ([] : List Int) s 0 qH zo (kP : Byt s) zo) ?_
  refine cB (kS 6 [.ap none (n + (0 + (1 + (ka1 s)))) (dI .u8 (l ++ (([] : List Int) ++ (y2 s)))), .no, .no, .no]) (((dI .u8 (([] : List Int) ++ (y2 s))).length = (0 + (1 + (ka1 s))) * 1) ∧ (((dI .u8 l) : List D).length = n * 1) ∧ ((n + (0 + (1 + (ka1 s)))) * 1 ≤ 140737488355328) ∧ (n + (0 + (1 + (ka1 s))) = (n + (0 + (1 + (ka1 s))))) ∧ (((dI .u8 l) : List D) ++ (dI .u8 (([] : List Int) ++ (y2 s))) = (dI .u8 (l ++ (([] : List Int) ++ (y2 s)))))) [] [(0, some (47, .cs [.own 3 0 (n + (0 + (1 + (ka1 s)))) 1 true])), (3, some (5, .ds (dI .u8 (l ++ (([] : List Int) ++ (y2 s))))))] 4 ⟨vB, vB, zo, zo, (qN .u8 l (([] : List Int) ++ (y2 s)))⟩ ?_
  exact kC (.inl rfl) [(2, 3)] (P := (kN 0) ∧ (((n + (1 + (ka1 s))) : Nat) = (n + (0 + (1 + (ka1 s))))) ∧ (((dI .u8 (l ++ (y2 s))) : List D) = (dI .u8 (l ++ (([] : List Int) ++ (y2 s)))))) zk ⟨rfl, (by first | omega | rfl | assumption | (simp; done) | (simp; omega)), (by first | rfl | (simp only [List.nil_append]; done))⟩
theorem cE {p : Prop} (h : p := by first | omega | assumption | simp) : p := h
theorem mA {p : Prop} (h : p := by first | rfl | omega | assumption | (simp; done) | (simp; omega)) : p := h
theorem k50 (l : List Int) (n : Nat) (r : List Int) (rn : Nat) (hn : ka1 l = n) (hr : ka1 r = rn * 2) (h1 : rn ≤ 65535) (h2 : n + 2 + rn * 8 ≤ 900000) (hR : R32 r) : Fun 34 [.c (.ptr 0 0), .agg [.d (D.sl (dI .i64 r) rn)]] (kG [(0, some (47, .cs [.own 1 0 n 1 true])), (1, some (5, .ds (dI .u8 l)))]) 2 (.tup []) (kG [(0, some (47, .cs [.own 2 0 (n + (2 + (rn * 8))) 1 true])), (1, none), (2, some (5, .ds (dI .u8 (l ++ (eX r rn)))))]) 3 := by
  refine Fun.mk (n := 27) Try.func34 rfl rfl (ka5 rfl) ?_
  intro cx hcx
  refine kK [.no] True [(0, rV 0 0), (3, rV 2 0)] [(0, some (47, .cs [.own 1 0 n 1 true])), (1, some (5, .ds (dI .u8 l))), (2, some (75, .ds [dl r rn]))] 3 trivial ?_
  refine kK (kS 4 [.call [0, 1] (.tup []) [(0, some (47, .cs [.own 2 0 (n + 2) 1 true])), (1, none), (2, some (5, .ds (dI .u8 (l ++ (pbL (rn : Int) 2)))))] 3 [] none]) _ [(0, rV 0 0), (3, rV 2 0)] [(0, some (47, .cs [.own 3 0 (n + 2) 1 true])), (2, some (75, .ds [dl r rn])), (3, some (5, .ds (dI .u8 (l ++ (pbL ↑rn 2)))))] 4 (aP l n (rn : Int) zo zo zo) ?_
  refine kK (kS 4 []) True [(0, rV 0 0), (12, sV .i64 r rn), (13, uV rn), (14, iV 0)] [(0, some (47, .cs [.own 3 0 (n + 2) 1 true])), (3, some (5, .ds (dI .u8 (l ++ (pbL ↑rn 2)))))] 4 trivial ?_
  refine AW.block ?_
  refine kW 2 hcx (fun (x : {x : Nat × Nat × List Int // match x with | (k, q, o) => (k ≤ rn) ∧ (l ++ (pbL (rn : Int) 2 ++ pB r k) = o) ∧ (ka1 o = q ∧ q = n + 2 + k * 8)}) => match x with | ⟨(k, q, o), _⟩ => (⟨[(0, rV 0 0), (12, sV .i64 r rn), (13, uV rn), (14, uV k)], [(0, some (47, .cs [.own 4 0 q 1 true])), (4, some (5, .ds (dI .u8 o)))], 5⟩ : ES)) (fun x => match x with | ⟨(k, q, o), _⟩ => rn - k) ⟨((0 : Nat), ((n + 2) : Nat), ((l ++ (pbL (rn : Int) 2)) : List Int)), ⟨cE, (u4i _ _ _), ⟨by rw [ka4, pbL_len, hn], by omega⟩⟩⟩ [(4, 3)] (P := (kN 0) ∧ (k8 (dI .i64 r)) ∧ (kN rn) ∧ (kM (rn : Int)) ∧ (kM 0) ∧ (kN 0) ∧ (kN (n + 2)) ∧ (k8 (dI .u8 (l ++ (pbL (rn : Int) 2))))) zk ⟨rfl, rfl, rfl, rfl, rfl, rfl, rfl, rfl⟩ ?_
  rintro ⟨⟨k, q, o⟩, hinv0⟩
  obtain ⟨hk, ho, hq⟩ : (k ≤ rn) ∧ (l ++ (pbL ((rn : Nat) : Int) 2 ++ pB r k) = o) ∧ (ka1 o = q ∧ q = n + 2 + k * 8) := hinv0
  refine uH (l := [(0, rV 0 0), (12, sV .i64 r rn), (13, uV rn), (14, uV k)]) (g := [(0, some (47, .cs [.own 4 0 q 1 true])), (4, some (5, .ds (dI .u8 o)))]) (nx := 5) rfl rfl rfl ?_
  by_cases hx1 : (((k : Nat) : Int) < ((rn : Nat) : Int))
  · refine zr [.b true] [0, 12, 13, 14, 15] [0, 4] (((k : Int) < (rn : Int))) [(0, rV 0 0), (12, sV .i64 r rn), (13, uV rn), (14, uV k), (15, bV true)] [(0, some (47, .cs [.own 4 0 q 1 true])), (4, some (5, .ds (dI .u8 o)))] 5 zo ?_
    refine AW.seq ?_
    refine vD ?_
    refine AW.seq ?_
    refine AW.block ?_
    have hx2 : 0 ≤ (ka0 r (k * 2) 0) ∧ (ka0 r (k * 2) 0) ≤ 4294967295 := (R32.at (kP : R32 r) zo)
    have hx3 : 0 ≤ (ka0 r ((k * 2) + 1) 0) ∧ (ka0 r ((k * 2) + 1) 0) ≤ 4294967295 := (R32.at (kP : R32 r) zo)
    refine kK [.n k, .ds [iD (ka0 r (k * 2) 0), iD (ka0 r ((k * 2) + 1) 0)], .no, .no] ((kM (k : Int)) ∧ (k < rn) ∧ (List.take 2 (ka7 (k * 2) (dI .i64 r)) = [iD (ka0 r (k * 2) 0), iD (ka0 r ((k * 2) + 1) 0)]) ∧ (([iD (ka0 r (k * 2) 0), iD (ka0 r ((k * 2) + 1) 0)] : List D).length = 2)) [(0, rV 0 0), (5, rV 5 0), (12, sV .i64 r rn), (13, uV rn), (14, uV k)] [(0, some (47, .cs [.own 4 0 q 1 true])), (4, some (5, .ds (dI .u8 o))), (5, some (96, .ds [iD (ka0 r (k * 2) 0), iD (ka0 r ((k * 2) + 1) 0)]))] 6 ⟨rfl, zo, (v7 .i64 r (k * 2) 2 vB), rfl⟩ ?_
    refine kK [.no, .no, .no, .call [0, 4] (.tup []) [(0, some (47, .cs [.own 2 0 (q + 4) 1 true])), (1, none), (2, some (5, .ds (dI .u8 (o ++ (pbL (ka0 r (k * 2) 0) 4)))))] 3 [] none] _ [(0, rV 0 0), (5, rV 5 0), (12, sV .i64 r rn), (13, uV rn), (14, uV k)] [(0, some (47, .cs [.own 6 0 (q + 4) 1 true])), (5, some (96, .ds [iD (ka0 r (k * 2) 0), iD (ka0 r ((k * 2) + 1) 0)])), (6, some (5, .ds (dI .u8 (o ++ (pbL (ka0 r (k * 2) 0) 4)))))] 7 (wD o q (ka0 r (k * 2) 0) zo zo qH) ?_
    refine cB [.no, .no, .no, .call [0, 6] (.tup []) [(0, some (47, .cs [.own 2 0 ((q + 4) + 4) 1 true])), (1, none), (2, some (5, .ds (dI .u8 ((o ++ (pbL (ka0 r (k * 2) 0) 4)) ++ (pbL (ka0 r ((k * 2) + 1) 0) 4)))))] 3 [] none] _ [(0, rV 0 0), (12, sV .i64 r rn), (13, uV rn), (14, uV k)] [(0, some (47, .cs [.own 7 0 ((q + 4) + 4) 1 true])), (7, some (5, .ds (dI .u8 ((o ++ (pbL (ka0 r (k * 2) 0) 4)) ++ (pbL (ka0 r ((k * 2) + 1) 0) 4)))))] 8 (wD (o ++ (pbL (ka0 r (k * 2) 0) 4)) (q + 4) (ka0 r ((k * 2) + 1) 0) qH zo qH) ?_
    refine yD [.w, .no] (qL ((k : Int) + 1)) [(0, rV 0 0), (12, sV .i64 r rn), (13, uV rn), (14, iV (↑k + 1))] ⟨by omega, by omega⟩ ?_
    exact qS ⟨(((k + 1) : Nat), (((q + 4) + 4) : Nat), (((o ++ (pbL (ka0 r (k * 2) 0) 4)) ++ (pbL (ka0 r ((k * 2) + 1) 0) 4)) : List Int)), ⟨cE, (u4g ho), (by simp only [kR, kO, pbL_len, qT, qJ, ka4, pbL_len] <;> omega)⟩⟩ [(4, 7)] (P := (kN 0) ∧ (k8 (dI .i64 r)) ∧ (kN rn) ∧ (kM (rn : Int)) ∧ (q1S k) ∧ (kN 0) ∧ (kN ((q + 4) + 4)) ∧ (k8 (dI .u8 ((o ++ (pbL (ka0 r (k * 2) 0) 4)) ++ (pbL (ka0 r ((k * 2) + 1) 0) 4))))) zk ⟨rfl, rfl, rfl, rfl, mA, rfl, rfl, rfl⟩ (show rn - (k + 1) < rn - k from (by first | omega | (show _ < _; simp; omega)))
  · refine zr [.b false] [0, 12, 13, 14, 15] [0, 4] (¬ ((k : Int) < (rn : Int))) [(0, rV 0 0), (12, sV .i64 r rn), (13, uV rn), (14, uV k), (15, bV false)] [(0, some (47, .cs [.own 4 0 q 1 true])), (4, some (5, .ds (dI .u8 o)))] 5 zo ?_
    refine AW.seq ?_
    refine zf ?_
    refine AW.exit ?_
    have hz1 : l ++ eX r rn = o := u4h ho (by omega)
    exact kC (.inl rfl) [(2, 4)] (P := (kN 0) ∧ (((n + (2 + (rn * 8))) : Nat) = q) ∧ (((dI .u8 (l ++ (eX r rn))) : List D) = (dI .u8 o))) zk ⟨rfl, (by first | omega | rfl | exact hz1.symm | exact hz1 | (rw [hz1]; done) | (rw [kb7, hz1]; done)), (by first | omega | rfl | exact hz1.symm | exact hz1 | (rw [hz1]; done) | (rw [kb7, hz1]; done))⟩
abbrev mV (m : List (List Int)) (k : Nat) := pbL (((ka1 (ka0 m k ([] : List Int))) : Nat) : Int) 2
theorem k7c (l : List Int) (n : Nat) (m : List (List Int)) (c : Nat) (hn : ka1 l = n) (hc : ka1 m = c) (h1 : c ≤ 65535) (h2 : n + ka1 (a9 m) ≤ 900000) (hW : MsW m) (hM : RmW m) : Fun 35 [.c (.ptr 0 0), .c (.d (D.sl (k9 m) c))] (kG [(0, some (47, .cs [.own 1 0 n 1 true])), (1, some (5, .ds (dI .u8 l)))]) 2 (.tup []) (kG [(0, some (47, .cs [.own 2 0 (n + (ka1 (a9 m))) 1 true])), (1, none), (2, some (5, .ds (dI .u8 (l ++ (a9 m)))))]) 3 := by
  refine Fun.mk (n := 33) Try.func35 rfl rfl (ka5 rfl) ?_
  intro cx hcx
  refine kK [.no, .no, .no, .call [0, 1] (.tup []) [(0, some (47, .cs [.own 2 0 (n + 2) 1 true])), (1, none), (2, some (5, .ds (dI .u8 (l ++ (pbL (c : Int) 2)))))] 3 [] none] _ [(0, rV 0 0), (1, qX (k9 m) c)] [(0, some (47, .cs [.own 2 0 (n + 2) 1 true])), (2, some (5, .ds (dI .u8 (l ++ (pbL ↑c 2)))))] 3 (aP l n (c : Int) zo zo zo) ?_
  refine kX [.no, .no, .no] True [(0, rV 0 0), (12, qX (k9 m) c), (13, uV c), (14, iV 0)] trivial ?_
  refine AW.block ?_
  refine kW 2 hcx (fun (x : {x : Nat × Nat × List Int // match x with | (k, q, o) => (k ≤ c) ∧ (l ++ (pbL (c : Int) 2 ++ bS m k) = o) ∧ (ka1 o = q ∧ q = n + 2 + ka1 (bS m k))}) => match x with | ⟨(k, q, o), _⟩ => (⟨[(0, rV 0 0), (12, qX (k9 m) c), (13, uV c), (14, uV k)], [(0, some (47, .cs [.own 3 0 q 1 true])), (3, some (5, .ds (dI .u8 o)))], 4⟩ : ES)) (fun x => match x with | ⟨(k, q, o), _⟩ => c - k) ⟨((0 : Nat), ((n + 2) : Nat), ((l ++ (pbL (c : Int) 2)) : List Int)), ⟨cE, (by subst hc; exact u4r _ _), ⟨by rw [ka4, pbL_len, hn], rfl⟩⟩⟩ [(3, 2)] (P := (kN 0) ∧ (k8 (k9 m)) ∧ (kN c) ∧ (kM (c : Int)) ∧ (kM 0) ∧ (kN 0) ∧ (kN (n + 2)) ∧ (k8 (dI .u8 (l ++ (pbL (c : Int) 2))))) zk ⟨rfl, rfl, rfl, rfl, rfl, rfl, rfl, rfl⟩ ?_
  rintro ⟨⟨k, q, o⟩, hinv0⟩
  obtain ⟨hk, ho, hq⟩ : (k ≤ c) ∧ (l ++ (pbL ((c : Nat) : Int) 2 ++ bS m k) = o) ∧ (ka1 o = q ∧ q = n + 2 + ka1 (bS m k)) := hinv0
  refine uH (l := [(0, rV 0 0), (12, qX (k9 m) c), (13, uV c), (14, uV k)]) (g := [(0, some (47, .cs [.own 3 0 q 1 true])), (3, some (5, .ds (dI .u8 o)))]) (nx := 4) rfl rfl rfl ?_
  by_cases hx1 : (((k : Nat) : Int) < ((c : Nat) : Int))
  · refine zr [.b true] [0, 12, 13, 14, 15] [0, 3] (((k : Int) < (c : Int))) [(0, rV 0 0), (12, qX (k9 m) c), (13, uV c), (14, uV k), (15, bV true)] [(0, some (47, .cs [.own 3 0 q 1 true])), (3, some (5, .ds (dI .u8 o)))] 4 zo ?_
    refine AW.seq ?_
    refine vD ?_
    refine AW.seq ?_
    refine AW.block ?_
    have hx2 : R16 (ka0 m k []) := (RmW.at hM k).1
    have hx3 : ka1 (ka0 m k []) ≤ 65535 := (RmW.at hM k).2
    have hx4 : ka1 (bS m k) + (2 + ka1 (ka0 m k []) * 2) + 2 ≤ ka1 (a9 m) := u4q hc zo
    have hx5 : ((ka1 (ka0 m k ([] : List Int))) ≤ 1000000) := MsW.at (kP : MsW m) _
    refine kK [.n k, .d (dl (ka0 m k ([] : List Int)) (ka1 (ka0 m k ([] : List Int)))), .no] ((kM (k : Int)) ∧ (k < c) ∧ ((ka7 k (k9 m))[0]? = some (dl (ka0 m k ([] : List Int)) (ka1 (ka0 m k ([] : List Int)))))) [(0, rV 0 0), (5, sV .i64 (ka0 m k ([] : List Int)) (ka1 (ka0 m k ([] : List Int)))), (12, qX (k9 m) c), (13, uV c), (14, uV k)] [(0, some (47, .cs [.own 3 0 q 1 true])), (3, some (5, .ds (dI .u8 o)))] 4 ⟨rfl, zo, (aN _ _ (by first | omega | (simp only [kR, kO, pbL_len, qT, qJ, ka4, kb1, kb6, kb3, kb2] <;> omega)))⟩ ?_
    refine kK [.no, .no, .no, .call [0, 3] (.tup []) [(0, some (47, .cs [.own 2 0 (q + 2) 1 true])), (1, none), (2, some (5, .ds (dI .u8 (o ++ (mV m k)))))] 3 [] none] _ [(0, rV 0 0), (5, sV .i64 (ka0 m k ([] : List Int)) (ka1 (ka0 m k ([] : List Int)))), (12, qX (k9 m) c), (13, uV c), (14, uV k)] [(0, some (47, .cs [.own 4 0 (q + 2) 1 true])), (4, some (5, .ds (dI .u8 (o ++ (mV m k)))))] 5 (aP o q (((ka1 (ka0 m k ([] : List Int))) : Nat) : Int) zo zo qH) ?_
    refine kX [.no, .no, .no] True [(0, rV 0 0), (12, qX (k9 m) c), (13, uV c), (14, uV k), (22, sV .i64 (ka0 m k ([] : List Int)) (ka1 (ka0 m k ([] : List Int)))), (23, uV (ka1 (ka0 m k ([] : List Int)))), (24, iV 0)] trivial ?_
    refine AW.block ?_
    refine kW 2 hcx (fun (x : {x : Nat × Nat × List Int // match x with | (j, p, b) => (j ≤ ka1 (ka0 m k [])) ∧ (o ++ (pbL ((ka1 (ka0 m k []) : Nat) : Int) 2 ++ pC (ka0 m k []) j) = b) ∧ (ka1 b = p ∧ p = q + 2 + j * 2)}) => match x with | ⟨(j, p, b), _⟩ => (⟨[(0, rV 0 0), (12, qX (k9 m) c), (13, uV c), (14, uV k), (22, sV .i64 (ka0 m k ([] : List Int)) (ka1 (ka0 m k ([] : List Int)))), (23, uV (ka1 (ka0 m k ([] : List Int)))), (24, uV j)], [(0, some (47, .cs [.own 5 0 p 1 true])), (5, some (5, .ds (dI .u8 b)))], 6⟩ : ES)) (fun x => match x with | ⟨(j, p, b), _⟩ => ka1 (ka0 m k []) - j) ⟨((0 : Nat), ((q + 2) : Nat), ((o ++ (mV m k)) : List Int)), ⟨cE, (u4l _ _), ⟨by rw [ka4, pbL_len]; omega, by omega⟩⟩⟩ [(5, 4)] (P := (kN 0) ∧ (k8 (k9 m)) ∧ (kN c) ∧ (kM (c : Int)) ∧ (kM (k : Int)) ∧ (k8 (dI .i64 (ka0 m k ([] : List Int)))) ∧ (kN (ka1 (ka0 m k ([] : List Int)))) ∧ (kM (((ka1 (ka0 m k ([] : List Int))) : Nat) : Int)) ∧ (kM 0) ∧ (kN 0) ∧ (kN (q + 2)) ∧ (k8 (dI .u8 (o ++ (mV m k))))) zk ⟨rfl, rfl, rfl, rfl, rfl, rfl, rfl, rfl, rfl, rfl, rfl, rfl⟩ ?_
    rintro ⟨⟨j, p, b⟩, hinv1⟩
    obtain ⟨hj, hb, hp⟩ : (j ≤ ka1 (ka0 m k [])) ∧ (o ++ (pbL ((ka1 (ka0 m k []) : Nat) : Int) 2 ++ pC (ka0 m k []) j) = b) ∧ (ka1 b = p ∧ p = q + 2 + j * 2) := hinv1
    refine uH (l := [(0, rV 0 0), (12, qX (k9 m) c), (13, uV c), (14, uV k), (22, sV .i64 (ka0 m k ([] : List Int)) (ka1 (ka0 m k ([] : List Int)))), (23, uV (ka1 (ka0 m k ([] : List Int)))), (24, uV j)]) (g := [(0, some (47, .cs [.own 5 0 p 1 true])), (5, some (5, .ds (dI .u8 b)))]) (nx := 6) rfl rfl rfl ?_
    by_cases hx6 : (((j : Nat) : Int) < (((ka1 (ka0 m k ([] : List Int))) : Nat) : Int))
    · refine zr [.b true] [0, 12, 13, 14, 22, 23, 24, 25] [0, 5] (((j : Int) < (((ka1 (ka0 m k ([] : List Int))) : Nat) : Int))) [(0, rV 0 0), (12, qX (k9 m) c), (13, uV c), (14, uV k), (22, sV .i64 (ka0 m k ([] : List Int)) (ka1 (ka0 m k ([] : List Int)))), (23, uV (ka1 (ka0 m k ([] : List Int)))), (24, uV j), (25, bV true)] [(0, some (47, .cs [.own 5 0 p 1 true])), (5, some (5, .ds (dI .u8 b)))] 6 zo ?_
      refine AW.seq ?_
      refine vD ?_
      refine AW.seq ?_
      refine AW.block ?_
      have hx7 : 0 ≤ (ka0 (ka0 m k ([] : List Int)) j 0) ∧ (ka0 (ka0 m k ([] : List Int)) j 0) ≤ 65535 := (R16.at (kP : R16 (ka0 m k ([] : List Int))) zo)
      refine kK [.n j, .d (D.lit (.int .i64 (ka0 (ka0 m k ([] : List Int)) j 0))), .no] ((kM (j : Int)) ∧ (j < (ka1 (ka0 m k ([] : List Int)))) ∧ ((ka7 j (dI .i64 (ka0 m k ([] : List Int))))[0]? = some (D.lit (.int .i64 (ka0 (ka0 m k ([] : List Int)) j 0))))) [(0, rV 0 0), (7, iV (ka0 (ka0 m k ([] : List Int)) j 0)), (12, qX (k9 m) c), (13, uV c), (14, uV k), (22, sV .i64 (ka0 m k ([] : List Int)) (ka1 (ka0 m k ([] : List Int)))), (23, uV (ka1 (ka0 m k ([] : List Int)))), (24, uV j)] [(0, some (47, .cs [.own 5 0 p 1 true])), (5, some (5, .ds (dI .u8 b)))] 6 ⟨rfl, zo, (qQ _ _ _ vB)⟩ ?_
      refine cB [.no, .no, .call [0, 5] (.tup []) [(0, some (47, .cs [.own 2 0 (p + 2) 1 true])), (1, none), (2, some (5, .ds (dI .u8 (b ++ (pbL (ka0 (ka0 m k ([] : List Int)) j 0) 2)))))] 3 [] none] _ [(0, rV 0 0), (12, qX (k9 m) c), (13, uV c), (14, uV k), (22, sV .i64 (ka0 m k ([] : List Int)) (ka1 (ka0 m k ([] : List Int)))), (23, uV (ka1 (ka0 m k ([] : List Int)))), (24, uV j)] [(0, some (47, .cs [.own 6 0 (p + 2) 1 true])), (6, some (5, .ds (dI .u8 (b ++ (pbL (ka0 (ka0 m k ([] : List Int)) j 0) 2)))))] 7 (aP b p (ka0 (ka0 m k ([] : List Int)) j 0) zo zo qH) ?_
      refine yD [.w, .no] (qL ((j : Int) + 1)) [(0, rV 0 0), (12, qX (k9 m) c), (13, uV c), (14, uV k), (22, sV .i64 (ka0 m k ([] : List Int)) (ka1 (ka0 m k ([] : List Int)))), (23, uV (ka1 (ka0 m k ([] : List Int)))), (24, iV (↑j + 1))] ⟨by omega, by omega⟩ ?_
      exact qS ⟨(((j + 1) : Nat), ((p + 2) : Nat), ((b ++ (pbL (ka0 (ka0 m k ([] : List Int)) j 0) 2)) : List Int)), ⟨cE, (u4j hb), (by simp only [kR, kO, pbL_len, qT, qJ, ka4, pbL_len] <;> omega)⟩⟩ [(5, 6)] (P := (kN 0) ∧ (k8 (k9 m)) ∧ (kN c) ∧ (kM (c : Int)) ∧ (kM (k : Int)) ∧ (k8 (dI .i64 (ka0 m k ([] : List Int)))) ∧ (kN (ka1 (ka0 m k ([] : List Int)))) ∧ (kM (((ka1 (ka0 m k ([] : List Int))) : Nat) : Int)) ∧ (q1S j) ∧ (kN 0) ∧ (kN (p + 2)) ∧ (k8 (dI .u8 (b ++ (pbL (ka0 (ka0 m k ([] : List Int)) j 0) 2))))) zk ⟨rfl, rfl, rfl, rfl, rfl, rfl, rfl, rfl, mA, rfl, rfl, rfl⟩ (show ka1 (ka0 m k []) - (j + 1) < ka1 (ka0 m k []) - j from (by first | omega | (show _ < _; simp; omega)))
    · refine zr [.b false] [0, 12, 13, 14, 22, 23, 24, 25] [0, 5] (¬ ((j : Int) < (((ka1 (ka0 m k ([] : List Int))) : Nat) : Int))) [(0, rV 0 0), (12, qX (k9 m) c), (13, uV c), (14, uV k), (22, sV .i64 (ka0 m k ([] : List Int)) (ka1 (ka0 m k ([] : List Int)))), (23, uV (ka1 (ka0 m k ([] : List Int)))), (24, uV j), (25, bV false)] [(0, some (47, .cs [.own 5 0 p 1 true])), (5, some (5, .ds (dI .u8 b)))] 6 zo ?_
      refine AW.seq ?_
      refine zf ?_
      refine AW.exit ?_
      have hz1 : o ++ wpL (ka0 m k []) = b := u4k hb (by omega)
      have hz2 : ka1 (bS m (k + 1)) = ka1 (bS m k) + (2 + ka1 (ka0 m k []) * 2) := u1e _ _
      refine cB [.w, .no] (qL ((k : Int) + 1)) [(0, rV 0 0), (12, qX (k9 m) c), (13, uV c), (14, iV (↑k + 1))] [(0, some (47, .cs [.own 5 0 p 1 true])), (5, some (5, .ds (dI .u8 b)))] 6 ⟨by omega, by omega⟩ ?_
      exact qS ⟨(((k + 1) : Nat), (p : Nat), (b : List Int)), ⟨cE, (u4m hc ho hz1), (by first | assumption | exact ⟨by omega, wm_q hz1 zo zo⟩ | omega)⟩⟩ [(3, 5)] (P := (kN 0) ∧ (k8 (k9 m)) ∧ (kN c) ∧ (kM (c : Int)) ∧ (q1S k) ∧ (kN 0) ∧ (kN p) ∧ (k8 (dI .u8 b))) zk ⟨rfl, rfl, rfl, rfl, mA, rfl, rfl, rfl⟩ (show c - (k + 1) < c - k from (by first | omega | (show _ < _; simp; omega)))
  · refine zr [.b false] [0, 12, 13, 14, 15] [0, 3] (¬ ((k : Int) < (c : Int))) [(0, rV 0 0), (12, qX (k9 m) c), (13, uV c), (14, uV k), (15, bV false)] [(0, some (47, .cs [.own 3 0 q 1 true])), (3, some (5, .ds (dI .u8 o)))] 4 zo ?_
    refine AW.seq ?_
    refine zf ?_
    refine AW.exit ?_
    have hz1 : l ++ a9 m = o := u4o hc ho (by omega); have hz2 : n + ka1 (a9 m) = q := u1f hz1 hn hq.1
    exact kC (.inl rfl) [(2, 3)] (P := (kN 0) ∧ (((n + (ka1 (a9 m))) : Nat) = q) ∧ (((dI .u8 (l ++ (a9 m))) : List D) = (dI .u8 o))) zk ⟨rfl, (by first | exact hz2 | omega | rfl), (by first | omega | rfl | exact hz1.symm | exact hz1 | (rw [hz1]; done) | (rw [kb7, hz1]; done))⟩
abbrev mU (bs : List Bx) (k : Nat) : BC := .ds [iD (bB bs k), D.sl (dI .i64 (bY bs k)) (vJ bs k), D.sl (k9 (y3 bs k)) (ka1 (y3 bs k)), D.sl (dI .i64 (dP bs k)) (bA bs k)]
theorem k51 (l : List Int) (n : Nat) (bs : List Bx) (c : Nat) (hn : ka1 l = n) (hc : ka1 bs = c) (h1 : c ≤ 65535) (h2 : n + ka1 (vF bs) ≤ 900000) (hW : BsW bs) (hM : RbW bs) : Fun 19 [.c (.ptr 0 0), .c (.d (D.sl (qC bs) c))] (kG [(0, some (47, .cs [.own 1 0 n 1 true])), (1, some (5, .ds (dI .u8 l)))]) 2 (.tup []) (kG [(0, some (47, .cs [.own 2 0 (n + (ka1 (vF bs))) 1 true])), (1, none), (2, some (5, .ds (dI .u8 (l ++ (vF bs)))))]) 3 := by
  refine Fun.mk (n := 33) Try.func19 rfl rfl (ka5 rfl) ?_
  intro cx hcx
  refine kK [.no, .no, .no, .call [0, 1] (.tup []) [(0, some (47, .cs [.own 2 0 (n + 2) 1 true])), (1, none), (2, some (5, .ds (dI .u8 (l ++ (pbL (c : Int) 2)))))] 3 [] none] _ [(0, rV 0 0), (1, .e (vN bs c))] [(0, some (47, .cs [.own 2 0 (n + 2) 1 true])), (2, some (5, .ds (dI .u8 (l ++ (pbL ↑c 2)))))] 3 (aP l n (c : Int) zo zo zo) ?_
  refine kX [.no, .no, .no] True [(0, rV 0 0), (10, .e (vN bs c)), (11, uV c), (12, iV 0)] trivial ?_
  refine AW.block ?_
  refine kW 2 hcx (fun (x : {x : Nat × Nat × List Int // match x with | (k, q, o) => (k ≤ c) ∧ (l ++ (pbL (c : Int) 2 ++ bF bs k) = o) ∧ (ka1 o = q ∧ q = n + 2 + ka1 (bF bs k))}) => match x with | ⟨(k, q, o), _⟩ => (⟨[(0, rV 0 0), (10, .e (vN bs c)), (11, uV c), (12, uV k)], [(0, some (47, .cs [.own 3 0 q 1 true])), (3, some (5, .ds (dI .u8 o)))], 4⟩ : ES)) (fun x => match x with | ⟨(k, q, o), _⟩ => c - k) ⟨((0 : Nat), ((n + 2) : Nat), ((l ++ (pbL (c : Int) 2)) : List Int)), ⟨cE, (by subst hc; exact u50 _ _), ⟨by rw [ka4, pbL_len, hn], rfl⟩⟩⟩ [(3, 2)] (P := (kN 0) ∧ (k8 (qC bs)) ∧ (kN c) ∧ (kM (c : Int)) ∧ (kM 0) ∧ (kN 0) ∧ (kN (n + 2)) ∧ (k8 (dI .u8 (l ++ (pbL (c : Int) 2))))) zk ⟨rfl, rfl, rfl, rfl, rfl, rfl, rfl, rfl⟩ ?_
  rintro ⟨⟨k, q, o⟩, hinv0⟩
  obtain ⟨hk, ho, hq⟩ : (k ≤ c) ∧ (l ++ (pbL ((c : Nat) : Int) 2 ++ bF bs k) = o) ∧ (ka1 o = q ∧ q = n + 2 + ka1 (bF bs k)) := hinv0
  refine uH (l := [(0, rV 0 0), (10, .e (vN bs c)), (11, uV c), (12, uV k)]) (g := [(0, some (47, .cs [.own 3 0 q 1 true])), (3, some (5, .ds (dI .u8 o)))]) (nx := 4) rfl rfl rfl ?_
  by_cases hx1 : (((k : Nat) : Int) < ((c : Nat) : Int))
  · refine zr [.b true] [0, 10, 11, 12, 13] [0, 3] (((k : Int) < (c : Int))) [(0, rV 0 0), (10, .e (vN bs c)), (11, uV c), (12, uV k), (13, bV true)] [(0, some (47, .cs [.own 3 0 q 1 true])), (3, some (5, .ds (dI .u8 o)))] 4 zo ?_
    refine AW.seq ?_
    refine vD ?_
    refine AW.seq ?_
    refine AW.block ?_
    obtain ⟨hx2, hx3, hx4, hx5, hx6, hx7, hx8⟩ := RbW.at hM k
    have hx9 : ka1 (bF bs k) + (2 + (2 + vJ bs k * 8) + ka1 (a9 (y3 bs k)) + (2 + bA bs k * 8)) + 2 ≤ ka1 (vF bs) := u4z hc zo
    have hx10 : ka1 (bF bs (k + 1)) = ka1 (bF bs k) + (2 + (2 + vJ bs k * 8) + ka1 (a9 (y3 bs k)) + (2 + bA bs k * 8)) := u4w _ _
    obtain ⟨hx11, hx12, hx13, hx14, hx15⟩ := BsW.at (kP : BsW bs) (k)
    refine kK [.n k, .ds (jY bs k), .no, .no] ((kM (k : Int)) ∧ (k < c) ∧ (List.take 4 (ka7 (k * 4) (qC bs)) = (jY bs k)) ∧ (((jY bs k) : List D).length = 4)) [(0, rV 0 0), (5, rV 4 0), (10, .e (vN bs c)), (11, uV c), (12, uV k)] [(0, some (47, .cs [.own 3 0 q 1 true])), (3, some (5, .ds (dI .u8 o))), (4, some (78, (mU bs k)))] 5 ⟨rfl, zo, (jI (by first | omega | (simp only [kR, kO, pbL_len, qT, qJ, ka4, kb1, kb6, kb3, kb2] <;> omega))), rfl⟩ ?_
    refine kK [.no, .no, .no, .call [0, 3] (.tup []) [(0, some (47, .cs [.own 2 0 (q + 2) 1 true])), (1, none), (2, some (5, .ds (dI .u8 (o ++ (pbL (bB bs k) 2)))))] 3 [] none] _ [(0, rV 0 0), (5, rV 4 0), (10, .e (vN bs c)), (11, uV c), (12, uV k)] [(0, some (47, .cs [.own 5 0 (q + 2) 1 true])), (4, some (78, (mU bs k))), (5, some (5, .ds (dI .u8 (o ++ (pbL (bB bs k) 2)))))] 6 (aP o q (bB bs k) zo zo qH) ?_
    refine kK [.no, .no, .no, .call [0, 5] (.tup []) [(0, some (47, .cs [.own 2 0 ((q + 2) + (2 + ((vJ bs k) * 8))) 1 true])), (1, none), (2, some (5, .ds (dI .u8 ((o ++ (pbL (bB bs k) 2)) ++ (eX (bY bs k) (vJ bs k))))))] 3 [] none] _ [(0, rV 0 0), (5, rV 4 0), (10, .e (vN bs c)), (11, uV c), (12, uV k)] [(0, some (47, .cs [.own 6 0 ((q + 2) + (2 + ((vJ bs k) * 8))) 1 true])), (4, some (78, (mU bs k))), (6, some (5, .ds (dI .u8 ((o ++ (pbL (bB bs k) 2)) ++ (eX (bY bs k) (vJ bs k))))))] 7 (k50 (o ++ (pbL (bB bs k) 2)) (q + 2) (bY bs k) (vJ bs k) qH qH qH qH qH) ?_
    refine kK [.no, .no, .no, .call [0, 6] (.tup []) [(0, some (47, .cs [.own 2 0 (((q + 2) + (2 + ((vJ bs k) * 8))) + (ka1 (a9 (y3 bs k)))) 1 true])), (1, none), (2, some (5, .ds (dI .u8 (((o ++ (pbL (bB bs k) 2)) ++ (eX (bY bs k) (vJ bs k))) ++ (a9 (y3 bs k))))))] 3 [] none] _ [(0, rV 0 0), (5, rV 4 0), (10, .e (vN bs c)), (11, uV c), (12, uV k)] [(0, some (47, .cs [.own 7 0 (((q + 2) + (2 + ((vJ bs k) * 8))) + (ka1 (a9 (y3 bs k)))) 1 true])), (4, some (78, (mU bs k))), (7, some (5, .ds (dI .u8 (((o ++ (pbL (bB bs k) 2)) ++ (eX (bY bs k) (vJ bs k))) ++ (a9 (y3 bs k))))))] 8 (k7c ((o ++ (pbL (bB bs k) 2)) ++ (eX (bY bs k) (vJ bs k))) ((q + 2) + (2 + ((vJ bs k) * 8))) (y3 bs k) (ka1 (y3 bs k)) qH rfl qH qH (dY (kP : BsW bs) _) qH) ?_
    refine cB [.no, .no, .no, .call [0, 7] (.tup []) [(0, some (47, .cs [.own 2 0 ((((q + 2) + (2 + ((vJ bs k) * 8))) + (ka1 (a9 (y3 bs k)))) + (2 + ((bA bs k) * 8))) 1 true])), (1, none), (2, some (5, .ds (dI .u8 ((((o ++ (pbL (bB bs k) 2)) ++ (eX (bY bs k) (vJ bs k))) ++ (a9 (y3 bs k))) ++ (eX (dP bs k) (bA bs k))))))] 3 [] none] _ [(0, rV 0 0), (10, .e (vN bs c)), (11, uV c), (12, uV k)] [(0, some (47, .cs [.own 8 0 ((((q + 2) + (2 + ((vJ bs k) * 8))) + (ka1 (a9 (y3 bs k)))) + (2 + ((bA bs k) * 8))) 1 true])), (8, some (5, .ds (dI .u8 ((((o ++ (pbL (bB bs k) 2)) ++ (eX (bY bs k) (vJ bs k))) ++ (a9 (y3 bs k))) ++ (eX (dP bs k) (bA bs k))))))] 9 (k50 (((o ++ (pbL (bB bs k) 2)) ++ (eX (bY bs k) (vJ bs k))) ++ (a9 (y3 bs k))) (((q + 2) + (2 + ((vJ bs k) * 8))) + (ka1 (a9 (y3 bs k)))) (dP bs k) (bA bs k) qH qH qH qH qH) ?_
    refine yD [.w, .no] (qL ((k : Int) + 1)) [(0, rV 0 0), (10, .e (vN bs c)), (11, uV c), (12, iV (↑k + 1))] ⟨by omega, by omega⟩ ?_
    exact qS ⟨(((k + 1) : Nat), (((((q + 2) + (2 + ((vJ bs k) * 8))) + (ka1 (a9 (y3 bs k)))) + (2 + ((bA bs k) * 8))) : Nat), (((((o ++ (pbL (bB bs k) 2)) ++ (eX (bY bs k) (vJ bs k))) ++ (a9 (y3 bs k))) ++ (eX (dP bs k) (bA bs k))) : List Int)), ⟨cE, (u4u hc ho), ⟨by simp only [kR, kO, pbL_len, qT, qJ, ka4, pbL_len, qJ] <;> omega, by omega⟩⟩⟩ [(3, 8)] (P := (kN 0) ∧ (k8 (qC bs)) ∧ (kN c) ∧ (kM (c : Int)) ∧ (q1S k) ∧ (kN 0) ∧ (kN ((((q + 2) + (2 + ((vJ bs k) * 8))) + (ka1 (a9 (y3 bs k)))) + (2 + ((bA bs k) * 8)))) ∧ (k8 (dI .u8 ((((o ++ (pbL (bB bs k) 2)) ++ (eX (bY bs k) (vJ bs k))) ++ (a9 (y3 bs k))) ++ (eX (dP bs k) (bA bs k)))))) zk ⟨rfl, rfl, rfl, rfl, mA, rfl, rfl, rfl⟩ (show c - (k + 1) < c - k from (by first | omega | (show _ < _; simp; omega)))
  · refine zr [.b false] [0, 10, 11, 12, 13] [0, 3] (¬ ((k : Int) < (c : Int))) [(0, rV 0 0), (10, .e (vN bs c)), (11, uV c), (12, uV k), (13, bV false)] [(0, some (47, .cs [.own 3 0 q 1 true])), (3, some (5, .ds (dI .u8 o)))] 4 zo ?_
    refine AW.seq ?_
    refine zf ?_
    refine AW.exit ?_
    have hz1 : l ++ vF bs = o := u4x hc ho (by omega); have hz2 : n + ka1 (vF bs) = q := u1f hz1 hn hq.1
    exact kC (.inl rfl) [(2, 3)] (P := (kN 0) ∧ (((n + (ka1 (vF bs))) : Nat) = q) ∧ (((dI .u8 (l ++ (vF bs))) : List D) = (dI .u8 o))) zk ⟨rfl, (by first | exact hz2 | omega | rfl), (by first | omega | rfl | exact hz1.symm | exact hz1 | (rw [hz1]; done) | (rw [kb7, hz1]; done))⟩
theorem k53 (id : Int) (nm : List Int) (d1 d2 d3 d4 d5 : Int) (bs : List Bx) (n : Nat) (hy : Byt nm) (hl : ka1 nm ≤ 64) (hn : ka1 bs = n) (h1 : n ≤ 8) (hW : BsW bs) (hM : RbW bs) (h2 : ka1 (vF bs) ≤ 800000) (hi : 0 ≤ id ∧ id ≤ 18446744073709551615) (hd : 0 ≤ d1 ∧ d1 ≤ 65535 ∧ 0 ≤ d2 ∧ d2 ≤ 65535 ∧ 0 ≤ d3 ∧ d3 ≤ 4294967295 ∧ 0 ≤ d4 ∧ d4 ≤ 65535 ∧ 0 ≤ d5 ∧ d5 ≤ 65535) (hV : dM nm d1 d2 d3 d4 d5 bs = true) : Fun 7 [.agg [.d (D.lit (.int .u64 id)), .d (D.lit (.string (strOfNums nm))), iC d1, iC d2, iC d3, iC d4, iC d5, .d (D.sl (qC bs) n)]] (kG []) 0 (.tup [.c (.d (D.sl (dI .u8 ((sI id nm d1 d2 d3 d4 d5 bs) ++ (pbL (kY (sI id nm d1 d2 d3 d4 d5 bs)) 4))) (((ka1 (vF bs)) + (ka1 nm)) + 29))), iE 0]) (kG []) 0 := by
  refine Fun.mk (n := 53) Try.func7 rfl rfl (ka5 rfl) ?_
  intro cx hcx
  refine kK [.no, .no, .no] True [(1, rV 0 0)] [(0, some (31, .ds [D.lit (.int .u64 id), D.lit (.string (strOfNums nm)), iD d1, iD d2, iD d3, iD d4, iD d5, D.sl (qC bs) n]))] 1 trivial ?_
  refine AW.seq ?_
  refine kX [.no, .call [] (bV true) [] 0 [] none, .no] (Fun 14 [.agg [.d (D.lit (.int .u64 id)), .d (D.lit (.string (strOfNums nm))), iC d1, iC d2, iC d3, iC d4, iC d5, .d (D.sl (qC bs) n)]] (kG []) 0 (bV true) (kG []) 0) [(1, rV 0 0), (7, bV false)] (by have h0 := (gR id nm d1 d2 d3 d4 d5 bs n (kP : Byt nm) zo zo zo (kP : BsW bs)); rw [hV] at h0; exact h0) ?_
  refine yM ?_
  refine kK (kS 4 [.call [] (oV 0 0 12 1) [(0, some (5, .ds (dI .u8 (([83, 78, 68, 49] : List Int) ++ (pbL id 8)))))] 1 [none] none, .no, .no, .no]) ((1 ≤ 4) ∧ ([D.lit (.int .u8 83), D.lit (.int .u8 78), D.lit (.int .u8 68), D.lit (.int .u8 49)].length = 4 * 1) ∧ (iO (oV 0 0 12 1) = true) ∧ ((dI .u8 (([83, 78, 68, 49] : List Int) ++ (pbL id 8))).all xG = true) ∧ (_)) [(1, rV 0 0), (4, rV 3 0)] [(0, some (31, .ds [D.lit (.int .u64 id), D.lit (.string (strOfNums nm)), iD d1, iD d2, iD d3, iD d4, iD d5, D.sl (qC bs) n])), (2, some (5, .ds (dI .u8 (([83, 78, 68, 49] : List Int) ++ (pbL id 8))))), (3, some (47, .cs [.own 2 0 12 1 true]))] 4 ⟨zo, vB, rfl, (by first | exact k8j _ _ | rfl), (W_Put64 ([83, 78, 68, 49] : List Int) 4 id qH zo zo)⟩ ?_
  refine kK [.no, .no, .no, .call [3, 2] (.tup []) [(0, some (47, .cs [.own 2 0 (12 + (1 + (ka1 nm))) 1 true])), (1, none), (2, some (5, .ds (dI .u8 ((([83, 78, 68, 49] : List Int) ++ (pbL id 8)) ++ (y2 nm)))))] 3 [] none] _ [(1, rV 0 0), (4, rV 3 0)] [(0, some (31, .ds [D.lit (.int .u64 id), D.lit (.string (strOfNums nm)), iD d1, iD d2, iD d3, iD d4, iD d5, D.sl (qC bs) n])), (3, some (47, .cs [.own 4 0 (12 + (1 + (ka1 nm))) 1 true])), (4, some (5, .ds (dI .u8 ((([83, 78, 68, 49] : List Int) ++ (pbL id 8)) ++ (y2 nm)))))] 5 (u4b (([83, 78, 68, 49] : List Int) ++ (pbL id 8)) nm 12 qH zo (kP : Byt nm) zo) ?_
  refine kK [.no, .no, .no, .call [3, 4] (.tup []) [(0, some (47, .cs [.own 2 0 ((12 + (1 + (ka1 nm))) + 2) 1 true])), (1, none), (2, some (5, .ds (dI .u8 (((([83, 78, 68, 49] : List Int) ++ (pbL id 8)) ++ (y2 nm)) ++ (pbL d1 2)))))] 3 [] none] _ [(1, rV 0 0), (4, rV 3 0)] [(0, some (31, .ds [D.lit (.int .u64 id), D.lit (.string (strOfNums nm)), iD d1, iD d2, iD d3, iD d4, iD d5, D.sl (qC bs) n])), (3, some (47, .cs [.own 5 0 ((12 + (1 + (ka1 nm))) + 2) 1 true])), (5, some (5, .ds (dI .u8 (((([83, 78, 68, 49] : List Int) ++ (pbL id 8)) ++ (y2 nm)) ++ (pbL d1 2)))))] 6 (aP ((([83, 78, 68, 49] : List Int) ++ (pbL id 8)) ++ (y2 nm)) (12 + (1 + (ka1 nm))) d1 qH zo zo) ?_
  refine kK [.no, .no, .no, .call [3, 5] (.tup []) [(0, some (47, .cs [.own 2 0 (((12 + (1 + (ka1 nm))) + 2) + 2) 1 true])), (1, none), (2, some (5, .ds (dI .u8 ((((([83, 78, 68, 49] : List Int) ++ (pbL id 8)) ++ (y2 nm)) ++ (pbL d1 2)) ++ (pbL d2 2)))))] 3 [] none] _ [(1, rV 0 0), (4, rV 3 0)] [(0, some (31, .ds [D.lit (.int .u64 id), D.lit (.string (strOfNums nm)), iD d1, iD d2, iD d3, iD d4, iD d5, D.sl (qC bs) n])), (3, some (47, .cs [.own 6 0 (((12 + (1 + (ka1 nm))) + 2) + 2) 1 true])), (6, some (5, .ds (dI .u8 ((((([83, 78, 68, 49] : List Int) ++ (pbL id 8)) ++ (y2 nm)) ++ (pbL d1 2)) ++ (pbL d2 2)))))] 7 (aP (((([83, 78, 68, 49] : List Int) ++ (pbL id 8)) ++ (y2 nm)) ++ (pbL d1 2)) ((12 + (1 + (ka1 nm))) + 2) d2 qH zo zo) ?_
  refine kK [.no, .no, .no, .call [3, 6] (.tup []) [(0, some (47, .cs [.own 2 0 ((((12 + (1 + (ka1 nm))) + 2) + 2) + 4) 1 true])), (1, none), (2, some (5, .ds (dI .u8 (((((([83, 78, 68, 49] : List Int) ++ (pbL id 8)) ++ (y2 nm)) ++ (pbL d1 2)) ++ (pbL d2 2)) ++ (pbL d3 4)))))] 3 [] none] _ [(1, rV 0 0), (4, rV 3 0)] [(0, some (31, .ds [D.lit (.int .u64 id), D.lit (.string (strOfNums nm)), iD d1, iD d2, iD d3, iD d4, iD d5, D.sl (qC bs) n])), (3, some (47, .cs [.own 7 0 ((((12 + (1 + (ka1 nm))) + 2) + 2) + 4) 1 true])), (7, some (5, .ds (dI .u8 (((((([83, 78, 68, 49] : List Int) ++ (pbL id 8)) ++ (y2 nm)) ++ (pbL d1 2)) ++ (pbL d2 2)) ++ (pbL d3 4)))))] 8 (wD ((((([83, 78, 68, 49] : List Int) ++ (pbL id 8)) ++ (y2 nm)) ++ (pbL d1 2)) ++ (pbL d2 2)) (((12 + (1 + (ka1 nm))) + 2) + 2) d3 qH zo zo) ?_
  refine kK [.no, .no, .no, .call [3, 7] (.tup []) [(0, some (47, .cs [.own 2 0 (((((12 + (1 + (ka1 nm))) + 2) + 2) + 4) + 2) 1 true])), (1, none), (2, some (5, .ds (dI .u8 ((((((([83, 78, 68, 49] : List Int) ++ (pbL id 8)) ++ (y2 nm)) ++ (pbL d1 2)) ++ (pbL d2 2)) ++ (pbL d3 4)) ++ (pbL d4 2)))))] 3 [] none] _ [(1, rV 0 0), (4, rV 3 0)] [(0, some (31, .ds [D.lit (.int .u64 id), D.lit (.string (strOfNums nm)), iD d1, iD d2, iD d3, iD d4, iD d5, D.sl (qC bs) n])), (3, some (47, .cs [.own 8 0 (((((12 + (1 + (ka1 nm))) + 2) + 2) + 4) + 2) 1 true])), (8, some (5, .ds (dI .u8 ((((((([83, 78, 68, 49] : List Int) ++ (pbL id 8)) ++ (y2 nm)) ++ (pbL d1 2)) ++ (pbL d2 2)) ++ (pbL d3 4)) ++ (pbL d4 2)))))] 9 (aP (((((([83, 78, 68, 49] : List Int) ++ (pbL id 8)) ++ (y2 nm)) ++ (pbL d1 2)) ++ (pbL d2 2)) ++ (pbL d3 4)) ((((12 + (1 + (ka1 nm))) + 2) + 2) + 4) d4 qH zo zo) ?_
  refine kK [.no, .no, .no, .call [3, 8] (.tup []) [(0, some (47, .cs [.own 2 0 ((((((12 + (1 + (ka1 nm))) + 2) + 2) + 4) + 2) + 2) 1 true])), (1, none), (2, some (5, .ds (dI .u8 (((((((([83, 78, 68, 49] : List Int) ++ (pbL id 8)) ++ (y2 nm)) ++ (pbL d1 2)) ++ (pbL d2 2)) ++ (pbL d3 4)) ++ (pbL d4 2)) ++ (pbL d5 2)))))] 3 [] none] _ [(1, rV 0 0), (4, rV 3 0)] [(0, some (31, .ds [D.lit (.int .u64 id), D.lit (.string (strOfNums nm)), iD d1, iD d2, iD d3, iD d4, iD d5, D.sl (qC bs) n])), (3, some (47, .cs [.own 9 0 ((((((12 + (1 + (ka1 nm))) + 2) + 2) + 4) + 2) + 2) 1 true])), (9, some (5, .ds (dI .u8 (((((((([83, 78, 68, 49] : List Int) ++ (pbL id 8)) ++ (y2 nm)) ++ (pbL d1 2)) ++ (pbL d2 2)) ++ (pbL d3 4)) ++ (pbL d4 2)) ++ (pbL d5 2)))))] 10 (aP ((((((([83, 78, 68, 49] : List Int) ++ (pbL id 8)) ++ (y2 nm)) ++ (pbL d1 2)) ++ (pbL d2 2)) ++ (pbL d3 4)) ++ (pbL d4 2)) (((((12 + (1 + (ka1 nm))) + 2) + 2) + 4) + 2) d5 qH zo zo) ?_
  refine kK [.no, .no, .no, .call [3, 9] (.tup []) [(0, some (47, .cs [.own 2 0 (((((((12 + (1 + (ka1 nm))) + 2) + 2) + 4) + 2) + 2) + (ka1 (vF bs))) 1 true])), (1, none), (2, some (5, .ds (dI .u8 ((((((((([83, 78, 68, 49] : List Int) ++ (pbL id 8)) ++ (y2 nm)) ++ (pbL d1 2)) ++ (pbL d2 2)) ++ (pbL d3 4)) ++ (pbL d4 2)) ++ (pbL d5 2)) ++ (vF bs)))))] 3 [] none] _ [(4, rV 3 0)] [(3, some (47, .cs [.own 10 0 (((((((12 + (1 + (ka1 nm))) + 2) + 2) + 4) + 2) + 2) + (ka1 (vF bs))) 1 true])), (10, some (5, .ds (dI .u8 ((((((((([83, 78, 68, 49] : List Int) ++ (pbL id 8)) ++ (y2 nm)) ++ (pbL d1 2)) ++ (pbL d2 2)) ++ (pbL d3 4)) ++ (pbL d4 2)) ++ (pbL d5 2)) ++ (vF bs)))))] 11 (k51 (((((((([83, 78, 68, 49] : List Int) ++ (pbL id 8)) ++ (y2 nm)) ++ (pbL d1 2)) ++ (pbL d2 2)) ++ (pbL d3 4)) ++ (pbL d4 2)) ++ (pbL d5 2)) ((((((12 + (1 + (ka1 nm))) + 2) + 2) + 4) + 2) + 2) bs n qH zo zo qH (kP : BsW bs) qH) ?_
  refine AW.freeze 10 (l' := [(4, rV 3 0)]) (g' := [(3, some (47, .ds [db ((((((((([83, 78, 68, 49] : List Int) ++ (pbL id 8)) ++ (y2 nm)) ++ (pbL d1 2)) ++ (pbL d2 2)) ++ (pbL d3 4)) ++ (pbL d4 2)) ++ (pbL d5 2)) ++ (vF bs)) (((((((12 + (1 + (ka1 nm))) + 2) + 2) + 4) + 2) + 2) + (ka1 (vF bs)))]))]) rfl (FzS.cons rfl (.same _) FzS.nil) (FzG.to (bc := .cs [.own 10 0 (((((((12 + (1 + (ka1 nm))) + 2) + 2) + 4) + 2) + 2) + (ka1 (vF bs))) 1 true]) rfl (by rfl) (FzL.cons (@FzC.own 10 ((dI .u8 ((((((((([83, 78, 68, 49] : List Int) ++ (pbL id 8)) ++ (y2 nm)) ++ (pbL d1 2)) ++ (pbL d2 2)) ++ (pbL d3 4)) ++ (pbL d4 2)) ++ (pbL d5 2)) ++ (vF bs))) : List D) 0 (((((((12 + (1 + (ka1 nm))) + 2) + 2) + 4) + 2) + 2) + (ka1 (vF bs))) 1 true ((dI .u8 ((((((((([83, 78, 68, 49] : List Int) ++ (pbL id 8)) ++ (y2 nm)) ++ (pbL d1 2)) ++ (pbL d2 2)) ++ (pbL d3 4)) ++ (pbL d4 2)) ++ (pbL d5 2)) ++ (vF bs))) : List D) (by rw [List.drop_zero, kc4, List.take_of_length_le (by first | omega | (simp only [kR, kO, pbL_len, qT, qJ, qK, ka4, kb1, kb6, kb3, kb2, kb4, kc2, kd0, kc7, kc4] <;> omega))]) vB) FzL.nil) FzG.nil) ?_
  have hx1 : (((0 : Int) ≤ (kY ((((((((([83, 78, 68, 49] : List Int) ++ (pbL id 8)) ++ (y2 nm)) ++ (pbL d1 2)) ++ (pbL d2 2)) ++ (pbL d3 4)) ++ (pbL d4 2)) ++ (pbL d5 2)) ++ (vF bs)))) ∧ ((kY ((((((((([83, 78, 68, 49] : List Int) ++ (pbL id 8)) ++ (y2 nm)) ++ (pbL d1 2)) ++ (pbL d2 2)) ++ (pbL d3 4)) ++ (pbL d4 2)) ++ (pbL d5 2)) ++ (vF bs))) ≤ 4294967295)) := gF _
  refine kK (kS 8 [.call [] (kT (D.lit (.int .u32 (kY ((((((((([83, 78, 68, 49] : List Int) ++ (pbL id 8)) ++ (y2 nm)) ++ (pbL d1 2)) ++ (pbL d2 2)) ++ (pbL d3 4)) ++ (pbL d4 2)) ++ (pbL d5 2)) ++ (vF bs)))))) [] 0 [] none, .call [] (sV .u8 (((((((((([83, 78, 68, 49] : List Int) ++ (pbL id 8)) ++ (y2 nm)) ++ (pbL d1 2)) ++ (pbL d2 2)) ++ (pbL d3 4)) ++ (pbL d4 2)) ++ (pbL d5 2)) ++ (vF bs)) ++ (pbL (kY ((((((((([83, 78, 68, 49] : List Int) ++ (pbL id 8)) ++ (y2 nm)) ++ (pbL d1 2)) ++ (pbL d2 2)) ++ (pbL d3 4)) ++ (pbL d4 2)) ++ (pbL d5 2)) ++ (vF bs))) 4)) ((((((((12 + (1 + (ka1 nm))) + 2) + 2) + 4) + 2) + 2) + (ka1 (vF bs))) + 4)) [] 1 [] none, .no, .no]) ((_) ∧ (_)) [(2, sV .u8 (((((((((([83, 78, 68, 49] : List Int) ++ (pbL id 8)) ++ (y2 nm)) ++ (pbL d1 2)) ++ (pbL d2 2)) ++ (pbL d3 4)) ++ (pbL d4 2)) ++ (pbL d5 2)) ++ (vF bs)) ++ (pbL (kY ((((((((([83, 78, 68, 49] : List Int) ++ (pbL id 8)) ++ (y2 nm)) ++ (pbL d1 2)) ++ (pbL d2 2)) ++ (pbL d3 4)) ++ (pbL d4 2)) ++ (pbL d5 2)) ++ (vF bs))) 4)) ((((((((12 + (1 + (ka1 nm))) + 2) + 2) + 4) + 2) + 2) + (ka1 (vF bs))) + 4)), (3, iV 0)] [] 12 ⟨(k52 ((((((((([83, 78, 68, 49] : List Int) ++ (pbL id 8)) ++ (y2 nm)) ++ (pbL d1 2)) ++ (pbL d2 2)) ++ (pbL d3 4)) ++ (pbL d4 2)) ++ (pbL d5 2)) ++ (vF bs)) (((((((12 + (1 + (ka1 nm))) + 2) + 2) + 4) + 2) + 2) + (ka1 (vF bs))) qH qH (Byt.app (Byt.app (Byt.app (Byt.app (Byt.app (Byt.app (Byt.app (Byt.app (Byt.cons zo (Byt.cons zo (Byt.cons zo (Byt.cons zo Byt.nil)))) (pbL_byt _ _)) (wS (kP : Byt nm) zo)) (pbL_byt _ _)) (pbL_byt _ _)) (pbL_byt _ _)) (pbL_byt _ _)) (pbL_byt _ _)) (wJ _))), (W_Put32_z ((((((((([83, 78, 68, 49] : List Int) ++ (pbL id 8)) ++ (y2 nm)) ++ (pbL d1 2)) ++ (pbL d2 2)) ++ (pbL d3 4)) ++ (pbL d4 2)) ++ (pbL d5 2)) ++ (vF bs)) (((((((12 + (1 + (ka1 nm))) + 2) + 2) + 4) + 2) + 2) + (ka1 (vF bs))) (kY ((((((((([83, 78, 68, 49] : List Int) ++ (pbL id 8)) ++ (y2 nm)) ++ (pbL d1 2)) ++ (pbL d2 2)) ++ (pbL d3 4)) ++ (pbL d4 2)) ++ (pbL d5 2)) ++ (vF bs))) qH qH qH)⟩ ?_
  refine AW.ret ?_
  exact kC (.inr rfl) [] (P := (((dI .u8 ((sI id nm d1 d2 d3 d4 d5 bs) ++ (pbL (kY (sI id nm d1 d2 d3 d4 d5 bs)) 4))) : List D) = (dI .u8 (((((((((([83, 78, 68, 49] : List Int) ++ (pbL id 8)) ++ (y2 nm)) ++ (pbL d1 2)) ++ (pbL d2 2)) ++ (pbL d3 4)) ++ (pbL d4 2)) ++ (pbL d5 2)) ++ (vF bs)) ++ (pbL (kY ((((((((([83, 78, 68, 49] : List Int) ++ (pbL id 8)) ++ (y2 nm)) ++ (pbL d1 2)) ++ (pbL d2 2)) ++ (pbL d3 4)) ++ (pbL d4 2)) ++ (pbL d5 2)) ++ (vF bs))) 4)))) ∧ (((((ka1 (vF bs)) + (ka1 nm)) + 29) : Nat) = ((((((((12 + (1 + (ka1 nm))) + 2) + 2) + 4) + 2) + 2) + (ka1 (vF bs))) + 4)) ∧ (kM 0)) zk ⟨(by first | rfl | (unfold sI; rfl)), (by first | omega | rfl), rfl⟩
end Go.Proofs.Ytalbpleglapihaa
