/- Writers. No statement is proved here. -/
import Derived.Test.YtalbpleglapihaaZD11D
namespace Go.Proofs.Ytalbpleglapihaa
open Go.ChangeShapes Go.WideShapes Go.ChangeAt Go.RowKit
open List renaming append_assoc → kb7, append_nil → kc6, drop → ka7, getD → ka0, getD_eq_getElem?_getD → ka8, getElem?_eq_getElem → ka9, getElem_mem → kg5, length → ka1, length_append → ka4, length_cons → kb2, length_drop → kb1, length_map → kd0, length_nil → kb5, length_replicate → kb4, length_reverse → kc8, length_set → kc4, length_take → kb3, mem_of_getElem? → kd6
open Nat renaming le_of_ble_eq_true → ka5, le_refl → kc7, mul_one → kc3, zero_le → kd7
set_option linter.unusedVariables false
set_option linter.unusedSimpArgs false
/-! chapter 11: writers -/
set_option maxHeartbeats 4000000
set_option maxRecDepth 100000
def y4 (s : List Int) : List Int := ((ka1 s : Nat) : Int) :: s
theorem qX (s : List Int) : ka1 (y4 s) = 1 + ka1 s := by unfold y4; rw [kb2]; omega
theorem tU {s : List Int} (h : Byt s) (h1 : ka1 s ≤ 64) : Byt (y4 s) := Byt.cons (by omega) h
def R32 (r : List Int) : Prop := ∀ x ∈ r, 0 ≤ x ∧ x ≤ 4294967295
def R16 (r : List Int) : Prop := ∀ x ∈ r, 0 ≤ x ∧ x ≤ 65535
theorem R32.at {r : List Int} (h : R32 r) {i : Nat} (hi : i < r.length) : 0 ≤ ka0 r i 0 ∧ ka0 r i 0 ≤ 4294967295 := by
  rw [ka8, ka9 hi]
  exact h _ (kg5 hi)
theorem R16.at {r : List Int} (h : R16 r) {i : Nat} (hi : i < r.length) : 0 ≤ ka0 r i 0 ∧ ka0 r i 0 ≤ 65535 := by
  rw [ka8, ka9 hi]
  exact h _ (kg5 hi)
theorem k63 : R16 [] := fun x hx => by cases hx
theorem nL : R32 [] := fun x hx => by cases hx
def RmW (m : List (List Int)) : Prop := ∀ x ∈ m, R16 x ∧ ka1 x ≤ 65535
theorem k62 : RmW [] := fun x hx => by cases hx
theorem RmW.at {m : List (List Int)} (h : RmW m) (i : Nat) : R16 (ka0 m i []) ∧ ka1 (ka0 m i []) ≤ 65535 := by
  rw [ka8]
  cases e : m[i]? with
  | none => exact ⟨k63, kd7 _⟩
  | some l => exact h l (kd6 e)
def n4 (r : List Int) : Nat → List Int
  | 0 => []
  | k + 1 => n4 r k ++ (pbL (ka0 r (k * 2) 0) 4 ++ pbL (ka0 r (k * 2 + 1) 0) 4)
theorem lM (r : List Int) : ∀ k, ka1 (n4 r k) = k * 8
  | 0 => rfl
  | k + 1 => by show ka1 (n4 r k ++ _) = _; rw [ka4, lM r k, ka4, pbL_len, pbL_len]; omega
def eI (r : List Int) (n : Nat) : List Int := pbL ((n : Nat) : Int) 2 ++ n4 r n
theorem qM (r : List Int) (n : Nat) : ka1 (eI r n) = 2 + n * 8 := by unfold eI; rw [ka4, pbL_len, lM]
theorem u2y (l r : List Int) (n : Nat) : l ++ (pbL ((n : Nat) : Int) 2 ++ n4 r 0) = l ++ pbL ((n : Nat) : Int) 2 := by rw [n4, kc6]
theorem u2w {l r o : List Int} {n k : Nat} (h : l ++ (pbL ((n : Nat) : Int) 2 ++ n4 r k) = o) : l ++ (pbL ((n : Nat) : Int) 2 ++ n4 r (k + 1)) = o ++ pbL (ka0 r (k * 2) 0) 4 ++ pbL (ka0 r (k * 2 + 1) 0) 4 := by
  subst h; rw [n4]; simp only [kb7]
theorem u2x {l r o : List Int} {n k : Nat} (h : l ++ (pbL ((n : Nat) : Int) 2 ++ n4 r k) = o) (hk : k = n) : l ++ eI r n = o := by subst hk; exact h
def n5 (m : List Int) : Nat → List Int
  | 0 => []
  | k + 1 => n5 m k ++ pbL (ka0 m k 0) 2
theorem lQ (m : List Int) : ∀ k, ka1 (n5 m k) = k * 2
  | 0 => rfl
  | k + 1 => by show ka1 (n5 m k ++ _) = _; rw [ka4, lQ m k, pbL_len]; omega
def zR (m : List Int) : List Int := pbL ((ka1 m : Nat) : Int) 2 ++ n5 m m.length
theorem lP (m : List Int) : ka1 (zR m) = 2 + ka1 m * 2 := by unfold zR; rw [ka4, pbL_len, lQ]
theorem u31 (l m : List Int) : l ++ (pbL ((ka1 m : Nat) : Int) 2 ++ n5 m 0) = l ++ pbL ((ka1 m : Nat) : Int) 2 := by rw [n5, kc6]
theorem u2z {l m o : List Int} {k : Nat} (h : l ++ (pbL ((ka1 m : Nat) : Int) 2 ++ n5 m k) = o) : l ++ (pbL ((ka1 m : Nat) : Int) 2 ++ n5 m (k + 1)) = o ++ pbL (ka0 m k 0) 2 := by
  subst h; rw [n5]; simp only [kb7]
theorem u30 {l m o : List Int} {k : Nat} (h : l ++ (pbL ((ka1 m : Nat) : Int) 2 ++ n5 m k) = o) (hk : k = m.length) : l ++ zR m = o := by subst hk; exact h
def bF (m : List (List Int)) : Nat → List Int
  | 0 => []
  | k + 1 => bF m k ++ zR (ka0 m k [])
def aY (m : List (List Int)) : List Int := pbL ((ka1 m : Nat) : Int) 2 ++ bF m m.length
theorem u38 (l : List Int) (m : List (List Int)) : l ++ (pbL ((ka1 m : Nat) : Int) 2 ++ bF m 0) = l ++ pbL ((ka1 m : Nat) : Int) 2 := by rw [bF, kc6]
theorem u34 {l o p : List Int} {m : List (List Int)} {k : Nat} (h : l ++ (pbL ((ka1 m : Nat) : Int) 2 ++ bF m k) = o) (h1 : o ++ zR (ka0 m k []) = p) : l ++ (pbL ((ka1 m : Nat) : Int) 2 ++ bF m (k + 1)) = p := by
  subst h1; subst h; rw [bF]; simp only [kb7]
theorem u36 {l o : List Int} {m : List (List Int)} {k : Nat} (h : l ++ (pbL ((ka1 m : Nat) : Int) 2 ++ bF m k) = o) (hk : k = m.length) : l ++ aY m = o := by subst hk; exact h
theorem u33 {l o p : List Int} {m : List (List Int)} {c k : Nat} (hc : m.length = c) (h : l ++ (pbL ((c : Nat) : Int) 2 ++ bF m k) = o) (h1 : o ++ zR (ka0 m k []) = p) : l ++ (pbL ((c : Nat) : Int) 2 ++ bF m (k + 1)) = p := by subst hc; exact u34 h h1
theorem u35 {l o : List Int} {m : List (List Int)} {c k : Nat} (hc : m.length = c) (h : l ++ (pbL ((c : Nat) : Int) 2 ++ bF m k) = o) (hk : k = c) : l ++ aY m = o := by subst hc; exact u36 h hk
theorem k9t (m : List (List Int)) (k : Nat) : ka1 (bF m (k + 1)) = ka1 (bF m k) + (2 + ka1 (ka0 m k []) * 2) := by rw [bF, ka4, lP]
theorem k9u {l w o : List Int} {n q : Nat} (h : l ++ w = o) (hn : l.length = n) (hq : o.length = q) : n + ka1 w = q := by subst h; rw [ka4] at hq; omega
theorem zS (m : List (List Int)) : ∀ k j, k ≤ j → ka1 (bF m k) ≤ ka1 (bF m j)
  | k, 0, h => by rw [show k = 0 by omega]; exact kc7 _
  | k, j + 1, h => by
    by_cases e : k = j + 1
    · subst e; exact kc7 _
    · have := zS m k j (by omega); rw [bF, ka4]; omega
theorem u37 {m : List (List Int)} {k c : Nat} (hc : m.length = c) (hk : k < c) : ka1 (bF m k) + (2 + ka1 (ka0 m k []) * 2) + 2 ≤ ka1 (aY m) := by
  subst hc
  have h := zS m (k + 1) m.length (by omega)
  rw [bF, ka4, lP] at h
  unfold aY; rw [ka4, pbL_len]; omega
def zT (b : Bx) : List Int := pbL b.k 2 ++ (eI b.r b.rn ++ (aY b.m ++ eI b.s b.sn))
def a4 (bs : List Bx) : Nat → List Int
  | 0 => []
  | k + 1 => a4 bs k ++ zT (fF bs k)
def vB (bs : List Bx) : List Int := pbL ((ka1 bs : Nat) : Int) 2 ++ a4 bs bs.length
theorem u3h (l : List Int) (bs : List Bx) : l ++ (pbL ((ka1 bs : Nat) : Int) 2 ++ a4 bs 0) = l ++ pbL ((ka1 bs : Nat) : Int) 2 := by rw [a4, kc6]
theorem u3c {l o : List Int} {bs : List Bx} {k : Nat} (h : l ++ (pbL ((ka1 bs : Nat) : Int) 2 ++ a4 bs k) = o) : l ++ (pbL ((ka1 bs : Nat) : Int) 2 ++ a4 bs (k + 1)) = o ++ pbL (cL bs k) 2 ++ eI (dF bs k) (vZ bs k) ++ aY (vI bs k) ++ eI (fW bs k) (cK bs k) := by
  subst h; rw [a4, zT]; simp only [kb7]; rfl
theorem u3f {l o : List Int} {bs : List Bx} {k : Nat} (h : l ++ (pbL ((ka1 bs : Nat) : Int) 2 ++ a4 bs k) = o) (hk : k = bs.length) : l ++ vB bs = o := by subst hk; exact h
theorem u3b {l o : List Int} {bs : List Bx} {c k : Nat} (hc : bs.length = c) (h : l ++ (pbL ((c : Nat) : Int) 2 ++ a4 bs k) = o) : l ++ (pbL ((c : Nat) : Int) 2 ++ a4 bs (k + 1)) = o ++ pbL (cL bs k) 2 ++ eI (dF bs k) (vZ bs k) ++ aY (vI bs k) ++ eI (fW bs k) (cK bs k) := by subst hc; exact u3c h
theorem u3e {l o : List Int} {m : List Bx} {c k : Nat} (hc : m.length = c) (h : l ++ (pbL ((c : Nat) : Int) 2 ++ a4 m k) = o) (hk : k = c) : l ++ vB m = o := by subst hc; exact u3f h hk
theorem u3d (m : List Bx) (k : Nat) : ka1 (a4 m (k + 1)) = ka1 (a4 m k) + (2 + (2 + vZ m k * 8) + ka1 (aY (vI m k)) + (2 + cK m k * 8)) := by
  rw [a4, ka4, zT, ka4, ka4, ka4, pbL_len, qM, qM]
  show _ = _ + (2 + (2 + (fF m k).rn * 8) + ka1 (aY (fF m k).m) + (2 + (fF m k).sn * 8))
  omega
theorem zU (m : List Bx) : ∀ k j, k ≤ j → ka1 (a4 m k) ≤ ka1 (a4 m j)
  | k, 0, h => by rw [show k = 0 by omega]; exact kc7 _
  | k, j + 1, h => by
    by_cases e : k = j + 1
    · subst e; exact kc7 _
    · have := zU m k j (by omega); rw [a4, ka4]; omega
theorem u3g {m : List Bx} {k c : Nat} (hc : m.length = c) (hk : k < c) : ka1 (a4 m k) + (2 + (2 + vZ m k * 8) + ka1 (aY (vI m k)) + (2 + cK m k * 8)) + 2 ≤ ka1 (vB m) := by
  subst hc
  have h := zU m (k + 1) m.length (by omega)
  rw [a4, ka4, zT, ka4, ka4, ka4, pbL_len, qM, qM] at h
  unfold vB; rw [ka4, pbL_len]
  show _ + (2 + (2 + (fF m k).rn * 8) + ka1 (aY (fF m k).m) + (2 + (fF m k).sn * 8)) + 2 ≤ _
  omega
def RbX (b : Bx) : Prop := (0 ≤ b.k ∧ b.k ≤ 65535) ∧ R32 b.r ∧ b.rn ≤ 65535 ∧ R32 b.s ∧ b.sn ≤ 65535 ∧ ka1 b.m ≤ 65535 ∧ RmW b.m
def RbW (bs : List Bx) : Prop := ∀ b ∈ bs, RbX b
theorem RbW.at {bs : List Bx} (h : RbW bs) (i : Nat) : (0 ≤ cL bs i ∧ cL bs i ≤ 65535) ∧ vZ bs i ≤ 65535 ∧ cK bs i ≤ 65535 ∧ ka1 (vI bs i) ≤ 65535 ∧ R32 (dF bs i) ∧ R32 (fW bs i) ∧ RmW (vI bs i) := by
  have h1 : RbX (fF bs i) := by
    unfold fF
    rw [ka8]
    cases e : bs[i]? with
    | none => exact ⟨by show (0 : Int) ≤ 0 ∧ (0 : Int) ≤ 65535; omega, nL, kd7 _, nL, kd7 _, kd7 _, k62⟩
    | some b => exact h b (kd6 e)
  exact ⟨h1.1, h1.2.2.1, h1.2.2.2.2.1, h1.2.2.2.2.2.1, h1.2.1, h1.2.2.2.1, h1.2.2.2.2.2.2⟩
theorem tJ (r : List Int) (n : Nat) : Byt (eI r n) := by
  have h : ∀ k, Byt (n4 r k) := fun k => by
    induction k with
    | zero => exact Byt.nil
    | succ k ih => exact ih.app ((pbL_byt _ _).app (pbL_byt _ _))
  exact (pbL_byt _ _).app (h n)
theorem k43 (m : List Int) : Byt (zR m) := by
  have h : ∀ k, Byt (n5 m k) := fun k => by
    induction k with
    | zero => exact Byt.nil
    | succ k ih => exact ih.app (pbL_byt _ _)
  exact (pbL_byt _ _).app (h _)
theorem k44 (m : List (List Int)) : Byt (aY m) := by
  have h : ∀ k, Byt (bF m k) := fun k => by
    induction k with
    | zero => exact Byt.nil
    | succ k ih => exact ih.app (k43 _)
  exact (pbL_byt _ _).app (h _)
theorem tL (m : List Bx) : Byt (vB m) := by
  have h : ∀ k, Byt (a4 m k) := fun k => by
    induction k with
    | zero => exact Byt.nil
    | succ k ih => exact ih.app ((pbL_byt _ _).app ((tJ _ _).app ((k44 _).app (tJ _ _))))
  exact (pbL_byt _ _).app (h _)
def rP (id : Int) (nm : List Int) (d1 d2 d3 d4 d5 : Int) (bs : List Bx) : List Int := [83, 78, 68, 49] ++ pbL id 8 ++ y4 nm ++ pbL d1 2 ++ pbL d2 2 ++ pbL d3 4 ++ pbL d4 2 ++ pbL d5 2 ++ vB bs
theorem nG (id : Int) (nm : List Int) (d1 d2 d3 d4 d5 : Int) (bs : List Bx) : ka1 (rP id nm d1 d2 d3 d4 d5 bs) = 25 + ka1 nm + ka1 (vB bs) := by
  unfold rP; simp only [ka4, pbL_len, qX, kb2, kb5]; omega
theorem k5y {id : Int} {nm : List Int} {d1 d2 d3 d4 d5 : Int} {bs : List Bx} (h : Byt nm) (h1 : ka1 nm ≤ 64) : Byt (rP id nm d1 d2 d3 d4 d5 bs) :=
  ((((((((Byt.cons (by omega) (Byt.cons (by omega) (Byt.cons (by omega) (Byt.cons (by omega) Byt.nil)))).app (pbL_byt _ _)).app (tU h h1)).app (pbL_byt _ _)).app (pbL_byt _ _)).app (pbL_byt _ _)).app (pbL_byt _ _)).app (pbL_byt _ _)).app (tL _)
theorem qG {p : Prop} (h : p := by first | omega | with_reducible assumption | (simp only [kR, kQ, pbL_len, qX, qM, ka4, kb2, kb5, kb3, kb1, kb4, kc4] <;> omega) | rfl | assumption) : p := h
theorem y9 {p : Prop} (h : p := by first | omega | (simp only [kR, kQ, pbL_len, qX, qM, qJ, ka4, kb2, kb5, kb3, kb1, kb4, kc4, kd0, kc8, kc3] <;> omega) | rfl) : p := h
theorem aK (l : List Int) (n : Nat) (x : Int) (hn : ka1 l = n) (h2 : n ≤ 900000) (hx : 0 ≤ x ∧ x ≤ 65535) : Fun 17 [.c (.ptr 0 0), iE x] (kG [(0, some (47, .cs [.own 1 0 n 1 true])), (1, some (5, .ds (dI .u8 l)))]) 2 (.tup []) (kG [(0, some (47, .cs [.own 2 0 (n + 2) 1 true])), (1, none), (2, some (5, .ds (dI .u8 (l ++ (pbL x 2)))))]) 3 := by
  refine Fun.mk (n := 15) Try.func17 rfl rfl (ka5 rfl) ?_
  intro cx hcx
  refine aX (kU 6 [.w, .call [] (sV .u8 (([] : List Int) ++ (pbL x 2)) 2) [] 1 [] none, .ap none (n + 2) (dI .u8 (l ++ (([] : List Int) ++ (pbL x 2)))), .no, .no, .no]) ((0 ≤ x ∧ x ≤ 65535) ∧ (_) ∧ ((dI .u8 (([] : List Int) ++ (pbL x 2))).length = 2 * 1) ∧ (((dI .u8 l) : List D).length = n * 1) ∧ ((n + 2) * 1 ≤ 140737488355328) ∧ (n + 2 = (n + 2)) ∧ (((dI .u8 l) : List D) ++ (dI .u8 (([] : List Int) ++ (pbL x 2))) = (dI .u8 (l ++ (([] : List Int) ++ (pbL x 2)))))) [] [(0, some (47, .cs [.own 3 0 (n + 2) 1 true])), (3, some (5, .ds (dI .u8 (l ++ (([] : List Int) ++ (pbL x 2))))))] 4 ⟨⟨by omega, by omega⟩, (W_Put16_z ([] : List Int) 0 x qG zo zo), y9, y9, zo, zo, (qD .u8 l (([] : List Int) ++ (pbL x 2)))⟩ ?_
  exact kC (.inl rfl) [(2, 3)] (P := (kM 0) ∧ (kM (n + 2)) ∧ (((dI .u8 (l ++ (pbL x 2))) : List D) = (dI .u8 (l ++ (([] : List Int) ++ (pbL x 2)))))) zk ⟨rfl, rfl, (by first | rfl | with_reducible assumption | (simp only [u6, qS, qD]; rfl) | (congr 1; first | assumption | (simp; done) | omega))⟩
theorem tG (l : List Int) (n : Nat) (x : Int) (hn : ka1 l = n) (h2 : n ≤ 900000) (hx : 0 ≤ x ∧ x ≤ 4294967295) : Fun 18 [.c (.ptr 0 0), iE x] (kG [(0, some (47, .cs [.own 1 0 n 1 true])), (1, some (5, .ds (dI .u8 l)))]) 2 (.tup []) (kG [(0, some (47, .cs [.own 2 0 (n + 4) 1 true])), (1, none), (2, some (5, .ds (dI .u8 (l ++ (pbL x 4)))))]) 3 := by
  refine Fun.mk (n := 15) Try.func18 rfl rfl (ka5 rfl) ?_
  intro cx hcx
  refine aX (kU 6 [.w, .call [] (sV .u8 (([] : List Int) ++ (pbL x 4)) 4) [] 1 [] none, .ap none (n + 4) (dI .u8 (l ++ (([] : List Int) ++ (pbL x 4)))), .no, .no, .no]) ((0 ≤ x ∧ x ≤ 4294967295) ∧ (_) ∧ ((dI .u8 (([] : List Int) ++ (pbL x 4))).length = 4 * 1) ∧ (((dI .u8 l) : List D).length = n * 1) ∧ ((n + 4) * 1 ≤ 140737488355328) ∧ (n + 4 = (n + 4)) ∧ (((dI .u8 l) : List D) ++ (dI .u8 (([] : List Int) ++ (pbL x 4))) = (dI .u8 (l ++ (([] : List Int) ++ (pbL x 4)))))) [] [(0, some (47, .cs [.own 3 0 (n + 4) 1 true])), (3, some (5, .ds (dI .u8 (l ++ (([] : List Int) ++ (pbL x 4))))))] 4 ⟨⟨by omega, by omega⟩, (W_Put32_z ([] : List Int) 0 x qG zo zo), y9, y9, zo, zo, (qD .u8 l (([] : List Int) ++ (pbL x 4)))⟩ ?_
  exact kC (.inl rfl) [(2, 3)] (P := (kM 0) ∧ (kM (n + 4)) ∧ (((dI .u8 (l ++ (pbL x 4))) : List D) = (dI .u8 (l ++ (([] : List Int) ++ (pbL x 4)))))) zk ⟨rfl, rfl, (by first | rfl | with_reducible assumption | (simp only [u6, qS, qD]; rfl) | (congr 1; first | assumption | (simp; done) | omega))⟩
theorem zK (l s : List Int) (n : Nat) (hn : ka1 l = n) (h2 : n ≤ 900000) (hs : Byt s) (h3 : ka1 s ≤ 64) : Fun 32 [.c (.d (D.sl (dI .u8 l) n)), .c (.d (D.lit (.string (strOfNums s))))] (kG []) 0 (.tup [.c (.own 0 0 (n + (1 + (ka1 s))) 1 true), iE 0]) (kG [(0, some (5, .ds (dI .u8 (l ++ (y4 s)))))]) 1 := by
  refine Fun.mk (n := 18) Try.func32 rfl rfl (ka5 rfl) ?_
  intro cx hcx
  refine kK [.no, .no] True [(0, sV .u8 l n), (1, kS (D.lit (.string (strOfNums s))))] [] 0 trivial ?_
  refine AW.seq ?_
  refine kX [.no, .i (ka1 s : Int), .b false] (((ByteArray.size (strOfNums s) : Int) = ((ka1 s : Int) : Int)) ∧ (¬ ((64 : Int) < (ka1 s : Int)))) [(0, sV .u8 l n), (1, kS (D.lit (.string (strOfNums s)))), (8, bV false)] ⟨(by rw [strOfNums_size]), zo⟩ ?_
  refine yV ?_
  refine kK [.no, .no, .i (ka1 s : Int), .w, (.fz (.no)), .no, (.fz (.st none s)), .no, .call [] (oV 0 0 ((n + 1) + (ka1 s)) 1) [(0, some (5, .ds (dI .u8 ((l ++ ([(ka1 s : Int)] : List Int)) ++ s))))] 1 [none] none, .no, .no] (((ByteArray.size (strOfNums s) : Int) = ((ka1 s : Int) : Int)) ∧ (0 ≤ (ka1 s : Int) ∧ (ka1 s : Int) ≤ 255) ∧ (([D.lit (.int .u8 (ka1 s : Int))] : List D).length = 1 * 1) ∧ (bW (strOfNums s) = s) ∧ ((s : List Int).length ≤ 9223372036854775807) ∧ (((dI .u8 s) : List D).length = (ka1 s) * 1) ∧ ([db l n, D.sl [D.lit (.int .u8 (ka1 s : Int))] 1, db s (ka1 s)].length = 3 * 1) ∧ (g7 (oV 0 0 ((n + 1) + (ka1 s)) 1) = true) ∧ ((dI .u8 ((l ++ ([(ka1 s : Int)] : List Int)) ++ s)).all wG = true) ∧ (_)) [(4, oV 3 0 ((n + 1) + (ka1 s)) 1), (5, iV 0)] [(3, some (5, .ds (dI .u8 ((l ++ ([(ka1 s : Int)] : List Int)) ++ s))))] 4 ⟨(by rw [strOfNums_size]), ⟨by omega, by omega⟩, y9, (sL (kP : Byt s)), (by first | decide | omega | (simp only [kR, kQ, pbL_len, qX, qM, ka4, kb2, kb5, kb3, kb1] <;> omega)), y9, y9, rfl, (by first | exact k75 _ _ | rfl), (nP l ([(ka1 s : Int)] : List Int) s n 1 (ka1 s) zo qG rfl zo zo zo)⟩ ?_
  refine AW.ret ?_
  exact kC (.inr rfl) [(0, 3)] (P := (kM 0) ∧ (((n + (1 + (ka1 s))) : Nat) = ((n + 1) + (ka1 s))) ∧ (kN 0) ∧ (((dI .u8 (l ++ (y4 s))) : List D) = (dI .u8 ((l ++ ([(ka1 s : Int)] : List Int)) ++ s)))) zk ⟨rfl, (by first | omega | rfl | assumption | (simp; done) | (simp; omega)), rfl, (by first | rfl | (unfold y4; simp; done))⟩
theorem rE (l s : List Int) (n : Nat) (hn : ka1 l = n) (h2 : n ≤ 900000) (hs : Byt s) (h3 : ka1 s ≤ 64) : Fun 32 [.c (.d (D.sl (dI .u8 l) n)), .c (.d (D.lit (.string (strOfNums s))))] (kG []) 0 (.tup [.c (.d (D.sl (dI .u8 (l ++ (y4 s))) (n + (1 + (ka1 s))))), iE 0]) (kG []) 1 := (Fun.frz (y := .tup [.c (.own 0 0 (n + (1 + (ka1 s))) 1 true), iE 0]) (g1 := [(0, some (5, .ds (dI .u8 (l ++ (y4 s)))))]) (y' := .tup [.c (.d (D.sl (dI .u8 (l ++ (y4 s))) (n + (1 + (ka1 s))))), iE 0]) (g1' := []) (ds := (dI .u8 (l ++ (y4 s)))) 0 (zK l s n hn h2 hs h3) rfl FzG.nil (.tup ⟨.c (FzC.wh ((by simp only [ka4, qX]; omega))), .c (.same _), trivial⟩))
theorem u2r (l s : List Int) (n : Nat) (hn : ka1 l = n) (h2 : n ≤ 900000) (hs : Byt s) (h3 : ka1 s ≤ 64) : Fun 16 [.c (.ptr 0 0), .c (.d (D.lit (.string (strOfNums s))))] (kG [(0, some (47, .cs [.own 1 0 n 1 true])), (1, some (5, .ds (dI .u8 l)))]) 2 (.tup []) (kG [(0, some (47, .cs [.own 2 0 (n + (1 + (ka1 s))) 1 true])), (1, none), (2, some (5, .ds (dI .u8 (l ++ (y4 s)))))]) 3 := by
  refine Fun.mk (n := 20) Try.func16 rfl rfl (ka5 rfl) ?_
  intro cx hcx
  refine kK (.no :: .call [] (.tup [.c (.d (db (([] : List Int) ++ (y4 s)) (0 + (1 + (ka1 s))))), iE 0]) [] 1 [] none :: kU 5 []) _ [(0, rV 0 0), (4, sV .u8 (([] : List Int) ++ (y4 s)) (0 + (1 + (ka1 s))))] [(0, some (47, .cs [.own 1 0 n 1 true])), (1, some (5, .ds (dI .u8 l)))] 3 (rE ([] : List Int) s 0 qG zo (kP : Byt s) zo) ?_
  refine aX (kU 6 [.ap none (n + (0 + (1 + (ka1 s)))) (dI .u8 (l ++ (([] : List Int) ++ (y4 s)))), .no, .no, .no]) (((dI .u8 (([] : List Int) ++ (y4 s))).length = (0 + (1 + (ka1 s))) * 1) ∧ (((dI .u8 l) : List D).length = n * 1) ∧ ((n + (0 + (1 + (ka1 s)))) * 1 ≤ 140737488355328) ∧ (n + (0 + (1 + (ka1 s))) = (n + (0 + (1 + (ka1 s))))) ∧ (((dI .u8 l) : List D) ++ (dI .u8 (([] : List Int) ++ (y4 s))) = (dI .u8 (l ++ (([] : List Int) ++ (y4 s)))))) [] [(0, some (47, .cs [.own 3 0 (n + (0 + (1 + (ka1 s)))) 1 true])), (3, some (5, .ds (dI .u8 (l ++ (([] : List Int) ++ (y4 s))))))] 4 ⟨y9, y9, zo, zo, (qD .u8 l (([] : List Int) ++ (y4 s)))⟩ ?_
  exact kC (.inl rfl) [(2, 3)] (P := (kM 0) ∧ (((n + (1 + (ka1 s))) : Nat) = (n + (0 + (1 + (ka1 s))))) ∧ (((dI .u8 (l ++ (y4 s))) : List D) = (dI .u8 (l ++ (([] : List Int) ++ (y4 s)))))) zk ⟨rfl, (by first | omega | rfl | assumption | (simp; done) | (simp; omega)), (by first | rfl | (simp only [List.nil_append]; done))⟩
theorem bM {p : Prop} (h : p := by first | omega | assumption | simp) : p := h
theorem lG {p : Prop} (h : p := by first | rfl | omega | assumption | (simp; done) | (simp; omega)) : p := h
theorem k3v (l : List Int) (n : Nat) (r : List Int) (rn : Nat) (hn : ka1 l = n) (hr : ka1 r = rn * 2) (h1 : rn ≤ 65535) (h2 : n + 2 + rn * 8 ≤ 900000) (hR : R32 r) : Fun 34 [.c (.ptr 0 0), .agg [.d (D.sl (dI .i64 r) rn)]] (kG [(0, some (47, .cs [.own 1 0 n 1 true])), (1, some (5, .ds (dI .u8 l)))]) 2 (.tup []) (kG [(0, some (47, .cs [.own 2 0 (n + (2 + (rn * 8))) 1 true])), (1, none), (2, some (5, .ds (dI .u8 (l ++ (eI r rn)))))]) 3 := by
  refine Fun.mk (n := 27) Try.func34 rfl rfl (ka5 rfl) ?_
  intro cx hcx
  refine kK [.no] True [(0, rV 0 0), (3, rV 2 0)] [(0, some (47, .cs [.own 1 0 n 1 true])), (1, some (5, .ds (dI .u8 l))), (2, some (75, .ds [dl r rn]))] 3 trivial ?_
  refine kK (kU 4 [.call [0, 1] (.tup []) [(0, some (47, .cs [.own 2 0 (n + 2) 1 true])), (1, none), (2, some (5, .ds (dI .u8 (l ++ (pbL (rn : Int) 2)))))] 3 [] none]) _ [(0, rV 0 0), (3, rV 2 0)] [(0, some (47, .cs [.own 3 0 (n + 2) 1 true])), (2, some (75, .ds [dl r rn])), (3, some (5, .ds (dI .u8 (l ++ (pbL ↑rn 2)))))] 4 (aK l n (rn : Int) zo zo zo) ?_
  refine kK (kU 4 []) True [(0, rV 0 0), (12, sV .i64 r rn), (13, uV rn), (14, iV 0)] [(0, some (47, .cs [.own 3 0 (n + 2) 1 true])), (3, some (5, .ds (dI .u8 (l ++ (pbL ↑rn 2)))))] 4 trivial ?_
  refine AW.block ?_
  refine kW 2 hcx (fun (x : {x : Nat × Nat × List Int // match x with | (k, q, o) => (k ≤ rn) ∧ (l ++ (pbL (rn : Int) 2 ++ n4 r k) = o) ∧ (ka1 o = q ∧ q = n + 2 + k * 8)}) => match x with | ⟨(k, q, o), _⟩ => (⟨[(0, rV 0 0), (12, sV .i64 r rn), (13, uV rn), (14, uV k)], [(0, some (47, .cs [.own 4 0 q 1 true])), (4, some (5, .ds (dI .u8 o)))], 5⟩ : ES)) (fun x => match x with | ⟨(k, q, o), _⟩ => rn - k) ⟨((0 : Nat), ((n + 2) : Nat), ((l ++ (pbL (rn : Int) 2)) : List Int)), ⟨bM, (u2y _ _ _), ⟨by rw [ka4, pbL_len, hn], by omega⟩⟩⟩ [(4, 3)] (P := (kM 0) ∧ (k8 (dI .i64 r)) ∧ (kM rn) ∧ (kN (rn : Int)) ∧ (kN 0) ∧ (kM 0) ∧ (kM (n + 2)) ∧ (k8 (dI .u8 (l ++ (pbL (rn : Int) 2))))) zk ⟨rfl, rfl, rfl, rfl, rfl, rfl, rfl, rfl⟩ ?_
  rintro ⟨⟨k, q, o⟩, hinv0⟩
  obtain ⟨hk, ho, hq⟩ : (k ≤ rn) ∧ (l ++ (pbL ((rn : Nat) : Int) 2 ++ n4 r k) = o) ∧ (ka1 o = q ∧ q = n + 2 + k * 8) := hinv0
  refine uI (l := [(0, rV 0 0), (12, sV .i64 r rn), (13, uV rn), (14, uV k)]) (g := [(0, some (47, .cs [.own 4 0 q 1 true])), (4, some (5, .ds (dI .u8 o)))]) (nx := 5) rfl rfl rfl ?_
  by_cases hx1 : (((k : Nat) : Int) < ((rn : Nat) : Int))
  · refine zr [.b true] [0, 12, 13, 14, 15] [0, 4] (((k : Int) < (rn : Int))) [(0, rV 0 0), (12, sV .i64 r rn), (13, uV rn), (14, uV k), (15, bV true)] [(0, some (47, .cs [.own 4 0 q 1 true])), (4, some (5, .ds (dI .u8 o)))] 5 zo ?_
    refine AW.seq ?_
    refine vD ?_
    refine AW.seq ?_
    refine AW.block ?_
    have hx2 : 0 ≤ (ka0 r (k * 2) 0) ∧ (ka0 r (k * 2) 0) ≤ 4294967295 := (R32.at (kP : R32 r) zo)
    have hx3 : 0 ≤ (ka0 r ((k * 2) + 1) 0) ∧ (ka0 r ((k * 2) + 1) 0) ≤ 4294967295 := (R32.at (kP : R32 r) zo)
    refine kK [.n k, .ds [iD (ka0 r (k * 2) 0), iD (ka0 r ((k * 2) + 1) 0)], .no, .no] ((kN (k : Int)) ∧ (k < rn) ∧ (List.take 2 (ka7 (k * 2) (dI .i64 r)) = [iD (ka0 r (k * 2) 0), iD (ka0 r ((k * 2) + 1) 0)]) ∧ (([iD (ka0 r (k * 2) 0), iD (ka0 r ((k * 2) + 1) 0)] : List D).length = 2)) [(0, rV 0 0), (5, rV 5 0), (12, sV .i64 r rn), (13, uV rn), (14, uV k)] [(0, some (47, .cs [.own 4 0 q 1 true])), (4, some (5, .ds (dI .u8 o))), (5, some (96, .ds [iD (ka0 r (k * 2) 0), iD (ka0 r ((k * 2) + 1) 0)]))] 6 ⟨rfl, zo, (dC .i64 r (k * 2) 2 y9), rfl⟩ ?_
    refine kK [.no, .no, .no, .call [0, 4] (.tup []) [(0, some (47, .cs [.own 2 0 (q + 4) 1 true])), (1, none), (2, some (5, .ds (dI .u8 (o ++ (pbL (ka0 r (k * 2) 0) 4)))))] 3 [] none] _ [(0, rV 0 0), (5, rV 5 0), (12, sV .i64 r rn), (13, uV rn), (14, uV k)] [(0, some (47, .cs [.own 6 0 (q + 4) 1 true])), (5, some (96, .ds [iD (ka0 r (k * 2) 0), iD (ka0 r ((k * 2) + 1) 0)])), (6, some (5, .ds (dI .u8 (o ++ (pbL (ka0 r (k * 2) 0) 4)))))] 7 (tG o q (ka0 r (k * 2) 0) zo zo qG) ?_
    refine aX [.no, .no, .no, .call [0, 6] (.tup []) [(0, some (47, .cs [.own 2 0 ((q + 4) + 4) 1 true])), (1, none), (2, some (5, .ds (dI .u8 ((o ++ (pbL (ka0 r (k * 2) 0) 4)) ++ (pbL (ka0 r ((k * 2) + 1) 0) 4)))))] 3 [] none] _ [(0, rV 0 0), (12, sV .i64 r rn), (13, uV rn), (14, uV k)] [(0, some (47, .cs [.own 7 0 ((q + 4) + 4) 1 true])), (7, some (5, .ds (dI .u8 ((o ++ (pbL (ka0 r (k * 2) 0) 4)) ++ (pbL (ka0 r ((k * 2) + 1) 0) 4)))))] 8 (tG (o ++ (pbL (ka0 r (k * 2) 0) 4)) (q + 4) (ka0 r ((k * 2) + 1) 0) qG zo qG) ?_
    refine yH [.w, .no] (qL ((k : Int) + 1)) [(0, rV 0 0), (12, sV .i64 r rn), (13, uV rn), (14, iV (↑k + 1))] ⟨by omega, by omega⟩ ?_
    exact qQ ⟨(((k + 1) : Nat), (((q + 4) + 4) : Nat), (((o ++ (pbL (ka0 r (k * 2) 0) 4)) ++ (pbL (ka0 r ((k * 2) + 1) 0) 4)) : List Int)), ⟨bM, (u2w ho), (by simp only [kR, kQ, pbL_len, qX, qM, ka4, pbL_len] <;> omega)⟩⟩ [(4, 7)] (P := (kM 0) ∧ (k8 (dI .i64 r)) ∧ (kM rn) ∧ (kN (rn : Int)) ∧ (q1S k) ∧ (kM 0) ∧ (kM ((q + 4) + 4)) ∧ (k8 (dI .u8 ((o ++ (pbL (ka0 r (k * 2) 0) 4)) ++ (pbL (ka0 r ((k * 2) + 1) 0) 4))))) zk ⟨rfl, rfl, rfl, rfl, lG, rfl, rfl, rfl⟩ (show rn - (k + 1) < rn - k from (by first | omega | (show _ < _; simp; omega)))
  · refine zr [.b false] [0, 12, 13, 14, 15] [0, 4] (¬ ((k : Int) < (rn : Int))) [(0, rV 0 0), (12, sV .i64 r rn), (13, uV rn), (14, uV k), (15, bV false)] [(0, some (47, .cs [.own 4 0 q 1 true])), (4, some (5, .ds (dI .u8 o)))] 5 zo ?_
    refine AW.seq ?_
    refine zf ?_
    refine AW.exit ?_
    have hz1 : l ++ eI r rn = o := u2x ho (by omega)
    exact kC (.inl rfl) [(2, 4)] (P := (kM 0) ∧ (((n + (2 + (rn * 8))) : Nat) = q) ∧ (((dI .u8 (l ++ (eI r rn))) : List D) = (dI .u8 o))) zk ⟨rfl, (by first | omega | rfl | exact hz1.symm | exact hz1 | (rw [hz1]; done) | (rw [kb7, hz1]; done)), (by first | omega | rfl | exact hz1.symm | exact hz1 | (rw [hz1]; done) | (rw [kb7, hz1]; done))⟩
abbrev l0 (m : List (List Int)) (k : Nat) := pbL (((ka1 (ka0 m k ([] : List Int))) : Nat) : Int) 2
theorem k64 (l : List Int) (n : Nat) (m : List (List Int)) (c : Nat) (hn : ka1 l = n) (hc : ka1 m = c) (h1 : c ≤ 65535) (h2 : n + ka1 (aY m) ≤ 900000) (hW : MsW m) (hM : RmW m) : Fun 35 [.c (.ptr 0 0), .c (.d (D.sl (qA m) c))] (kG [(0, some (47, .cs [.own 1 0 n 1 true])), (1, some (5, .ds (dI .u8 l)))]) 2 (.tup []) (kG [(0, some (47, .cs [.own 2 0 (n + (ka1 (aY m))) 1 true])), (1, none), (2, some (5, .ds (dI .u8 (l ++ (aY m)))))]) 3 := by
  refine Fun.mk (n := 33) Try.func35 rfl rfl (ka5 rfl) ?_
  intro cx hcx
  refine kK [.no, .no, .no, .call [0, 1] (.tup []) [(0, some (47, .cs [.own 2 0 (n + 2) 1 true])), (1, none), (2, some (5, .ds (dI .u8 (l ++ (pbL (c : Int) 2)))))] 3 [] none] _ [(0, rV 0 0), (1, qY (qA m) c)] [(0, some (47, .cs [.own 2 0 (n + 2) 1 true])), (2, some (5, .ds (dI .u8 (l ++ (pbL ↑c 2)))))] 3 (aK l n (c : Int) zo zo zo) ?_
  refine kX [.no, .no, .no] True [(0, rV 0 0), (12, qY (qA m) c), (13, uV c), (14, iV 0)] trivial ?_
  refine AW.block ?_
  refine kW 2 hcx (fun (x : {x : Nat × Nat × List Int // match x with | (k, q, o) => (k ≤ c) ∧ (l ++ (pbL (c : Int) 2 ++ bF m k) = o) ∧ (ka1 o = q ∧ q = n + 2 + ka1 (bF m k))}) => match x with | ⟨(k, q, o), _⟩ => (⟨[(0, rV 0 0), (12, qY (qA m) c), (13, uV c), (14, uV k)], [(0, some (47, .cs [.own 3 0 q 1 true])), (3, some (5, .ds (dI .u8 o)))], 4⟩ : ES)) (fun x => match x with | ⟨(k, q, o), _⟩ => c - k) ⟨((0 : Nat), ((n + 2) : Nat), ((l ++ (pbL (c : Int) 2)) : List Int)), ⟨bM, (by subst hc; exact u38 _ _), ⟨by rw [ka4, pbL_len, hn], rfl⟩⟩⟩ [(3, 2)] (P := (kM 0) ∧ (k8 (qA m)) ∧ (kM c) ∧ (kN (c : Int)) ∧ (kN 0) ∧ (kM 0) ∧ (kM (n + 2)) ∧ (k8 (dI .u8 (l ++ (pbL (c : Int) 2))))) zk ⟨rfl, rfl, rfl, rfl, rfl, rfl, rfl, rfl⟩ ?_
  rintro ⟨⟨k, q, o⟩, hinv0⟩
  obtain ⟨hk, ho, hq⟩ : (k ≤ c) ∧ (l ++ (pbL ((c : Nat) : Int) 2 ++ bF m k) = o) ∧ (ka1 o = q ∧ q = n + 2 + ka1 (bF m k)) := hinv0
  refine uI (l := [(0, rV 0 0), (12, qY (qA m) c), (13, uV c), (14, uV k)]) (g := [(0, some (47, .cs [.own 3 0 q 1 true])), (3, some (5, .ds (dI .u8 o)))]) (nx := 4) rfl rfl rfl ?_
  by_cases hx1 : (((k : Nat) : Int) < ((c : Nat) : Int))
  · refine zr [.b true] [0, 12, 13, 14, 15] [0, 3] (((k : Int) < (c : Int))) [(0, rV 0 0), (12, qY (qA m) c), (13, uV c), (14, uV k), (15, bV true)] [(0, some (47, .cs [.own 3 0 q 1 true])), (3, some (5, .ds (dI .u8 o)))] 4 zo ?_
    refine AW.seq ?_
    refine vD ?_
    refine AW.seq ?_
    refine AW.block ?_
    have hx2 : R16 (ka0 m k []) := (RmW.at hM k).1
    have hx3 : ka1 (ka0 m k []) ≤ 65535 := (RmW.at hM k).2
    have hx4 : ka1 (bF m k) + (2 + ka1 (ka0 m k []) * 2) + 2 ≤ ka1 (aY m) := u37 hc zo
    have hx5 : ((ka1 (ka0 m k ([] : List Int))) ≤ 1000000) := MsW.at (kP : MsW m) _
    refine kK [.n k, .d (dl (ka0 m k ([] : List Int)) (ka1 (ka0 m k ([] : List Int)))), .no] ((kN (k : Int)) ∧ (k < c) ∧ ((ka7 k (qA m))[0]? = some (dl (ka0 m k ([] : List Int)) (ka1 (ka0 m k ([] : List Int)))))) [(0, rV 0 0), (5, sV .i64 (ka0 m k ([] : List Int)) (ka1 (ka0 m k ([] : List Int)))), (12, qY (qA m) c), (13, uV c), (14, uV k)] [(0, some (47, .cs [.own 3 0 q 1 true])), (3, some (5, .ds (dI .u8 o)))] 4 ⟨rfl, zo, (eY _ _ (by first | omega | (simp only [kR, kQ, pbL_len, qX, qM, ka4, kb2, kb5, kb3, kb1] <;> omega)))⟩ ?_
    refine kK [.no, .no, .no, .call [0, 3] (.tup []) [(0, some (47, .cs [.own 2 0 (q + 2) 1 true])), (1, none), (2, some (5, .ds (dI .u8 (o ++ (l0 m k)))))] 3 [] none] _ [(0, rV 0 0), (5, sV .i64 (ka0 m k ([] : List Int)) (ka1 (ka0 m k ([] : List Int)))), (12, qY (qA m) c), (13, uV c), (14, uV k)] [(0, some (47, .cs [.own 4 0 (q + 2) 1 true])), (4, some (5, .ds (dI .u8 (o ++ (l0 m k)))))] 5 (aK o q (((ka1 (ka0 m k ([] : List Int))) : Nat) : Int) zo zo qG) ?_
    refine kX [.no, .no, .no] True [(0, rV 0 0), (12, qY (qA m) c), (13, uV c), (14, uV k), (22, sV .i64 (ka0 m k ([] : List Int)) (ka1 (ka0 m k ([] : List Int)))), (23, uV (ka1 (ka0 m k ([] : List Int)))), (24, iV 0)] trivial ?_
    refine AW.block ?_
    refine kW 2 hcx (fun (x : {x : Nat × Nat × List Int // match x with | (j, p, b) => (j ≤ ka1 (ka0 m k [])) ∧ (o ++ (pbL ((ka1 (ka0 m k []) : Nat) : Int) 2 ++ n5 (ka0 m k []) j) = b) ∧ (ka1 b = p ∧ p = q + 2 + j * 2)}) => match x with | ⟨(j, p, b), _⟩ => (⟨[(0, rV 0 0), (12, qY (qA m) c), (13, uV c), (14, uV k), (22, sV .i64 (ka0 m k ([] : List Int)) (ka1 (ka0 m k ([] : List Int)))), (23, uV (ka1 (ka0 m k ([] : List Int)))), (24, uV j)], [(0, some (47, .cs [.own 5 0 p 1 true])), (5, some (5, .ds (dI .u8 b)))], 6⟩ : ES)) (fun x => match x with | ⟨(j, p, b), _⟩ => ka1 (ka0 m k []) - j) ⟨((0 : Nat), ((q + 2) : Nat), ((o ++ (l0 m k)) : List Int)), ⟨bM, (u31 _ _), ⟨by rw [ka4, pbL_len]; omega, by omega⟩⟩⟩ [(5, 4)] (P := (kM 0) ∧ (k8 (qA m)) ∧ (kM c) ∧ (kN (c : Int)) ∧ (kN (k : Int)) ∧ (k8 (dI .i64 (ka0 m k ([] : List Int)))) ∧ (kM (ka1 (ka0 m k ([] : List Int)))) ∧ (kN (((ka1 (ka0 m k ([] : List Int))) : Nat) : Int)) ∧ (kN 0) ∧ (kM 0) ∧ (kM (q + 2)) ∧ (k8 (dI .u8 (o ++ (l0 m k))))) zk ⟨rfl, rfl, rfl, rfl, rfl, rfl, rfl, rfl, rfl, rfl, rfl, rfl⟩ ?_
    rintro ⟨⟨j, p, b⟩, hinv1⟩
    obtain ⟨hj, hb, hp⟩ : (j ≤ ka1 (ka0 m k [])) ∧ (o ++ (pbL ((ka1 (ka0 m k []) : Nat) : Int) 2 ++ n5 (ka0 m k []) j) = b) ∧ (ka1 b = p ∧ p = q + 2 + j * 2) := hinv1
    refine uI (l := [(0, rV 0 0), (12, qY (qA m) c), (13, uV c), (14, uV k), (22, sV .i64 (ka0 m k ([] : List Int)) (ka1 (ka0 m k ([] : List Int)))), (23, uV (ka1 (ka0 m k ([] : List Int)))), (24, uV j)]) (g := [(0, some (47, .cs [.own 5 0 p 1 true])), (5, some (5, .ds (dI .u8 b)))]) (nx := 6) rfl rfl rfl ?_
    by_cases hx6 : (((j : Nat) : Int) < (((ka1 (ka0 m k ([] : List Int))) : Nat) : Int))
    · refine zr [.b true] [0, 12, 13, 14, 22, 23, 24, 25] [0, 5] (((j : Int) < (((ka1 (ka0 m k ([] : List Int))) : Nat) : Int))) [(0, rV 0 0), (12, qY (qA m) c), (13, uV c), (14, uV k), (22, sV .i64 (ka0 m k ([] : List Int)) (ka1 (ka0 m k ([] : List Int)))), (23, uV (ka1 (ka0 m k ([] : List Int)))), (24, uV j), (25, bV true)] [(0, some (47, .cs [.own 5 0 p 1 true])), (5, some (5, .ds (dI .u8 b)))] 6 zo ?_
      refine AW.seq ?_
      refine vD ?_
      refine AW.seq ?_
      refine AW.block ?_
      have hx7 : 0 ≤ (ka0 (ka0 m k ([] : List Int)) j 0) ∧ (ka0 (ka0 m k ([] : List Int)) j 0) ≤ 65535 := (R16.at (kP : R16 (ka0 m k ([] : List Int))) zo)
      refine kK [.n j, .d (D.lit (.int .i64 (ka0 (ka0 m k ([] : List Int)) j 0))), .no] ((kN (j : Int)) ∧ (j < (ka1 (ka0 m k ([] : List Int)))) ∧ ((ka7 j (dI .i64 (ka0 m k ([] : List Int))))[0]? = some (D.lit (.int .i64 (ka0 (ka0 m k ([] : List Int)) j 0))))) [(0, rV 0 0), (7, iV (ka0 (ka0 m k ([] : List Int)) j 0)), (12, qY (qA m) c), (13, uV c), (14, uV k), (22, sV .i64 (ka0 m k ([] : List Int)) (ka1 (ka0 m k ([] : List Int)))), (23, uV (ka1 (ka0 m k ([] : List Int)))), (24, uV j)] [(0, some (47, .cs [.own 5 0 p 1 true])), (5, some (5, .ds (dI .u8 b)))] 6 ⟨rfl, zo, (qT _ _ _ y9)⟩ ?_
      refine aX [.no, .no, .call [0, 5] (.tup []) [(0, some (47, .cs [.own 2 0 (p + 2) 1 true])), (1, none), (2, some (5, .ds (dI .u8 (b ++ (pbL (ka0 (ka0 m k ([] : List Int)) j 0) 2)))))] 3 [] none] _ [(0, rV 0 0), (12, qY (qA m) c), (13, uV c), (14, uV k), (22, sV .i64 (ka0 m k ([] : List Int)) (ka1 (ka0 m k ([] : List Int)))), (23, uV (ka1 (ka0 m k ([] : List Int)))), (24, uV j)] [(0, some (47, .cs [.own 6 0 (p + 2) 1 true])), (6, some (5, .ds (dI .u8 (b ++ (pbL (ka0 (ka0 m k ([] : List Int)) j 0) 2)))))] 7 (aK b p (ka0 (ka0 m k ([] : List Int)) j 0) zo zo qG) ?_
      refine yH [.w, .no] (qL ((j : Int) + 1)) [(0, rV 0 0), (12, qY (qA m) c), (13, uV c), (14, uV k), (22, sV .i64 (ka0 m k ([] : List Int)) (ka1 (ka0 m k ([] : List Int)))), (23, uV (ka1 (ka0 m k ([] : List Int)))), (24, iV (↑j + 1))] ⟨by omega, by omega⟩ ?_
      exact qQ ⟨(((j + 1) : Nat), ((p + 2) : Nat), ((b ++ (pbL (ka0 (ka0 m k ([] : List Int)) j 0) 2)) : List Int)), ⟨bM, (u2z hb), (by simp only [kR, kQ, pbL_len, qX, qM, ka4, pbL_len] <;> omega)⟩⟩ [(5, 6)] (P := (kM 0) ∧ (k8 (qA m)) ∧ (kM c) ∧ (kN (c : Int)) ∧ (kN (k : Int)) ∧ (k8 (dI .i64 (ka0 m k ([] : List Int)))) ∧ (kM (ka1 (ka0 m k ([] : List Int)))) ∧ (kN (((ka1 (ka0 m k ([] : List Int))) : Nat) : Int)) ∧ (q1S j) ∧ (kM 0) ∧ (kM (p + 2)) ∧ (k8 (dI .u8 (b ++ (pbL (ka0 (ka0 m k ([] : List Int)) j 0) 2))))) zk ⟨rfl, rfl, rfl, rfl, rfl, rfl, rfl, rfl, lG, rfl, rfl, rfl⟩ (show ka1 (ka0 m k []) - (j + 1) < ka1 (ka0 m k []) - j from (by first | omega | (show _ < _; simp; omega)))
    · refine zr [.b false] [0, 12, 13, 14, 22, 23, 24, 25] [0, 5] (¬ ((j : Int) < (((ka1 (ka0 m k ([] : List Int))) : Nat) : Int))) [(0, rV 0 0), (12, qY (qA m) c), (13, uV c), (14, uV k), (22, sV .i64 (ka0 m k ([] : List Int)) (ka1 (ka0 m k ([] : List Int)))), (23, uV (ka1 (ka0 m k ([] : List Int)))), (24, uV j), (25, bV false)] [(0, some (47, .cs [.own 5 0 p 1 true])), (5, some (5, .ds (dI .u8 b)))] 6 zo ?_
      refine AW.seq ?_
      refine zf ?_
      refine AW.exit ?_
      have hz1 : o ++ zR (ka0 m k []) = b := u30 hb (by omega)
      have hz2 : ka1 (bF m (k + 1)) = ka1 (bF m k) + (2 + ka1 (ka0 m k []) * 2) := k9t _ _
      refine aX [.w, .no] (qL ((k : Int) + 1)) [(0, rV 0 0), (12, qY (qA m) c), (13, uV c), (14, iV (↑k + 1))] [(0, some (47, .cs [.own 5 0 p 1 true])), (5, some (5, .ds (dI .u8 b)))] 6 ⟨by omega, by omega⟩ ?_
      exact qQ ⟨(((k + 1) : Nat), (p : Nat), (b : List Int)), ⟨bM, (u33 hc ho hz1), (by first | assumption | exact ⟨by omega, wm_q hz1 zo zo⟩ | omega)⟩⟩ [(3, 5)] (P := (kM 0) ∧ (k8 (qA m)) ∧ (kM c) ∧ (kN (c : Int)) ∧ (q1S k) ∧ (kM 0) ∧ (kM p) ∧ (k8 (dI .u8 b))) zk ⟨rfl, rfl, rfl, rfl, lG, rfl, rfl, rfl⟩ (show c - (k + 1) < c - k from (by first | omega | (show _ < _; simp; omega)))
  · refine zr [.b false] [0, 12, 13, 14, 15] [0, 3] (¬ ((k : Int) < (c : Int))) [(0, rV 0 0), (12, qY (qA m) c), (13, uV c), (14, uV k), (15, bV false)] [(0, some (47, .cs [.own 3 0 q 1 true])), (3, some (5, .ds (dI .u8 o)))] 4 zo ?_
    refine AW.seq ?_
    refine zf ?_
    refine AW.exit ?_
    have hz1 : l ++ aY m = o := u35 hc ho (by omega); have hz2 : n + ka1 (aY m) = q := k9u hz1 hn hq.1
    exact kC (.inl rfl) [(2, 3)] (P := (kM 0) ∧ (((n + (ka1 (aY m))) : Nat) = q) ∧ (((dI .u8 (l ++ (aY m))) : List D) = (dI .u8 o))) zk ⟨rfl, (by first | exact hz2 | omega | rfl), (by first | omega | rfl | exact hz1.symm | exact hz1 | (rw [hz1]; done) | (rw [kb7, hz1]; done))⟩
abbrev lZ (bs : List Bx) (k : Nat) : BC := .ds [iD (cL bs k), D.sl (dI .i64 (dF bs k)) (vZ bs k), D.sl (qA (vI bs k)) (ka1 (vI bs k)), D.sl (dI .i64 (fW bs k)) (cK bs k)]
theorem k3w (l : List Int) (n : Nat) (bs : List Bx) (c : Nat) (hn : ka1 l = n) (hc : ka1 bs = c) (h1 : c ≤ 65535) (h2 : n + ka1 (vB bs) ≤ 900000) (hW : BsW bs) (hM : RbW bs) : Fun 19 [.c (.ptr 0 0), .c (.d (D.sl (qI bs) c))] (kG [(0, some (47, .cs [.own 1 0 n 1 true])), (1, some (5, .ds (dI .u8 l)))]) 2 (.tup []) (kG [(0, some (47, .cs [.own 2 0 (n + (ka1 (vB bs))) 1 true])), (1, none), (2, some (5, .ds (dI .u8 (l ++ (vB bs)))))]) 3 := by
  refine Fun.mk (n := 33) Try.func19 rfl rfl (ka5 rfl) ?_
  intro cx hcx
  refine kK [.no, .no, .no, .call [0, 1] (.tup []) [(0, some (47, .cs [.own 2 0 (n + 2) 1 true])), (1, none), (2, some (5, .ds (dI .u8 (l ++ (pbL (c : Int) 2)))))] 3 [] none] _ [(0, rV 0 0), (1, .e (eW bs c))] [(0, some (47, .cs [.own 2 0 (n + 2) 1 true])), (2, some (5, .ds (dI .u8 (l ++ (pbL ↑c 2)))))] 3 (aK l n (c : Int) zo zo zo) ?_
  refine kX [.no, .no, .no] True [(0, rV 0 0), (10, .e (eW bs c)), (11, uV c), (12, iV 0)] trivial ?_
  refine AW.block ?_
  refine kW 2 hcx (fun (x : {x : Nat × Nat × List Int // match x with | (k, q, o) => (k ≤ c) ∧ (l ++ (pbL (c : Int) 2 ++ a4 bs k) = o) ∧ (ka1 o = q ∧ q = n + 2 + ka1 (a4 bs k))}) => match x with | ⟨(k, q, o), _⟩ => (⟨[(0, rV 0 0), (10, .e (eW bs c)), (11, uV c), (12, uV k)], [(0, some (47, .cs [.own 3 0 q 1 true])), (3, some (5, .ds (dI .u8 o)))], 4⟩ : ES)) (fun x => match x with | ⟨(k, q, o), _⟩ => c - k) ⟨((0 : Nat), ((n + 2) : Nat), ((l ++ (pbL (c : Int) 2)) : List Int)), ⟨bM, (by subst hc; exact u3h _ _), ⟨by rw [ka4, pbL_len, hn], rfl⟩⟩⟩ [(3, 2)] (P := (kM 0) ∧ (k8 (qI bs)) ∧ (kM c) ∧ (kN (c : Int)) ∧ (kN 0) ∧ (kM 0) ∧ (kM (n + 2)) ∧ (k8 (dI .u8 (l ++ (pbL (c : Int) 2))))) zk ⟨rfl, rfl, rfl, rfl, rfl, rfl, rfl, rfl⟩ ?_
  rintro ⟨⟨k, q, o⟩, hinv0⟩
  obtain ⟨hk, ho, hq⟩ : (k ≤ c) ∧ (l ++ (pbL ((c : Nat) : Int) 2 ++ a4 bs k) = o) ∧ (ka1 o = q ∧ q = n + 2 + ka1 (a4 bs k)) := hinv0
  refine uI (l := [(0, rV 0 0), (10, .e (eW bs c)), (11, uV c), (12, uV k)]) (g := [(0, some (47, .cs [.own 3 0 q 1 true])), (3, some (5, .ds (dI .u8 o)))]) (nx := 4) rfl rfl rfl ?_
  by_cases hx1 : (((k : Nat) : Int) < ((c : Nat) : Int))
  · refine zr [.b true] [0, 10, 11, 12, 13] [0, 3] (((k : Int) < (c : Int))) [(0, rV 0 0), (10, .e (eW bs c)), (11, uV c), (12, uV k), (13, bV true)] [(0, some (47, .cs [.own 3 0 q 1 true])), (3, some (5, .ds (dI .u8 o)))] 4 zo ?_
    refine AW.seq ?_
    refine vD ?_
    refine AW.seq ?_
    refine AW.block ?_
    obtain ⟨hx2, hx3, hx4, hx5, hx6, hx7, hx8⟩ := RbW.at hM k
    have hx9 : ka1 (a4 bs k) + (2 + (2 + vZ bs k * 8) + ka1 (aY (vI bs k)) + (2 + cK bs k * 8)) + 2 ≤ ka1 (vB bs) := u3g hc zo
    have hx10 : ka1 (a4 bs (k + 1)) = ka1 (a4 bs k) + (2 + (2 + vZ bs k * 8) + ka1 (aY (vI bs k)) + (2 + cK bs k * 8)) := u3d _ _
    obtain ⟨hx11, hx12, hx13, hx14, hx15⟩ := BsW.at (kP : BsW bs) (k)
    refine kK [.n k, .ds (q1B bs k), .no, .no] ((kN (k : Int)) ∧ (k < c) ∧ (List.take 4 (ka7 (k * 4) (qI bs)) = (q1B bs k)) ∧ (((q1B bs k) : List D).length = 4)) [(0, rV 0 0), (5, rV 4 0), (10, .e (eW bs c)), (11, uV c), (12, uV k)] [(0, some (47, .cs [.own 3 0 q 1 true])), (3, some (5, .ds (dI .u8 o))), (4, some (78, (lZ bs k)))] 5 ⟨rfl, zo, (k3g (by first | omega | (simp only [kR, kQ, pbL_len, qX, qM, ka4, kb2, kb5, kb3, kb1] <;> omega))), rfl⟩ ?_
    refine kK [.no, .no, .no, .call [0, 3] (.tup []) [(0, some (47, .cs [.own 2 0 (q + 2) 1 true])), (1, none), (2, some (5, .ds (dI .u8 (o ++ (pbL (cL bs k) 2)))))] 3 [] none] _ [(0, rV 0 0), (5, rV 4 0), (10, .e (eW bs c)), (11, uV c), (12, uV k)] [(0, some (47, .cs [.own 5 0 (q + 2) 1 true])), (4, some (78, (lZ bs k))), (5, some (5, .ds (dI .u8 (o ++ (pbL (cL bs k) 2)))))] 6 (aK o q (cL bs k) zo zo qG) ?_
    refine kK [.no, .no, .no, .call [0, 5] (.tup []) [(0, some (47, .cs [.own 2 0 ((q + 2) + (2 + ((vZ bs k) * 8))) 1 true])), (1, none), (2, some (5, .ds (dI .u8 ((o ++ (pbL (cL bs k) 2)) ++ (eI (dF bs k) (vZ bs k))))))] 3 [] none] _ [(0, rV 0 0), (5, rV 4 0), (10, .e (eW bs c)), (11, uV c), (12, uV k)] [(0, some (47, .cs [.own 6 0 ((q + 2) + (2 + ((vZ bs k) * 8))) 1 true])), (4, some (78, (lZ bs k))), (6, some (5, .ds (dI .u8 ((o ++ (pbL (cL bs k) 2)) ++ (eI (dF bs k) (vZ bs k))))))] 7 (k3v (o ++ (pbL (cL bs k) 2)) (q + 2) (dF bs k) (vZ bs k) qG qG qG qG qG) ?_
    refine kK [.no, .no, .no, .call [0, 6] (.tup []) [(0, some (47, .cs [.own 2 0 (((q + 2) + (2 + ((vZ bs k) * 8))) + (ka1 (aY (vI bs k)))) 1 true])), (1, none), (2, some (5, .ds (dI .u8 (((o ++ (pbL (cL bs k) 2)) ++ (eI (dF bs k) (vZ bs k))) ++ (aY (vI bs k))))))] 3 [] none] _ [(0, rV 0 0), (5, rV 4 0), (10, .e (eW bs c)), (11, uV c), (12, uV k)] [(0, some (47, .cs [.own 7 0 (((q + 2) + (2 + ((vZ bs k) * 8))) + (ka1 (aY (vI bs k)))) 1 true])), (4, some (78, (lZ bs k))), (7, some (5, .ds (dI .u8 (((o ++ (pbL (cL bs k) 2)) ++ (eI (dF bs k) (vZ bs k))) ++ (aY (vI bs k))))))] 8 (k64 ((o ++ (pbL (cL bs k) 2)) ++ (eI (dF bs k) (vZ bs k))) ((q + 2) + (2 + ((vZ bs k) * 8))) (vI bs k) (ka1 (vI bs k)) qG rfl qG qG (tH (kP : BsW bs) _) qG) ?_
    refine aX [.no, .no, .no, .call [0, 7] (.tup []) [(0, some (47, .cs [.own 2 0 ((((q + 2) + (2 + ((vZ bs k) * 8))) + (ka1 (aY (vI bs k)))) + (2 + ((cK bs k) * 8))) 1 true])), (1, none), (2, some (5, .ds (dI .u8 ((((o ++ (pbL (cL bs k) 2)) ++ (eI (dF bs k) (vZ bs k))) ++ (aY (vI bs k))) ++ (eI (fW bs k) (cK bs k))))))] 3 [] none] _ [(0, rV 0 0), (10, .e (eW bs c)), (11, uV c), (12, uV k)] [(0, some (47, .cs [.own 8 0 ((((q + 2) + (2 + ((vZ bs k) * 8))) + (ka1 (aY (vI bs k)))) + (2 + ((cK bs k) * 8))) 1 true])), (8, some (5, .ds (dI .u8 ((((o ++ (pbL (cL bs k) 2)) ++ (eI (dF bs k) (vZ bs k))) ++ (aY (vI bs k))) ++ (eI (fW bs k) (cK bs k))))))] 9 (k3v (((o ++ (pbL (cL bs k) 2)) ++ (eI (dF bs k) (vZ bs k))) ++ (aY (vI bs k))) (((q + 2) + (2 + ((vZ bs k) * 8))) + (ka1 (aY (vI bs k)))) (fW bs k) (cK bs k) qG qG qG qG qG) ?_
    refine yH [.w, .no] (qL ((k : Int) + 1)) [(0, rV 0 0), (10, .e (eW bs c)), (11, uV c), (12, iV (↑k + 1))] ⟨by omega, by omega⟩ ?_
    exact qQ ⟨(((k + 1) : Nat), (((((q + 2) + (2 + ((vZ bs k) * 8))) + (ka1 (aY (vI bs k)))) + (2 + ((cK bs k) * 8))) : Nat), (((((o ++ (pbL (cL bs k) 2)) ++ (eI (dF bs k) (vZ bs k))) ++ (aY (vI bs k))) ++ (eI (fW bs k) (cK bs k))) : List Int)), ⟨bM, (u3b hc ho), ⟨by simp only [kR, kQ, pbL_len, qX, qM, ka4, pbL_len, qM] <;> omega, by omega⟩⟩⟩ [(3, 8)] (P := (kM 0) ∧ (k8 (qI bs)) ∧ (kM c) ∧ (kN (c : Int)) ∧ (q1S k) ∧ (kM 0) ∧ (kM ((((q + 2) + (2 + ((vZ bs k) * 8))) + (ka1 (aY (vI bs k)))) + (2 + ((cK bs k) * 8)))) ∧ (k8 (dI .u8 ((((o ++ (pbL (cL bs k) 2)) ++ (eI (dF bs k) (vZ bs k))) ++ (aY (vI bs k))) ++ (eI (fW bs k) (cK bs k)))))) zk ⟨rfl, rfl, rfl, rfl, lG, rfl, rfl, rfl⟩ (show c - (k + 1) < c - k from (by first | omega | (show _ < _; simp; omega)))
  · refine zr [.b false] [0, 10, 11, 12, 13] [0, 3] (¬ ((k : Int) < (c : Int))) [(0, rV 0 0), (10, .e (eW bs c)), (11, uV c), (12, uV k), (13, bV false)] [(0, some (47, .cs [.own 3 0 q 1 true])), (3, some (5, .ds (dI .u8 o)))] 4 zo ?_
    refine AW.seq ?_
    refine zf ?_
    refine AW.exit ?_
    have hz1 : l ++ vB bs = o := u3e hc ho (by omega); have hz2 : n + ka1 (vB bs) = q := k9u hz1 hn hq.1
    exact kC (.inl rfl) [(2, 3)] (P := (kM 0) ∧ (((n + (ka1 (vB bs))) : Nat) = q) ∧ (((dI .u8 (l ++ (vB bs))) : List D) = (dI .u8 o))) zk ⟨rfl, (by first | exact hz2 | omega | rfl), (by first | omega | rfl | exact hz1.symm | exact hz1 | (rw [hz1]; done) | (rw [kb7, hz1]; done))⟩
theorem k3z (id : Int) (nm : List Int) (d1 d2 d3 d4 d5 : Int) (bs : List Bx) (n : Nat) (hy : Byt nm) (hl : ka1 nm ≤ 64) (hn : ka1 bs = n) (h1 : n ≤ 8) (hW : BsW bs) (hM : RbW bs) (h2 : ka1 (vB bs) ≤ 800000) (hi : 0 ≤ id ∧ id ≤ 18446744073709551615) (hd : 0 ≤ d1 ∧ d1 ≤ 65535 ∧ 0 ≤ d2 ∧ d2 ≤ 65535 ∧ 0 ≤ d3 ∧ d3 ≤ 4294967295 ∧ 0 ≤ d4 ∧ d4 ≤ 65535 ∧ 0 ≤ d5 ∧ d5 ≤ 65535) (hV : c4 nm d1 d2 d3 d4 d5 bs = true) : Fun 7 [.agg [.d (D.lit (.int .u64 id)), .d (D.lit (.string (strOfNums nm))), iC d1, iC d2, iC d3, iC d4, iC d5, .d (D.sl (qI bs) n)]] (kG []) 0 (.tup [.c (.d (D.sl (dI .u8 ((rP id nm d1 d2 d3 d4 d5 bs) ++ (pbL (qR (rP id nm d1 d2 d3 d4 d5 bs)) 4))) (((ka1 (vB bs)) + (ka1 nm)) + 29))), iE 0]) (kG []) 0 := by
  refine Fun.mk (n := 53) Try.func7 rfl rfl (ka5 rfl) ?_
  intro cx hcx
  refine kK [.no, .no, .no] True [(1, rV 0 0)] [(0, some (31, .ds [D.lit (.int .u64 id), D.lit (.string (strOfNums nm)), iD d1, iD d2, iD d3, iD d4, iD d5, D.sl (qI bs) n]))] 1 trivial ?_
  refine AW.seq ?_
  refine kX [.no, .call [] (bV true) [] 0 [] none, .no] (Fun 14 [.agg [.d (D.lit (.int .u64 id)), .d (D.lit (.string (strOfNums nm))), iC d1, iC d2, iC d3, iC d4, iC d5, .d (D.sl (qI bs) n)]] (kG []) 0 (bV true) (kG []) 0) [(1, rV 0 0), (7, bV false)] (by have h0 := (f8 id nm d1 d2 d3 d4 d5 bs n (kP : Byt nm) zo zo zo (kP : BsW bs)); rw [hV] at h0; exact h0) ?_
  refine yV ?_
  refine kK (kU 4 [.call [] (oV 0 0 12 1) [(0, some (5, .ds (dI .u8 (([83, 78, 68, 49] : List Int) ++ (pbL id 8)))))] 1 [none] none, .no, .no, .no]) ((1 ≤ 4) ∧ ([D.lit (.int .u8 83), D.lit (.int .u8 78), D.lit (.int .u8 68), D.lit (.int .u8 49)].length = 4 * 1) ∧ (g7 (oV 0 0 12 1) = true) ∧ ((dI .u8 (([83, 78, 68, 49] : List Int) ++ (pbL id 8))).all wG = true) ∧ (_)) [(1, rV 0 0), (4, rV 3 0)] [(0, some (31, .ds [D.lit (.int .u64 id), D.lit (.string (strOfNums nm)), iD d1, iD d2, iD d3, iD d4, iD d5, D.sl (qI bs) n])), (2, some (5, .ds (dI .u8 (([83, 78, 68, 49] : List Int) ++ (pbL id 8))))), (3, some (47, .cs [.own 2 0 12 1 true]))] 4 ⟨zo, y9, rfl, (by first | exact k75 _ _ | rfl), (W_Put64 ([83, 78, 68, 49] : List Int) 4 id qG zo zo)⟩ ?_
  refine kK [.no, .no, .no, .call [3, 2] (.tup []) [(0, some (47, .cs [.own 2 0 (12 + (1 + (ka1 nm))) 1 true])), (1, none), (2, some (5, .ds (dI .u8 ((([83, 78, 68, 49] : List Int) ++ (pbL id 8)) ++ (y4 nm)))))] 3 [] none] _ [(1, rV 0 0), (4, rV 3 0)] [(0, some (31, .ds [D.lit (.int .u64 id), D.lit (.string (strOfNums nm)), iD d1, iD d2, iD d3, iD d4, iD d5, D.sl (qI bs) n])), (3, some (47, .cs [.own 4 0 (12 + (1 + (ka1 nm))) 1 true])), (4, some (5, .ds (dI .u8 ((([83, 78, 68, 49] : List Int) ++ (pbL id 8)) ++ (y4 nm)))))] 5 (u2r (([83, 78, 68, 49] : List Int) ++ (pbL id 8)) nm 12 qG zo (kP : Byt nm) zo) ?_
  refine kK [.no, .no, .no, .call [3, 4] (.tup []) [(0, some (47, .cs [.own 2 0 ((12 + (1 + (ka1 nm))) + 2) 1 true])), (1, none), (2, some (5, .ds (dI .u8 (((([83, 78, 68, 49] : List Int) ++ (pbL id 8)) ++ (y4 nm)) ++ (pbL d1 2)))))] 3 [] none] _ [(1, rV 0 0), (4, rV 3 0)] [(0, some (31, .ds [D.lit (.int .u64 id), D.lit (.string (strOfNums nm)), iD d1, iD d2, iD d3, iD d4, iD d5, D.sl (qI bs) n])), (3, some (47, .cs [.own 5 0 ((12 + (1 + (ka1 nm))) + 2) 1 true])), (5, some (5, .ds (dI .u8 (((([83, 78, 68, 49] : List Int) ++ (pbL id 8)) ++ (y4 nm)) ++ (pbL d1 2)))))] 6 (aK ((([83, 78, 68, 49] : List Int) ++ (pbL id 8)) ++ (y4 nm)) (12 + (1 + (ka1 nm))) d1 qG zo zo) ?_
  refine kK [.no, .no, .no, .call [3, 5] (.tup []) [(0, some (47, .cs [.own 2 0 (((12 + (1 + (ka1 nm))) + 2) + 2) 1 true])), (1, none), (2, some (5, .ds (dI .u8 ((((([83, 78, 68, 49] : List Int) ++ (pbL id 8)) ++ (y4 nm)) ++ (pbL d1 2)) ++ (pbL d2 2)))))] 3 [] none] _ [(1, rV 0 0), (4, rV 3 0)] [(0, some (31, .ds [D.lit (.int .u64 id), D.lit (.string (strOfNums nm)), iD d1, iD d2, iD d3, iD d4, iD d5, D.sl (qI bs) n])), (3, some (47, .cs [.own 6 0 (((12 + (1 + (ka1 nm))) + 2) + 2) 1 true])), (6, some (5, .ds (dI .u8 ((((([83, 78, 68, 49] : List Int) ++ (pbL id 8)) ++ (y4 nm)) ++ (pbL d1 2)) ++ (pbL d2 2)))))] 7 (aK (((([83, 78, 68, 49] : List Int) ++ (pbL id 8)) ++ (y4 nm)) ++ (pbL d1 2)) ((12 + (1 + (ka1 nm))) + 2) d2 qG zo zo) ?_
  refine kK [.no, .no, .no, .call [3, 6] (.tup []) [(0, some (47, .cs [.own 2 0 ((((12 + (1 + (ka1 nm))) + 2) + 2) + 4) 1 true])), (1, none), (2, some (5, .ds (dI .u8 (((((([83, 78, 68, 49] : List Int) ++ (pbL id 8)) ++ (y4 nm)) ++ (pbL d1 2)) ++ (pbL d2 2)) ++ (pbL d3 4)))))] 3 [] none] _ [(1, rV 0 0), (4, rV 3 0)] [(0, some (31, .ds [D.lit (.int .u64 id), D.lit (.string (strOfNums nm)), iD d1, iD d2, iD d3, iD d4, iD d5, D.sl (qI bs) n])), (3, some (47, .cs [.own 7 0 ((((12 + (1 + (ka1 nm))) + 2) + 2) + 4) 1 true])), (7, some (5, .ds (dI .u8 (((((([83, 78, 68, 49] : List Int) ++ (pbL id 8)) ++ (y4 nm)) ++ (pbL d1 2)) ++ (pbL d2 2)) ++ (pbL d3 4)))))] 8 (tG ((((([83, 78, 68, 49] : List Int) ++ (pbL id 8)) ++ (y4 nm)) ++ (pbL d1 2)) ++ (pbL d2 2)) (((12 + (1 + (ka1 nm))) + 2) + 2) d3 qG zo zo) ?_
  refine kK [.no, .no, .no, .call [3, 7] (.tup []) [(0, some (47, .cs [.own 2 0 (((((12 + (1 + (ka1 nm))) + 2) + 2) + 4) + 2) 1 true])), (1, none), (2, some (5, .ds (dI .u8 ((((((([83, 78, 68, 49] : List Int) ++ (pbL id 8)) ++ (y4 nm)) ++ (pbL d1 2)) ++ (pbL d2 2)) ++ (pbL d3 4)) ++ (pbL d4 2)))))] 3 [] none] _ [(1, rV 0 0), (4, rV 3 0)] [(0, some (31, .ds [D.lit (.int .u64 id), D.lit (.string (strOfNums nm)), iD d1, iD d2, iD d3, iD d4, iD d5, D.sl (qI bs) n])), (3, some (47, .cs [.own 8 0 (((((12 + (1 + (ka1 nm))) + 2) + 2) + 4) + 2) 1 true])), (8, some (5, .ds (dI .u8 ((((((([83, 78, 68, 49] : List Int) ++ (pbL id 8)) ++ (y4 nm)) ++ (pbL d1 2)) ++ (pbL d2 2)) ++ (pbL d3 4)) ++ (pbL d4 2)))))] 9 (aK (((((([83, 78, 68, 49] : List Int) ++ (pbL id 8)) ++ (y4 nm)) ++ (pbL d1 2)) ++ (pbL d2 2)) ++ (pbL d3 4)) ((((12 + (1 + (ka1 nm))) + 2) + 2) + 4) d4 qG zo zo) ?_
  refine kK [.no, .no, .no, .call [3, 8] (.tup []) [(0, some (47, .cs [.own 2 0 ((((((12 + (1 + (ka1 nm))) + 2) + 2) + 4) + 2) + 2) 1 true])), (1, none), (2, some (5, .ds (dI .u8 (((((((([83, 78, 68, 49] : List Int) ++ (pbL id 8)) ++ (y4 nm)) ++ (pbL d1 2)) ++ (pbL d2 2)) ++ (pbL d3 4)) ++ (pbL d4 2)) ++ (pbL d5 2)))))] 3 [] none] _ [(1, rV 0 0), (4, rV 3 0)] [(0, some (31, .ds [D.lit (.int .u64 id), D.lit (.string (strOfNums nm)), iD d1, iD d2, iD d3, iD d4, iD d5, D.sl (qI bs) n])), (3, some (47, .cs [.own 9 0 ((((((12 + (1 + (ka1 nm))) + 2) + 2) + 4) + 2) + 2) 1 true])), (9, some (5, .ds (dI .u8 (((((((([83, 78, 68, 49] : List Int) ++ (pbL id 8)) ++ (y4 nm)) ++ (pbL d1 2)) ++ (pbL d2 2)) ++ (pbL d3 4)) ++ (pbL d4 2)) ++ (pbL d5 2)))))] 10 (aK ((((((([83, 78, 68, 49] : List Int) ++ (pbL id 8)) ++ (y4 nm)) ++ (pbL d1 2)) ++ (pbL d2 2)) ++ (pbL d3 4)) ++ (pbL d4 2)) (((((12 + (1 + (ka1 nm))) + 2) + 2) + 4) + 2) d5 qG zo zo) ?_
  refine kK [.no, .no, .no, .call [3, 9] (.tup []) [(0, some (47, .cs [.own 2 0 (((((((12 + (1 + (ka1 nm))) + 2) + 2) + 4) + 2) + 2) + (ka1 (vB bs))) 1 true])), (1, none), (2, some (5, .ds (dI .u8 ((((((((([83, 78, 68, 49] : List Int) ++ (pbL id 8)) ++ (y4 nm)) ++ (pbL d1 2)) ++ (pbL d2 2)) ++ (pbL d3 4)) ++ (pbL d4 2)) ++ (pbL d5 2)) ++ (vB bs)))))] 3 [] none] _ [(4, rV 3 0)] [(3, some (47, .cs [.own 10 0 (((((((12 + (1 + (ka1 nm))) + 2) + 2) + 4) + 2) + 2) + (ka1 (vB bs))) 1 true])), (10, some (5, .ds (dI .u8 ((((((((([83, 78, 68, 49] : List Int) ++ (pbL id 8)) ++ (y4 nm)) ++ (pbL d1 2)) ++ (pbL d2 2)) ++ (pbL d3 4)) ++ (pbL d4 2)) ++ (pbL d5 2)) ++ (vB bs)))))] 11 (k3w (((((((([83, 78, 68, 49] : List Int) ++ (pbL id 8)) ++ (y4 nm)) ++ (pbL d1 2)) ++ (pbL d2 2)) ++ (pbL d3 4)) ++ (pbL d4 2)) ++ (pbL d5 2)) ((((((12 + (1 + (ka1 nm))) + 2) + 2) + 4) + 2) + 2) bs n qG zo zo qG (kP : BsW bs) qG) ?_
  refine AW.freeze 10 (l' := [(4, rV 3 0)]) (g' := [(3, some (47, .ds [db ((((((((([83, 78, 68, 49] : List Int) ++ (pbL id 8)) ++ (y4 nm)) ++ (pbL d1 2)) ++ (pbL d2 2)) ++ (pbL d3 4)) ++ (pbL d4 2)) ++ (pbL d5 2)) ++ (vB bs)) (((((((12 + (1 + (ka1 nm))) + 2) + 2) + 4) + 2) + 2) + (ka1 (vB bs)))]))]) rfl (FzS.cons rfl (.same _) FzS.nil) (FzG.to (bc := .cs [.own 10 0 (((((((12 + (1 + (ka1 nm))) + 2) + 2) + 4) + 2) + 2) + (ka1 (vB bs))) 1 true]) rfl (by rfl) (FzL.cons (@FzC.own 10 ((dI .u8 ((((((((([83, 78, 68, 49] : List Int) ++ (pbL id 8)) ++ (y4 nm)) ++ (pbL d1 2)) ++ (pbL d2 2)) ++ (pbL d3 4)) ++ (pbL d4 2)) ++ (pbL d5 2)) ++ (vB bs))) : List D) 0 (((((((12 + (1 + (ka1 nm))) + 2) + 2) + 4) + 2) + 2) + (ka1 (vB bs))) 1 true ((dI .u8 ((((((((([83, 78, 68, 49] : List Int) ++ (pbL id 8)) ++ (y4 nm)) ++ (pbL d1 2)) ++ (pbL d2 2)) ++ (pbL d3 4)) ++ (pbL d4 2)) ++ (pbL d5 2)) ++ (vB bs))) : List D) (by rw [List.drop_zero, kc3, List.take_of_length_le (by first | omega | (simp only [kR, kQ, pbL_len, qX, qM, qJ, ka4, kb2, kb5, kb3, kb1, kb4, kc4, kd0, kc8, kc3] <;> omega))]) y9) FzL.nil) FzG.nil) ?_
  have hx1 : (((0 : Int) ≤ (qR ((((((((([83, 78, 68, 49] : List Int) ++ (pbL id 8)) ++ (y4 nm)) ++ (pbL d1 2)) ++ (pbL d2 2)) ++ (pbL d3 4)) ++ (pbL d4 2)) ++ (pbL d5 2)) ++ (vB bs)))) ∧ ((qR ((((((((([83, 78, 68, 49] : List Int) ++ (pbL id 8)) ++ (y4 nm)) ++ (pbL d1 2)) ++ (pbL d2 2)) ++ (pbL d3 4)) ++ (pbL d4 2)) ++ (pbL d5 2)) ++ (vB bs))) ≤ 4294967295)) := dG _
  refine kK (kU 8 [.call [] (kS (D.lit (.int .u32 (qR ((((((((([83, 78, 68, 49] : List Int) ++ (pbL id 8)) ++ (y4 nm)) ++ (pbL d1 2)) ++ (pbL d2 2)) ++ (pbL d3 4)) ++ (pbL d4 2)) ++ (pbL d5 2)) ++ (vB bs)))))) [] 0 [] none, .call [] (sV .u8 (((((((((([83, 78, 68, 49] : List Int) ++ (pbL id 8)) ++ (y4 nm)) ++ (pbL d1 2)) ++ (pbL d2 2)) ++ (pbL d3 4)) ++ (pbL d4 2)) ++ (pbL d5 2)) ++ (vB bs)) ++ (pbL (qR ((((((((([83, 78, 68, 49] : List Int) ++ (pbL id 8)) ++ (y4 nm)) ++ (pbL d1 2)) ++ (pbL d2 2)) ++ (pbL d3 4)) ++ (pbL d4 2)) ++ (pbL d5 2)) ++ (vB bs))) 4)) ((((((((12 + (1 + (ka1 nm))) + 2) + 2) + 4) + 2) + 2) + (ka1 (vB bs))) + 4)) [] 1 [] none, .no, .no]) ((_) ∧ (_)) [(2, sV .u8 (((((((((([83, 78, 68, 49] : List Int) ++ (pbL id 8)) ++ (y4 nm)) ++ (pbL d1 2)) ++ (pbL d2 2)) ++ (pbL d3 4)) ++ (pbL d4 2)) ++ (pbL d5 2)) ++ (vB bs)) ++ (pbL (qR ((((((((([83, 78, 68, 49] : List Int) ++ (pbL id 8)) ++ (y4 nm)) ++ (pbL d1 2)) ++ (pbL d2 2)) ++ (pbL d3 4)) ++ (pbL d4 2)) ++ (pbL d5 2)) ++ (vB bs))) 4)) ((((((((12 + (1 + (ka1 nm))) + 2) + 2) + 4) + 2) + 2) + (ka1 (vB bs))) + 4)), (3, iV 0)] [] 12 ⟨(k3x ((((((((([83, 78, 68, 49] : List Int) ++ (pbL id 8)) ++ (y4 nm)) ++ (pbL d1 2)) ++ (pbL d2 2)) ++ (pbL d3 4)) ++ (pbL d4 2)) ++ (pbL d5 2)) ++ (vB bs)) (((((((12 + (1 + (ka1 nm))) + 2) + 2) + 4) + 2) + 2) + (ka1 (vB bs))) qG qG (Byt.app (Byt.app (Byt.app (Byt.app (Byt.app (Byt.app (Byt.app (Byt.app (Byt.cons zo (Byt.cons zo (Byt.cons zo (Byt.cons zo Byt.nil)))) (pbL_byt _ _)) (tU (kP : Byt nm) zo)) (pbL_byt _ _)) (pbL_byt _ _)) (pbL_byt _ _)) (pbL_byt _ _)) (pbL_byt _ _)) (tL _))), (W_Put32_z ((((((((([83, 78, 68, 49] : List Int) ++ (pbL id 8)) ++ (y4 nm)) ++ (pbL d1 2)) ++ (pbL d2 2)) ++ (pbL d3 4)) ++ (pbL d4 2)) ++ (pbL d5 2)) ++ (vB bs)) (((((((12 + (1 + (ka1 nm))) + 2) + 2) + 4) + 2) + 2) + (ka1 (vB bs))) (qR ((((((((([83, 78, 68, 49] : List Int) ++ (pbL id 8)) ++ (y4 nm)) ++ (pbL d1 2)) ++ (pbL d2 2)) ++ (pbL d3 4)) ++ (pbL d4 2)) ++ (pbL d5 2)) ++ (vB bs))) qG qG qG)⟩ ?_
  refine AW.ret ?_
  exact kC (.inr rfl) [] (P := (((dI .u8 ((rP id nm d1 d2 d3 d4 d5 bs) ++ (pbL (qR (rP id nm d1 d2 d3 d4 d5 bs)) 4))) : List D) = (dI .u8 (((((((((([83, 78, 68, 49] : List Int) ++ (pbL id 8)) ++ (y4 nm)) ++ (pbL d1 2)) ++ (pbL d2 2)) ++ (pbL d3 4)) ++ (pbL d4 2)) ++ (pbL d5 2)) ++ (vB bs)) ++ (pbL (qR ((((((((([83, 78, 68, 49] : List Int) ++ (pbL id 8)) ++ (y4 nm)) ++ (pbL d1 2)) ++ (pbL d2 2)) ++ (pbL d3 4)) ++ (pbL d4 2)) ++ (pbL d5 2)) ++ (vB bs))) 4)))) ∧ (((((ka1 (vB bs)) + (ka1 nm)) + 29) : Nat) = ((((((((12 + (1 + (ka1 nm))) + 2) + 2) + 4) + 2) + 2) + (ka1 (vB bs))) + 4)) ∧ (kN 0)) zk ⟨(by first | rfl | (unfold rP; rfl)), (by first | omega | rfl), rfl⟩
end Go.Proofs.Ytalbpleglapihaa
