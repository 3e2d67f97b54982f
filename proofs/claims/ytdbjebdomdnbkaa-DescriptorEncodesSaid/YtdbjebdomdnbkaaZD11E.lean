/- Writers. No statement is proved here. -/
import Derived.Test.YtdbjebdomdnbkaaZD11D
namespace Go.Proofs.Ytdbjebdomdnbkaa
open Go.ChangeShapes Go.WideShapes Go.ChangeAt Go.RowKit
open List renaming append_assoc → kb8, append_nil → kd0, drop → ka7, getD → ka0, getD_eq_getElem?_getD → ka8, getElem?_eq_getElem → ka9, getElem_mem → kh0, length → ka1, length_append → ka3, length_cons → kb1, length_drop → kb2, length_map → kc3, length_nil → kb5, length_replicate → kb6, length_reverse → kc7, length_set → kc2, length_take → kb3, mem_of_getElem? → kd6
open Nat renaming le_of_ble_eq_true → ka4, le_refl → kc8, mul_one → kc6, zero_le → kd5
set_option linter.unusedVariables false
set_option linter.unusedSimpArgs false
/-! chapter 11: writers -/
set_option maxHeartbeats 4000000
set_option maxRecDepth 100000
def u7 (s : List Int) : List Int := ((ka1 s : Nat) : Int) :: s
theorem qD (s : List Int) : ka1 (u7 s) = 1 + ka1 s := by unfold u7; rw [kb1]; omega
theorem zZ {s : List Int} (h : Byt s) (h1 : ka1 s ≤ 64) : Byt (u7 s) := Byt.cons (by omega) h
def R32 (r : List Int) : Prop := ∀ x ∈ r, 0 ≤ x ∧ x ≤ 4294967295
def R16 (r : List Int) : Prop := ∀ x ∈ r, 0 ≤ x ∧ x ≤ 65535
theorem R32.at {r : List Int} (h : R32 r) {i : Nat} (hi : i < r.length) : 0 ≤ ka0 r i 0 ∧ ka0 r i 0 ≤ 4294967295 := by
  rw [ka8, ka9 hi]
  exact h _ (kh0 hi)
theorem R16.at {r : List Int} (h : R16 r) {i : Nat} (hi : i < r.length) : 0 ≤ ka0 r i 0 ∧ ka0 r i 0 ≤ 65535 := by
  rw [ka8, ka9 hi]
  exact h _ (kh0 hi)
theorem k9e : R16 [] := fun x hx => by cases hx
theorem sI : R32 [] := fun x hx => by cases hx
def RmW (m : List (List Int)) : Prop := ∀ x ∈ m, R16 x ∧ ka1 x ≤ 65535
theorem k9d : RmW [] := fun x hx => by cases hx
theorem RmW.at {m : List (List Int)} (h : RmW m) (i : Nat) : R16 (ka0 m i []) ∧ ka1 (ka0 m i []) ≤ 65535 := by
  rw [ka8]
  cases e : m[i]? with
  | none => exact ⟨k9e, kd5 _⟩
  | some l => exact h l (kd6 e)
def o7 (r : List Int) : Nat → List Int
  | 0 => []
  | k + 1 => o7 r k ++ (pbL (ka0 r (k * 2) 0) 4 ++ pbL (ka0 r (k * 2 + 1) 0) 4)
theorem o6 (r : List Int) : ∀ k, ka1 (o7 r k) = k * 8
  | 0 => rfl
  | k + 1 => by show ka1 (o7 r k ++ _) = _; rw [ka3, o6 r k, ka3, pbL_len, pbL_len]; omega
def aP (r : List Int) (n : Nat) : List Int := pbL ((n : Nat) : Int) 2 ++ o7 r n
theorem qB (r : List Int) (n : Nat) : ka1 (aP r n) = 2 + n * 8 := by unfold aP; rw [ka3, pbL_len, o6]
theorem u3l (l r : List Int) (n : Nat) : l ++ (pbL ((n : Nat) : Int) 2 ++ o7 r 0) = l ++ pbL ((n : Nat) : Int) 2 := by rw [o7, kd0]
theorem u3j {l r o : List Int} {n k : Nat} (h : l ++ (pbL ((n : Nat) : Int) 2 ++ o7 r k) = o) : l ++ (pbL ((n : Nat) : Int) 2 ++ o7 r (k + 1)) = o ++ pbL (ka0 r (k * 2) 0) 4 ++ pbL (ka0 r (k * 2 + 1) 0) 4 := by
  subst h; rw [o7]; simp only [kb8]
theorem u3k {l r o : List Int} {n k : Nat} (h : l ++ (pbL ((n : Nat) : Int) 2 ++ o7 r k) = o) (hk : k = n) : l ++ aP r n = o := by subst hk; exact h
def pC (m : List Int) : Nat → List Int
  | 0 => []
  | k + 1 => pC m k ++ pbL (ka0 m k 0) 2
theorem pB (m : List Int) : ∀ k, ka1 (pC m k) = k * 2
  | 0 => rfl
  | k + 1 => by show ka1 (pC m k ++ _) = _; rw [ka3, pB m k, pbL_len]; omega
def wpL (m : List Int) : List Int := pbL ((ka1 m : Nat) : Int) 2 ++ pC m m.length
theorem pA (m : List Int) : ka1 (wpL m) = 2 + ka1 m * 2 := by unfold wpL; rw [ka3, pbL_len, pB]
theorem u3o (l m : List Int) : l ++ (pbL ((ka1 m : Nat) : Int) 2 ++ pC m 0) = l ++ pbL ((ka1 m : Nat) : Int) 2 := by rw [pC, kd0]
theorem u3m {l m o : List Int} {k : Nat} (h : l ++ (pbL ((ka1 m : Nat) : Int) 2 ++ pC m k) = o) : l ++ (pbL ((ka1 m : Nat) : Int) 2 ++ pC m (k + 1)) = o ++ pbL (ka0 m k 0) 2 := by
  subst h; rw [pC]; simp only [kb8]
theorem u3n {l m o : List Int} {k : Nat} (h : l ++ (pbL ((ka1 m : Nat) : Int) 2 ++ pC m k) = o) (hk : k = m.length) : l ++ wpL m = o := by subst hk; exact h
def bQ (m : List (List Int)) : Nat → List Int
  | 0 => []
  | k + 1 => bQ m k ++ wpL (ka0 m k [])
def bB (m : List (List Int)) : List Int := pbL ((ka1 m : Nat) : Int) 2 ++ bQ m m.length
theorem u3s (l : List Int) (m : List (List Int)) : l ++ (pbL ((ka1 m : Nat) : Int) 2 ++ bQ m 0) = l ++ pbL ((ka1 m : Nat) : Int) 2 := by rw [bQ, kd0]
theorem u71 {l o p : List Int} {m : List (List Int)} {k : Nat} (h : l ++ (pbL ((ka1 m : Nat) : Int) 2 ++ bQ m k) = o) (h1 : o ++ wpL (ka0 m k []) = p) : l ++ (pbL ((ka1 m : Nat) : Int) 2 ++ bQ m (k + 1)) = p := by
  subst h1; subst h; rw [bQ]; simp only [kb8]
theorem u3q {l o : List Int} {m : List (List Int)} {k : Nat} (h : l ++ (pbL ((ka1 m : Nat) : Int) 2 ++ bQ m k) = o) (hk : k = m.length) : l ++ bB m = o := by subst hk; exact h
theorem u3p {l o p : List Int} {m : List (List Int)} {c k : Nat} (hc : m.length = c) (h : l ++ (pbL ((c : Nat) : Int) 2 ++ bQ m k) = o) (h1 : o ++ wpL (ka0 m k []) = p) : l ++ (pbL ((c : Nat) : Int) 2 ++ bQ m (k + 1)) = p := by subst hc; exact u71 h h1
theorem u72 {l o : List Int} {m : List (List Int)} {c k : Nat} (hc : m.length = c) (h : l ++ (pbL ((c : Nat) : Int) 2 ++ bQ m k) = o) (hk : k = c) : l ++ bB m = o := by subst hc; exact u3q h hk
theorem u14 (m : List (List Int)) (k : Nat) : ka1 (bQ m (k + 1)) = ka1 (bQ m k) + (2 + ka1 (ka0 m k []) * 2) := by rw [bQ, ka3, pA]
theorem u15 {l w o : List Int} {n q : Nat} (h : l ++ w = o) (hn : l.length = n) (hq : o.length = q) : n + ka1 w = q := by subst h; rw [ka3] at hq; omega
theorem k2j (m : List (List Int)) : ∀ k j, k ≤ j → ka1 (bQ m k) ≤ ka1 (bQ m j)
  | k, 0, h => by rw [show k = 0 by omega]; exact kc8 _
  | k, j + 1, h => by
    by_cases e : k = j + 1
    · subst e; exact kc8 _
    · have := k2j m k j (by omega); rw [bQ, ka3]; omega
theorem u3r {m : List (List Int)} {k c : Nat} (hc : m.length = c) (hk : k < c) : ka1 (bQ m k) + (2 + ka1 (ka0 m k []) * 2) + 2 ≤ ka1 (bB m) := by
  subst hc
  have h := k2j m (k + 1) m.length (by omega)
  rw [bQ, ka3, pA] at h
  unfold bB; rw [ka3, pbL_len]; omega
def wbX (b : Bx) : List Int := pbL b.k 2 ++ (aP b.r b.rn ++ (bB b.m ++ aP b.s b.sn))
def aV (bs : List Bx) : Nat → List Int
  | 0 => []
  | k + 1 => aV bs k ++ wbX (vZ bs k)
def vV (bs : List Bx) : List Int := pbL ((ka1 bs : Nat) : Int) 2 ++ aV bs bs.length
theorem u3z (l : List Int) (bs : List Bx) : l ++ (pbL ((ka1 bs : Nat) : Int) 2 ++ aV bs 0) = l ++ pbL ((ka1 bs : Nat) : Int) 2 := by rw [aV, kd0]
theorem u75 {l o : List Int} {bs : List Bx} {k : Nat} (h : l ++ (pbL ((ka1 bs : Nat) : Int) 2 ++ aV bs k) = o) : l ++ (pbL ((ka1 bs : Nat) : Int) 2 ++ aV bs (k + 1)) = o ++ pbL (vK bs k) 2 ++ aP (vH bs k) (uM bs k) ++ bB (kW bs k) ++ aP (aG bs k) (yW bs k) := by
  subst h; rw [aV, wbX]; simp only [kb8]; rfl
theorem u76 {l o : List Int} {bs : List Bx} {k : Nat} (h : l ++ (pbL ((ka1 bs : Nat) : Int) 2 ++ aV bs k) = o) (hk : k = bs.length) : l ++ vV bs = o := by subst hk; exact h
theorem u3v {l o : List Int} {bs : List Bx} {c k : Nat} (hc : bs.length = c) (h : l ++ (pbL ((c : Nat) : Int) 2 ++ aV bs k) = o) : l ++ (pbL ((c : Nat) : Int) 2 ++ aV bs (k + 1)) = o ++ pbL (vK bs k) 2 ++ aP (vH bs k) (uM bs k) ++ bB (kW bs k) ++ aP (aG bs k) (yW bs k) := by subst hc; exact u75 h
theorem u3x {l o : List Int} {m : List Bx} {c k : Nat} (hc : m.length = c) (h : l ++ (pbL ((c : Nat) : Int) 2 ++ aV m k) = o) (hk : k = c) : l ++ vV m = o := by subst hc; exact u76 h hk
theorem u3w (m : List Bx) (k : Nat) : ka1 (aV m (k + 1)) = ka1 (aV m k) + (2 + (2 + uM m k * 8) + ka1 (bB (kW m k)) + (2 + yW m k * 8)) := by
  rw [aV, ka3, wbX, ka3, ka3, ka3, pbL_len, qB, qB]
  show _ = _ + (2 + (2 + (vZ m k).rn * 8) + ka1 (bB (vZ m k).m) + (2 + (vZ m k).sn * 8))
  omega
theorem k2k (m : List Bx) : ∀ k j, k ≤ j → ka1 (aV m k) ≤ ka1 (aV m j)
  | k, 0, h => by rw [show k = 0 by omega]; exact kc8 _
  | k, j + 1, h => by
    by_cases e : k = j + 1
    · subst e; exact kc8 _
    · have := k2k m k j (by omega); rw [aV, ka3]; omega
theorem u3y {m : List Bx} {k c : Nat} (hc : m.length = c) (hk : k < c) : ka1 (aV m k) + (2 + (2 + uM m k * 8) + ka1 (bB (kW m k)) + (2 + yW m k * 8)) + 2 ≤ ka1 (vV m) := by
  subst hc
  have h := k2k m (k + 1) m.length (by omega)
  rw [aV, ka3, wbX, ka3, ka3, ka3, pbL_len, qB, qB] at h
  unfold vV; rw [ka3, pbL_len]
  show _ + (2 + (2 + (vZ m k).rn * 8) + ka1 (bB (vZ m k).m) + (2 + (vZ m k).sn * 8)) + 2 ≤ _
  omega
def RbX (b : Bx) : Prop := (0 ≤ b.k ∧ b.k ≤ 65535) ∧ R32 b.r ∧ b.rn ≤ 65535 ∧ R32 b.s ∧ b.sn ≤ 65535 ∧ ka1 b.m ≤ 65535 ∧ RmW b.m
def RbW (bs : List Bx) : Prop := ∀ b ∈ bs, RbX b
theorem RbW.at {bs : List Bx} (h : RbW bs) (i : Nat) : (0 ≤ vK bs i ∧ vK bs i ≤ 65535) ∧ uM bs i ≤ 65535 ∧ yW bs i ≤ 65535 ∧ ka1 (kW bs i) ≤ 65535 ∧ R32 (vH bs i) ∧ R32 (aG bs i) ∧ RmW (kW bs i) := by
  have h1 : RbX (vZ bs i) := by
    unfold vZ
    rw [ka8]
    cases e : bs[i]? with
    | none => exact ⟨by show (0 : Int) ≤ 0 ∧ (0 : Int) ≤ 65535; omega, sI, kd5 _, sI, kd5 _, kd5 _, k9d⟩
    | some b => exact h b (kd6 e)
  exact ⟨h1.1, h1.2.2.1, h1.2.2.2.2.1, h1.2.2.2.2.2.1, h1.2.1, h1.2.2.2.1, h1.2.2.2.2.2.2⟩
theorem zQ (r : List Int) (n : Nat) : Byt (aP r n) := by
  have h : ∀ k, Byt (o7 r k) := fun k => by
    induction k with
    | zero => exact Byt.nil
    | succ k ih => exact ih.app ((pbL_byt _ _).app (pbL_byt _ _))
  exact (pbL_byt _ _).app (h n)
theorem k74 (m : List Int) : Byt (wpL m) := by
  have h : ∀ k, Byt (pC m k) := fun k => by
    induction k with
    | zero => exact Byt.nil
    | succ k ih => exact ih.app (pbL_byt _ _)
  exact (pbL_byt _ _).app (h _)
theorem k75 (m : List (List Int)) : Byt (bB m) := by
  have h : ∀ k, Byt (bQ m k) := fun k => by
    induction k with
    | zero => exact Byt.nil
    | succ k ih => exact ih.app (k74 _)
  exact (pbL_byt _ _).app (h _)
theorem zS (m : List Bx) : Byt (vV m) := by
  have h : ∀ k, Byt (aV m k) := fun k => by
    induction k with
    | zero => exact Byt.nil
    | succ k ih => exact ih.app ((pbL_byt _ _).app ((zQ _ _).app ((k75 _).app (zQ _ _))))
  exact (pbL_byt _ _).app (h _)
def jK (id : Int) (nm : List Int) (d1 d2 d3 d4 d5 : Int) (bs : List Bx) : List Int := [83, 78, 68, 49] ++ pbL id 8 ++ u7 nm ++ pbL d1 2 ++ pbL d2 2 ++ pbL d3 4 ++ pbL d4 2 ++ pbL d5 2 ++ vV bs
theorem dL (id : Int) (nm : List Int) (d1 d2 d3 d4 d5 : Int) (bs : List Bx) : ka1 (jK id nm d1 d2 d3 d4 d5 bs) = 25 + ka1 nm + ka1 (vV bs) := by
  unfold jK; simp only [ka3, pbL_len, qD, kb1, kb5]; omega
theorem k0w {id : Int} {nm : List Int} {d1 d2 d3 d4 d5 : Int} {bs : List Bx} (h : Byt nm) (h1 : ka1 nm ≤ 64) : Byt (jK id nm d1 d2 d3 d4 d5 bs) :=
  ((((((((Byt.cons (by omega) (Byt.cons (by omega) (Byt.cons (by omega) (Byt.cons (by omega) Byt.nil)))).app (pbL_byt _ _)).app (zZ h h1)).app (pbL_byt _ _)).app (pbL_byt _ _)).app (pbL_byt _ _)).app (pbL_byt _ _)).app (pbL_byt _ _)).app (zS _)
theorem qQ {p : Prop} (h : p := by first | omega | with_reducible assumption | (simp only [kU, kT, pbL_len, qD, qB, ka3, kb1, kb5, kb3, kb2, kb6, kc2] <;> omega) | rfl | assumption) : p := h
theorem aE {p : Prop} (h : p := by first | omega | (simp only [kU, kT, pbL_len, qD, qB, qM, ka3, kb1, kb5, kb3, kb2, kb6, kc2, kc3, kc7, kc6] <;> omega) | rfl) : p := h
theorem cH (l : List Int) (n : Nat) (x : Int) (hn : ka1 l = n) (h2 : n ≤ 900000) (hx : 0 ≤ x ∧ x ≤ 65535) : Fun 19 [.c (.ptr 0 0), iE x] (kF [(0, some (55, .cs [.own 1 0 n 1 true])), (1, some (5, .ds (dI .u8 l)))]) 2 (.tup []) (kF [(0, some (55, .cs [.own 2 0 (n + 2) 1 true])), (1, none), (2, some (5, .ds (dI .u8 (l ++ (pbL x 2)))))]) 3 := by
  refine Fun.mk (n := 15) Try.func19 rfl rfl (ka4 rfl) ?_
  intro cx hcx
  refine v7 (kJ 6 [.w, .call [] (sV .u8 (([] : List Int) ++ (pbL x 2)) 2) [] 1 [] none, .ap none (n + 2) (dI .u8 (l ++ (([] : List Int) ++ (pbL x 2)))), .no, .no, .no]) ((0 ≤ x ∧ x ≤ 65535) ∧ (_) ∧ ((dI .u8 (([] : List Int) ++ (pbL x 2))).length = 2 * 1) ∧ (((dI .u8 l) : List D).length = n * 1) ∧ ((n + 2) * 1 ≤ 140737488355328) ∧ (n + 2 = (n + 2)) ∧ (((dI .u8 l) : List D) ++ (dI .u8 (([] : List Int) ++ (pbL x 2))) = (dI .u8 (l ++ (([] : List Int) ++ (pbL x 2)))))) [] [(0, some (55, .cs [.own 3 0 (n + 2) 1 true])), (3, some (5, .ds (dI .u8 (l ++ (([] : List Int) ++ (pbL x 2))))))] 4 ⟨⟨by omega, by omega⟩, (W_Put16_z ([] : List Int) 0 x qQ zo zo), aE, aE, zo, zo, (qT .u8 l (([] : List Int) ++ (pbL x 2)))⟩ ?_
  exact kC (.inl rfl) [(2, 3)] (P := (kP 0) ∧ (kP (n + 2)) ∧ (((dI .u8 (l ++ (pbL x 2))) : List D) = (dI .u8 (l ++ (([] : List Int) ++ (pbL x 2)))))) zk ⟨rfl, rfl, (by first | rfl | with_reducible assumption | (simp only [yO, uA, qT]; rfl) | (congr 1; first | assumption | (simp; done) | omega))⟩
theorem zN (l : List Int) (n : Nat) (x : Int) (hn : ka1 l = n) (h2 : n ≤ 900000) (hx : 0 ≤ x ∧ x ≤ 4294967295) : Fun 20 [.c (.ptr 0 0), iE x] (kF [(0, some (55, .cs [.own 1 0 n 1 true])), (1, some (5, .ds (dI .u8 l)))]) 2 (.tup []) (kF [(0, some (55, .cs [.own 2 0 (n + 4) 1 true])), (1, none), (2, some (5, .ds (dI .u8 (l ++ (pbL x 4)))))]) 3 := by
  refine Fun.mk (n := 15) Try.func20 rfl rfl (ka4 rfl) ?_
  intro cx hcx
  refine v7 (kJ 6 [.w, .call [] (sV .u8 (([] : List Int) ++ (pbL x 4)) 4) [] 1 [] none, .ap none (n + 4) (dI .u8 (l ++ (([] : List Int) ++ (pbL x 4)))), .no, .no, .no]) ((0 ≤ x ∧ x ≤ 4294967295) ∧ (_) ∧ ((dI .u8 (([] : List Int) ++ (pbL x 4))).length = 4 * 1) ∧ (((dI .u8 l) : List D).length = n * 1) ∧ ((n + 4) * 1 ≤ 140737488355328) ∧ (n + 4 = (n + 4)) ∧ (((dI .u8 l) : List D) ++ (dI .u8 (([] : List Int) ++ (pbL x 4))) = (dI .u8 (l ++ (([] : List Int) ++ (pbL x 4)))))) [] [(0, some (55, .cs [.own 3 0 (n + 4) 1 true])), (3, some (5, .ds (dI .u8 (l ++ (([] : List Int) ++ (pbL x 4))))))] 4 ⟨⟨by omega, by omega⟩, (W_Put32_z ([] : List Int) 0 x qQ zo zo), aE, aE, zo, zo, (qT .u8 l (([] : List Int) ++ (pbL x 4)))⟩ ?_
  exact kC (.inl rfl) [(2, 3)] (P := (kP 0) ∧ (kP (n + 4)) ∧ (((dI .u8 (l ++ (pbL x 4))) : List D) = (dI .u8 (l ++ (([] : List Int) ++ (pbL x 4)))))) zk ⟨rfl, rfl, (by first | rfl | with_reducible assumption | (simp only [yO, uA, qT]; rfl) | (congr 1; first | assumption | (simp; done) | omega))⟩
theorem k2e (l s : List Int) (n : Nat) (hn : ka1 l = n) (h2 : n ≤ 900000) (hs : Byt s) (h3 : ka1 s ≤ 64) : Fun 39 [.c (.d (D.sl (dI .u8 l) n)), .c (.d (D.lit (.string (strOfNums s))))] (kF []) 0 (.tup [.c (.own 0 0 (n + (1 + (ka1 s))) 1 true), iE 0]) (kF [(0, some (5, .ds (dI .u8 (l ++ (u7 s)))))]) 1 := by
  refine Fun.mk (n := 18) Try.func39 rfl rfl (ka4 rfl) ?_
  intro cx hcx
  refine kI [.no, .no] True [(0, sV .u8 l n), (1, kS (D.lit (.string (strOfNums s))))] [] 0 trivial ?_
  refine AW.seq ?_
  refine k8 [.no, .i (ka1 s : Int), .b false] (((ByteArray.size (strOfNums s) : Int) = ((ka1 s : Int) : Int)) ∧ (¬ ((64 : Int) < (ka1 s : Int)))) [(0, sV .u8 l n), (1, kS (D.lit (.string (strOfNums s)))), (8, bV false)] ⟨(by rw [strOfNums_size]), zo⟩ ?_
  refine yC ?_
  refine kI [.no, .no, .i (ka1 s : Int), .w, (.fz (.no)), .no, (.fz (.st none s)), .no, .call [] (oV 0 0 ((n + 1) + (ka1 s)) 1) [(0, some (5, .ds (dI .u8 ((l ++ ([(ka1 s : Int)] : List Int)) ++ s))))] 1 [none] none, .no, .no] (((ByteArray.size (strOfNums s) : Int) = ((ka1 s : Int) : Int)) ∧ (0 ≤ (ka1 s : Int) ∧ (ka1 s : Int) ≤ 255) ∧ (([D.lit (.int .u8 (ka1 s : Int))] : List D).length = 1 * 1) ∧ (uY (strOfNums s) = s) ∧ ((s : List Int).length ≤ 9223372036854775807) ∧ (((dI .u8 s) : List D).length = (ka1 s) * 1) ∧ ([db l n, D.sl [D.lit (.int .u8 (ka1 s : Int))] 1, db s (ka1 s)].length = 3 * 1) ∧ (l4 (oV 0 0 ((n + 1) + (ka1 s)) 1) = true) ∧ ((dI .u8 ((l ++ ([(ka1 s : Int)] : List Int)) ++ s)).all k0c = true) ∧ (_)) [(4, oV 3 0 ((n + 1) + (ka1 s)) 1), (5, iV 0)] [(3, some (5, .ds (dI .u8 ((l ++ ([(ka1 s : Int)] : List Int)) ++ s))))] 4 ⟨(by rw [strOfNums_size]), ⟨by omega, by omega⟩, aE, (l3 (kQ : Byt s)), (by first | decide | omega | (simp only [kU, kT, pbL_len, qD, qB, ka3, kb1, kb5, kb3, kb2] <;> omega)), aE, aE, rfl, (by first | exact u0j _ _ | rfl), (sO l ([(ka1 s : Int)] : List Int) s n 1 (ka1 s) zo qQ rfl zo zo zo)⟩ ?_
  refine AW.ret ?_
  exact kC (.inr rfl) [(0, 3)] (P := (kP 0) ∧ (((n + (1 + (ka1 s))) : Nat) = ((n + 1) + (ka1 s))) ∧ (kN 0) ∧ (((dI .u8 (l ++ (u7 s))) : List D) = (dI .u8 ((l ++ ([(ka1 s : Int)] : List Int)) ++ s)))) zk ⟨rfl, (by first | omega | rfl | assumption | (simp; done) | (simp; omega)), rfl, (by first | rfl | (unfold u7; simp; done))⟩
theorem wR (l s : List Int) (n : Nat) (hn : ka1 l = n) (h2 : n ≤ 900000) (hs : Byt s) (h3 : ka1 s ≤ 64) : Fun 39 [.c (.d (D.sl (dI .u8 l) n)), .c (.d (D.lit (.string (strOfNums s))))] (kF []) 0 (.tup [.c (.d (D.sl (dI .u8 (l ++ (u7 s))) (n + (1 + (ka1 s))))), iE 0]) (kF []) 1 := (Fun.frz (y := .tup [.c (.own 0 0 (n + (1 + (ka1 s))) 1 true), iE 0]) (g1 := [(0, some (5, .ds (dI .u8 (l ++ (u7 s)))))]) (y' := .tup [.c (.d (D.sl (dI .u8 (l ++ (u7 s))) (n + (1 + (ka1 s))))), iE 0]) (g1' := []) (ds := (dI .u8 (l ++ (u7 s)))) 0 (k2e l s n hn h2 hs h3) rfl FzG.nil (.tup ⟨.c (FzC.wh ((by simp only [ka3, qD]; omega))), .c (.same _), trivial⟩))
theorem u6v (l s : List Int) (n : Nat) (hn : ka1 l = n) (h2 : n ≤ 900000) (hs : Byt s) (h3 : ka1 s ≤ 64) : Fun 18 [.c (.ptr 0 0), .c (.d (D.lit (.string (strOfNums s))))] (kF [(0, some (55, .cs [.own 1 0 n 1 true])), (1, some (5, .ds (dI .u8 l)))]) 2 (.tup []) (kF [(0, some (55, .cs [.own 2 0 (n + (1 + (ka1 s))) 1 true])), (1, none), (2, some (5, .ds (dI .u8 (l ++ (u7 s)))))]) 3 := by
  refine Fun.mk (n := 20) Try.func18 rfl rfl (ka4 rfl) ?_
  intro cx hcx
  refine kI (.no :: .call [] (.tup [.c (.d (db (([] : List Int) ++ (u7 s)) (0 + (1 + (ka1 s))))), iE 0]) [] 1 [] none :: kJ 5 []) _ [(0, rV 0 0), (4, sV .u8 (([] : List Int) ++ (u7 s)) (0 + (1 + (ka1 s))))] [(0, some (55, .cs [.own 1 0 n 1 true])), (1, some (5, .ds (dI .u8 l)))] 3 (wR ([] : List Int) s 0 qQ zo (kQ : Byt s) zo) ?_
  refine v7 (kJ 6 [.ap none (n + (0 + (1 + (ka1 s)))) (dI .u8 (l ++ (([] : List Int) ++ (u7 s)))), .no, .no, .no]) (((dI .u8 (([] : List Int) ++ (u7 s))).length = (0 + (1 + (ka1 s))) * 1) ∧ (((dI .u8 l) : List D).length = n * 1) ∧ ((n + (0 + (1 + (ka1 s)))) * 1 ≤ 140737488355328) ∧ (n + (0 + (1 + (ka1 s))) = (n + (0 + (1 + (ka1 s))))) ∧ (((dI .u8 l) : List D) ++ (dI .u8 (([] : List Int) ++ (u7 s))) = (dI .u8 (l ++ (([] : List Int) ++ (u7 s)))))) [] [(0, some (55, .cs [.own 3 0 (n + (0 + (1 + (ka1 s)))) 1 true])), (3, some (5, .ds (dI .u8 (l ++ (([] : List Int) ++ (u7 s))))))] 4 ⟨aE, aE, zo, zo, (qT .u8 l (([] : List Int) ++ (u7 s)))⟩ ?_
  exact kC (.inl rfl) [(2, 3)] (P := (kP 0) ∧ (((n + (1 + (ka1 s))) : Nat) = (n + (0 + (1 + (ka1 s))))) ∧ (((dI .u8 (l ++ (u7 s))) : List D) = (dI .u8 (l ++ (([] : List Int) ++ (u7 s)))))) zk ⟨rfl, (by first | omega | rfl | assumption | (simp; done) | (simp; omega)), (by first | rfl | (simp only [List.nil_append]; done))⟩
theorem d6 {p : Prop} (h : p := by first | omega | assumption | simp) : p := h
theorem oZ {p : Prop} (h : p := by first | rfl | omega | assumption | (simp; done) | (simp; omega)) : p := h
theorem k6x (l : List Int) (n : Nat) (r : List Int) (rn : Nat) (hn : ka1 l = n) (hr : ka1 r = rn * 2) (h1 : rn ≤ 65535) (h2 : n + 2 + rn * 8 ≤ 900000) (hR : R32 r) : Fun 41 [.c (.ptr 0 0), .agg [.d (D.sl (dI .i64 r) rn)]] (kF [(0, some (55, .cs [.own 1 0 n 1 true])), (1, some (5, .ds (dI .u8 l)))]) 2 (.tup []) (kF [(0, some (55, .cs [.own 2 0 (n + (2 + (rn * 8))) 1 true])), (1, none), (2, some (5, .ds (dI .u8 (l ++ (aP r rn)))))]) 3 := by
  refine Fun.mk (n := 27) Try.func41 rfl rfl (ka4 rfl) ?_
  intro cx hcx
  refine kI [.no] True [(0, rV 0 0), (3, rV 2 0)] [(0, some (55, .cs [.own 1 0 n 1 true])), (1, some (5, .ds (dI .u8 l))), (2, some (44, .ds [dl r rn]))] 3 trivial ?_
  refine kI (kJ 4 [.call [0, 1] (.tup []) [(0, some (55, .cs [.own 2 0 (n + 2) 1 true])), (1, none), (2, some (5, .ds (dI .u8 (l ++ (pbL (rn : Int) 2)))))] 3 [] none]) _ [(0, rV 0 0), (3, rV 2 0)] [(0, some (55, .cs [.own 3 0 (n + 2) 1 true])), (2, some (44, .ds [dl r rn])), (3, some (5, .ds (dI .u8 (l ++ (pbL ↑rn 2)))))] 4 (cH l n (rn : Int) zo zo zo) ?_
  refine kI (kJ 4 []) True [(0, rV 0 0), (12, sV .i64 r rn), (13, uV rn), (14, iV 0)] [(0, some (55, .cs [.own 3 0 (n + 2) 1 true])), (3, some (5, .ds (dI .u8 (l ++ (pbL ↑rn 2)))))] 4 trivial ?_
  refine AW.block ?_
  refine kX 2 hcx (fun (x : {x : Nat × Nat × List Int // match x with | (k, q, o) => (k ≤ rn) ∧ (l ++ (pbL (rn : Int) 2 ++ o7 r k) = o) ∧ (ka1 o = q ∧ q = n + 2 + k * 8)}) => match x with | ⟨(k, q, o), _⟩ => (⟨[(0, rV 0 0), (12, sV .i64 r rn), (13, uV rn), (14, uV k)], [(0, some (55, .cs [.own 4 0 q 1 true])), (4, some (5, .ds (dI .u8 o)))], 5⟩ : ES)) (fun x => match x with | ⟨(k, q, o), _⟩ => rn - k) ⟨((0 : Nat), ((n + 2) : Nat), ((l ++ (pbL (rn : Int) 2)) : List Int)), ⟨d6, (u3l _ _ _), ⟨by rw [ka3, pbL_len, hn], by omega⟩⟩⟩ [(4, 3)] (P := (kP 0) ∧ (kZ (dI .i64 r)) ∧ (kP rn) ∧ (kN (rn : Int)) ∧ (kN 0) ∧ (kP 0) ∧ (kP (n + 2)) ∧ (kZ (dI .u8 (l ++ (pbL (rn : Int) 2))))) zk ⟨rfl, rfl, rfl, rfl, rfl, rfl, rfl, rfl⟩ ?_
  rintro ⟨⟨k, q, o⟩, hinv0⟩
  obtain ⟨hk, ho, hq⟩ : (k ≤ rn) ∧ (l ++ (pbL ((rn : Nat) : Int) 2 ++ o7 r k) = o) ∧ (ka1 o = q ∧ q = n + 2 + k * 8) := hinv0
  refine qU (l := [(0, rV 0 0), (12, sV .i64 r rn), (13, uV rn), (14, uV k)]) (g := [(0, some (55, .cs [.own 4 0 q 1 true])), (4, some (5, .ds (dI .u8 o)))]) (nx := 5) rfl rfl rfl ?_
  by_cases hx1 : (((k : Nat) : Int) < ((rn : Nat) : Int))
  · refine zr [.b true] [0, 12, 13, 14, 15] [0, 4] (((k : Int) < (rn : Int))) [(0, rV 0 0), (12, sV .i64 r rn), (13, uV rn), (14, uV k), (15, bV true)] [(0, some (55, .cs [.own 4 0 q 1 true])), (4, some (5, .ds (dI .u8 o)))] 5 zo ?_
    refine AW.seq ?_
    refine vD ?_
    refine AW.seq ?_
    refine AW.block ?_
    have hx2 : 0 ≤ (ka0 r (k * 2) 0) ∧ (ka0 r (k * 2) 0) ≤ 4294967295 := (R32.at (kQ : R32 r) zo)
    have hx3 : 0 ≤ (ka0 r ((k * 2) + 1) 0) ∧ (ka0 r ((k * 2) + 1) 0) ≤ 4294967295 := (R32.at (kQ : R32 r) zo)
    refine kI [.n k, .ds [iD (ka0 r (k * 2) 0), iD (ka0 r ((k * 2) + 1) 0)], .no, .no] ((kN (k : Int)) ∧ (k < rn) ∧ (List.take 2 (ka7 (k * 2) (dI .i64 r)) = [iD (ka0 r (k * 2) 0), iD (ka0 r ((k * 2) + 1) 0)]) ∧ (([iD (ka0 r (k * 2) 0), iD (ka0 r ((k * 2) + 1) 0)] : List D).length = 2)) [(0, rV 0 0), (5, rV 5 0), (12, sV .i64 r rn), (13, uV rn), (14, uV k)] [(0, some (55, .cs [.own 4 0 q 1 true])), (4, some (5, .ds (dI .u8 o))), (5, some (84, .ds [iD (ka0 r (k * 2) 0), iD (ka0 r ((k * 2) + 1) 0)]))] 6 ⟨rfl, zo, (dG .i64 r (k * 2) 2 aE), rfl⟩ ?_
    refine kI [.no, .no, .no, .call [0, 4] (.tup []) [(0, some (55, .cs [.own 2 0 (q + 4) 1 true])), (1, none), (2, some (5, .ds (dI .u8 (o ++ (pbL (ka0 r (k * 2) 0) 4)))))] 3 [] none] _ [(0, rV 0 0), (5, rV 5 0), (12, sV .i64 r rn), (13, uV rn), (14, uV k)] [(0, some (55, .cs [.own 6 0 (q + 4) 1 true])), (5, some (84, .ds [iD (ka0 r (k * 2) 0), iD (ka0 r ((k * 2) + 1) 0)])), (6, some (5, .ds (dI .u8 (o ++ (pbL (ka0 r (k * 2) 0) 4)))))] 7 (zN o q (ka0 r (k * 2) 0) zo zo qQ) ?_
    refine v7 [.no, .no, .no, .call [0, 6] (.tup []) [(0, some (55, .cs [.own 2 0 ((q + 4) + 4) 1 true])), (1, none), (2, some (5, .ds (dI .u8 ((o ++ (pbL (ka0 r (k * 2) 0) 4)) ++ (pbL (ka0 r ((k * 2) + 1) 0) 4)))))] 3 [] none] _ [(0, rV 0 0), (12, sV .i64 r rn), (13, uV rn), (14, uV k)] [(0, some (55, .cs [.own 7 0 ((q + 4) + 4) 1 true])), (7, some (5, .ds (dI .u8 ((o ++ (pbL (ka0 r (k * 2) 0) 4)) ++ (pbL (ka0 r ((k * 2) + 1) 0) 4)))))] 8 (zN (o ++ (pbL (ka0 r (k * 2) 0) 4)) (q + 4) (ka0 r ((k * 2) + 1) 0) qQ zo qQ) ?_
    refine yD [.w, .no] (qJ ((k : Int) + 1)) [(0, rV 0 0), (12, sV .i64 r rn), (13, uV rn), (14, iV (↑k + 1))] ⟨by omega, by omega⟩ ?_
    exact qE ⟨(((k + 1) : Nat), (((q + 4) + 4) : Nat), (((o ++ (pbL (ka0 r (k * 2) 0) 4)) ++ (pbL (ka0 r ((k * 2) + 1) 0) 4)) : List Int)), ⟨d6, (u3j ho), (by simp only [kU, kT, pbL_len, qD, qB, ka3, pbL_len] <;> omega)⟩⟩ [(4, 7)] (P := (kP 0) ∧ (kZ (dI .i64 r)) ∧ (kP rn) ∧ (kN (rn : Int)) ∧ (q1S k) ∧ (kP 0) ∧ (kP ((q + 4) + 4)) ∧ (kZ (dI .u8 ((o ++ (pbL (ka0 r (k * 2) 0) 4)) ++ (pbL (ka0 r ((k * 2) + 1) 0) 4))))) zk ⟨rfl, rfl, rfl, rfl, oZ, rfl, rfl, rfl⟩ (show rn - (k + 1) < rn - k from (by first | omega | (show _ < _; simp; omega)))
  · refine zr [.b false] [0, 12, 13, 14, 15] [0, 4] (¬ ((k : Int) < (rn : Int))) [(0, rV 0 0), (12, sV .i64 r rn), (13, uV rn), (14, uV k), (15, bV false)] [(0, some (55, .cs [.own 4 0 q 1 true])), (4, some (5, .ds (dI .u8 o)))] 5 zo ?_
    refine AW.seq ?_
    refine zf ?_
    refine AW.exit ?_
    have hz1 : l ++ aP r rn = o := u3k ho (by omega)
    exact kC (.inl rfl) [(2, 4)] (P := (kP 0) ∧ (((n + (2 + (rn * 8))) : Nat) = q) ∧ (((dI .u8 (l ++ (aP r rn))) : List D) = (dI .u8 o))) zk ⟨rfl, (by first | omega | rfl | exact hz1.symm | exact hz1 | (rw [hz1]; done) | (rw [kb8, hz1]; done)), (by first | omega | rfl | exact hz1.symm | exact hz1 | (rw [hz1]; done) | (rw [kb8, hz1]; done))⟩
abbrev pL (m : List (List Int)) (k : Nat) := pbL (((ka1 (ka0 m k ([] : List Int))) : Nat) : Int) 2
theorem k9f (l : List Int) (n : Nat) (m : List (List Int)) (c : Nat) (hn : ka1 l = n) (hc : ka1 m = c) (h1 : c ≤ 65535) (h2 : n + ka1 (bB m) ≤ 900000) (hW : MsW m) (hM : RmW m) : Fun 42 [.c (.ptr 0 0), .c (.d (D.sl (kY m) c))] (kF [(0, some (55, .cs [.own 1 0 n 1 true])), (1, some (5, .ds (dI .u8 l)))]) 2 (.tup []) (kF [(0, some (55, .cs [.own 2 0 (n + (ka1 (bB m))) 1 true])), (1, none), (2, some (5, .ds (dI .u8 (l ++ (bB m)))))]) 3 := by
  refine Fun.mk (n := 33) Try.func42 rfl rfl (ka4 rfl) ?_
  intro cx hcx
  refine kI [.no, .no, .no, .call [0, 1] (.tup []) [(0, some (55, .cs [.own 2 0 (n + 2) 1 true])), (1, none), (2, some (5, .ds (dI .u8 (l ++ (pbL (c : Int) 2)))))] 3 [] none] _ [(0, rV 0 0), (1, qP (kY m) c)] [(0, some (55, .cs [.own 2 0 (n + 2) 1 true])), (2, some (5, .ds (dI .u8 (l ++ (pbL ↑c 2)))))] 3 (cH l n (c : Int) zo zo zo) ?_
  refine k8 [.no, .no, .no] True [(0, rV 0 0), (12, qP (kY m) c), (13, uV c), (14, iV 0)] trivial ?_
  refine AW.block ?_
  refine kX 2 hcx (fun (x : {x : Nat × Nat × List Int // match x with | (k, q, o) => (k ≤ c) ∧ (l ++ (pbL (c : Int) 2 ++ bQ m k) = o) ∧ (ka1 o = q ∧ q = n + 2 + ka1 (bQ m k))}) => match x with | ⟨(k, q, o), _⟩ => (⟨[(0, rV 0 0), (12, qP (kY m) c), (13, uV c), (14, uV k)], [(0, some (55, .cs [.own 3 0 q 1 true])), (3, some (5, .ds (dI .u8 o)))], 4⟩ : ES)) (fun x => match x with | ⟨(k, q, o), _⟩ => c - k) ⟨((0 : Nat), ((n + 2) : Nat), ((l ++ (pbL (c : Int) 2)) : List Int)), ⟨d6, (by subst hc; exact u3s _ _), ⟨by rw [ka3, pbL_len, hn], rfl⟩⟩⟩ [(3, 2)] (P := (kP 0) ∧ (kZ (kY m)) ∧ (kP c) ∧ (kN (c : Int)) ∧ (kN 0) ∧ (kP 0) ∧ (kP (n + 2)) ∧ (kZ (dI .u8 (l ++ (pbL (c : Int) 2))))) zk ⟨rfl, rfl, rfl, rfl, rfl, rfl, rfl, rfl⟩ ?_
  rintro ⟨⟨k, q, o⟩, hinv0⟩
  obtain ⟨hk, ho, hq⟩ : (k ≤ c) ∧ (l ++ (pbL ((c : Nat) : Int) 2 ++ bQ m k) = o) ∧ (ka1 o = q ∧ q = n + 2 + ka1 (bQ m k)) := hinv0
  refine qU (l := [(0, rV 0 0), (12, qP (kY m) c), (13, uV c), (14, uV k)]) (g := [(0, some (55, .cs [.own 3 0 q 1 true])), (3, some (5, .ds (dI .u8 o)))]) (nx := 4) rfl rfl rfl ?_
  by_cases hx1 : (((k : Nat) : Int) < ((c : Nat) : Int))
  · refine zr [.b true] [0, 12, 13, 14, 15] [0, 3] (((k : Int) < (c : Int))) [(0, rV 0 0), (12, qP (kY m) c), (13, uV c), (14, uV k), (15, bV true)] [(0, some (55, .cs [.own 3 0 q 1 true])), (3, some (5, .ds (dI .u8 o)))] 4 zo ?_
    refine AW.seq ?_
    refine vD ?_
    refine AW.seq ?_
    refine AW.block ?_
    have hx2 : R16 (ka0 m k []) := (RmW.at hM k).1
    have hx3 : ka1 (ka0 m k []) ≤ 65535 := (RmW.at hM k).2
    have hx4 : ka1 (bQ m k) + (2 + ka1 (ka0 m k []) * 2) + 2 ≤ ka1 (bB m) := u3r hc zo
    have hx5 : ((ka1 (ka0 m k ([] : List Int))) ≤ 1000000) := MsW.at (kQ : MsW m) _
    refine kI [.n k, .d (dl (ka0 m k ([] : List Int)) (ka1 (ka0 m k ([] : List Int)))), .no] ((kN (k : Int)) ∧ (k < c) ∧ ((ka7 k (kY m))[0]? = some (dl (ka0 m k ([] : List Int)) (ka1 (ka0 m k ([] : List Int)))))) [(0, rV 0 0), (5, sV .i64 (ka0 m k ([] : List Int)) (ka1 (ka0 m k ([] : List Int)))), (12, qP (kY m) c), (13, uV c), (14, uV k)] [(0, some (55, .cs [.own 3 0 q 1 true])), (3, some (5, .ds (dI .u8 o)))] 4 ⟨rfl, zo, (cE _ _ (by first | omega | (simp only [kU, kT, pbL_len, qD, qB, ka3, kb1, kb5, kb3, kb2] <;> omega)))⟩ ?_
    refine kI [.no, .no, .no, .call [0, 3] (.tup []) [(0, some (55, .cs [.own 2 0 (q + 2) 1 true])), (1, none), (2, some (5, .ds (dI .u8 (o ++ (pL m k)))))] 3 [] none] _ [(0, rV 0 0), (5, sV .i64 (ka0 m k ([] : List Int)) (ka1 (ka0 m k ([] : List Int)))), (12, qP (kY m) c), (13, uV c), (14, uV k)] [(0, some (55, .cs [.own 4 0 (q + 2) 1 true])), (4, some (5, .ds (dI .u8 (o ++ (pL m k)))))] 5 (cH o q (((ka1 (ka0 m k ([] : List Int))) : Nat) : Int) zo zo qQ) ?_
    refine k8 [.no, .no, .no] True [(0, rV 0 0), (12, qP (kY m) c), (13, uV c), (14, uV k), (22, sV .i64 (ka0 m k ([] : List Int)) (ka1 (ka0 m k ([] : List Int)))), (23, uV (ka1 (ka0 m k ([] : List Int)))), (24, iV 0)] trivial ?_
    refine AW.block ?_
    refine kX 2 hcx (fun (x : {x : Nat × Nat × List Int // match x with | (j, p, b) => (j ≤ ka1 (ka0 m k [])) ∧ (o ++ (pbL ((ka1 (ka0 m k []) : Nat) : Int) 2 ++ pC (ka0 m k []) j) = b) ∧ (ka1 b = p ∧ p = q + 2 + j * 2)}) => match x with | ⟨(j, p, b), _⟩ => (⟨[(0, rV 0 0), (12, qP (kY m) c), (13, uV c), (14, uV k), (22, sV .i64 (ka0 m k ([] : List Int)) (ka1 (ka0 m k ([] : List Int)))), (23, uV (ka1 (ka0 m k ([] : List Int)))), (24, uV j)], [(0, some (55, .cs [.own 5 0 p 1 true])), (5, some (5, .ds (dI .u8 b)))], 6⟩ : ES)) (fun x => match x with | ⟨(j, p, b), _⟩ => ka1 (ka0 m k []) - j) ⟨((0 : Nat), ((q + 2) : Nat), ((o ++ (pL m k)) : List Int)), ⟨d6, (u3o _ _), ⟨by rw [ka3, pbL_len]; omega, by omega⟩⟩⟩ [(5, 4)] (P := (kP 0) ∧ (kZ (kY m)) ∧ (kP c) ∧ (kN (c : Int)) ∧ (kN (k : Int)) ∧ (kZ (dI .i64 (ka0 m k ([] : List Int)))) ∧ (kP (ka1 (ka0 m k ([] : List Int)))) ∧ (kN (((ka1 (ka0 m k ([] : List Int))) : Nat) : Int)) ∧ (kN 0) ∧ (kP 0) ∧ (kP (q + 2)) ∧ (kZ (dI .u8 (o ++ (pL m k))))) zk ⟨rfl, rfl, rfl, rfl, rfl, rfl, rfl, rfl, rfl, rfl, rfl, rfl⟩ ?_
    rintro ⟨⟨j, p, b⟩, hinv1⟩
    obtain ⟨hj, hb, hp⟩ : (j ≤ ka1 (ka0 m k [])) ∧ (o ++ (pbL ((ka1 (ka0 m k []) : Nat) : Int) 2 ++ pC (ka0 m k []) j) = b) ∧ (ka1 b = p ∧ p = q + 2 + j * 2) := hinv1
    refine qU (l := [(0, rV 0 0), (12, qP (kY m) c), (13, uV c), (14, uV k), (22, sV .i64 (ka0 m k ([] : List Int)) (ka1 (ka0 m k ([] : List Int)))), (23, uV (ka1 (ka0 m k ([] : List Int)))), (24, uV j)]) (g := [(0, some (55, .cs [.own 5 0 p 1 true])), (5, some (5, .ds (dI .u8 b)))]) (nx := 6) rfl rfl rfl ?_
    by_cases hx6 : (((j : Nat) : Int) < (((ka1 (ka0 m k ([] : List Int))) : Nat) : Int))
    · refine zr [.b true] [0, 12, 13, 14, 22, 23, 24, 25] [0, 5] (((j : Int) < (((ka1 (ka0 m k ([] : List Int))) : Nat) : Int))) [(0, rV 0 0), (12, qP (kY m) c), (13, uV c), (14, uV k), (22, sV .i64 (ka0 m k ([] : List Int)) (ka1 (ka0 m k ([] : List Int)))), (23, uV (ka1 (ka0 m k ([] : List Int)))), (24, uV j), (25, bV true)] [(0, some (55, .cs [.own 5 0 p 1 true])), (5, some (5, .ds (dI .u8 b)))] 6 zo ?_
      refine AW.seq ?_
      refine vD ?_
      refine AW.seq ?_
      refine AW.block ?_
      have hx7 : 0 ≤ (ka0 (ka0 m k ([] : List Int)) j 0) ∧ (ka0 (ka0 m k ([] : List Int)) j 0) ≤ 65535 := (R16.at (kQ : R16 (ka0 m k ([] : List Int))) zo)
      refine kI [.n j, .d (D.lit (.int .i64 (ka0 (ka0 m k ([] : List Int)) j 0))), .no] ((kN (j : Int)) ∧ (j < (ka1 (ka0 m k ([] : List Int)))) ∧ ((ka7 j (dI .i64 (ka0 m k ([] : List Int))))[0]? = some (D.lit (.int .i64 (ka0 (ka0 m k ([] : List Int)) j 0))))) [(0, rV 0 0), (7, iV (ka0 (ka0 m k ([] : List Int)) j 0)), (12, qP (kY m) c), (13, uV c), (14, uV k), (22, sV .i64 (ka0 m k ([] : List Int)) (ka1 (ka0 m k ([] : List Int)))), (23, uV (ka1 (ka0 m k ([] : List Int)))), (24, uV j)] [(0, some (55, .cs [.own 5 0 p 1 true])), (5, some (5, .ds (dI .u8 b)))] 6 ⟨rfl, zo, (qW _ _ _ aE)⟩ ?_
      refine v7 [.no, .no, .call [0, 5] (.tup []) [(0, some (55, .cs [.own 2 0 (p + 2) 1 true])), (1, none), (2, some (5, .ds (dI .u8 (b ++ (pbL (ka0 (ka0 m k ([] : List Int)) j 0) 2)))))] 3 [] none] _ [(0, rV 0 0), (12, qP (kY m) c), (13, uV c), (14, uV k), (22, sV .i64 (ka0 m k ([] : List Int)) (ka1 (ka0 m k ([] : List Int)))), (23, uV (ka1 (ka0 m k ([] : List Int)))), (24, uV j)] [(0, some (55, .cs [.own 6 0 (p + 2) 1 true])), (6, some (5, .ds (dI .u8 (b ++ (pbL (ka0 (ka0 m k ([] : List Int)) j 0) 2)))))] 7 (cH b p (ka0 (ka0 m k ([] : List Int)) j 0) zo zo qQ) ?_
      refine yD [.w, .no] (qJ ((j : Int) + 1)) [(0, rV 0 0), (12, qP (kY m) c), (13, uV c), (14, uV k), (22, sV .i64 (ka0 m k ([] : List Int)) (ka1 (ka0 m k ([] : List Int)))), (23, uV (ka1 (ka0 m k ([] : List Int)))), (24, iV (↑j + 1))] ⟨by omega, by omega⟩ ?_
      exact qE ⟨(((j + 1) : Nat), ((p + 2) : Nat), ((b ++ (pbL (ka0 (ka0 m k ([] : List Int)) j 0) 2)) : List Int)), ⟨d6, (u3m hb), (by simp only [kU, kT, pbL_len, qD, qB, ka3, pbL_len] <;> omega)⟩⟩ [(5, 6)] (P := (kP 0) ∧ (kZ (kY m)) ∧ (kP c) ∧ (kN (c : Int)) ∧ (kN (k : Int)) ∧ (kZ (dI .i64 (ka0 m k ([] : List Int)))) ∧ (kP (ka1 (ka0 m k ([] : List Int)))) ∧ (kN (((ka1 (ka0 m k ([] : List Int))) : Nat) : Int)) ∧ (q1S j) ∧ (kP 0) ∧ (kP (p + 2)) ∧ (kZ (dI .u8 (b ++ (pbL (ka0 (ka0 m k ([] : List Int)) j 0) 2))))) zk ⟨rfl, rfl, rfl, rfl, rfl, rfl, rfl, rfl, oZ, rfl, rfl, rfl⟩ (show ka1 (ka0 m k []) - (j + 1) < ka1 (ka0 m k []) - j from (by first | omega | (show _ < _; simp; omega)))
    · refine zr [.b false] [0, 12, 13, 14, 22, 23, 24, 25] [0, 5] (¬ ((j : Int) < (((ka1 (ka0 m k ([] : List Int))) : Nat) : Int))) [(0, rV 0 0), (12, qP (kY m) c), (13, uV c), (14, uV k), (22, sV .i64 (ka0 m k ([] : List Int)) (ka1 (ka0 m k ([] : List Int)))), (23, uV (ka1 (ka0 m k ([] : List Int)))), (24, uV j), (25, bV false)] [(0, some (55, .cs [.own 5 0 p 1 true])), (5, some (5, .ds (dI .u8 b)))] 6 zo ?_
      refine AW.seq ?_
      refine zf ?_
      refine AW.exit ?_
      have hz1 : o ++ wpL (ka0 m k []) = b := u3n hb (by omega)
      have hz2 : ka1 (bQ m (k + 1)) = ka1 (bQ m k) + (2 + ka1 (ka0 m k []) * 2) := u14 _ _
      refine v7 [.w, .no] (qJ ((k : Int) + 1)) [(0, rV 0 0), (12, qP (kY m) c), (13, uV c), (14, iV (↑k + 1))] [(0, some (55, .cs [.own 5 0 p 1 true])), (5, some (5, .ds (dI .u8 b)))] 6 ⟨by omega, by omega⟩ ?_
      exact qE ⟨(((k + 1) : Nat), (p : Nat), (b : List Int)), ⟨d6, (u3p hc ho hz1), (by first | assumption | exact ⟨by omega, wm_q hz1 zo zo⟩ | omega)⟩⟩ [(3, 5)] (P := (kP 0) ∧ (kZ (kY m)) ∧ (kP c) ∧ (kN (c : Int)) ∧ (q1S k) ∧ (kP 0) ∧ (kP p) ∧ (kZ (dI .u8 b))) zk ⟨rfl, rfl, rfl, rfl, oZ, rfl, rfl, rfl⟩ (show c - (k + 1) < c - k from (by first | omega | (show _ < _; simp; omega)))
  · refine zr [.b false] [0, 12, 13, 14, 15] [0, 3] (¬ ((k : Int) < (c : Int))) [(0, rV 0 0), (12, qP (kY m) c), (13, uV c), (14, uV k), (15, bV false)] [(0, some (55, .cs [.own 3 0 q 1 true])), (3, some (5, .ds (dI .u8 o)))] 4 zo ?_
    refine AW.seq ?_
    refine zf ?_
    refine AW.exit ?_
    have hz1 : l ++ bB m = o := u72 hc ho (by omega); have hz2 : n + ka1 (bB m) = q := u15 hz1 hn hq.1
    exact kC (.inl rfl) [(2, 3)] (P := (kP 0) ∧ (((n + (ka1 (bB m))) : Nat) = q) ∧ (((dI .u8 (l ++ (bB m))) : List D) = (dI .u8 o))) zk ⟨rfl, (by first | exact hz2 | omega | rfl), (by first | omega | rfl | exact hz1.symm | exact hz1 | (rw [hz1]; done) | (rw [kb8, hz1]; done))⟩
abbrev pK (bs : List Bx) (k : Nat) : BC := .ds [iD (vK bs k), D.sl (dI .i64 (vH bs k)) (uM bs k), D.sl (kY (kW bs k)) (ka1 (kW bs k)), D.sl (dI .i64 (aG bs k)) (yW bs k)]
theorem k6y (l : List Int) (n : Nat) (bs : List Bx) (c : Nat) (hn : ka1 l = n) (hc : ka1 bs = c) (h1 : c ≤ 65535) (h2 : n + ka1 (vV bs) ≤ 900000) (hW : BsW bs) (hM : RbW bs) : Fun 21 [.c (.ptr 0 0), .c (.d (D.sl (kR bs) c))] (kF [(0, some (55, .cs [.own 1 0 n 1 true])), (1, some (5, .ds (dI .u8 l)))]) 2 (.tup []) (kF [(0, some (55, .cs [.own 2 0 (n + (ka1 (vV bs))) 1 true])), (1, none), (2, some (5, .ds (dI .u8 (l ++ (vV bs)))))]) 3 := by
  refine Fun.mk (n := 33) Try.func21 rfl rfl (ka4 rfl) ?_
  intro cx hcx
  refine kI [.no, .no, .no, .call [0, 1] (.tup []) [(0, some (55, .cs [.own 2 0 (n + 2) 1 true])), (1, none), (2, some (5, .ds (dI .u8 (l ++ (pbL (c : Int) 2)))))] 3 [] none] _ [(0, rV 0 0), (1, .e (uX bs c))] [(0, some (55, .cs [.own 2 0 (n + 2) 1 true])), (2, some (5, .ds (dI .u8 (l ++ (pbL ↑c 2)))))] 3 (cH l n (c : Int) zo zo zo) ?_
  refine k8 [.no, .no, .no] True [(0, rV 0 0), (10, .e (uX bs c)), (11, uV c), (12, iV 0)] trivial ?_
  refine AW.block ?_
  refine kX 2 hcx (fun (x : {x : Nat × Nat × List Int // match x with | (k, q, o) => (k ≤ c) ∧ (l ++ (pbL (c : Int) 2 ++ aV bs k) = o) ∧ (ka1 o = q ∧ q = n + 2 + ka1 (aV bs k))}) => match x with | ⟨(k, q, o), _⟩ => (⟨[(0, rV 0 0), (10, .e (uX bs c)), (11, uV c), (12, uV k)], [(0, some (55, .cs [.own 3 0 q 1 true])), (3, some (5, .ds (dI .u8 o)))], 4⟩ : ES)) (fun x => match x with | ⟨(k, q, o), _⟩ => c - k) ⟨((0 : Nat), ((n + 2) : Nat), ((l ++ (pbL (c : Int) 2)) : List Int)), ⟨d6, (by subst hc; exact u3z _ _), ⟨by rw [ka3, pbL_len, hn], rfl⟩⟩⟩ [(3, 2)] (P := (kP 0) ∧ (kZ (kR bs)) ∧ (kP c) ∧ (kN (c : Int)) ∧ (kN 0) ∧ (kP 0) ∧ (kP (n + 2)) ∧ (kZ (dI .u8 (l ++ (pbL (c : Int) 2))))) zk ⟨rfl, rfl, rfl, rfl, rfl, rfl, rfl, rfl⟩ ?_
  rintro ⟨⟨k, q, o⟩, hinv0⟩
  obtain ⟨hk, ho, hq⟩ : (k ≤ c) ∧ (l ++ (pbL ((c : Nat) : Int) 2 ++ aV bs k) = o) ∧ (ka1 o = q ∧ q = n + 2 + ka1 (aV bs k)) := hinv0
  refine qU (l := [(0, rV 0 0), (10, .e (uX bs c)), (11, uV c), (12, uV k)]) (g := [(0, some (55, .cs [.own 3 0 q 1 true])), (3, some (5, .ds (dI .u8 o)))]) (nx := 4) rfl rfl rfl ?_
  by_cases hx1 : (((k : Nat) : Int) < ((c : Nat) : Int))
  · refine zr [.b true] [0, 10, 11, 12, 13] [0, 3] (((k : Int) < (c : Int))) [(0, rV 0 0), (10, .e (uX bs c)), (11, uV c), (12, uV k), (13, bV true)] [(0, some (55, .cs [.own 3 0 q 1 true])), (3, some (5, .ds (dI .u8 o)))] 4 zo ?_
    refine AW.seq ?_
    refine vD ?_
    refine AW.seq ?_
    refine AW.block ?_
    obtain ⟨hx2, hx3, hx4, hx5, hx6, hx7, hx8⟩ := RbW.at hM k
    have hx9 : ka1 (aV bs k) + (2 + (2 + uM bs k * 8) + ka1 (bB (kW bs k)) + (2 + yW bs k * 8)) + 2 ≤ ka1 (vV bs) := u3y hc zo
    have hx10 : ka1 (aV bs (k + 1)) = ka1 (aV bs k) + (2 + (2 + uM bs k * 8) + ka1 (bB (kW bs k)) + (2 + yW bs k * 8)) := u3w _ _
    obtain ⟨hx11, hx12, hx13, hx14, hx15⟩ := BsW.at (kQ : BsW bs) (k)
    refine kI [.n k, .ds (lV bs k), .no, .no] ((kN (k : Int)) ∧ (k < c) ∧ (List.take 4 (ka7 (k * 4) (kR bs)) = (lV bs k)) ∧ (((lV bs k) : List D).length = 4)) [(0, rV 0 0), (5, rV 4 0), (10, .e (uX bs c)), (11, uV c), (12, uV k)] [(0, some (55, .cs [.own 3 0 q 1 true])), (3, some (5, .ds (dI .u8 o))), (4, some (47, (pK bs k)))] 5 ⟨rfl, zo, (mL (by first | omega | (simp only [kU, kT, pbL_len, qD, qB, ka3, kb1, kb5, kb3, kb2] <;> omega))), rfl⟩ ?_
    refine kI [.no, .no, .no, .call [0, 3] (.tup []) [(0, some (55, .cs [.own 2 0 (q + 2) 1 true])), (1, none), (2, some (5, .ds (dI .u8 (o ++ (pbL (vK bs k) 2)))))] 3 [] none] _ [(0, rV 0 0), (5, rV 4 0), (10, .e (uX bs c)), (11, uV c), (12, uV k)] [(0, some (55, .cs [.own 5 0 (q + 2) 1 true])), (4, some (47, (pK bs k))), (5, some (5, .ds (dI .u8 (o ++ (pbL (vK bs k) 2)))))] 6 (cH o q (vK bs k) zo zo qQ) ?_
    refine kI [.no, .no, .no, .call [0, 5] (.tup []) [(0, some (55, .cs [.own 2 0 ((q + 2) + (2 + ((uM bs k) * 8))) 1 true])), (1, none), (2, some (5, .ds (dI .u8 ((o ++ (pbL (vK bs k) 2)) ++ (aP (vH bs k) (uM bs k))))))] 3 [] none] _ [(0, rV 0 0), (5, rV 4 0), (10, .e (uX bs c)), (11, uV c), (12, uV k)] [(0, some (55, .cs [.own 6 0 ((q + 2) + (2 + ((uM bs k) * 8))) 1 true])), (4, some (47, (pK bs k))), (6, some (5, .ds (dI .u8 ((o ++ (pbL (vK bs k) 2)) ++ (aP (vH bs k) (uM bs k))))))] 7 (k6x (o ++ (pbL (vK bs k) 2)) (q + 2) (vH bs k) (uM bs k) qQ qQ qQ qQ qQ) ?_
    refine kI [.no, .no, .no, .call [0, 6] (.tup []) [(0, some (55, .cs [.own 2 0 (((q + 2) + (2 + ((uM bs k) * 8))) + (ka1 (bB (kW bs k)))) 1 true])), (1, none), (2, some (5, .ds (dI .u8 (((o ++ (pbL (vK bs k) 2)) ++ (aP (vH bs k) (uM bs k))) ++ (bB (kW bs k))))))] 3 [] none] _ [(0, rV 0 0), (5, rV 4 0), (10, .e (uX bs c)), (11, uV c), (12, uV k)] [(0, some (55, .cs [.own 7 0 (((q + 2) + (2 + ((uM bs k) * 8))) + (ka1 (bB (kW bs k)))) 1 true])), (4, some (47, (pK bs k))), (7, some (5, .ds (dI .u8 (((o ++ (pbL (vK bs k) 2)) ++ (aP (vH bs k) (uM bs k))) ++ (bB (kW bs k))))))] 8 (k9f ((o ++ (pbL (vK bs k) 2)) ++ (aP (vH bs k) (uM bs k))) ((q + 2) + (2 + ((uM bs k) * 8))) (kW bs k) (ka1 (kW bs k)) qQ rfl qQ qQ (i4 (kQ : BsW bs) _) qQ) ?_
    refine v7 [.no, .no, .no, .call [0, 7] (.tup []) [(0, some (55, .cs [.own 2 0 ((((q + 2) + (2 + ((uM bs k) * 8))) + (ka1 (bB (kW bs k)))) + (2 + ((yW bs k) * 8))) 1 true])), (1, none), (2, some (5, .ds (dI .u8 ((((o ++ (pbL (vK bs k) 2)) ++ (aP (vH bs k) (uM bs k))) ++ (bB (kW bs k))) ++ (aP (aG bs k) (yW bs k))))))] 3 [] none] _ [(0, rV 0 0), (10, .e (uX bs c)), (11, uV c), (12, uV k)] [(0, some (55, .cs [.own 8 0 ((((q + 2) + (2 + ((uM bs k) * 8))) + (ka1 (bB (kW bs k)))) + (2 + ((yW bs k) * 8))) 1 true])), (8, some (5, .ds (dI .u8 ((((o ++ (pbL (vK bs k) 2)) ++ (aP (vH bs k) (uM bs k))) ++ (bB (kW bs k))) ++ (aP (aG bs k) (yW bs k))))))] 9 (k6x (((o ++ (pbL (vK bs k) 2)) ++ (aP (vH bs k) (uM bs k))) ++ (bB (kW bs k))) (((q + 2) + (2 + ((uM bs k) * 8))) + (ka1 (bB (kW bs k)))) (aG bs k) (yW bs k) qQ qQ qQ qQ qQ) ?_
    refine yD [.w, .no] (qJ ((k : Int) + 1)) [(0, rV 0 0), (10, .e (uX bs c)), (11, uV c), (12, iV (↑k + 1))] ⟨by omega, by omega⟩ ?_
    exact qE ⟨(((k + 1) : Nat), (((((q + 2) + (2 + ((uM bs k) * 8))) + (ka1 (bB (kW bs k)))) + (2 + ((yW bs k) * 8))) : Nat), (((((o ++ (pbL (vK bs k) 2)) ++ (aP (vH bs k) (uM bs k))) ++ (bB (kW bs k))) ++ (aP (aG bs k) (yW bs k))) : List Int)), ⟨d6, (u3v hc ho), ⟨by simp only [kU, kT, pbL_len, qD, qB, ka3, pbL_len, qB] <;> omega, by omega⟩⟩⟩ [(3, 8)] (P := (kP 0) ∧ (kZ (kR bs)) ∧ (kP c) ∧ (kN (c : Int)) ∧ (q1S k) ∧ (kP 0) ∧ (kP ((((q + 2) + (2 + ((uM bs k) * 8))) + (ka1 (bB (kW bs k)))) + (2 + ((yW bs k) * 8)))) ∧ (kZ (dI .u8 ((((o ++ (pbL (vK bs k) 2)) ++ (aP (vH bs k) (uM bs k))) ++ (bB (kW bs k))) ++ (aP (aG bs k) (yW bs k)))))) zk ⟨rfl, rfl, rfl, rfl, oZ, rfl, rfl, rfl⟩ (show c - (k + 1) < c - k from (by first | omega | (show _ < _; simp; omega)))
  · refine zr [.b false] [0, 10, 11, 12, 13] [0, 3] (¬ ((k : Int) < (c : Int))) [(0, rV 0 0), (10, .e (uX bs c)), (11, uV c), (12, uV k), (13, bV false)] [(0, some (55, .cs [.own 3 0 q 1 true])), (3, some (5, .ds (dI .u8 o)))] 4 zo ?_
    refine AW.seq ?_
    refine zf ?_
    refine AW.exit ?_
    have hz1 : l ++ vV bs = o := u3x hc ho (by omega); have hz2 : n + ka1 (vV bs) = q := u15 hz1 hn hq.1
    exact kC (.inl rfl) [(2, 3)] (P := (kP 0) ∧ (((n + (ka1 (vV bs))) : Nat) = q) ∧ (((dI .u8 (l ++ (vV bs))) : List D) = (dI .u8 o))) zk ⟨rfl, (by first | exact hz2 | omega | rfl), (by first | omega | rfl | exact hz1.symm | exact hz1 | (rw [hz1]; done) | (rw [kb8, hz1]; done))⟩
theorem wS (id : Int) (nm : List Int) (d1 d2 d3 d4 d5 : Int) (bs : List Bx) (n : Nat) (hy : Byt nm) (hl : ka1 nm ≤ 64) (hn : ka1 bs = n) (h1 : n ≤ 8) (hW : BsW bs) (hM : RbW bs) (h2 : ka1 (vV bs) ≤ 800000) (hi : 0 ≤ id ∧ id ≤ 18446744073709551615) (hd : 0 ≤ d1 ∧ d1 ≤ 65535 ∧ 0 ≤ d2 ∧ d2 ≤ 65535 ∧ 0 ≤ d3 ∧ d3 ≤ 4294967295 ∧ 0 ≤ d4 ∧ d4 ≤ 65535 ∧ 0 ≤ d5 ∧ d5 ≤ 65535) (hV : yK nm d1 d2 d3 d4 d5 bs = true) : Fun 8 [.agg [.d (D.lit (.int .u64 id)), .d (D.lit (.string (strOfNums nm))), iC d1, iC d2, iC d3, iC d4, iC d5, .d (D.sl (kR bs) n)]] (kF []) 0 (.tup [.c (.d (D.sl (dI .u8 ((jK id nm d1 d2 d3 d4 d5 bs) ++ (pbL (aR (jK id nm d1 d2 d3 d4 d5 bs)) 4))) (((ka1 (vV bs)) + (ka1 nm)) + 29))), iE 0]) (kF []) 0 := by
  refine Fun.mk (n := 53) Try.func8 rfl rfl (ka4 rfl) ?_
  intro cx hcx
  refine kI [.no, .no, .no] True [(1, rV 0 0)] [(0, some (25, .ds [D.lit (.int .u64 id), D.lit (.string (strOfNums nm)), iD d1, iD d2, iD d3, iD d4, iD d5, D.sl (kR bs) n]))] 1 trivial ?_
  refine AW.seq ?_
  refine k8 [.no, .call [] (bV true) [] 0 [] none, .no] (Fun 10 [.agg [.d (D.lit (.int .u64 id)), .d (D.lit (.string (strOfNums nm))), iC d1, iC d2, iC d3, iC d4, iC d5, .d (D.sl (kR bs) n)]] (kF []) 0 (bV true) (kF []) 0) [(1, rV 0 0), (7, bV false)] (by have h0 := (fF id nm d1 d2 d3 d4 d5 bs n (kQ : Byt nm) zo zo zo (kQ : BsW bs)); rw [hV] at h0; exact h0) ?_
  refine yC ?_
  refine kI (kJ 4 [.call [] (oV 0 0 12 1) [(0, some (5, .ds (dI .u8 (([83, 78, 68, 49] : List Int) ++ (pbL id 8)))))] 1 [none] none, .no, .no, .no]) ((1 ≤ 4) ∧ ([D.lit (.int .u8 83), D.lit (.int .u8 78), D.lit (.int .u8 68), D.lit (.int .u8 49)].length = 4 * 1) ∧ (l4 (oV 0 0 12 1) = true) ∧ ((dI .u8 (([83, 78, 68, 49] : List Int) ++ (pbL id 8))).all k0c = true) ∧ (_)) [(1, rV 0 0), (4, rV 3 0)] [(0, some (25, .ds [D.lit (.int .u64 id), D.lit (.string (strOfNums nm)), iD d1, iD d2, iD d3, iD d4, iD d5, D.sl (kR bs) n])), (2, some (5, .ds (dI .u8 (([83, 78, 68, 49] : List Int) ++ (pbL id 8))))), (3, some (55, .cs [.own 2 0 12 1 true]))] 4 ⟨zo, aE, rfl, (by first | exact u0j _ _ | rfl), (W_Put64 ([83, 78, 68, 49] : List Int) 4 id qQ zo zo)⟩ ?_
  refine kI [.no, .no, .no, .call [3, 2] (.tup []) [(0, some (55, .cs [.own 2 0 (12 + (1 + (ka1 nm))) 1 true])), (1, none), (2, some (5, .ds (dI .u8 ((([83, 78, 68, 49] : List Int) ++ (pbL id 8)) ++ (u7 nm)))))] 3 [] none] _ [(1, rV 0 0), (4, rV 3 0)] [(0, some (25, .ds [D.lit (.int .u64 id), D.lit (.string (strOfNums nm)), iD d1, iD d2, iD d3, iD d4, iD d5, D.sl (kR bs) n])), (3, some (55, .cs [.own 4 0 (12 + (1 + (ka1 nm))) 1 true])), (4, some (5, .ds (dI .u8 ((([83, 78, 68, 49] : List Int) ++ (pbL id 8)) ++ (u7 nm)))))] 5 (u6v (([83, 78, 68, 49] : List Int) ++ (pbL id 8)) nm 12 qQ zo (kQ : Byt nm) zo) ?_
  refine kI [.no, .no, .no, .call [3, 4] (.tup []) [(0, some (55, .cs [.own 2 0 ((12 + (1 + (ka1 nm))) + 2) 1 true])), (1, none), (2, some (5, .ds (dI .u8 (((([83, 78, 68, 49] : List Int) ++ (pbL id 8)) ++ (u7 nm)) ++ (pbL d1 2)))))] 3 [] none] _ [(1, rV 0 0), (4, rV 3 0)] [(0, some (25, .ds [D.lit (.int .u64 id), D.lit (.string (strOfNums nm)), iD d1, iD d2, iD d3, iD d4, iD d5, D.sl (kR bs) n])), (3, some (55, .cs [.own 5 0 ((12 + (1 + (ka1 nm))) + 2) 1 true])), (5, some (5, .ds (dI .u8 (((([83, 78, 68, 49] : List Int) ++ (pbL id 8)) ++ (u7 nm)) ++ (pbL d1 2)))))] 6 (cH ((([83, 78, 68, 49] : List Int) ++ (pbL id 8)) ++ (u7 nm)) (12 + (1 + (ka1 nm))) d1 qQ zo zo) ?_
  refine kI [.no, .no, .no, .call [3, 5] (.tup []) [(0, some (55, .cs [.own 2 0 (((12 + (1 + (ka1 nm))) + 2) + 2) 1 true])), (1, none), (2, some (5, .ds (dI .u8 ((((([83, 78, 68, 49] : List Int) ++ (pbL id 8)) ++ (u7 nm)) ++ (pbL d1 2)) ++ (pbL d2 2)))))] 3 [] none] _ [(1, rV 0 0), (4, rV 3 0)] [(0, some (25, .ds [D.lit (.int .u64 id), D.lit (.string (strOfNums nm)), iD d1, iD d2, iD d3, iD d4, iD d5, D.sl (kR bs) n])), (3, some (55, .cs [.own 6 0 (((12 + (1 + (ka1 nm))) + 2) + 2) 1 true])), (6, some (5, .ds (dI .u8 ((((([83, 78, 68, 49] : List Int) ++ (pbL id 8)) ++ (u7 nm)) ++ (pbL d1 2)) ++ (pbL d2 2)))))] 7 (cH (((([83, 78, 68, 49] : List Int) ++ (pbL id 8)) ++ (u7 nm)) ++ (pbL d1 2)) ((12 + (1 + (ka1 nm))) + 2) d2 qQ zo zo) ?_
  refine kI [.no, .no, .no, .call [3, 6] (.tup []) [(0, some (55, .cs [.own 2 0 ((((12 + (1 + (ka1 nm))) + 2) + 2) + 4) 1 true])), (1, none), (2, some (5, .ds (dI .u8 (((((([83, 78, 68, 49] : List Int) ++ (pbL id 8)) ++ (u7 nm)) ++ (pbL d1 2)) ++ (pbL d2 2)) ++ (pbL d3 4)))))] 3 [] none] _ [(1, rV 0 0), (4, rV 3 0)] [(0, some (25, .ds [D.lit (.int .u64 id), D.lit (.string (strOfNums nm)), iD d1, iD d2, iD d3, iD d4, iD d5, D.sl (kR bs) n])), (3, some (55, .cs [.own 7 0 ((((12 + (1 + (ka1 nm))) + 2) + 2) + 4) 1 true])), (7, some (5, .ds (dI .u8 (((((([83, 78, 68, 49] : List Int) ++ (pbL id 8)) ++ (u7 nm)) ++ (pbL d1 2)) ++ (pbL d2 2)) ++ (pbL d3 4)))))] 8 (zN ((((([83, 78, 68, 49] : List Int) ++ (pbL id 8)) ++ (u7 nm)) ++ (pbL d1 2)) ++ (pbL d2 2)) (((12 + (1 + (ka1 nm))) + 2) + 2) d3 qQ zo zo) ?_
  refine kI [.no, .no, .no, .call [3, 7] (.tup []) [(0, some (55, .cs [.own 2 0 (((((12 + (1 + (ka1 nm))) + 2) + 2) + 4) + 2) 1 true])), (1, none), (2, some (5, .ds (dI .u8 ((((((([83, 78, 68, 49] : List Int) ++ (pbL id 8)) ++ (u7 nm)) ++ (pbL d1 2)) ++ (pbL d2 2)) ++ (pbL d3 4)) ++ (pbL d4 2)))))] 3 [] none] _ [(1, rV 0 0), (4, rV 3 0)] [(0, some (25, .ds [D.lit (.int .u64 id), D.lit (.string (strOfNums nm)), iD d1, iD d2, iD d3, iD d4, iD d5, D.sl (kR bs) n])), (3, some (55, .cs [.own 8 0 (((((12 + (1 + (ka1 nm))) + 2) + 2) + 4) + 2) 1 true])), (8, some (5, .ds (dI .u8 ((((((([83, 78, 68, 49] : List Int) ++ (pbL id 8)) ++ (u7 nm)) ++ (pbL d1 2)) ++ (pbL d2 2)) ++ (pbL d3 4)) ++ (pbL d4 2)))))] 9 (cH (((((([83, 78, 68, 49] : List Int) ++ (pbL id 8)) ++ (u7 nm)) ++ (pbL d1 2)) ++ (pbL d2 2)) ++ (pbL d3 4)) ((((12 + (1 + (ka1 nm))) + 2) + 2) + 4) d4 qQ zo zo) ?_
  refine kI [.no, .no, .no, .call [3, 8] (.tup []) [(0, some (55, .cs [.own 2 0 ((((((12 + (1 + (ka1 nm))) + 2) + 2) + 4) + 2) + 2) 1 true])), (1, none), (2, some (5, .ds (dI .u8 (((((((([83, 78, 68, 49] : List Int) ++ (pbL id 8)) ++ (u7 nm)) ++ (pbL d1 2)) ++ (pbL d2 2)) ++ (pbL d3 4)) ++ (pbL d4 2)) ++ (pbL d5 2)))))] 3 [] none] _ [(1, rV 0 0), (4, rV 3 0)] [(0, some (25, .ds [D.lit (.int .u64 id), D.lit (.string (strOfNums nm)), iD d1, iD d2, iD d3, iD d4, iD d5, D.sl (kR bs) n])), (3, some (55, .cs [.own 9 0 ((((((12 + (1 + (ka1 nm))) + 2) + 2) + 4) + 2) + 2) 1 true])), (9, some (5, .ds (dI .u8 (((((((([83, 78, 68, 49] : List Int) ++ (pbL id 8)) ++ (u7 nm)) ++ (pbL d1 2)) ++ (pbL d2 2)) ++ (pbL d3 4)) ++ (pbL d4 2)) ++ (pbL d5 2)))))] 10 (cH ((((((([83, 78, 68, 49] : List Int) ++ (pbL id 8)) ++ (u7 nm)) ++ (pbL d1 2)) ++ (pbL d2 2)) ++ (pbL d3 4)) ++ (pbL d4 2)) (((((12 + (1 + (ka1 nm))) + 2) + 2) + 4) + 2) d5 qQ zo zo) ?_
  refine kI [.no, .no, .no, .call [3, 9] (.tup []) [(0, some (55, .cs [.own 2 0 (((((((12 + (1 + (ka1 nm))) + 2) + 2) + 4) + 2) + 2) + (ka1 (vV bs))) 1 true])), (1, none), (2, some (5, .ds (dI .u8 ((((((((([83, 78, 68, 49] : List Int) ++ (pbL id 8)) ++ (u7 nm)) ++ (pbL d1 2)) ++ (pbL d2 2)) ++ (pbL d3 4)) ++ (pbL d4 2)) ++ (pbL d5 2)) ++ (vV bs)))))] 3 [] none] _ [(4, rV 3 0)] [(3, some (55, .cs [.own 10 0 (((((((12 + (1 + (ka1 nm))) + 2) + 2) + 4) + 2) + 2) + (ka1 (vV bs))) 1 true])), (10, some (5, .ds (dI .u8 ((((((((([83, 78, 68, 49] : List Int) ++ (pbL id 8)) ++ (u7 nm)) ++ (pbL d1 2)) ++ (pbL d2 2)) ++ (pbL d3 4)) ++ (pbL d4 2)) ++ (pbL d5 2)) ++ (vV bs)))))] 11 (k6y (((((((([83, 78, 68, 49] : List Int) ++ (pbL id 8)) ++ (u7 nm)) ++ (pbL d1 2)) ++ (pbL d2 2)) ++ (pbL d3 4)) ++ (pbL d4 2)) ++ (pbL d5 2)) ((((((12 + (1 + (ka1 nm))) + 2) + 2) + 4) + 2) + 2) bs n qQ zo zo qQ (kQ : BsW bs) qQ) ?_
  refine AW.freeze 10 (l' := [(4, rV 3 0)]) (g' := [(3, some (55, .ds [db ((((((((([83, 78, 68, 49] : List Int) ++ (pbL id 8)) ++ (u7 nm)) ++ (pbL d1 2)) ++ (pbL d2 2)) ++ (pbL d3 4)) ++ (pbL d4 2)) ++ (pbL d5 2)) ++ (vV bs)) (((((((12 + (1 + (ka1 nm))) + 2) + 2) + 4) + 2) + 2) + (ka1 (vV bs)))]))]) rfl (FzS.cons rfl (.same _) FzS.nil) (FzG.to (bc := .cs [.own 10 0 (((((((12 + (1 + (ka1 nm))) + 2) + 2) + 4) + 2) + 2) + (ka1 (vV bs))) 1 true]) rfl (by rfl) (FzL.cons (@FzC.own 10 ((dI .u8 ((((((((([83, 78, 68, 49] : List Int) ++ (pbL id 8)) ++ (u7 nm)) ++ (pbL d1 2)) ++ (pbL d2 2)) ++ (pbL d3 4)) ++ (pbL d4 2)) ++ (pbL d5 2)) ++ (vV bs))) : List D) 0 (((((((12 + (1 + (ka1 nm))) + 2) + 2) + 4) + 2) + 2) + (ka1 (vV bs))) 1 true ((dI .u8 ((((((((([83, 78, 68, 49] : List Int) ++ (pbL id 8)) ++ (u7 nm)) ++ (pbL d1 2)) ++ (pbL d2 2)) ++ (pbL d3 4)) ++ (pbL d4 2)) ++ (pbL d5 2)) ++ (vV bs))) : List D) (by rw [List.drop_zero, kc6, List.take_of_length_le (by first | omega | (simp only [kU, kT, pbL_len, qD, qB, qM, ka3, kb1, kb5, kb3, kb2, kb6, kc2, kc3, kc7, kc6] <;> omega))]) aE) FzL.nil) FzG.nil) ?_
  have hx1 : (((0 : Int) ≤ (aR ((((((((([83, 78, 68, 49] : List Int) ++ (pbL id 8)) ++ (u7 nm)) ++ (pbL d1 2)) ++ (pbL d2 2)) ++ (pbL d3 4)) ++ (pbL d4 2)) ++ (pbL d5 2)) ++ (vV bs)))) ∧ ((aR ((((((((([83, 78, 68, 49] : List Int) ++ (pbL id 8)) ++ (u7 nm)) ++ (pbL d1 2)) ++ (pbL d2 2)) ++ (pbL d3 4)) ++ (pbL d4 2)) ++ (pbL d5 2)) ++ (vV bs))) ≤ 4294967295)) := jN _
  refine kI (kJ 8 [.call [] (kS (D.lit (.int .u32 (aR ((((((((([83, 78, 68, 49] : List Int) ++ (pbL id 8)) ++ (u7 nm)) ++ (pbL d1 2)) ++ (pbL d2 2)) ++ (pbL d3 4)) ++ (pbL d4 2)) ++ (pbL d5 2)) ++ (vV bs)))))) [] 0 [] none, .call [] (sV .u8 (((((((((([83, 78, 68, 49] : List Int) ++ (pbL id 8)) ++ (u7 nm)) ++ (pbL d1 2)) ++ (pbL d2 2)) ++ (pbL d3 4)) ++ (pbL d4 2)) ++ (pbL d5 2)) ++ (vV bs)) ++ (pbL (aR ((((((((([83, 78, 68, 49] : List Int) ++ (pbL id 8)) ++ (u7 nm)) ++ (pbL d1 2)) ++ (pbL d2 2)) ++ (pbL d3 4)) ++ (pbL d4 2)) ++ (pbL d5 2)) ++ (vV bs))) 4)) ((((((((12 + (1 + (ka1 nm))) + 2) + 2) + 4) + 2) + 2) + (ka1 (vV bs))) + 4)) [] 1 [] none, .no, .no]) ((_) ∧ (_)) [(2, sV .u8 (((((((((([83, 78, 68, 49] : List Int) ++ (pbL id 8)) ++ (u7 nm)) ++ (pbL d1 2)) ++ (pbL d2 2)) ++ (pbL d3 4)) ++ (pbL d4 2)) ++ (pbL d5 2)) ++ (vV bs)) ++ (pbL (aR ((((((((([83, 78, 68, 49] : List Int) ++ (pbL id 8)) ++ (u7 nm)) ++ (pbL d1 2)) ++ (pbL d2 2)) ++ (pbL d3 4)) ++ (pbL d4 2)) ++ (pbL d5 2)) ++ (vV bs))) 4)) ((((((((12 + (1 + (ka1 nm))) + 2) + 2) + 4) + 2) + 2) + (ka1 (vV bs))) + 4)), (3, iV 0)] [] 12 ⟨(k6z ((((((((([83, 78, 68, 49] : List Int) ++ (pbL id 8)) ++ (u7 nm)) ++ (pbL d1 2)) ++ (pbL d2 2)) ++ (pbL d3 4)) ++ (pbL d4 2)) ++ (pbL d5 2)) ++ (vV bs)) (((((((12 + (1 + (ka1 nm))) + 2) + 2) + 4) + 2) + 2) + (ka1 (vV bs))) qQ qQ (Byt.app (Byt.app (Byt.app (Byt.app (Byt.app (Byt.app (Byt.app (Byt.app (Byt.cons zo (Byt.cons zo (Byt.cons zo (Byt.cons zo Byt.nil)))) (pbL_byt _ _)) (zZ (kQ : Byt nm) zo)) (pbL_byt _ _)) (pbL_byt _ _)) (pbL_byt _ _)) (pbL_byt _ _)) (pbL_byt _ _)) (zS _))), (W_Put32_z ((((((((([83, 78, 68, 49] : List Int) ++ (pbL id 8)) ++ (u7 nm)) ++ (pbL d1 2)) ++ (pbL d2 2)) ++ (pbL d3 4)) ++ (pbL d4 2)) ++ (pbL d5 2)) ++ (vV bs)) (((((((12 + (1 + (ka1 nm))) + 2) + 2) + 4) + 2) + 2) + (ka1 (vV bs))) (aR ((((((((([83, 78, 68, 49] : List Int) ++ (pbL id 8)) ++ (u7 nm)) ++ (pbL d1 2)) ++ (pbL d2 2)) ++ (pbL d3 4)) ++ (pbL d4 2)) ++ (pbL d5 2)) ++ (vV bs))) qQ qQ qQ)⟩ ?_
  refine AW.ret ?_
  exact kC (.inr rfl) [] (P := (((dI .u8 ((jK id nm d1 d2 d3 d4 d5 bs) ++ (pbL (aR (jK id nm d1 d2 d3 d4 d5 bs)) 4))) : List D) = (dI .u8 (((((((((([83, 78, 68, 49] : List Int) ++ (pbL id 8)) ++ (u7 nm)) ++ (pbL d1 2)) ++ (pbL d2 2)) ++ (pbL d3 4)) ++ (pbL d4 2)) ++ (pbL d5 2)) ++ (vV bs)) ++ (pbL (aR ((((((((([83, 78, 68, 49] : List Int) ++ (pbL id 8)) ++ (u7 nm)) ++ (pbL d1 2)) ++ (pbL d2 2)) ++ (pbL d3 4)) ++ (pbL d4 2)) ++ (pbL d5 2)) ++ (vV bs))) 4)))) ∧ (((((ka1 (vV bs)) + (ka1 nm)) + 29) : Nat) = ((((((((12 + (1 + (ka1 nm))) + 2) + 2) + 4) + 2) + 2) + (ka1 (vV bs))) + 4)) ∧ (kN 0)) zk ⟨(by first | rfl | (unfold jK; rfl)), (by first | omega | rfl), rfl⟩
end Go.Proofs.Ytdbjebdomdnbkaa
