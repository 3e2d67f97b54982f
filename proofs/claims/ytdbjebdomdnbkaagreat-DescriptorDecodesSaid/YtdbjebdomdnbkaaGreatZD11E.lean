/- Writers. No statement is proved here. -/
import Derived.Test.YtdbjebdomdnbkaaGreatZD11D
namespace Go.Proofs.YtdbjebdomdnbkaaGreat
open Go.ChangeShapes Go.WideShapes Go.ChangeAt Go.RowKit
open List renaming append_assoc → kc2, append_nil → kd1, drop → ka5, getD → ka0, getD_eq_getElem?_getD → ka8, getElem?_eq_getElem → ka9, getElem_mem → kg5, length → ka1, length_append → ka4, length_cons → kb3, length_drop → kb9, length_map → kc8, length_nil → kb6, length_replicate → kb8, length_reverse → kc6, length_set → kc4, length_take → kb4, mem_of_getElem? → kd6
open Nat renaming le_of_ble_eq_true → ka3, le_refl → kc7, mul_one → kd0, zero_le → kd8
set_option linter.unusedVariables false
set_option linter.unusedSimpArgs false
/-! chapter 11: writers -/
set_option maxHeartbeats 4000000
set_option maxRecDepth 100000
def yB (s : List Int) : List Int := ((ka1 s : Nat) : Int) :: s
theorem qP (s : List Int) : ka1 (yB s) = 1 + ka1 s := by unfold yB; rw [kb3]; omega
theorem zK {s : List Int} (h : Byt s) (h1 : ka1 s ≤ 64) : Byt (yB s) := Byt.cons (by omega) h
def R32 (r : List Int) : Prop := ∀ x ∈ r, 0 ≤ x ∧ x ≤ 4294967295
def R16 (r : List Int) : Prop := ∀ x ∈ r, 0 ≤ x ∧ x ≤ 65535
theorem R32.at {r : List Int} (h : R32 r) {i : Nat} (hi : i < r.length) : 0 ≤ ka0 r i 0 ∧ ka0 r i 0 ≤ 4294967295 := by
  rw [ka8, ka9 hi]
  exact h _ (kg5 hi)
theorem R16.at {r : List Int} (h : R16 r) {i : Nat} (hi : i < r.length) : 0 ≤ ka0 r i 0 ∧ ka0 r i 0 ≤ 65535 := by
  rw [ka8, ka9 hi]
  exact h _ (kg5 hi)
theorem k9g : R16 [] := fun x hx => by cases hx
theorem rF : R32 [] := fun x hx => by cases hx
def RmW (m : List (List Int)) : Prop := ∀ x ∈ m, R16 x ∧ ka1 x ≤ 65535
theorem k9f : RmW [] := fun x hx => by cases hx
theorem RmW.at {m : List (List Int)} (h : RmW m) (i : Nat) : R16 (ka0 m i []) ∧ ka1 (ka0 m i []) ≤ 65535 := by
  rw [ka8]
  cases e : m[i]? with
  | none => exact ⟨k9g, kd8 _⟩
  | some l => exact h l (kd6 e)
def nY (r : List Int) : Nat → List Int
  | 0 => []
  | k + 1 => nY r k ++ (pbL (ka0 r (k * 2) 0) 4 ++ pbL (ka0 r (k * 2 + 1) 0) 4)
theorem nX (r : List Int) : ∀ k, ka1 (nY r k) = k * 8
  | 0 => rfl
  | k + 1 => by show ka1 (nY r k ++ _) = _; rw [ka4, nX r k, ka4, pbL_len, pbL_len]; omega
def aS (r : List Int) (n : Nat) : List Int := pbL ((n : Nat) : Int) 2 ++ nY r n
theorem qI (r : List Int) (n : Nat) : ka1 (aS r n) = 2 + n * 8 := by unfold aS; rw [ka4, pbL_len, nX]
theorem u42 (l r : List Int) (n : Nat) : l ++ (pbL ((n : Nat) : Int) 2 ++ nY r 0) = l ++ pbL ((n : Nat) : Int) 2 := by rw [nY, kd1]
theorem u40 {l r o : List Int} {n k : Nat} (h : l ++ (pbL ((n : Nat) : Int) 2 ++ nY r k) = o) : l ++ (pbL ((n : Nat) : Int) 2 ++ nY r (k + 1)) = o ++ pbL (ka0 r (k * 2) 0) 4 ++ pbL (ka0 r (k * 2 + 1) 0) 4 := by
  subst h; rw [nY]; simp only [kc2]
theorem u41 {l r o : List Int} {n k : Nat} (h : l ++ (pbL ((n : Nat) : Int) 2 ++ nY r k) = o) (hk : k = n) : l ++ aS r n = o := by subst hk; exact h
def oC (m : List Int) : Nat → List Int
  | 0 => []
  | k + 1 => oC m k ++ pbL (ka0 m k 0) 2
theorem oB (m : List Int) : ∀ k, ka1 (oC m k) = k * 2
  | 0 => rfl
  | k + 1 => by show ka1 (oC m k ++ _) = _; rw [ka4, oB m k, pbL_len]; omega
def wpL (m : List Int) : List Int := pbL ((ka1 m : Nat) : Int) 2 ++ oC m m.length
theorem oA (m : List Int) : ka1 (wpL m) = 2 + ka1 m * 2 := by unfold wpL; rw [ka4, pbL_len, oB]
theorem u45 (l m : List Int) : l ++ (pbL ((ka1 m : Nat) : Int) 2 ++ oC m 0) = l ++ pbL ((ka1 m : Nat) : Int) 2 := by rw [oC, kd1]
theorem u43 {l m o : List Int} {k : Nat} (h : l ++ (pbL ((ka1 m : Nat) : Int) 2 ++ oC m k) = o) : l ++ (pbL ((ka1 m : Nat) : Int) 2 ++ oC m (k + 1)) = o ++ pbL (ka0 m k 0) 2 := by
  subst h; rw [oC]; simp only [kc2]
theorem u44 {l m o : List Int} {k : Nat} (h : l ++ (pbL ((ka1 m : Nat) : Int) 2 ++ oC m k) = o) (hk : k = m.length) : l ++ wpL m = o := by subst hk; exact h
def bN (m : List (List Int)) : Nat → List Int
  | 0 => []
  | k + 1 => bN m k ++ wpL (ka0 m k [])
def bC (m : List (List Int)) : List Int := pbL ((ka1 m : Nat) : Int) 2 ++ bN m m.length
theorem u49 (l : List Int) (m : List (List Int)) : l ++ (pbL ((ka1 m : Nat) : Int) 2 ++ bN m 0) = l ++ pbL ((ka1 m : Nat) : Int) 2 := by rw [bN, kd1]
theorem u7l {l o p : List Int} {m : List (List Int)} {k : Nat} (h : l ++ (pbL ((ka1 m : Nat) : Int) 2 ++ bN m k) = o) (h1 : o ++ wpL (ka0 m k []) = p) : l ++ (pbL ((ka1 m : Nat) : Int) 2 ++ bN m (k + 1)) = p := by
  subst h1; subst h; rw [bN]; simp only [kc2]
theorem u47 {l o : List Int} {m : List (List Int)} {k : Nat} (h : l ++ (pbL ((ka1 m : Nat) : Int) 2 ++ bN m k) = o) (hk : k = m.length) : l ++ bC m = o := by subst hk; exact h
theorem u46 {l o p : List Int} {m : List (List Int)} {c k : Nat} (hc : m.length = c) (h : l ++ (pbL ((c : Nat) : Int) 2 ++ bN m k) = o) (h1 : o ++ wpL (ka0 m k []) = p) : l ++ (pbL ((c : Nat) : Int) 2 ++ bN m (k + 1)) = p := by subst hc; exact u7l h h1
theorem u7m {l o : List Int} {m : List (List Int)} {c k : Nat} (hc : m.length = c) (h : l ++ (pbL ((c : Nat) : Int) 2 ++ bN m k) = o) (hk : k = c) : l ++ bC m = o := by subst hc; exact u47 h hk
theorem u1l (m : List (List Int)) (k : Nat) : ka1 (bN m (k + 1)) = ka1 (bN m k) + (2 + ka1 (ka0 m k []) * 2) := by rw [bN, ka4, oA]
theorem u1m {l w o : List Int} {n q : Nat} (h : l ++ w = o) (hn : l.length = n) (hq : o.length = q) : n + ka1 w = q := by subst h; rw [ka4] at hq; omega
theorem k21 (m : List (List Int)) : ∀ k j, k ≤ j → ka1 (bN m k) ≤ ka1 (bN m j)
  | k, 0, h => by rw [show k = 0 by omega]; exact kc7 _
  | k, j + 1, h => by
    by_cases e : k = j + 1
    · subst e; exact kc7 _
    · have := k21 m k j (by omega); rw [bN, ka4]; omega
theorem u48 {m : List (List Int)} {k c : Nat} (hc : m.length = c) (hk : k < c) : ka1 (bN m k) + (2 + ka1 (ka0 m k []) * 2) + 2 ≤ ka1 (bC m) := by
  subst hc
  have h := k21 m (k + 1) m.length (by omega)
  rw [bN, ka4, oA] at h
  unfold bC; rw [ka4, pbL_len]; omega
def wbX (b : Bx) : List Int := pbL b.k 2 ++ (aS b.r b.rn ++ (bC b.m ++ aS b.s b.sn))
def aZ (bs : List Bx) : Nat → List Int
  | 0 => []
  | k + 1 => aZ bs k ++ wbX (iB bs k)
def vW (bs : List Bx) : List Int := pbL ((ka1 bs : Nat) : Int) 2 ++ aZ bs bs.length
theorem u4g (l : List Int) (bs : List Bx) : l ++ (pbL ((ka1 bs : Nat) : Int) 2 ++ aZ bs 0) = l ++ pbL ((ka1 bs : Nat) : Int) 2 := by rw [aZ, kd1]
theorem u7n {l o : List Int} {bs : List Bx} {k : Nat} (h : l ++ (pbL ((ka1 bs : Nat) : Int) 2 ++ aZ bs k) = o) : l ++ (pbL ((ka1 bs : Nat) : Int) 2 ++ aZ bs (k + 1)) = o ++ pbL (vU bs k) 2 ++ aS (aE bs k) (yJ bs k) ++ bC (qD bs k) ++ aS (cH bs k) (aA bs k) := by
  subst h; rw [aZ, wbX]; simp only [kc2]; rfl
theorem u7o {l o : List Int} {bs : List Bx} {k : Nat} (h : l ++ (pbL ((ka1 bs : Nat) : Int) 2 ++ aZ bs k) = o) (hk : k = bs.length) : l ++ vW bs = o := by subst hk; exact h
theorem u4c {l o : List Int} {bs : List Bx} {c k : Nat} (hc : bs.length = c) (h : l ++ (pbL ((c : Nat) : Int) 2 ++ aZ bs k) = o) : l ++ (pbL ((c : Nat) : Int) 2 ++ aZ bs (k + 1)) = o ++ pbL (vU bs k) 2 ++ aS (aE bs k) (yJ bs k) ++ bC (qD bs k) ++ aS (cH bs k) (aA bs k) := by subst hc; exact u7n h
theorem u4e {l o : List Int} {m : List Bx} {c k : Nat} (hc : m.length = c) (h : l ++ (pbL ((c : Nat) : Int) 2 ++ aZ m k) = o) (hk : k = c) : l ++ vW m = o := by subst hc; exact u7o h hk
theorem u4d (m : List Bx) (k : Nat) : ka1 (aZ m (k + 1)) = ka1 (aZ m k) + (2 + (2 + yJ m k * 8) + ka1 (bC (qD m k)) + (2 + aA m k * 8)) := by
  rw [aZ, ka4, wbX, ka4, ka4, ka4, pbL_len, qI, qI]
  show _ = _ + (2 + (2 + (iB m k).rn * 8) + ka1 (bC (iB m k).m) + (2 + (iB m k).sn * 8))
  omega
theorem k22 (m : List Bx) : ∀ k j, k ≤ j → ka1 (aZ m k) ≤ ka1 (aZ m j)
  | k, 0, h => by rw [show k = 0 by omega]; exact kc7 _
  | k, j + 1, h => by
    by_cases e : k = j + 1
    · subst e; exact kc7 _
    · have := k22 m k j (by omega); rw [aZ, ka4]; omega
theorem u4f {m : List Bx} {k c : Nat} (hc : m.length = c) (hk : k < c) : ka1 (aZ m k) + (2 + (2 + yJ m k * 8) + ka1 (bC (qD m k)) + (2 + aA m k * 8)) + 2 ≤ ka1 (vW m) := by
  subst hc
  have h := k22 m (k + 1) m.length (by omega)
  rw [aZ, ka4, wbX, ka4, ka4, ka4, pbL_len, qI, qI] at h
  unfold vW; rw [ka4, pbL_len]
  show _ + (2 + (2 + (iB m k).rn * 8) + ka1 (bC (iB m k).m) + (2 + (iB m k).sn * 8)) + 2 ≤ _
  omega
def RbX (b : Bx) : Prop := (0 ≤ b.k ∧ b.k ≤ 65535) ∧ R32 b.r ∧ b.rn ≤ 65535 ∧ R32 b.s ∧ b.sn ≤ 65535 ∧ ka1 b.m ≤ 65535 ∧ RmW b.m
def RbW (bs : List Bx) : Prop := ∀ b ∈ bs, RbX b
theorem RbW.at {bs : List Bx} (h : RbW bs) (i : Nat) : (0 ≤ vU bs i ∧ vU bs i ≤ 65535) ∧ yJ bs i ≤ 65535 ∧ aA bs i ≤ 65535 ∧ ka1 (qD bs i) ≤ 65535 ∧ R32 (aE bs i) ∧ R32 (cH bs i) ∧ RmW (qD bs i) := by
  have h1 : RbX (iB bs i) := by
    unfold iB
    rw [ka8]
    cases e : bs[i]? with
    | none => exact ⟨by show (0 : Int) ≤ 0 ∧ (0 : Int) ≤ 65535; omega, rF, kd8 _, rF, kd8 _, kd8 _, k9f⟩
    | some b => exact h b (kd6 e)
  exact ⟨h1.1, h1.2.2.1, h1.2.2.2.2.1, h1.2.2.2.2.2.1, h1.2.1, h1.2.2.2.1, h1.2.2.2.2.2.2⟩
theorem zA (r : List Int) (n : Nat) : Byt (aS r n) := by
  have h : ∀ k, Byt (nY r k) := fun k => by
    induction k with
    | zero => exact Byt.nil
    | succ k ih => exact ih.app ((pbL_byt _ _).app (pbL_byt _ _))
  exact (pbL_byt _ _).app (h n)
theorem k76 (m : List Int) : Byt (wpL m) := by
  have h : ∀ k, Byt (oC m k) := fun k => by
    induction k with
    | zero => exact Byt.nil
    | succ k ih => exact ih.app (pbL_byt _ _)
  exact (pbL_byt _ _).app (h _)
theorem k77 (m : List (List Int)) : Byt (bC m) := by
  have h : ∀ k, Byt (bN m k) := fun k => by
    induction k with
    | zero => exact Byt.nil
    | succ k ih => exact ih.app (k76 _)
  exact (pbL_byt _ _).app (h _)
theorem zC (m : List Bx) : Byt (vW m) := by
  have h : ∀ k, Byt (aZ m k) := fun k => by
    induction k with
    | zero => exact Byt.nil
    | succ k ih => exact ih.app ((pbL_byt _ _).app ((zA _ _).app ((k77 _).app (zA _ _))))
  exact (pbL_byt _ _).app (h _)
def l8 (id : Int) (nm : List Int) (d1 d2 d3 d4 d5 : Int) (bs : List Bx) : List Int := [83, 78, 68, 49] ++ pbL id 8 ++ yB nm ++ pbL d1 2 ++ pbL d2 2 ++ pbL d3 4 ++ pbL d4 2 ++ pbL d5 2 ++ vW bs
theorem gB (id : Int) (nm : List Int) (d1 d2 d3 d4 d5 : Int) (bs : List Bx) : ka1 (l8 id nm d1 d2 d3 d4 d5 bs) = 25 + ka1 nm + ka1 (vW bs) := by
  unfold l8; simp only [ka4, pbL_len, qP, kb3, kb6]; omega
theorem rA {id : Int} {nm : List Int} {d1 d2 d3 d4 d5 : Int} {bs : List Bx} (h : Byt nm) (h1 : ka1 nm ≤ 64) : Byt (l8 id nm d1 d2 d3 d4 d5 bs) :=
  ((((((((Byt.cons (by omega) (Byt.cons (by omega) (Byt.cons (by omega) (Byt.cons (by omega) Byt.nil)))).app (pbL_byt _ _)).app (zK h h1)).app (pbL_byt _ _)).app (pbL_byt _ _)).app (pbL_byt _ _)).app (pbL_byt _ _)).app (pbL_byt _ _)).app (zC _)
theorem yV {p : Prop} (h : p := by (simp only [qA, k8, pbL_len, qP, qI, ka4, kb3, kb6, kb4, kb9, kb8, kc4] <;> omega)) : p := h
theorem bB {p : Prop} (h : p := by (simp only [qA, k8, pbL_len, qP, qI, uF, ka4, kb3, kb6, kb4, kb9, kb8, kc4, kc8, kc6, kd0] <;> omega)) : p := h
theorem cE (l : List Int) (n : Nat) (x : Int) (hn : ka1 l = n) (h2 : n ≤ 900000) (hx : 0 ≤ x ∧ x ≤ 65535) : Fun 38 [.c (.ptr 0 0), iE x] (kD [(0, some (81, .cs [.own 1 0 n 1 true])), (1, some (5, .ds (dI .u8 l)))]) 2 (.tup []) (kD [(0, some (81, .cs [.own 2 0 (n + 2) 1 true])), (1, none), (2, some (5, .ds (dI .u8 (l ++ (pbL x 2)))))]) 3 := by
  refine Fun.mk (n := 15) Tryz.func38 rfl rfl (ka3 rfl) ?_
  intro cx hcx
  refine aC (kJ 6 [.w, .call [] (sV .u8 (([] : List Int) ++ (pbL x 2)) 2) [] 1 [] none, .ap none (n + 2) (dI .u8 (l ++ (([] : List Int) ++ (pbL x 2)))), .no, .no, .no]) ((0 ≤ x ∧ x ≤ 65535) ∧ (_) ∧ ((dI .u8 (([] : List Int) ++ (pbL x 2))).length = 2 * 1) ∧ (((dI .u8 l) : List D).length = n * 1) ∧ ((n + 2) * 1 ≤ 140737488355328) ∧ (n + 2 = (n + 2)) ∧ (((dI .u8 l) : List D) ++ (dI .u8 (([] : List Int) ++ (pbL x 2))) = (dI .u8 (l ++ (([] : List Int) ++ (pbL x 2)))))) [] [(0, some (81, .cs [.own 3 0 (n + 2) 1 true])), (3, some (5, .ds (dI .u8 (l ++ (([] : List Int) ++ (pbL x 2))))))] 4 ⟨⟨by omega, by omega⟩, (W_Put16_z ([] : List Int) 0 x yV zo zo), bB, bB, zo, zo, (uK .u8 l (([] : List Int) ++ (pbL x 2)))⟩ ?_
  exact kB (.inl rfl) [(2, 3)] (P := (kQ 0) ∧ (kQ (n + 2)) ∧ (((dI .u8 (l ++ (pbL x 2))) : List D) = (dI .u8 (l ++ (([] : List Int) ++ (pbL x 2)))))) zk ⟨rfl, rfl, (by rfl)⟩
theorem x6 (l : List Int) (n : Nat) (x : Int) (hn : ka1 l = n) (h2 : n ≤ 900000) (hx : 0 ≤ x ∧ x ≤ 4294967295) : Fun 39 [.c (.ptr 0 0), iE x] (kD [(0, some (81, .cs [.own 1 0 n 1 true])), (1, some (5, .ds (dI .u8 l)))]) 2 (.tup []) (kD [(0, some (81, .cs [.own 2 0 (n + 4) 1 true])), (1, none), (2, some (5, .ds (dI .u8 (l ++ (pbL x 4)))))]) 3 := by
  refine Fun.mk (n := 15) Tryz.func39 rfl rfl (ka3 rfl) ?_
  intro cx hcx
  refine aC (kJ 6 [.w, .call [] (sV .u8 (([] : List Int) ++ (pbL x 4)) 4) [] 1 [] none, .ap none (n + 4) (dI .u8 (l ++ (([] : List Int) ++ (pbL x 4)))), .no, .no, .no]) ((0 ≤ x ∧ x ≤ 4294967295) ∧ (_) ∧ ((dI .u8 (([] : List Int) ++ (pbL x 4))).length = 4 * 1) ∧ (((dI .u8 l) : List D).length = n * 1) ∧ ((n + 4) * 1 ≤ 140737488355328) ∧ (n + 4 = (n + 4)) ∧ (((dI .u8 l) : List D) ++ (dI .u8 (([] : List Int) ++ (pbL x 4))) = (dI .u8 (l ++ (([] : List Int) ++ (pbL x 4)))))) [] [(0, some (81, .cs [.own 3 0 (n + 4) 1 true])), (3, some (5, .ds (dI .u8 (l ++ (([] : List Int) ++ (pbL x 4))))))] 4 ⟨⟨by omega, by omega⟩, (W_Put32_z ([] : List Int) 0 x yV zo zo), bB, bB, zo, zo, (uK .u8 l (([] : List Int) ++ (pbL x 4)))⟩ ?_
  exact kB (.inl rfl) [(2, 3)] (P := (kQ 0) ∧ (kQ (n + 4)) ∧ (((dI .u8 (l ++ (pbL x 4))) : List D) = (dI .u8 (l ++ (([] : List Int) ++ (pbL x 4)))))) zk ⟨rfl, rfl, (by rfl)⟩
theorem k1x (l s : List Int) (n : Nat) (hn : ka1 l = n) (h2 : n ≤ 900000) (hs : Byt s) (h3 : ka1 s ≤ 64) : Fun 60 [.c (.d (D.sl (dI .u8 l) n)), .c (.d (D.lit (.string (strOfNums s))))] (kD []) 0 (.tup [.c (.own 0 0 (n + (1 + (ka1 s))) 1 true), iE 0]) (kD [(0, some (5, .ds (dI .u8 (l ++ (yB s)))))]) 1 := by
  refine Fun.mk (n := 18) Tryz.func60 rfl rfl (ka3 rfl) ?_
  intro cx hcx
  refine kG [.no, .no] True [(0, sV .u8 l n), (1, kP (D.lit (.string (strOfNums s))))] [] 0 trivial ?_
  refine AW.seq ?_
  refine kV [.no, .i (ka1 s : Int), .b false] (((ByteArray.size (strOfNums s) : Int) = ((ka1 s : Int) : Int)) ∧ (¬ ((64 : Int) < (ka1 s : Int)))) [(0, sV .u8 l n), (1, kP (D.lit (.string (strOfNums s)))), (8, bV false)] ⟨(by rw [strOfNums_size]), zo⟩ ?_
  refine uM ?_
  refine kG [.no, .no, .i (ka1 s : Int), .w, (.fz (.no)), .no, (.fz (.st none s)), .no, .call [] (oV 0 0 ((n + 1) + (ka1 s)) 1) [(0, some (5, .ds (dI .u8 ((l ++ ([(ka1 s : Int)] : List Int)) ++ s))))] 1 [none] none, .no, .no] (((ByteArray.size (strOfNums s) : Int) = ((ka1 s : Int) : Int)) ∧ (0 ≤ (ka1 s : Int) ∧ (ka1 s : Int) ≤ 255) ∧ (([D.lit (.int .u8 (ka1 s : Int))] : List D).length = 1 * 1) ∧ (vJ (strOfNums s) = s) ∧ ((s : List Int).length ≤ 9223372036854775807) ∧ (((dI .u8 s) : List D).length = (ka1 s) * 1) ∧ ([db l n, D.sl [D.lit (.int .u8 (ka1 s : Int))] 1, db s (ka1 s)].length = 3 * 1) ∧ (lA (oV 0 0 ((n + 1) + (ka1 s)) 1) = true) ∧ ((dI .u8 ((l ++ ([(ka1 s : Int)] : List Int)) ++ s)).all z9 = true) ∧ (_)) [(4, oV 3 0 ((n + 1) + (ka1 s)) 1), (5, iV 0)] [(3, some (5, .ds (dI .u8 ((l ++ ([(ka1 s : Int)] : List Int)) ++ s))))] 4 ⟨(by rw [strOfNums_size]), ⟨by omega, by omega⟩, bB, (j9 (kL : Byt s)), zo, bB, bB, rfl, (by exact u0y _ _), (rN l ([(ka1 s : Int)] : List Int) s n 1 (ka1 s) zo yV rfl zo zo zo)⟩ ?_
  refine AW.ret ?_
  exact kB (.inr rfl) [(0, 3)] (P := (kQ 0) ∧ (((n + (1 + (ka1 s))) : Nat) = ((n + 1) + (ka1 s))) ∧ (kM 0) ∧ (((dI .u8 (l ++ (yB s))) : List D) = (dI .u8 ((l ++ ([(ka1 s : Int)] : List Int)) ++ s)))) zk ⟨rfl, zo, rfl, (by (unfold yB; simp; done))⟩
theorem t8 (l s : List Int) (n : Nat) (hn : ka1 l = n) (h2 : n ≤ 900000) (hs : Byt s) (h3 : ka1 s ≤ 64) : Fun 60 [.c (.d (D.sl (dI .u8 l) n)), .c (.d (D.lit (.string (strOfNums s))))] (kD []) 0 (.tup [.c (.d (D.sl (dI .u8 (l ++ (yB s))) (n + (1 + (ka1 s))))), iE 0]) (kD []) 1 := (Fun.frz (y := .tup [.c (.own 0 0 (n + (1 + (ka1 s))) 1 true), iE 0]) (g1 := [(0, some (5, .ds (dI .u8 (l ++ (yB s)))))]) (y' := .tup [.c (.d (D.sl (dI .u8 (l ++ (yB s))) (n + (1 + (ka1 s))))), iE 0]) (g1' := []) (ds := (dI .u8 (l ++ (yB s)))) 0 (k1x l s n hn h2 hs h3) rfl FzG.nil (.tup ⟨.c (FzC.wh ((by simp only [ka4, qP]; omega))), .c (.same _), trivial⟩))
theorem u7g (l s : List Int) (n : Nat) (hn : ka1 l = n) (h2 : n ≤ 900000) (hs : Byt s) (h3 : ka1 s ≤ 64) : Fun 37 [.c (.ptr 0 0), .c (.d (D.lit (.string (strOfNums s))))] (kD [(0, some (81, .cs [.own 1 0 n 1 true])), (1, some (5, .ds (dI .u8 l)))]) 2 (.tup []) (kD [(0, some (81, .cs [.own 2 0 (n + (1 + (ka1 s))) 1 true])), (1, none), (2, some (5, .ds (dI .u8 (l ++ (yB s)))))]) 3 := by
  refine Fun.mk (n := 20) Tryz.func37 rfl rfl (ka3 rfl) ?_
  intro cx hcx
  refine kG (.no :: .call [] (.tup [.c (.d (db (([] : List Int) ++ (yB s)) (0 + (1 + (ka1 s))))), iE 0]) [] 1 [] none :: kJ 5 []) _ [(0, rV 0 0), (4, sV .u8 (([] : List Int) ++ (yB s)) (0 + (1 + (ka1 s))))] [(0, some (81, .cs [.own 1 0 n 1 true])), (1, some (5, .ds (dI .u8 l)))] 3 (t8 ([] : List Int) s 0 yV zo (kL : Byt s) zo) ?_
  refine aC (kJ 6 [.ap none (n + (0 + (1 + (ka1 s)))) (dI .u8 (l ++ (([] : List Int) ++ (yB s)))), .no, .no, .no]) (((dI .u8 (([] : List Int) ++ (yB s))).length = (0 + (1 + (ka1 s))) * 1) ∧ (((dI .u8 l) : List D).length = n * 1) ∧ ((n + (0 + (1 + (ka1 s)))) * 1 ≤ 140737488355328) ∧ (n + (0 + (1 + (ka1 s))) = (n + (0 + (1 + (ka1 s))))) ∧ (((dI .u8 l) : List D) ++ (dI .u8 (([] : List Int) ++ (yB s))) = (dI .u8 (l ++ (([] : List Int) ++ (yB s)))))) [] [(0, some (81, .cs [.own 3 0 (n + (0 + (1 + (ka1 s)))) 1 true])), (3, some (5, .ds (dI .u8 (l ++ (([] : List Int) ++ (yB s))))))] 4 ⟨bB, bB, zo, zo, (uK .u8 l (([] : List Int) ++ (yB s)))⟩ ?_
  exact kB (.inl rfl) [(2, 3)] (P := (kQ 0) ∧ (((n + (1 + (ka1 s))) : Nat) = (n + (0 + (1 + (ka1 s))))) ∧ (((dI .u8 (l ++ (yB s))) : List D) = (dI .u8 (l ++ (([] : List Int) ++ (yB s)))))) zk ⟨rfl, zo, (by rfl)⟩
theorem k6w (l : List Int) (n : Nat) (r : List Int) (rn : Nat) (hn : ka1 l = n) (hr : ka1 r = rn * 2) (h1 : rn ≤ 65535) (h2 : n + 2 + rn * 8 ≤ 900000) (hR : R32 r) : Fun 62 [.c (.ptr 0 0), .agg [.d (D.sl (dI .i64 r) rn)]] (kD [(0, some (81, .cs [.own 1 0 n 1 true])), (1, some (5, .ds (dI .u8 l)))]) 2 (.tup []) (kD [(0, some (81, .cs [.own 2 0 (n + (2 + (rn * 8))) 1 true])), (1, none), (2, some (5, .ds (dI .u8 (l ++ (aS r rn)))))]) 3 := by
  refine Fun.mk (n := 27) Tryz.func62 rfl rfl (ka3 rfl) ?_
  intro cx hcx
  refine kG [.no] True [(0, rV 0 0), (3, rV 2 0)] [(0, some (81, .cs [.own 1 0 n 1 true])), (1, some (5, .ds (dI .u8 l))), (2, some (50, .ds [dl r rn]))] 3 trivial ?_
  refine kG (kJ 4 [.call [0, 1] (.tup []) [(0, some (81, .cs [.own 2 0 (n + 2) 1 true])), (1, none), (2, some (5, .ds (dI .u8 (l ++ (pbL (rn : Int) 2)))))] 3 [] none]) _ [(0, rV 0 0), (3, rV 2 0)] [(0, some (81, .cs [.own 3 0 (n + 2) 1 true])), (2, some (50, .ds [dl r rn])), (3, some (5, .ds (dI .u8 (l ++ (pbL ↑rn 2)))))] 4 (cE l n (rn : Int) zo zo zo) ?_
  refine kG (kJ 4 []) True [(0, rV 0 0), (12, sV .i64 r rn), (13, uV rn), (14, iV 0)] [(0, some (81, .cs [.own 3 0 (n + 2) 1 true])), (3, some (5, .ds (dI .u8 (l ++ (pbL ↑rn 2)))))] 4 trivial ?_
  refine AW.block ?_
  refine kU 2 hcx (fun (x : {x : Nat × Nat × List Int // match x with | (k, q, o) => (k ≤ rn) ∧ (l ++ (pbL (rn : Int) 2 ++ nY r k) = o) ∧ (ka1 o = q ∧ q = n + 2 + k * 8)}) => match x with | ⟨(k, q, o), _⟩ => (⟨[(0, rV 0 0), (12, sV .i64 r rn), (13, uV rn), (14, uV k)], [(0, some (81, .cs [.own 4 0 q 1 true])), (4, some (5, .ds (dI .u8 o)))], 5⟩ : ES)) (fun x => match x with | ⟨(k, q, o), _⟩ => rn - k) ⟨((0 : Nat), ((n + 2) : Nat), ((l ++ (pbL (rn : Int) 2)) : List Int)), ⟨zo, (u42 _ _ _), ⟨by rw [ka4, pbL_len, hn], by omega⟩⟩⟩ [(4, 3)] (P := (kQ 0) ∧ (kY (dI .i64 r)) ∧ (kQ rn) ∧ (kM (rn : Int)) ∧ (kM 0) ∧ (kQ 0) ∧ (kQ (n + 2)) ∧ (kY (dI .u8 (l ++ (pbL (rn : Int) 2))))) zk ⟨rfl, rfl, rfl, rfl, rfl, rfl, rfl, rfl⟩ ?_
  rintro ⟨⟨k, q, o⟩, hinv0⟩
  obtain ⟨hk, ho, hq⟩ : (k ≤ rn) ∧ (l ++ (pbL ((rn : Nat) : Int) 2 ++ nY r k) = o) ∧ (ka1 o = q ∧ q = n + 2 + k * 8) := hinv0
  refine qV (l := [(0, rV 0 0), (12, sV .i64 r rn), (13, uV rn), (14, uV k)]) (g := [(0, some (81, .cs [.own 4 0 q 1 true])), (4, some (5, .ds (dI .u8 o)))]) (nx := 5) rfl rfl rfl ?_
  by_cases hx1 : (((k : Nat) : Int) < ((rn : Nat) : Int))
  · refine zr [.b true] [0, 12, 13, 14, 15] [0, 4] (((k : Int) < (rn : Int))) [(0, rV 0 0), (12, sV .i64 r rn), (13, uV rn), (14, uV k), (15, bV true)] [(0, some (81, .cs [.own 4 0 q 1 true])), (4, some (5, .ds (dI .u8 o)))] 5 zo ?_
    refine AW.seq ?_
    refine u1 ?_
    refine AW.seq ?_
    refine AW.block ?_
    have hx2 : 0 ≤ (ka0 r (k * 2) 0) ∧ (ka0 r (k * 2) 0) ≤ 4294967295 := (R32.at (kL : R32 r) zo)
    have hx3 : 0 ≤ (ka0 r ((k * 2) + 1) 0) ∧ (ka0 r ((k * 2) + 1) 0) ≤ 4294967295 := (R32.at (kL : R32 r) zo)
    refine kG [.n k, .ds [iD (ka0 r (k * 2) 0), iD (ka0 r ((k * 2) + 1) 0)], .no, .no] ((kM (k : Int)) ∧ (k < rn) ∧ (List.take 2 (ka5 (k * 2) (dI .i64 r)) = [iD (ka0 r (k * 2) 0), iD (ka0 r ((k * 2) + 1) 0)]) ∧ (([iD (ka0 r (k * 2) 0), iD (ka0 r ((k * 2) + 1) 0)] : List D).length = 2)) [(0, rV 0 0), (5, rV 5 0), (12, sV .i64 r rn), (13, uV rn), (14, uV k)] [(0, some (81, .cs [.own 4 0 q 1 true])), (4, some (5, .ds (dI .u8 o))), (5, some (90, .ds [iD (ka0 r (k * 2) 0), iD (ka0 r ((k * 2) + 1) 0)]))] 6 ⟨rfl, zo, (aH .i64 r (k * 2) 2 zo), rfl⟩ ?_
    refine kG [.no, .no, .no, .call [0, 4] (.tup []) [(0, some (81, .cs [.own 2 0 (q + 4) 1 true])), (1, none), (2, some (5, .ds (dI .u8 (o ++ (pbL (ka0 r (k * 2) 0) 4)))))] 3 [] none] _ [(0, rV 0 0), (5, rV 5 0), (12, sV .i64 r rn), (13, uV rn), (14, uV k)] [(0, some (81, .cs [.own 6 0 (q + 4) 1 true])), (5, some (90, .ds [iD (ka0 r (k * 2) 0), iD (ka0 r ((k * 2) + 1) 0)])), (6, some (5, .ds (dI .u8 (o ++ (pbL (ka0 r (k * 2) 0) 4)))))] 7 (x6 o q (ka0 r (k * 2) 0) zo zo zo) ?_
    refine aC [.no, .no, .no, .call [0, 6] (.tup []) [(0, some (81, .cs [.own 2 0 ((q + 4) + 4) 1 true])), (1, none), (2, some (5, .ds (dI .u8 ((o ++ (pbL (ka0 r (k * 2) 0) 4)) ++ (pbL (ka0 r ((k * 2) + 1) 0) 4)))))] 3 [] none] _ [(0, rV 0 0), (12, sV .i64 r rn), (13, uV rn), (14, uV k)] [(0, some (81, .cs [.own 7 0 ((q + 4) + 4) 1 true])), (7, some (5, .ds (dI .u8 ((o ++ (pbL (ka0 r (k * 2) 0) 4)) ++ (pbL (ka0 r ((k * 2) + 1) 0) 4)))))] 8 (x6 (o ++ (pbL (ka0 r (k * 2) 0) 4)) (q + 4) (ka0 r ((k * 2) + 1) 0) yV zo zo) ?_
    refine uG [.w, .no] (qB ((k : Int) + 1)) [(0, rV 0 0), (12, sV .i64 r rn), (13, uV rn), (14, iV (↑k + 1))] ⟨by omega, by omega⟩ ?_
    exact qH ⟨(((k + 1) : Nat), (((q + 4) + 4) : Nat), (((o ++ (pbL (ka0 r (k * 2) 0) 4)) ++ (pbL (ka0 r ((k * 2) + 1) 0) 4)) : List Int)), ⟨zo, (u40 ho), (by simp only [qA, k8, pbL_len, qP, qI, ka4, pbL_len] <;> omega)⟩⟩ [(4, 7)] (P := (kQ 0) ∧ (kY (dI .i64 r)) ∧ (kQ rn) ∧ (kM (rn : Int)) ∧ (q1S k) ∧ (kQ 0) ∧ (kQ ((q + 4) + 4)) ∧ (kY (dI .u8 ((o ++ (pbL (ka0 r (k * 2) 0) 4)) ++ (pbL (ka0 r ((k * 2) + 1) 0) 4))))) zk ⟨rfl, rfl, rfl, rfl, (by rfl), rfl, rfl, rfl⟩ (show rn - (k + 1) < rn - k from zo)
  · refine zr [.b false] [0, 12, 13, 14, 15] [0, 4] (¬ ((k : Int) < (rn : Int))) [(0, rV 0 0), (12, sV .i64 r rn), (13, uV rn), (14, uV k), (15, bV false)] [(0, some (81, .cs [.own 4 0 q 1 true])), (4, some (5, .ds (dI .u8 o)))] 5 zo ?_
    refine AW.seq ?_
    refine zf ?_
    refine AW.exit ?_
    have hz1 : l ++ aS r rn = o := u41 ho (by omega)
    exact kB (.inl rfl) [(2, 4)] (P := (kQ 0) ∧ (((n + (2 + (rn * 8))) : Nat) = q) ∧ (((dI .u8 (l ++ (aS r rn))) : List D) = (dI .u8 o))) zk ⟨rfl, zo, (by (rw [hz1]; done))⟩
abbrev oL (m : List (List Int)) (k : Nat) := pbL (((ka1 (ka0 m k ([] : List Int))) : Nat) : Int) 2
theorem k9j (l : List Int) (n : Nat) (m : List (List Int)) (c : Nat) (hn : ka1 l = n) (hc : ka1 m = c) (h1 : c ≤ 65535) (h2 : n + ka1 (bC m) ≤ 900000) (hW : MsW m) (hM : RmW m) : Fun 63 [.c (.ptr 0 0), .c (.d (D.sl (kW m) c))] (kD [(0, some (81, .cs [.own 1 0 n 1 true])), (1, some (5, .ds (dI .u8 l)))]) 2 (.tup []) (kD [(0, some (81, .cs [.own 2 0 (n + (ka1 (bC m))) 1 true])), (1, none), (2, some (5, .ds (dI .u8 (l ++ (bC m)))))]) 3 := by
  refine Fun.mk (n := 33) Tryz.func63 rfl rfl (ka3 rfl) ?_
  intro cx hcx
  refine kG [.no, .no, .no, .call [0, 1] (.tup []) [(0, some (81, .cs [.own 2 0 (n + 2) 1 true])), (1, none), (2, some (5, .ds (dI .u8 (l ++ (pbL (c : Int) 2)))))] 3 [] none] _ [(0, rV 0 0), (1, qX (kW m) c)] [(0, some (81, .cs [.own 2 0 (n + 2) 1 true])), (2, some (5, .ds (dI .u8 (l ++ (pbL ↑c 2)))))] 3 (cE l n (c : Int) zo zo zo) ?_
  refine kV [.no, .no, .no] True [(0, rV 0 0), (12, qX (kW m) c), (13, uV c), (14, iV 0)] trivial ?_
  refine AW.block ?_
  refine kU 2 hcx (fun (x : {x : Nat × Nat × List Int // match x with | (k, q, o) => (k ≤ c) ∧ (l ++ (pbL (c : Int) 2 ++ bN m k) = o) ∧ (ka1 o = q ∧ q = n + 2 + ka1 (bN m k))}) => match x with | ⟨(k, q, o), _⟩ => (⟨[(0, rV 0 0), (12, qX (kW m) c), (13, uV c), (14, uV k)], [(0, some (81, .cs [.own 3 0 q 1 true])), (3, some (5, .ds (dI .u8 o)))], 4⟩ : ES)) (fun x => match x with | ⟨(k, q, o), _⟩ => c - k) ⟨((0 : Nat), ((n + 2) : Nat), ((l ++ (pbL (c : Int) 2)) : List Int)), ⟨zo, (by subst hc; exact u49 _ _), ⟨by rw [ka4, pbL_len, hn], rfl⟩⟩⟩ [(3, 2)] (P := (kQ 0) ∧ (kY (kW m)) ∧ (kQ c) ∧ (kM (c : Int)) ∧ (kM 0) ∧ (kQ 0) ∧ (kQ (n + 2)) ∧ (kY (dI .u8 (l ++ (pbL (c : Int) 2))))) zk ⟨rfl, rfl, rfl, rfl, rfl, rfl, rfl, rfl⟩ ?_
  rintro ⟨⟨k, q, o⟩, hinv0⟩
  obtain ⟨hk, ho, hq⟩ : (k ≤ c) ∧ (l ++ (pbL ((c : Nat) : Int) 2 ++ bN m k) = o) ∧ (ka1 o = q ∧ q = n + 2 + ka1 (bN m k)) := hinv0
  refine qV (l := [(0, rV 0 0), (12, qX (kW m) c), (13, uV c), (14, uV k)]) (g := [(0, some (81, .cs [.own 3 0 q 1 true])), (3, some (5, .ds (dI .u8 o)))]) (nx := 4) rfl rfl rfl ?_
  by_cases hx1 : (((k : Nat) : Int) < ((c : Nat) : Int))
  · refine zr [.b true] [0, 12, 13, 14, 15] [0, 3] (((k : Int) < (c : Int))) [(0, rV 0 0), (12, qX (kW m) c), (13, uV c), (14, uV k), (15, bV true)] [(0, some (81, .cs [.own 3 0 q 1 true])), (3, some (5, .ds (dI .u8 o)))] 4 zo ?_
    refine AW.seq ?_
    refine u1 ?_
    refine AW.seq ?_
    refine AW.block ?_
    have hx2 : R16 (ka0 m k []) := (RmW.at hM k).1
    have hx3 : ka1 (ka0 m k []) ≤ 65535 := (RmW.at hM k).2
    have hx4 : ka1 (bN m k) + (2 + ka1 (ka0 m k []) * 2) + 2 ≤ ka1 (bC m) := u48 hc zo
    have hx5 : ((ka1 (ka0 m k ([] : List Int))) ≤ 1000000) := MsW.at (kL : MsW m) _
    refine kG [.n k, .d (dl (ka0 m k ([] : List Int)) (ka1 (ka0 m k ([] : List Int)))), .no] ((kM (k : Int)) ∧ (k < c) ∧ ((ka5 k (kW m))[0]? = some (dl (ka0 m k ([] : List Int)) (ka1 (ka0 m k ([] : List Int)))))) [(0, rV 0 0), (5, sV .i64 (ka0 m k ([] : List Int)) (ka1 (ka0 m k ([] : List Int)))), (12, qX (kW m) c), (13, uV c), (14, uV k)] [(0, some (81, .cs [.own 3 0 q 1 true])), (3, some (5, .ds (dI .u8 o)))] 4 ⟨rfl, zo, (aF _ _ zo)⟩ ?_
    refine kG [.no, .no, .no, .call [0, 3] (.tup []) [(0, some (81, .cs [.own 2 0 (q + 2) 1 true])), (1, none), (2, some (5, .ds (dI .u8 (o ++ (oL m k)))))] 3 [] none] _ [(0, rV 0 0), (5, sV .i64 (ka0 m k ([] : List Int)) (ka1 (ka0 m k ([] : List Int)))), (12, qX (kW m) c), (13, uV c), (14, uV k)] [(0, some (81, .cs [.own 4 0 (q + 2) 1 true])), (4, some (5, .ds (dI .u8 (o ++ (oL m k)))))] 5 (cE o q (((ka1 (ka0 m k ([] : List Int))) : Nat) : Int) zo zo zo) ?_
    refine kV [.no, .no, .no] True [(0, rV 0 0), (12, qX (kW m) c), (13, uV c), (14, uV k), (22, sV .i64 (ka0 m k ([] : List Int)) (ka1 (ka0 m k ([] : List Int)))), (23, uV (ka1 (ka0 m k ([] : List Int)))), (24, iV 0)] trivial ?_
    refine AW.block ?_
    refine kU 2 hcx (fun (x : {x : Nat × Nat × List Int // match x with | (j, p, b) => (j ≤ ka1 (ka0 m k [])) ∧ (o ++ (pbL ((ka1 (ka0 m k []) : Nat) : Int) 2 ++ oC (ka0 m k []) j) = b) ∧ (ka1 b = p ∧ p = q + 2 + j * 2)}) => match x with | ⟨(j, p, b), _⟩ => (⟨[(0, rV 0 0), (12, qX (kW m) c), (13, uV c), (14, uV k), (22, sV .i64 (ka0 m k ([] : List Int)) (ka1 (ka0 m k ([] : List Int)))), (23, uV (ka1 (ka0 m k ([] : List Int)))), (24, uV j)], [(0, some (81, .cs [.own 5 0 p 1 true])), (5, some (5, .ds (dI .u8 b)))], 6⟩ : ES)) (fun x => match x with | ⟨(j, p, b), _⟩ => ka1 (ka0 m k []) - j) ⟨((0 : Nat), ((q + 2) : Nat), ((o ++ (oL m k)) : List Int)), ⟨zo, (u45 _ _), ⟨by rw [ka4, pbL_len]; omega, by omega⟩⟩⟩ [(5, 4)] (P := (kQ 0) ∧ (kY (kW m)) ∧ (kQ c) ∧ (kM (c : Int)) ∧ (kM (k : Int)) ∧ (kY (dI .i64 (ka0 m k ([] : List Int)))) ∧ (kQ (ka1 (ka0 m k ([] : List Int)))) ∧ (kM (((ka1 (ka0 m k ([] : List Int))) : Nat) : Int)) ∧ (kM 0) ∧ (kQ 0) ∧ (kQ (q + 2)) ∧ (kY (dI .u8 (o ++ (oL m k))))) zk ⟨rfl, rfl, rfl, rfl, rfl, rfl, rfl, rfl, rfl, rfl, rfl, rfl⟩ ?_
    rintro ⟨⟨j, p, b⟩, hinv1⟩
    obtain ⟨hj, hb, hp⟩ : (j ≤ ka1 (ka0 m k [])) ∧ (o ++ (pbL ((ka1 (ka0 m k []) : Nat) : Int) 2 ++ oC (ka0 m k []) j) = b) ∧ (ka1 b = p ∧ p = q + 2 + j * 2) := hinv1
    refine qV (l := [(0, rV 0 0), (12, qX (kW m) c), (13, uV c), (14, uV k), (22, sV .i64 (ka0 m k ([] : List Int)) (ka1 (ka0 m k ([] : List Int)))), (23, uV (ka1 (ka0 m k ([] : List Int)))), (24, uV j)]) (g := [(0, some (81, .cs [.own 5 0 p 1 true])), (5, some (5, .ds (dI .u8 b)))]) (nx := 6) rfl rfl rfl ?_
    by_cases hx6 : (((j : Nat) : Int) < (((ka1 (ka0 m k ([] : List Int))) : Nat) : Int))
    · refine zr [.b true] [0, 12, 13, 14, 22, 23, 24, 25] [0, 5] (((j : Int) < (((ka1 (ka0 m k ([] : List Int))) : Nat) : Int))) [(0, rV 0 0), (12, qX (kW m) c), (13, uV c), (14, uV k), (22, sV .i64 (ka0 m k ([] : List Int)) (ka1 (ka0 m k ([] : List Int)))), (23, uV (ka1 (ka0 m k ([] : List Int)))), (24, uV j), (25, bV true)] [(0, some (81, .cs [.own 5 0 p 1 true])), (5, some (5, .ds (dI .u8 b)))] 6 zo ?_
      refine AW.seq ?_
      refine u1 ?_
      refine AW.seq ?_
      refine AW.block ?_
      have hx7 : 0 ≤ (ka0 (ka0 m k ([] : List Int)) j 0) ∧ (ka0 (ka0 m k ([] : List Int)) j 0) ≤ 65535 := (R16.at (kL : R16 (ka0 m k ([] : List Int))) zo)
      refine kG [.n j, .d (D.lit (.int .i64 (ka0 (ka0 m k ([] : List Int)) j 0))), .no] ((kM (j : Int)) ∧ (j < (ka1 (ka0 m k ([] : List Int)))) ∧ ((ka5 j (dI .i64 (ka0 m k ([] : List Int))))[0]? = some (D.lit (.int .i64 (ka0 (ka0 m k ([] : List Int)) j 0))))) [(0, rV 0 0), (7, iV (ka0 (ka0 m k ([] : List Int)) j 0)), (12, qX (kW m) c), (13, uV c), (14, uV k), (22, sV .i64 (ka0 m k ([] : List Int)) (ka1 (ka0 m k ([] : List Int)))), (23, uV (ka1 (ka0 m k ([] : List Int)))), (24, uV j)] [(0, some (81, .cs [.own 5 0 p 1 true])), (5, some (5, .ds (dI .u8 b)))] 6 ⟨rfl, zo, (qN _ _ _ zo)⟩ ?_
      refine aC [.no, .no, .call [0, 5] (.tup []) [(0, some (81, .cs [.own 2 0 (p + 2) 1 true])), (1, none), (2, some (5, .ds (dI .u8 (b ++ (pbL (ka0 (ka0 m k ([] : List Int)) j 0) 2)))))] 3 [] none] _ [(0, rV 0 0), (12, qX (kW m) c), (13, uV c), (14, uV k), (22, sV .i64 (ka0 m k ([] : List Int)) (ka1 (ka0 m k ([] : List Int)))), (23, uV (ka1 (ka0 m k ([] : List Int)))), (24, uV j)] [(0, some (81, .cs [.own 6 0 (p + 2) 1 true])), (6, some (5, .ds (dI .u8 (b ++ (pbL (ka0 (ka0 m k ([] : List Int)) j 0) 2)))))] 7 (cE b p (ka0 (ka0 m k ([] : List Int)) j 0) zo zo zo) ?_
      refine uG [.w, .no] (qB ((j : Int) + 1)) [(0, rV 0 0), (12, qX (kW m) c), (13, uV c), (14, uV k), (22, sV .i64 (ka0 m k ([] : List Int)) (ka1 (ka0 m k ([] : List Int)))), (23, uV (ka1 (ka0 m k ([] : List Int)))), (24, iV (↑j + 1))] ⟨by omega, by omega⟩ ?_
      exact qH ⟨(((j + 1) : Nat), ((p + 2) : Nat), ((b ++ (pbL (ka0 (ka0 m k ([] : List Int)) j 0) 2)) : List Int)), ⟨zo, (u43 hb), (by simp only [qA, k8, pbL_len, qP, qI, ka4, pbL_len] <;> omega)⟩⟩ [(5, 6)] (P := (kQ 0) ∧ (kY (kW m)) ∧ (kQ c) ∧ (kM (c : Int)) ∧ (kM (k : Int)) ∧ (kY (dI .i64 (ka0 m k ([] : List Int)))) ∧ (kQ (ka1 (ka0 m k ([] : List Int)))) ∧ (kM (((ka1 (ka0 m k ([] : List Int))) : Nat) : Int)) ∧ (q1S j) ∧ (kQ 0) ∧ (kQ (p + 2)) ∧ (kY (dI .u8 (b ++ (pbL (ka0 (ka0 m k ([] : List Int)) j 0) 2))))) zk ⟨rfl, rfl, rfl, rfl, rfl, rfl, rfl, rfl, (by rfl), rfl, rfl, rfl⟩ (show ka1 (ka0 m k []) - (j + 1) < ka1 (ka0 m k []) - j from zo)
    · refine zr [.b false] [0, 12, 13, 14, 22, 23, 24, 25] [0, 5] (¬ ((j : Int) < (((ka1 (ka0 m k ([] : List Int))) : Nat) : Int))) [(0, rV 0 0), (12, qX (kW m) c), (13, uV c), (14, uV k), (22, sV .i64 (ka0 m k ([] : List Int)) (ka1 (ka0 m k ([] : List Int)))), (23, uV (ka1 (ka0 m k ([] : List Int)))), (24, uV j), (25, bV false)] [(0, some (81, .cs [.own 5 0 p 1 true])), (5, some (5, .ds (dI .u8 b)))] 6 zo ?_
      refine AW.seq ?_
      refine zf ?_
      refine AW.exit ?_
      have hz1 : o ++ wpL (ka0 m k []) = b := u44 hb (by omega)
      have hz2 : ka1 (bN m (k + 1)) = ka1 (bN m k) + (2 + ka1 (ka0 m k []) * 2) := u1l _ _
      refine aC [.w, .no] (qB ((k : Int) + 1)) [(0, rV 0 0), (12, qX (kW m) c), (13, uV c), (14, iV (↑k + 1))] [(0, some (81, .cs [.own 5 0 p 1 true])), (5, some (5, .ds (dI .u8 b)))] 6 ⟨by omega, by omega⟩ ?_
      exact qH ⟨(((k + 1) : Nat), (p : Nat), (b : List Int)), ⟨zo, (u46 hc ho hz1), zo⟩⟩ [(3, 5)] (P := (kQ 0) ∧ (kY (kW m)) ∧ (kQ c) ∧ (kM (c : Int)) ∧ (q1S k) ∧ (kQ 0) ∧ (kQ p) ∧ (kY (dI .u8 b))) zk ⟨rfl, rfl, rfl, rfl, (by rfl), rfl, rfl, rfl⟩ (show c - (k + 1) < c - k from zo)
  · refine zr [.b false] [0, 12, 13, 14, 15] [0, 3] (¬ ((k : Int) < (c : Int))) [(0, rV 0 0), (12, qX (kW m) c), (13, uV c), (14, uV k), (15, bV false)] [(0, some (81, .cs [.own 3 0 q 1 true])), (3, some (5, .ds (dI .u8 o)))] 4 zo ?_
    refine AW.seq ?_
    refine zf ?_
    refine AW.exit ?_
    have hz1 : l ++ bC m = o := u7m hc ho (by omega); have hz2 : n + ka1 (bC m) = q := u1m hz1 hn hq.1
    exact kB (.inl rfl) [(2, 3)] (P := (kQ 0) ∧ (((n + (ka1 (bC m))) : Nat) = q) ∧ (((dI .u8 (l ++ (bC m))) : List D) = (dI .u8 o))) zk ⟨rfl, (by exact hz2), (by (rw [hz1]; done))⟩
abbrev oK (bs : List Bx) (k : Nat) : BC := .ds [iD (vU bs k), D.sl (dI .i64 (aE bs k)) (yJ bs k), D.sl (kW (qD bs k)) (ka1 (qD bs k)), D.sl (dI .i64 (cH bs k)) (aA bs k)]
theorem k6x (l : List Int) (n : Nat) (bs : List Bx) (c : Nat) (hn : ka1 l = n) (hc : ka1 bs = c) (h1 : c ≤ 65535) (h2 : n + ka1 (vW bs) ≤ 900000) (hW : BsW bs) (hM : RbW bs) : Fun 40 [.c (.ptr 0 0), .c (.d (D.sl (kX bs) c))] (kD [(0, some (81, .cs [.own 1 0 n 1 true])), (1, some (5, .ds (dI .u8 l)))]) 2 (.tup []) (kD [(0, some (81, .cs [.own 2 0 (n + (ka1 (vW bs))) 1 true])), (1, none), (2, some (5, .ds (dI .u8 (l ++ (vW bs)))))]) 3 := by
  refine Fun.mk (n := 33) Tryz.func40 rfl rfl (ka3 rfl) ?_
  intro cx hcx
  refine kG [.no, .no, .no, .call [0, 1] (.tup []) [(0, some (81, .cs [.own 2 0 (n + 2) 1 true])), (1, none), (2, some (5, .ds (dI .u8 (l ++ (pbL (c : Int) 2)))))] 3 [] none] _ [(0, rV 0 0), (1, .e (u2 bs c))] [(0, some (81, .cs [.own 2 0 (n + 2) 1 true])), (2, some (5, .ds (dI .u8 (l ++ (pbL ↑c 2)))))] 3 (cE l n (c : Int) zo zo zo) ?_
  refine kV [.no, .no, .no] True [(0, rV 0 0), (10, .e (u2 bs c)), (11, uV c), (12, iV 0)] trivial ?_
  refine AW.block ?_
  refine kU 2 hcx (fun (x : {x : Nat × Nat × List Int // match x with | (k, q, o) => (k ≤ c) ∧ (l ++ (pbL (c : Int) 2 ++ aZ bs k) = o) ∧ (ka1 o = q ∧ q = n + 2 + ka1 (aZ bs k))}) => match x with | ⟨(k, q, o), _⟩ => (⟨[(0, rV 0 0), (10, .e (u2 bs c)), (11, uV c), (12, uV k)], [(0, some (81, .cs [.own 3 0 q 1 true])), (3, some (5, .ds (dI .u8 o)))], 4⟩ : ES)) (fun x => match x with | ⟨(k, q, o), _⟩ => c - k) ⟨((0 : Nat), ((n + 2) : Nat), ((l ++ (pbL (c : Int) 2)) : List Int)), ⟨zo, (by subst hc; exact u4g _ _), ⟨by rw [ka4, pbL_len, hn], rfl⟩⟩⟩ [(3, 2)] (P := (kQ 0) ∧ (kY (kX bs)) ∧ (kQ c) ∧ (kM (c : Int)) ∧ (kM 0) ∧ (kQ 0) ∧ (kQ (n + 2)) ∧ (kY (dI .u8 (l ++ (pbL (c : Int) 2))))) zk ⟨rfl, rfl, rfl, rfl, rfl, rfl, rfl, rfl⟩ ?_
  rintro ⟨⟨k, q, o⟩, hinv0⟩
  obtain ⟨hk, ho, hq⟩ : (k ≤ c) ∧ (l ++ (pbL ((c : Nat) : Int) 2 ++ aZ bs k) = o) ∧ (ka1 o = q ∧ q = n + 2 + ka1 (aZ bs k)) := hinv0
  refine qV (l := [(0, rV 0 0), (10, .e (u2 bs c)), (11, uV c), (12, uV k)]) (g := [(0, some (81, .cs [.own 3 0 q 1 true])), (3, some (5, .ds (dI .u8 o)))]) (nx := 4) rfl rfl rfl ?_
  by_cases hx1 : (((k : Nat) : Int) < ((c : Nat) : Int))
  · refine zr [.b true] [0, 10, 11, 12, 13] [0, 3] (((k : Int) < (c : Int))) [(0, rV 0 0), (10, .e (u2 bs c)), (11, uV c), (12, uV k), (13, bV true)] [(0, some (81, .cs [.own 3 0 q 1 true])), (3, some (5, .ds (dI .u8 o)))] 4 zo ?_
    refine AW.seq ?_
    refine u1 ?_
    refine AW.seq ?_
    refine AW.block ?_
    obtain ⟨hx2, hx3, hx4, hx5, hx6, hx7, hx8⟩ := RbW.at hM k
    have hx9 : ka1 (aZ bs k) + (2 + (2 + yJ bs k * 8) + ka1 (bC (qD bs k)) + (2 + aA bs k * 8)) + 2 ≤ ka1 (vW bs) := u4f hc zo
    have hx10 : ka1 (aZ bs (k + 1)) = ka1 (aZ bs k) + (2 + (2 + yJ bs k * 8) + ka1 (bC (qD bs k)) + (2 + aA bs k * 8)) := u4d _ _
    obtain ⟨hx11, hx12, hx13, hx14, hx15⟩ := BsW.at (kL : BsW bs) (k)
    refine kG [.n k, .ds (eP bs k), .no, .no] ((kM (k : Int)) ∧ (k < c) ∧ (List.take 4 (ka5 (k * 4) (kX bs)) = (eP bs k)) ∧ (((eP bs k) : List D).length = 4)) [(0, rV 0 0), (5, rV 4 0), (10, .e (u2 bs c)), (11, uV c), (12, uV k)] [(0, some (81, .cs [.own 3 0 q 1 true])), (3, some (5, .ds (dI .u8 o))), (4, some (53, (oK bs k)))] 5 ⟨rfl, zo, (f9 zo), rfl⟩ ?_
    refine kG [.no, .no, .no, .call [0, 3] (.tup []) [(0, some (81, .cs [.own 2 0 (q + 2) 1 true])), (1, none), (2, some (5, .ds (dI .u8 (o ++ (pbL (vU bs k) 2)))))] 3 [] none] _ [(0, rV 0 0), (5, rV 4 0), (10, .e (u2 bs c)), (11, uV c), (12, uV k)] [(0, some (81, .cs [.own 5 0 (q + 2) 1 true])), (4, some (53, (oK bs k))), (5, some (5, .ds (dI .u8 (o ++ (pbL (vU bs k) 2)))))] 6 (cE o q (vU bs k) zo zo zo) ?_
    refine kG [.no, .no, .no, .call [0, 5] (.tup []) [(0, some (81, .cs [.own 2 0 ((q + 2) + (2 + ((yJ bs k) * 8))) 1 true])), (1, none), (2, some (5, .ds (dI .u8 ((o ++ (pbL (vU bs k) 2)) ++ (aS (aE bs k) (yJ bs k))))))] 3 [] none] _ [(0, rV 0 0), (5, rV 4 0), (10, .e (u2 bs c)), (11, uV c), (12, uV k)] [(0, some (81, .cs [.own 6 0 ((q + 2) + (2 + ((yJ bs k) * 8))) 1 true])), (4, some (53, (oK bs k))), (6, some (5, .ds (dI .u8 ((o ++ (pbL (vU bs k) 2)) ++ (aS (aE bs k) (yJ bs k))))))] 7 (k6w (o ++ (pbL (vU bs k) 2)) (q + 2) (aE bs k) (yJ bs k) yV zo zo zo zo) ?_
    refine kG [.no, .no, .no, .call [0, 6] (.tup []) [(0, some (81, .cs [.own 2 0 (((q + 2) + (2 + ((yJ bs k) * 8))) + (ka1 (bC (qD bs k)))) 1 true])), (1, none), (2, some (5, .ds (dI .u8 (((o ++ (pbL (vU bs k) 2)) ++ (aS (aE bs k) (yJ bs k))) ++ (bC (qD bs k))))))] 3 [] none] _ [(0, rV 0 0), (5, rV 4 0), (10, .e (u2 bs c)), (11, uV c), (12, uV k)] [(0, some (81, .cs [.own 7 0 (((q + 2) + (2 + ((yJ bs k) * 8))) + (ka1 (bC (qD bs k)))) 1 true])), (4, some (53, (oK bs k))), (7, some (5, .ds (dI .u8 (((o ++ (pbL (vU bs k) 2)) ++ (aS (aE bs k) (yJ bs k))) ++ (bC (qD bs k))))))] 8 (k9j ((o ++ (pbL (vU bs k) 2)) ++ (aS (aE bs k) (yJ bs k))) ((q + 2) + (2 + ((yJ bs k) * 8))) (qD bs k) (ka1 (qD bs k)) yV rfl zo zo (cG (kL : BsW bs) _) zo) ?_
    refine aC [.no, .no, .no, .call [0, 7] (.tup []) [(0, some (81, .cs [.own 2 0 ((((q + 2) + (2 + ((yJ bs k) * 8))) + (ka1 (bC (qD bs k)))) + (2 + ((aA bs k) * 8))) 1 true])), (1, none), (2, some (5, .ds (dI .u8 ((((o ++ (pbL (vU bs k) 2)) ++ (aS (aE bs k) (yJ bs k))) ++ (bC (qD bs k))) ++ (aS (cH bs k) (aA bs k))))))] 3 [] none] _ [(0, rV 0 0), (10, .e (u2 bs c)), (11, uV c), (12, uV k)] [(0, some (81, .cs [.own 8 0 ((((q + 2) + (2 + ((yJ bs k) * 8))) + (ka1 (bC (qD bs k)))) + (2 + ((aA bs k) * 8))) 1 true])), (8, some (5, .ds (dI .u8 ((((o ++ (pbL (vU bs k) 2)) ++ (aS (aE bs k) (yJ bs k))) ++ (bC (qD bs k))) ++ (aS (cH bs k) (aA bs k))))))] 9 (k6w (((o ++ (pbL (vU bs k) 2)) ++ (aS (aE bs k) (yJ bs k))) ++ (bC (qD bs k))) (((q + 2) + (2 + ((yJ bs k) * 8))) + (ka1 (bC (qD bs k)))) (cH bs k) (aA bs k) yV zo zo zo zo) ?_
    refine uG [.w, .no] (qB ((k : Int) + 1)) [(0, rV 0 0), (10, .e (u2 bs c)), (11, uV c), (12, iV (↑k + 1))] ⟨by omega, by omega⟩ ?_
    exact qH ⟨(((k + 1) : Nat), (((((q + 2) + (2 + ((yJ bs k) * 8))) + (ka1 (bC (qD bs k)))) + (2 + ((aA bs k) * 8))) : Nat), (((((o ++ (pbL (vU bs k) 2)) ++ (aS (aE bs k) (yJ bs k))) ++ (bC (qD bs k))) ++ (aS (cH bs k) (aA bs k))) : List Int)), ⟨zo, (u4c hc ho), ⟨by simp only [qA, k8, pbL_len, qP, qI, ka4, pbL_len, qI] <;> omega, by omega⟩⟩⟩ [(3, 8)] (P := (kQ 0) ∧ (kY (kX bs)) ∧ (kQ c) ∧ (kM (c : Int)) ∧ (q1S k) ∧ (kQ 0) ∧ (kQ ((((q + 2) + (2 + ((yJ bs k) * 8))) + (ka1 (bC (qD bs k)))) + (2 + ((aA bs k) * 8)))) ∧ (kY (dI .u8 ((((o ++ (pbL (vU bs k) 2)) ++ (aS (aE bs k) (yJ bs k))) ++ (bC (qD bs k))) ++ (aS (cH bs k) (aA bs k)))))) zk ⟨rfl, rfl, rfl, rfl, (by rfl), rfl, rfl, rfl⟩ (show c - (k + 1) < c - k from zo)
  · refine zr [.b false] [0, 10, 11, 12, 13] [0, 3] (¬ ((k : Int) < (c : Int))) [(0, rV 0 0), (10, .e (u2 bs c)), (11, uV c), (12, uV k), (13, bV false)] [(0, some (81, .cs [.own 3 0 q 1 true])), (3, some (5, .ds (dI .u8 o)))] 4 zo ?_
    refine AW.seq ?_
    refine zf ?_
    refine AW.exit ?_
    have hz1 : l ++ vW bs = o := u4e hc ho (by omega); have hz2 : n + ka1 (vW bs) = q := u1m hz1 hn hq.1
    exact kB (.inl rfl) [(2, 3)] (P := (kQ 0) ∧ (((n + (ka1 (vW bs))) : Nat) = q) ∧ (((dI .u8 (l ++ (vW bs))) : List D) = (dI .u8 o))) zk ⟨rfl, (by exact hz2), (by (rw [hz1]; done))⟩
theorem k70 (id : Int) (nm : List Int) (d1 d2 d3 d4 d5 : Int) (bs : List Bx) (n : Nat) (hy : Byt nm) (hl : ka1 nm ≤ 64) (hn : ka1 bs = n) (h1 : n ≤ 8) (hW : BsW bs) (hM : RbW bs) (h2 : ka1 (vW bs) ≤ 800000) (hi : 0 ≤ id ∧ id ≤ 18446744073709551615) (hd : 0 ≤ d1 ∧ d1 ≤ 65535 ∧ 0 ≤ d2 ∧ d2 ≤ 65535 ∧ 0 ≤ d3 ∧ d3 ≤ 4294967295 ∧ 0 ≤ d4 ∧ d4 ≤ 65535 ∧ 0 ≤ d5 ∧ d5 ≤ 65535) (hV : vS nm d1 d2 d3 d4 d5 bs = true) : Fun 13 [.agg [.d (D.lit (.int .u64 id)), .d (D.lit (.string (strOfNums nm))), iC d1, iC d2, iC d3, iC d4, iC d5, .d (D.sl (kX bs) n)]] (kD []) 0 (.tup [.c (.d (D.sl (dI .u8 ((l8 id nm d1 d2 d3 d4 d5 bs) ++ (pbL (kI (l8 id nm d1 d2 d3 d4 d5 bs)) 4))) (((ka1 (vW bs)) + (ka1 nm)) + 29))), iE 0]) (kD []) 0 := by
  refine Fun.mk (n := 53) Tryz.func13 rfl rfl (ka3 rfl) ?_
  intro cx hcx
  refine kG [.no, .no, .no] True [(1, rV 0 0)] [(0, some (31, .ds [D.lit (.int .u64 id), D.lit (.string (strOfNums nm)), iD d1, iD d2, iD d3, iD d4, iD d5, D.sl (kX bs) n]))] 1 trivial ?_
  refine AW.seq ?_
  refine kV [.no, .call [] (bV true) [] 0 [] none, .no] (Fun 14 [.agg [.d (D.lit (.int .u64 id)), .d (D.lit (.string (strOfNums nm))), iC d1, iC d2, iC d3, iC d4, iC d5, .d (D.sl (kX bs) n)]] (kD []) 0 (bV true) (kD []) 0) [(1, rV 0 0), (7, bV false)] (by have h0 := (jE id nm d1 d2 d3 d4 d5 bs n (kL : Byt nm) zo zo zo (kL : BsW bs)); rw [hV] at h0; exact h0) ?_
  refine uM ?_
  refine kG (kJ 4 [.call [] (oV 0 0 12 1) [(0, some (5, .ds (dI .u8 (([83, 78, 68, 49] : List Int) ++ (pbL id 8)))))] 1 [none] none, .no, .no, .no]) ((1 ≤ 4) ∧ ([D.lit (.int .u8 83), D.lit (.int .u8 78), D.lit (.int .u8 68), D.lit (.int .u8 49)].length = 4 * 1) ∧ (lA (oV 0 0 12 1) = true) ∧ ((dI .u8 (([83, 78, 68, 49] : List Int) ++ (pbL id 8))).all z9 = true) ∧ (_)) [(1, rV 0 0), (4, rV 3 0)] [(0, some (31, .ds [D.lit (.int .u64 id), D.lit (.string (strOfNums nm)), iD d1, iD d2, iD d3, iD d4, iD d5, D.sl (kX bs) n])), (2, some (5, .ds (dI .u8 (([83, 78, 68, 49] : List Int) ++ (pbL id 8))))), (3, some (81, .cs [.own 2 0 12 1 true]))] 4 ⟨zo, bB, rfl, (by exact u0y _ _), (W_Put64 ([83, 78, 68, 49] : List Int) 4 id yV zo zo)⟩ ?_
  refine kG [.no, .no, .no, .call [3, 2] (.tup []) [(0, some (81, .cs [.own 2 0 (12 + (1 + (ka1 nm))) 1 true])), (1, none), (2, some (5, .ds (dI .u8 ((([83, 78, 68, 49] : List Int) ++ (pbL id 8)) ++ (yB nm)))))] 3 [] none] _ [(1, rV 0 0), (4, rV 3 0)] [(0, some (31, .ds [D.lit (.int .u64 id), D.lit (.string (strOfNums nm)), iD d1, iD d2, iD d3, iD d4, iD d5, D.sl (kX bs) n])), (3, some (81, .cs [.own 4 0 (12 + (1 + (ka1 nm))) 1 true])), (4, some (5, .ds (dI .u8 ((([83, 78, 68, 49] : List Int) ++ (pbL id 8)) ++ (yB nm)))))] 5 (u7g (([83, 78, 68, 49] : List Int) ++ (pbL id 8)) nm 12 yV zo (kL : Byt nm) zo) ?_
  refine kG [.no, .no, .no, .call [3, 4] (.tup []) [(0, some (81, .cs [.own 2 0 ((12 + (1 + (ka1 nm))) + 2) 1 true])), (1, none), (2, some (5, .ds (dI .u8 (((([83, 78, 68, 49] : List Int) ++ (pbL id 8)) ++ (yB nm)) ++ (pbL d1 2)))))] 3 [] none] _ [(1, rV 0 0), (4, rV 3 0)] [(0, some (31, .ds [D.lit (.int .u64 id), D.lit (.string (strOfNums nm)), iD d1, iD d2, iD d3, iD d4, iD d5, D.sl (kX bs) n])), (3, some (81, .cs [.own 5 0 ((12 + (1 + (ka1 nm))) + 2) 1 true])), (5, some (5, .ds (dI .u8 (((([83, 78, 68, 49] : List Int) ++ (pbL id 8)) ++ (yB nm)) ++ (pbL d1 2)))))] 6 (cE ((([83, 78, 68, 49] : List Int) ++ (pbL id 8)) ++ (yB nm)) (12 + (1 + (ka1 nm))) d1 yV zo zo) ?_
  refine kG [.no, .no, .no, .call [3, 5] (.tup []) [(0, some (81, .cs [.own 2 0 (((12 + (1 + (ka1 nm))) + 2) + 2) 1 true])), (1, none), (2, some (5, .ds (dI .u8 ((((([83, 78, 68, 49] : List Int) ++ (pbL id 8)) ++ (yB nm)) ++ (pbL d1 2)) ++ (pbL d2 2)))))] 3 [] none] _ [(1, rV 0 0), (4, rV 3 0)] [(0, some (31, .ds [D.lit (.int .u64 id), D.lit (.string (strOfNums nm)), iD d1, iD d2, iD d3, iD d4, iD d5, D.sl (kX bs) n])), (3, some (81, .cs [.own 6 0 (((12 + (1 + (ka1 nm))) + 2) + 2) 1 true])), (6, some (5, .ds (dI .u8 ((((([83, 78, 68, 49] : List Int) ++ (pbL id 8)) ++ (yB nm)) ++ (pbL d1 2)) ++ (pbL d2 2)))))] 7 (cE (((([83, 78, 68, 49] : List Int) ++ (pbL id 8)) ++ (yB nm)) ++ (pbL d1 2)) ((12 + (1 + (ka1 nm))) + 2) d2 yV zo zo) ?_
  refine kG [.no, .no, .no, .call [3, 6] (.tup []) [(0, some (81, .cs [.own 2 0 ((((12 + (1 + (ka1 nm))) + 2) + 2) + 4) 1 true])), (1, none), (2, some (5, .ds (dI .u8 (((((([83, 78, 68, 49] : List Int) ++ (pbL id 8)) ++ (yB nm)) ++ (pbL d1 2)) ++ (pbL d2 2)) ++ (pbL d3 4)))))] 3 [] none] _ [(1, rV 0 0), (4, rV 3 0)] [(0, some (31, .ds [D.lit (.int .u64 id), D.lit (.string (strOfNums nm)), iD d1, iD d2, iD d3, iD d4, iD d5, D.sl (kX bs) n])), (3, some (81, .cs [.own 7 0 ((((12 + (1 + (ka1 nm))) + 2) + 2) + 4) 1 true])), (7, some (5, .ds (dI .u8 (((((([83, 78, 68, 49] : List Int) ++ (pbL id 8)) ++ (yB nm)) ++ (pbL d1 2)) ++ (pbL d2 2)) ++ (pbL d3 4)))))] 8 (x6 ((((([83, 78, 68, 49] : List Int) ++ (pbL id 8)) ++ (yB nm)) ++ (pbL d1 2)) ++ (pbL d2 2)) (((12 + (1 + (ka1 nm))) + 2) + 2) d3 yV zo zo) ?_
  refine kG [.no, .no, .no, .call [3, 7] (.tup []) [(0, some (81, .cs [.own 2 0 (((((12 + (1 + (ka1 nm))) + 2) + 2) + 4) + 2) 1 true])), (1, none), (2, some (5, .ds (dI .u8 ((((((([83, 78, 68, 49] : List Int) ++ (pbL id 8)) ++ (yB nm)) ++ (pbL d1 2)) ++ (pbL d2 2)) ++ (pbL d3 4)) ++ (pbL d4 2)))))] 3 [] none] _ [(1, rV 0 0), (4, rV 3 0)] [(0, some (31, .ds [D.lit (.int .u64 id), D.lit (.string (strOfNums nm)), iD d1, iD d2, iD d3, iD d4, iD d5, D.sl (kX bs) n])), (3, some (81, .cs [.own 8 0 (((((12 + (1 + (ka1 nm))) + 2) + 2) + 4) + 2) 1 true])), (8, some (5, .ds (dI .u8 ((((((([83, 78, 68, 49] : List Int) ++ (pbL id 8)) ++ (yB nm)) ++ (pbL d1 2)) ++ (pbL d2 2)) ++ (pbL d3 4)) ++ (pbL d4 2)))))] 9 (cE (((((([83, 78, 68, 49] : List Int) ++ (pbL id 8)) ++ (yB nm)) ++ (pbL d1 2)) ++ (pbL d2 2)) ++ (pbL d3 4)) ((((12 + (1 + (ka1 nm))) + 2) + 2) + 4) d4 yV zo zo) ?_
  refine kG [.no, .no, .no, .call [3, 8] (.tup []) [(0, some (81, .cs [.own 2 0 ((((((12 + (1 + (ka1 nm))) + 2) + 2) + 4) + 2) + 2) 1 true])), (1, none), (2, some (5, .ds (dI .u8 (((((((([83, 78, 68, 49] : List Int) ++ (pbL id 8)) ++ (yB nm)) ++ (pbL d1 2)) ++ (pbL d2 2)) ++ (pbL d3 4)) ++ (pbL d4 2)) ++ (pbL d5 2)))))] 3 [] none] _ [(1, rV 0 0), (4, rV 3 0)] [(0, some (31, .ds [D.lit (.int .u64 id), D.lit (.string (strOfNums nm)), iD d1, iD d2, iD d3, iD d4, iD d5, D.sl (kX bs) n])), (3, some (81, .cs [.own 9 0 ((((((12 + (1 + (ka1 nm))) + 2) + 2) + 4) + 2) + 2) 1 true])), (9, some (5, .ds (dI .u8 (((((((([83, 78, 68, 49] : List Int) ++ (pbL id 8)) ++ (yB nm)) ++ (pbL d1 2)) ++ (pbL d2 2)) ++ (pbL d3 4)) ++ (pbL d4 2)) ++ (pbL d5 2)))))] 10 (cE ((((((([83, 78, 68, 49] : List Int) ++ (pbL id 8)) ++ (yB nm)) ++ (pbL d1 2)) ++ (pbL d2 2)) ++ (pbL d3 4)) ++ (pbL d4 2)) (((((12 + (1 + (ka1 nm))) + 2) + 2) + 4) + 2) d5 yV zo zo) ?_
  refine kG [.no, .no, .no, .call [3, 9] (.tup []) [(0, some (81, .cs [.own 2 0 (((((((12 + (1 + (ka1 nm))) + 2) + 2) + 4) + 2) + 2) + (ka1 (vW bs))) 1 true])), (1, none), (2, some (5, .ds (dI .u8 ((((((((([83, 78, 68, 49] : List Int) ++ (pbL id 8)) ++ (yB nm)) ++ (pbL d1 2)) ++ (pbL d2 2)) ++ (pbL d3 4)) ++ (pbL d4 2)) ++ (pbL d5 2)) ++ (vW bs)))))] 3 [] none] _ [(4, rV 3 0)] [(3, some (81, .cs [.own 10 0 (((((((12 + (1 + (ka1 nm))) + 2) + 2) + 4) + 2) + 2) + (ka1 (vW bs))) 1 true])), (10, some (5, .ds (dI .u8 ((((((((([83, 78, 68, 49] : List Int) ++ (pbL id 8)) ++ (yB nm)) ++ (pbL d1 2)) ++ (pbL d2 2)) ++ (pbL d3 4)) ++ (pbL d4 2)) ++ (pbL d5 2)) ++ (vW bs)))))] 11 (k6x (((((((([83, 78, 68, 49] : List Int) ++ (pbL id 8)) ++ (yB nm)) ++ (pbL d1 2)) ++ (pbL d2 2)) ++ (pbL d3 4)) ++ (pbL d4 2)) ++ (pbL d5 2)) ((((((12 + (1 + (ka1 nm))) + 2) + 2) + 4) + 2) + 2) bs n yV zo zo zo (kL : BsW bs) zo) ?_
  refine AW.freeze 10 (l' := [(4, rV 3 0)]) (g' := [(3, some (81, .ds [db ((((((((([83, 78, 68, 49] : List Int) ++ (pbL id 8)) ++ (yB nm)) ++ (pbL d1 2)) ++ (pbL d2 2)) ++ (pbL d3 4)) ++ (pbL d4 2)) ++ (pbL d5 2)) ++ (vW bs)) (((((((12 + (1 + (ka1 nm))) + 2) + 2) + 4) + 2) + 2) + (ka1 (vW bs)))]))]) rfl (FzS.cons rfl (.same _) FzS.nil) (FzG.to (bc := .cs [.own 10 0 (((((((12 + (1 + (ka1 nm))) + 2) + 2) + 4) + 2) + 2) + (ka1 (vW bs))) 1 true]) rfl (by rfl) (FzL.cons (@FzC.own 10 ((dI .u8 ((((((((([83, 78, 68, 49] : List Int) ++ (pbL id 8)) ++ (yB nm)) ++ (pbL d1 2)) ++ (pbL d2 2)) ++ (pbL d3 4)) ++ (pbL d4 2)) ++ (pbL d5 2)) ++ (vW bs))) : List D) 0 (((((((12 + (1 + (ka1 nm))) + 2) + 2) + 4) + 2) + 2) + (ka1 (vW bs))) 1 true ((dI .u8 ((((((((([83, 78, 68, 49] : List Int) ++ (pbL id 8)) ++ (yB nm)) ++ (pbL d1 2)) ++ (pbL d2 2)) ++ (pbL d3 4)) ++ (pbL d4 2)) ++ (pbL d5 2)) ++ (vW bs))) : List D) (by rw [List.drop_zero, kd0, List.take_of_length_le (by (simp only [qA, k8, pbL_len, qP, qI, uF, ka4, kb3, kb6, kb4, kb9, kb8, kc4, kc8, kc6, kd0] <;> omega))]) bB) FzL.nil) FzG.nil) ?_
  have hx1 : (((0 : Int) ≤ (kI ((((((((([83, 78, 68, 49] : List Int) ++ (pbL id 8)) ++ (yB nm)) ++ (pbL d1 2)) ++ (pbL d2 2)) ++ (pbL d3 4)) ++ (pbL d4 2)) ++ (pbL d5 2)) ++ (vW bs)))) ∧ ((kI ((((((((([83, 78, 68, 49] : List Int) ++ (pbL id 8)) ++ (yB nm)) ++ (pbL d1 2)) ++ (pbL d2 2)) ++ (pbL d3 4)) ++ (pbL d4 2)) ++ (pbL d5 2)) ++ (vW bs))) ≤ 4294967295)) := cY _
  refine kG (kJ 8 [.call [] (kP (D.lit (.int .u32 (kI ((((((((([83, 78, 68, 49] : List Int) ++ (pbL id 8)) ++ (yB nm)) ++ (pbL d1 2)) ++ (pbL d2 2)) ++ (pbL d3 4)) ++ (pbL d4 2)) ++ (pbL d5 2)) ++ (vW bs)))))) [] 0 [] none, .call [] (sV .u8 (((((((((([83, 78, 68, 49] : List Int) ++ (pbL id 8)) ++ (yB nm)) ++ (pbL d1 2)) ++ (pbL d2 2)) ++ (pbL d3 4)) ++ (pbL d4 2)) ++ (pbL d5 2)) ++ (vW bs)) ++ (pbL (kI ((((((((([83, 78, 68, 49] : List Int) ++ (pbL id 8)) ++ (yB nm)) ++ (pbL d1 2)) ++ (pbL d2 2)) ++ (pbL d3 4)) ++ (pbL d4 2)) ++ (pbL d5 2)) ++ (vW bs))) 4)) ((((((((12 + (1 + (ka1 nm))) + 2) + 2) + 4) + 2) + 2) + (ka1 (vW bs))) + 4)) [] 1 [] none, .no, .no]) ((_) ∧ (_)) [(2, sV .u8 (((((((((([83, 78, 68, 49] : List Int) ++ (pbL id 8)) ++ (yB nm)) ++ (pbL d1 2)) ++ (pbL d2 2)) ++ (pbL d3 4)) ++ (pbL d4 2)) ++ (pbL d5 2)) ++ (vW bs)) ++ (pbL (kI ((((((((([83, 78, 68, 49] : List Int) ++ (pbL id 8)) ++ (yB nm)) ++ (pbL d1 2)) ++ (pbL d2 2)) ++ (pbL d3 4)) ++ (pbL d4 2)) ++ (pbL d5 2)) ++ (vW bs))) 4)) ((((((((12 + (1 + (ka1 nm))) + 2) + 2) + 4) + 2) + 2) + (ka1 (vW bs))) + 4)), (3, iV 0)] [] 12 ⟨(k6y ((((((((([83, 78, 68, 49] : List Int) ++ (pbL id 8)) ++ (yB nm)) ++ (pbL d1 2)) ++ (pbL d2 2)) ++ (pbL d3 4)) ++ (pbL d4 2)) ++ (pbL d5 2)) ++ (vW bs)) (((((((12 + (1 + (ka1 nm))) + 2) + 2) + 4) + 2) + 2) + (ka1 (vW bs))) yV zo (Byt.app (Byt.app (Byt.app (Byt.app (Byt.app (Byt.app (Byt.app (Byt.app (Byt.cons zo (Byt.cons zo (Byt.cons zo (Byt.cons zo Byt.nil)))) (pbL_byt _ _)) (zK (kL : Byt nm) zo)) (pbL_byt _ _)) (pbL_byt _ _)) (pbL_byt _ _)) (pbL_byt _ _)) (pbL_byt _ _)) (zC _))), (W_Put32_z ((((((((([83, 78, 68, 49] : List Int) ++ (pbL id 8)) ++ (yB nm)) ++ (pbL d1 2)) ++ (pbL d2 2)) ++ (pbL d3 4)) ++ (pbL d4 2)) ++ (pbL d5 2)) ++ (vW bs)) (((((((12 + (1 + (ka1 nm))) + 2) + 2) + 4) + 2) + 2) + (ka1 (vW bs))) (kI ((((((((([83, 78, 68, 49] : List Int) ++ (pbL id 8)) ++ (yB nm)) ++ (pbL d1 2)) ++ (pbL d2 2)) ++ (pbL d3 4)) ++ (pbL d4 2)) ++ (pbL d5 2)) ++ (vW bs))) yV zo zo)⟩ ?_
  refine AW.ret ?_
  exact kB (.inr rfl) [] (P := (((dI .u8 ((l8 id nm d1 d2 d3 d4 d5 bs) ++ (pbL (kI (l8 id nm d1 d2 d3 d4 d5 bs)) 4))) : List D) = (dI .u8 (((((((((([83, 78, 68, 49] : List Int) ++ (pbL id 8)) ++ (yB nm)) ++ (pbL d1 2)) ++ (pbL d2 2)) ++ (pbL d3 4)) ++ (pbL d4 2)) ++ (pbL d5 2)) ++ (vW bs)) ++ (pbL (kI ((((((((([83, 78, 68, 49] : List Int) ++ (pbL id 8)) ++ (yB nm)) ++ (pbL d1 2)) ++ (pbL d2 2)) ++ (pbL d3 4)) ++ (pbL d4 2)) ++ (pbL d5 2)) ++ (vW bs))) 4)))) ∧ (((((ka1 (vW bs)) + (ka1 nm)) + 29) : Nat) = ((((((((12 + (1 + (ka1 nm))) + 2) + 2) + 4) + 2) + 2) + (ka1 (vW bs))) + 4)) ∧ (kM 0)) zk ⟨(by rfl), zo, rfl⟩
end Go.Proofs.YtdbjebdomdnbkaaGreat
