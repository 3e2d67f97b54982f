/- Names, descriptors. No statement is proved here. -/
import Derived.Test.YtalbpleglapihaaZD11C
namespace Go.Proofs.Ytalbpleglapihaa
open Go.ChangeShapes Go.WideShapes Go.ChangeAt Go.RowKit
open Bool renaming and_eq_true → kc0, and_false → ke2, eq_false_or_eq_true → kb6
open List renaming append_nil → kc6, drop → ka7, drop_zero → kc9, getD → ka0, getD_eq_getElem?_getD → ka8, getElem?_eq_getElem → ka9, length → ka1, length_append → ka4, length_cons → kb2, length_drop → kb1, length_map → kd0, length_nil → kb5, length_replicate → kb4, length_reverse → kc8, length_set → kc4, length_take → kb3, nil_append → ke5, take → ka2
open Nat renaming le_of_ble_eq_true → ka5, mul_one → kc3, zero_mul → kd4
set_option linter.unusedVariables false
set_option linter.unusedSimpArgs false
set_option maxHeartbeats 4000000
set_option maxRecDepth 100000
theorem f3 {l : List Int} (h : ∀ j, j < l.length → 0 ≤ ka0 l j 0 ∧ ka0 l j 0 ≤ 255) {k : Nat} (hk : k < l.length) : cO (strOfNums l) (k : Int) = some (ka0 l k 0) := by
  have h9 := h k hk
  unfold cO
  rw [if_pos (by omega), strOfNums_data, Int.toNat_natCast, List.getElem?_map, ka9 hk]
  rw [ka8, ka9 hk, Option.getD_some] at *
  simp only [Option.map_some, UInt8.toNat_ofNat', Option.some.injEq]
  omega
theorem u0n {l : List Int} (h : l.length = 0) : (ByteArray.toList (strOfNums l) == ByteArray.toList (ByteArray.mk #[])) = true := by
  have : l = [] := List.length_eq_zero_iff.1 h
  subst this; rw [ByteArray.toList_eq, ByteArray.toList_eq]; rfl
theorem rW {l : List Int} (h : ¬ l.length = 0) : (ByteArray.toList (strOfNums l) == ByteArray.toList (ByteArray.mk #[])) = false := by
  rw [beq_eq_false_iff_ne]
  intro e
  have e2 := congrArg ka1 e
  rw [ByteArray.toList_eq, ByteArray.toList_eq, strOfNums_data, kd0] at e2
  exact h (by rw [e2]; rfl)
/-! chapter 11: names, descriptors -/
theorem k9h {l : List Int} {p : Int → Bool} (h : ∀ j, j < l.length → p (ka0 l j 0) = true) : l.all p = true := by
  rw [List.all_eq_true]
  intro x hx
  obtain ⟨j, hj, e⟩ := List.mem_iff_getElem.1 hx
  have h1 := h j hj
  rw [ka8, ka9 hj] at h1
  rw [← e]; exact h1
theorem k9i {l : List Int} {p : Int → Bool} (h : l.all p = true) (j : Nat) (hj : j < l.length) : p (ka0 l j 0) = true := by
  rw [ka8, ka9 hj]
  exact List.all_eq_true.1 h _ (List.getElem_mem hj)
def xS (x : Int) : Bool := decide ((97 ≤ x ∧ x ≤ 122) ∨ (65 ≤ x ∧ x ≤ 90))
def nW (x : Int) : Bool := decide (((97 ≤ x ∧ x ≤ 122) ∨ (65 ≤ x ∧ x ≤ 90)) ∨ (48 ≤ x ∧ x ≤ 57) ∨ x = 45 ∨ x = 46 ∨ x = 95)
theorem k6p {x : Int} (h : xS x = true) : nW x = true := decide_eq_true (.inl (of_decide_eq_true h))
theorem u1x {x : Int} (h : (48 ≤ x ∧ x ≤ 57) ∨ x = 45 ∨ x = 46 ∨ x = 95) : nW x = true := decide_eq_true (.inr h)
theorem u46 {x : Int} (h : xS x = false) (h2 : ¬ ((48 ≤ x ∧ x ≤ 57) ∨ x = 45 ∨ x = 46 ∨ x = 95)) : nW x = false := decide_eq_false (fun h9 => h9.elim (of_decide_eq_false h) h2)
theorem k6o : ByteArray.mk #[83, 78, 68, 49] = strOfNums [83, 78, 68, 49] := by first | rfl | kernel_rfl
theorem u1s {a : List Int} (h : a = [83, 78, 68, 49]) : (ByteArray.toList (strOfNums a) == ByteArray.toList (ByteArray.mk #[83, 78, 68, 49])) = true := by rw [k6o]; exact u0l h
theorem u1t {a : List Int} (ha : Byt a) (h : ¬ a = [83, 78, 68, 49]) : (ByteArray.toList (strOfNums a) == ByteArray.toList (ByteArray.mk #[83, 78, 68, 49])) = false := by
  rw [k6o]; exact u0m ha (Byt.cons (by omega) (Byt.cons (by omega) (Byt.cons (by omega) (Byt.cons (by omega) Byt.nil)))) h
def yO (l : List Int) : Bool := decide (1 ≤ l.length ∧ l.length ≤ 64) && xS (ka0 l 0 0) && l.all nW
theorem g8 {l : List Int} (h : 1 ≤ l.length ∧ l.length ≤ 64) (h1 : xS (ka0 l 0 0) = true) (h2 : ∀ j, j < l.length → nW (ka0 l j 0) = true) : yO l = true := by unfold yO; rw [decide_eq_true h, h1, k9h h2]; rfl
theorem g9 {l : List Int} (h : ¬ (1 ≤ l.length ∧ l.length ≤ 64)) : yO l = false := by unfold yO; rw [decide_eq_false h]; rfl
theorem hG {l : List Int} (h : xS (ka0 l 0 0) = false) : yO l = false := by unfold yO; rw [h, ke2]; rfl
theorem hC {l : List Int} {k : Nat} (hk : k < l.length) (h : nW (ka0 l k 0) = false) : yO l = false := by
  unfold yO
  rw [Bool.and_eq_false_iff]
  right
  cases e : l.all nW with
  | false => rfl
  | true => have := k9i e k hk; rw [h] at this; cases this
theorem k11 {l : List Int} (h : yO l = true) : 1 ≤ l.length ∧ l.length ≤ 64 := by
  unfold yO at h
  rw [kc0, kc0] at h
  exact of_decide_eq_true h.1.1
def c4 (nm : List Int) (d1 d2 d3 d4 d5 : Int) (bs : List Bx) : Bool := yO nm && (decide ((d1 = 1 ∨ d1 = 2) ∧ (0 ≤ d2 ∧ d2 ≤ 65535) ∧ (0 ≤ d3 ∧ d3 ≤ 1048576) ∧ (0 ≤ d4 ∧ d4 ≤ 2048) ∧ (0 ≤ d5 ∧ d5 ≤ 4096) ∧ 1 ≤ bs.length ∧ bs.length ≤ 8) && lR bs)
theorem u3j {nm : List Int} {d1 d2 d3 d4 d5 : Int} {bs : List Bx} (h : yO nm = false) : c4 nm d1 d2 d3 d4 d5 bs = false := by unfold c4; rw [h]; rfl
theorem u3i {nm : List Int} {d1 d2 d3 d4 d5 : Int} {bs : List Bx} (h : ¬ ((d1 = 1 ∨ d1 = 2) ∧ (0 ≤ d2 ∧ d2 ≤ 65535) ∧ (0 ≤ d3 ∧ d3 ≤ 1048576) ∧ (0 ≤ d4 ∧ d4 ≤ 2048) ∧ (0 ≤ d5 ∧ d5 ≤ 4096) ∧ 1 ≤ bs.length ∧ bs.length ≤ 8)) : c4 nm d1 d2 d3 d4 d5 bs = false := by unfold c4; rw [decide_eq_false h, Bool.false_and, ke2]
theorem u3k {nm : List Int} {d1 d2 d3 d4 d5 : Int} {bs : List Bx} (h : lR bs = false) : c4 nm d1 d2 d3 d4 d5 bs = false := by unfold c4; rw [h, ke2, ke2]
theorem u01 {nm : List Int} {d1 d2 d3 d4 d5 : Int} {bs : List Bx} (h0 : yO nm = true) (h : (d1 = 1 ∨ d1 = 2) ∧ (0 ≤ d2 ∧ d2 ≤ 65535) ∧ (0 ≤ d3 ∧ d3 ≤ 1048576) ∧ (0 ≤ d4 ∧ d4 ≤ 2048) ∧ (0 ≤ d5 ∧ d5 ≤ 4096) ∧ 1 ≤ bs.length ∧ bs.length ≤ 8) (h2 : lR bs = true) : c4 nm d1 d2 d3 d4 d5 bs = true := by unfold c4; rw [h0, decide_eq_true h, h2]; rfl
def dz1 (l : List Int) (u : RS) : RS := kD 8 l u
def iO (l : List Int) (u : RS) : RS := qN l (dz1 l u)
def iN (l : List Int) (u : RS) : RS := kD 2 l (iO l u)
def iM (l : List Int) (u : RS) : RS := kD 2 l (iN l u)
def iL (l : List Int) (u : RS) : RS := kD 4 l (iM l u)
def iK (l : List Int) (u : RS) : RS := kD 2 l (iL l u)
def aN (l : List Int) (u : RS) : RS := kD 2 l (iK l u)
def bK (l : List Int) (u : RS) : RS := j7 l (aN l u)
theorem k9e {m : Nat} {l : List Int} {u : RS} (hm : l.length = m) (hu : kL u ≤ m) : kL (bK l u) ≤ m := k3f hm (uX hm (uX hm (uX hm (uX hm (uX hm (k6f hm (uX hm hu)))))))
def deV (l : List Int) : Bool := c4 (vY l (dz1 l kZ)) ((kV l (iO l kZ) : Nat) : Int) ((kV l (iN l kZ) : Nat) : Int) (yA l (iM l kZ)) ((kV l (iL l kZ) : Nat) : Int) ((kV l (iK l kZ) : Nat) : Int) (yY l (aN l kZ))
def uO (l : List Int) : Int :=
  if l.length < 8 then 4
  else if ¬ g32 l (l.length - 4) = qR (ka2 (l.length - 4) l) then 6
  else if ¬ ka2 4 l = [83, 78, 68, 49] then 5
  else if ¬ (kT (bK (ka2 (l.length - 4) l) kZ) = 0 ∧ kL (bK (ka2 (l.length - 4) l) kZ) = l.length - 4) then 5
  else if deV (ka2 (l.length - 4) l) = false then 1 else 0
theorem u23 {l : List Int} {m : Nat} (hm : l.length = m) (h : m < 8) : uO l = 4 := by subst hm; exact if_pos h
theorem u26 {l : List Int} {m : Nat} (hm : l.length = m) (h : ¬ m < 8) (h1 : ¬ g32 l (m - 4) = qR (ka2 (m - 4) l)) : uO l = 6 := by subst hm; unfold uO; rw [if_neg h, if_pos h1]
theorem u25 {l : List Int} {m : Nat} (hm : l.length = m) (h : ¬ m < 8) (h1 : g32 l (m - 4) = qR (ka2 (m - 4) l)) (h2 : ¬ ka2 4 l = [83, 78, 68, 49]) : uO l = 5 := by subst hm; unfold uO; rw [if_neg h, if_neg (not_not_intro h1), if_pos h2]
theorem k9d {l : List Int} {m : Nat} (hm : l.length = m) (h : ¬ m < 8) (h1 : g32 l (m - 4) = qR (ka2 (m - 4) l)) (h2 : ka2 4 l = [83, 78, 68, 49]) (h3 : ¬ (kT (bK (ka2 (m - 4) l) kZ) = 0 ∧ kL (bK (ka2 (m - 4) l) kZ) = m - 4)) : uO l = 5 := by subst hm; unfold uO; rw [if_neg h, if_neg (not_not_intro h1), if_neg (not_not_intro h2), if_pos h3]
theorem u4a {l : List Int} {m : Nat} (hm : l.length = m) (h : ¬ m < 8) (h1 : g32 l (m - 4) = qR (ka2 (m - 4) l)) (h2 : ka2 4 l = [83, 78, 68, 49]) (h3 : kT (bK (ka2 (m - 4) l) kZ) = 0 ∧ kL (bK (ka2 (m - 4) l) kZ) = m - 4) (h4 : deV (ka2 (m - 4) l) = false) : uO l = 1 := by subst hm; unfold uO; rw [if_neg h, if_neg (not_not_intro h1), if_neg (not_not_intro h2), if_neg (not_not_intro h3), if_pos h4]
theorem u22 {l : List Int} {m : Nat} (hm : l.length = m) (h : ¬ m < 8) (h1 : g32 l (m - 4) = qR (ka2 (m - 4) l)) (h2 : ka2 4 l = [83, 78, 68, 49]) (h3 : kT (bK (ka2 (m - 4) l) kZ) = 0 ∧ kL (bK (ka2 (m - 4) l) kZ) = m - 4) (h4 : deV (ka2 (m - 4) l) = true) : uO l = 0 := by subst hm; unfold uO; rw [if_neg h, if_neg (not_not_intro h1), if_neg (not_not_intro h2), if_neg (not_not_intro h3), if_neg (by rw [h4]; decide)]
theorem d9 (l : List Int) : 0 ≤ uO l ∧ uO l ≤ 6 := by unfold uO; repeat' split <;> omega
def sD (l : List Int) : List Int := ka2 (l.length - 4) l
def rJ (l : List Int) : Int := if uO l = 0 then vK (sD l) kZ else 0
def f0 (l : List Int) : List Int := if uO l = 0 then vY (sD l) (dz1 (sD l) kZ) else []
def rO (l : List Int) : Int := if uO l = 0 then ((kV (sD l) (iO (sD l) kZ) : Nat) : Int) else 0
def rN (l : List Int) : Int := if uO l = 0 then ((kV (sD l) (iN (sD l) kZ) : Nat) : Int) else 0
def rM (l : List Int) : Int := if uO l = 0 then yA (sD l) (iM (sD l) kZ) else 0
def rL (l : List Int) : Int := if uO l = 0 then ((kV (sD l) (iL (sD l) kZ) : Nat) : Int) else 0
def rK (l : List Int) : Int := if uO l = 0 then ((kV (sD l) (iK (sD l) kZ) : Nat) : Int) else 0
def aI (l : List Int) : List Bx := if uO l = 0 then yY (sD l) (aN (sD l) kZ) else []
theorem zC {l : List Int} (h : ¬ uO l = 0) : rJ l = 0 ∧ f0 l = [] ∧ rO l = 0 ∧ rN l = 0 ∧ rM l = 0 ∧ rL l = 0 ∧ rK l = 0 ∧ aI l = [] := ⟨if_neg h, if_neg h, if_neg h, if_neg h, if_neg h, if_neg h, if_neg h, if_neg h⟩
theorem u49 {l p : List Int} {m : Nat} (hm : l.length = m) (hp : ka2 (m - 4) l = p) (h : uO l = 0) : rJ l = vK p kZ ∧ f0 l = vY p (dz1 p kZ) ∧ rO l = ((kV p (iO p kZ) : Nat) : Int) ∧ rN l = ((kV p (iN p kZ) : Nat) : Int) ∧ rM l = yA p (iM p kZ) ∧ rL l = ((kV p (iL p kZ) : Nat) : Int) ∧ rK l = ((kV p (iK p kZ) : Nat) : Int) ∧ aI l = yY p (aN p kZ) := by
  subst hp; subst hm
  exact ⟨if_pos h, if_pos h, if_pos h, if_pos h, if_pos h, if_pos h, if_pos h, if_pos h⟩
theorem pM {l : List Int} (hy : Byt l) : BsW (aI l) := by
  unfold aI; split
  · exact k3e (hy.take _) _
  · exact BsW.nil
theorem d8 {l : List Int} (hy : Byt l) : ka1 (aI l) ≤ 65535 := by
  unfold aI; split
  · exact nE (hy.take _) _
  · exact Nat.zero_le _
theorem d7 (l : List Int) : ka1 (f0 l) ≤ 64 := by
  unfold f0; split
  · exact lT _ _
  · exact Nat.zero_le _
attribute [local irreducible] uO rJ f0 rO rN rM rL rK aI kD qN vY kV yA vK uW dE aD vN bJ j7 yY qR
theorem bO {p : Prop} (h : p := by first | exact decide_eq_true (by omega) | exact decide_eq_false (by omega)) : p := h
theorem eH (x : Int) (hx : 0 ≤ x ∧ x ≤ 255) : Fun 47 [.c (.d (D.lit (.int .u8 x)))] (kG []) 0 (kS (D.lit (.bool (xS x)))) (kG []) 0 := by
  refine Fun.mk (n := 17) Try.func47 rfl rfl (ka5 rfl) ?_
  intro cx hcx
  refine kK [.no] True [(0, kS (D.lit (.int .u8 x)))] [] 0 trivial ?_
  by_cases hx1 : ((97 : Int) ≤ x)
  · by_cases hx2 : (x ≤ 122)
    · refine zr [.no, .b true, .no, .no, .b true, .no, .no, .no, .no] [2] [] ((((97 : Int) ≤ x)) ∧ ((x ≤ 122))) [(2, bV true)] [] 0 ⟨zo, zo⟩ ?_
      refine AW.ret ?_
      exact kC (.inr rfl) [] (P := ((xS x) = true)) zk bO
    · refine zr [.no, .b true, .no, .no, .b false, .no, .no, .no, .b true, .no, .no, .b false, .no, .no, .no] [2] [] ((((97 : Int) ≤ x)) ∧ (¬ (x ≤ 122)) ∧ (((65 : Int) ≤ x)) ∧ (¬ (x ≤ 90))) [(2, bV false)] [] 0 ⟨zo, zo, zo, zo⟩ ?_
      refine AW.ret ?_
      exact kC (.inr rfl) [] (P := ((xS x) = false)) zk bO
  · by_cases hx3 : ((65 : Int) ≤ x)
    · by_cases hx4 : (x ≤ 90)
      · refine zr (.no :: .b false :: kU 4 [.b true, .no, .no, .b true, .no, .no, .no]) [2] [] ((¬ ((97 : Int) ≤ x)) ∧ (((65 : Int) ≤ x)) ∧ ((x ≤ 90))) [(2, bV true)] [] 0 ⟨zo, zo, zo⟩ ?_
        refine AW.ret ?_
        exact kC (.inr rfl) [] (P := ((xS x) = true)) zk bO
      · refine zr (.no :: .b false :: kU 4 [.b true, .no, .no, .b false, .no, .no, .no]) [2] [] ((¬ ((97 : Int) ≤ x)) ∧ (((65 : Int) ≤ x)) ∧ (¬ (x ≤ 90))) [(2, bV false)] [] 0 ⟨zo, zo, zo⟩ ?_
        refine AW.ret ?_
        exact kC (.inr rfl) [] (P := ((xS x) = false)) zk bO
    · refine zr (.no :: .b false :: kU 4 (.b false :: kU 4 [])) [2] [] ((¬ ((97 : Int) ≤ x)) ∧ (¬ ((65 : Int) ≤ x))) [(2, bV false)] [] 0 ⟨zo, zo⟩ ?_
      refine AW.ret ?_
      exact kC (.inr rfl) [] (P := ((xS x) = false)) zk bO
theorem cZ {p : Prop} (h : p := by first | exact k6p (by assumption) | exact u1x (by omega) | exact u46 (by assumption) (by omega)) : p := h
theorem k7l (x : Int) (hx : 0 ≤ x ∧ x ≤ 255) : Fun 48 [.c (.d (D.lit (.int .u8 x)))] (kG []) 0 (kS (D.lit (.bool (nW x)))) (kG []) 0 := by
  refine Fun.mk (n := 25) Try.func48 rfl rfl (ka5 rfl) ?_
  intro cx hcx
  refine kK [.no] True [(0, kS (D.lit (.int .u8 x)))] [] 0 trivial ?_
  rcases kb6 (xS x) with hx1 | hx1
  · refine zr (.no :: .call [] (bV true) [] 0 [] none :: kU 9 []) [2] [] (Fun 47 [.c (.d (D.lit (.int .u8 x)))] (kG []) 0 (bV true) (kG []) 0) [(2, bV true)] [] 0 (by have h0 := (eH x zo); rw [hx1] at h0; exact h0) ?_
    refine AW.ret ?_
    exact kC (.inr rfl) [] (P := ((nW x) = true)) zk cZ
  · by_cases hx2 : ((48 : Int) ≤ x)
    · by_cases hx3 : (x ≤ 57)
      · refine zr (.no :: .call [] (bV false) [] 0 [] none :: .no :: .no :: .b true :: .no :: .no :: .b true :: kU 9 []) [2] [] ((Fun 47 [.c (.d (D.lit (.int .u8 x)))] (kG []) 0 (bV false) (kG []) 0) ∧ (((48 : Int) ≤ x)) ∧ ((x ≤ 57))) [(2, bV true)] [] 0 ⟨(by have h0 := (eH x zo); rw [hx1] at h0; exact h0), zo, zo⟩ ?_
        refine AW.ret ?_
        exact kC (.inr rfl) [] (P := ((nW x) = true)) zk cZ
      · by_cases hx4 : (x = 95)
        · refine zr [.no, .call [] (bV false) [] 0 [] none, .no, .no, .b true, .no, .no, .b false, .no, .no, .no, .no, .b false, .no, .no, .no, .b false, .no, .no, .no, .b true, .no, .no] [2] [] ((Fun 47 [.c (.d (D.lit (.int .u8 x)))] (kG []) 0 (bV false) (kG []) 0) ∧ (((48 : Int) ≤ x)) ∧ (¬ (x ≤ 57)) ∧ (¬ (x = 45)) ∧ (¬ (x = 46)) ∧ ((x = 95))) [(2, bV true)] [] 0 ⟨(by have h0 := (eH x zo); rw [hx1] at h0; exact h0), zo, zo, zo, zo, zo⟩ ?_
          refine AW.ret ?_
          exact kC (.inr rfl) [] (P := ((nW x) = true)) zk cZ
        · refine zr [.no, .call [] (bV false) [] 0 [] none, .no, .no, .b true, .no, .no, .b false, .no, .no, .no, .no, .b false, .no, .no, .no, .b false, .no, .no, .no, .b false, .no, .no] [2] [] ((Fun 47 [.c (.d (D.lit (.int .u8 x)))] (kG []) 0 (bV false) (kG []) 0) ∧ (((48 : Int) ≤ x)) ∧ (¬ (x ≤ 57)) ∧ (¬ (x = 45)) ∧ (¬ (x = 46)) ∧ (¬ (x = 95))) [(2, bV false)] [] 0 ⟨(by have h0 := (eH x zo); rw [hx1] at h0; exact h0), zo, zo, zo, zo, zo⟩ ?_
          refine AW.ret ?_
          exact kC (.inr rfl) [] (P := ((nW x) = false)) zk cZ
    · by_cases hx5 : (x = 45)
      · refine zr (.no :: .call [] (bV false) [] 0 [] none :: .no :: .no :: .b false :: kU 5 (.b true :: kU 6 [])) [2] [] ((Fun 47 [.c (.d (D.lit (.int .u8 x)))] (kG []) 0 (bV false) (kG []) 0) ∧ (¬ ((48 : Int) ≤ x)) ∧ ((x = 45))) [(2, bV true)] [] 0 ⟨(by have h0 := (eH x zo); rw [hx1] at h0; exact h0), zo, zo⟩ ?_
        refine AW.ret ?_
        exact kC (.inr rfl) [] (P := ((nW x) = true)) zk cZ
      · by_cases hx6 : (x = 46)
        · refine zr (.no :: .call [] (bV false) [] 0 [] none :: .no :: .no :: .b false :: kU 5 (.b false :: .no :: .no :: .no :: .b true :: kU 4 [])) [2] [] ((Fun 47 [.c (.d (D.lit (.int .u8 x)))] (kG []) 0 (bV false) (kG []) 0) ∧ (¬ ((48 : Int) ≤ x)) ∧ (¬ (x = 45)) ∧ ((x = 46))) [(2, bV true)] [] 0 ⟨(by have h0 := (eH x zo); rw [hx1] at h0; exact h0), zo, zo, zo⟩ ?_
          refine AW.ret ?_
          exact kC (.inr rfl) [] (P := ((nW x) = true)) zk cZ
        · refine zr (.no :: .call [] (bV false) [] 0 [] none :: .no :: .no :: .b false :: kU 5 [.b false, .no, .no, .no, .b false, .no, .no, .no, .b false, .no, .no]) [2] [] ((Fun 47 [.c (.d (D.lit (.int .u8 x)))] (kG []) 0 (bV false) (kG []) 0) ∧ (¬ ((48 : Int) ≤ x)) ∧ (¬ (x = 45)) ∧ (¬ (x = 46)) ∧ (¬ (x = 95))) [(2, bV false)] [] 0 ⟨(by have h0 := (eH x zo); rw [hx1] at h0; exact h0), zo, zo, zo, zo⟩ ?_
          refine AW.ret ?_
          exact kC (.inr rfl) [] (P := ((nW x) = false)) zk cZ
theorem bN {p : Prop} (h : p := by first | omega | (simp only [kb1, kb3]; omega)) : p := h
theorem qU {p : Prop} (h : p := by first | omega | with_reducible assumption | (simp only [kR, kQ, pbL_len, ka4, kb2, kb5, kb3, kb1, kb4, kc4] <;> omega) | rfl | assumption) : p := h
theorem nN (l : List Int) (hy : Byt l) (hb : ka1 l ≤ 9223372036854775807) : Fun 28 [.c (.d (D.lit (.string (strOfNums l))))] (kG []) 0 (kS (D.lit (.bool (yO l)))) (kG []) 0 := by
  refine Fun.mk (n := 28) Try.func28 rfl rfl (ka5 rfl) ?_
  intro cx hcx
  refine kK [.no] True [(0, kS (D.lit (.string (strOfNums l))))] [] 0 trivial ?_
  refine AW.seq ?_
  by_cases hx1 : ((ka1 l) = 0)
  · refine zr (.no :: .b true :: kU 4 []) [0, 16] [] ((ByteArray.toList (strOfNums l) == ByteArray.toList (ByteArray.mk #[])) = true) [(0, kS (D.lit (.string (strOfNums l)))), (16, bV true)] [] 0 (u0n zo) ?_
    refine zt ?_
    refine kK [.no] True [(2, bV false)] [] 0 trivial ?_
    refine AW.ret ?_
    exact kC (.inr rfl) [] (P := ((yO l) = false)) zk (by first | exact g9 zo | exact hG (by assumption) | exact hC (k := k) zo (by assumption) | exact g8 zo (by assumption) (fun j hj => ha j zo))
  · by_cases hx2 : ((64 : Int) < (((ka1 l) : Nat) : Int))
    · refine zr [.no, .b false, .no, .no, .i (ka1 l : Int), .b true, .no, .no, .no] [0, 16] [] (((ByteArray.toList (strOfNums l) == ByteArray.toList (ByteArray.mk #[])) = false) ∧ ((ByteArray.size (strOfNums l) : Int) = ((ka1 l : Int) : Int)) ∧ (((64 : Int) < (ka1 l : Int)))) [(0, kS (D.lit (.string (strOfNums l)))), (16, bV true)] [] 0 ⟨(rW zo), (by rw [strOfNums_size]), zo⟩ ?_
      refine zt ?_
      refine kK [.no] True [(2, bV false)] [] 0 trivial ?_
      refine AW.ret ?_
      exact kC (.inr rfl) [] (P := ((yO l) = false)) zk (by first | exact g9 zo | exact hG (by assumption) | exact hC (k := k) zo (by assumption) | exact g8 zo (by assumption) (fun j hj => ha j zo))
    · rcases kb6 (xS (ka0 l 0 0)) with hx4 | hx4
      · have hx5 : 0 ≤ (ka0 l 0 0) ∧ (ka0 l 0 0) ≤ 255 := Byt.at (kP : Byt l) _ bN
        refine kK [.no, .b false, .no, .no, .i (ka1 l : Int), .b false, .no, .no, .no, .i (ka0 l 0 0), .call [] (bV true) [] 0 [] none, .no, .no] (((ByteArray.toList (strOfNums l) == ByteArray.toList (ByteArray.mk #[])) = false) ∧ ((ByteArray.size (strOfNums l) : Int) = ((ka1 l : Int) : Int)) ∧ (¬ ((64 : Int) < (ka1 l : Int))) ∧ (cO (strOfNums l) (0 : Int) = some ((ka0 l 0 0) : Int)) ∧ (Fun 47 [.c (.d (D.lit (.int .u8 (ka0 l 0 0))))] (kG []) 0 (bV true) (kG []) 0)) [(0, kS (D.lit (.string (strOfNums l)))), (16, bV false)] [] 0 ⟨(rW zo), (by rw [strOfNums_size]), zo, (by have h9 := f3 (l := l) (Byt.at (kP : Byt l)) (k := 0) bN; exact h9), (by have h0 := (eH (ka0 l 0 0) qU); rw [hx4] at h0; exact h0)⟩ ?_
        refine yV ?_
        refine AW.seq ?_
        refine kX [.no, .i (ka1 l : Int), .no] ((ByteArray.size (strOfNums l) : Int) = ((ka1 l : Int) : Int)) [(0, kS (D.lit (.string (strOfNums l)))), (18, uV (ka1 l)), (19, iV 0)] (by rw [strOfNums_size]) ?_
        refine AW.block ?_
        refine kW 0 hcx (fun (x : {x : Nat // match x with | k => (k ≤ ka1 l) ∧ (∀ j, j < k → nW (ka0 l j 0) = true)}) => match x with | ⟨k, _⟩ => (⟨[(0, kS (D.lit (.string (strOfNums l)))), (18, uV (ka1 l)), (19, uV k)], [], 0⟩ : ES)) (fun x => match x with | ⟨k, _⟩ => ka1 l - k) ⟨(0 : Nat), ⟨(by first | omega | assumption | simp), (fun j hj => absurd hj (Nat.not_lt_zero j))⟩⟩ [] (P := ((.string (strOfNums l) : Value) = .string (strOfNums l)) ∧ (kN (ka1 l : Int)) ∧ (kN 0)) zk ⟨rfl, rfl, rfl⟩ ?_
        rintro ⟨k, hinv0⟩
        obtain ⟨hk, ha⟩ : (k ≤ ka1 l) ∧ (∀ j, j < k → nW (ka0 l j 0) = true) := hinv0
        refine uI (l := [(0, kS (D.lit (.string (strOfNums l)))), (18, uV (ka1 l)), (19, uV k)]) (g := []) (nx := 0) rfl rfl rfl ?_
        by_cases hx6 : (((k : Nat) : Int) < (((ka1 l) : Nat) : Int))
        · refine zr [.b true] [0, 18, 19, 20] [] (((k : Int) < (ka1 l : Int))) [(0, kS (D.lit (.string (strOfNums l)))), (18, uV (ka1 l)), (19, uV k), (20, bV true)] [] 0 zo ?_
          refine AW.seq ?_
          refine vD ?_
          refine AW.seq ?_
          refine AW.block ?_
          refine kK [.no, .no] True [(0, kS (D.lit (.string (strOfNums l)))), (3, uV k), (18, uV (ka1 l)), (19, uV k)] [] 0 trivial ?_
          rcases kb6 (nW (ka0 l k 0)) with hx8 | hx8
          · have hx9 : 0 ≤ (ka0 l k 0) ∧ (ka0 l k 0) ≤ 255 := Byt.at (kP : Byt l) _ bN
            refine kK [.no, .no, .i (ka0 l k 0), .call [] (bV true) [] 0 [] none, .no] ((cO (strOfNums l) ((k : Int) : Int) = some ((ka0 l k 0) : Int)) ∧ (Fun 48 [.c (.d (D.lit (.int .u8 (ka0 l k 0))))] (kG []) 0 (bV true) (kG []) 0)) [(0, kS (D.lit (.string (strOfNums l)))), (18, uV (ka1 l)), (19, uV k), (26, bV false)] [] 0 ⟨(by have h9 := f3 (l := l) (Byt.at (kP : Byt l)) (k := k) bN; exact h9), (by have h0 := (k7l (ka0 l k 0) qU); rw [hx8] at h0; exact h0)⟩ ?_
            refine yV ?_
            refine yH [.w, .no] (qL ((k : Int) + 1)) [(0, kS (D.lit (.string (strOfNums l)))), (18, uV (ka1 l)), (19, iV (↑k + 1))] ⟨by omega, by omega⟩ ?_
            exact qQ ⟨((k + 1) : Nat), ⟨(by first | omega | assumption | simp), (fun j hj => (Nat.lt_succ_iff_lt_or_eq.1 hj).elim (ha j) (fun e9 => by subst e9; first | assumption | exact k6p (by assumption) | exact u1x zo))⟩⟩ [] (P := ((.string (strOfNums l) : Value) = .string (strOfNums l)) ∧ (kN (ka1 l : Int)) ∧ (q1S k)) zk ⟨rfl, rfl, (by first | rfl | omega | assumption | (simp; done) | (simp; omega))⟩ (show ka1 l - (k + 1) < ka1 l - k from (by first | omega | (show _ < _; simp; omega)))
          · have hx10 : 0 ≤ (ka0 l k 0) ∧ (ka0 l k 0) ≤ 255 := Byt.at (kP : Byt l) _ bN
            refine kK [.no, .no, .i (ka0 l k 0), .call [] (bV false) [] 0 [] none, .no] ((cO (strOfNums l) ((k : Int) : Int) = some ((ka0 l k 0) : Int)) ∧ (Fun 48 [.c (.d (D.lit (.int .u8 (ka0 l k 0))))] (kG []) 0 (bV false) (kG []) 0)) [(0, kS (D.lit (.string (strOfNums l)))), (18, uV (ka1 l)), (19, uV k), (26, bV true)] [] 0 ⟨(by have h9 := f3 (l := l) (Byt.at (kP : Byt l)) (k := k) bN; exact h9), (by have h0 := (k7l (ka0 l k 0) qU); rw [hx8] at h0; exact h0)⟩ ?_
            refine zt ?_
            refine kX [.no] True [(2, bV false)] trivial ?_
            refine AW.ret ?_
            exact kC (.inr rfl) [] (P := ((yO l) = false)) zk (by first | exact g9 zo | exact hG (by assumption) | exact hC (k := k) zo (by assumption) | exact g8 zo (by assumption) (fun j hj => ha j zo))
        · refine zr [.b false] [0, 18, 19, 20] [] (¬ ((k : Int) < (ka1 l : Int))) [(0, kS (D.lit (.string (strOfNums l)))), (18, uV (ka1 l)), (19, uV k), (20, bV false)] [] 0 zo ?_
          refine AW.seq ?_
          refine zf ?_
          refine AW.exit ?_
          refine kK [.no] True [(2, bV true)] [] 0 trivial ?_
          refine AW.ret ?_
          exact kC (.inr rfl) [] (P := ((yO l) = true)) zk (by first | exact g9 zo | exact hG (by assumption) | exact hC (k := k) zo (by assumption) | exact g8 zo (by assumption) (fun j hj => ha j zo))
      · have hx11 : 0 ≤ (ka0 l 0 0) ∧ (ka0 l 0 0) ≤ 255 := Byt.at (kP : Byt l) _ bN
        refine kK [.no, .b false, .no, .no, .i (ka1 l : Int), .b false, .no, .no, .no, .i (ka0 l 0 0), .call [] (bV false) [] 0 [] none, .no, .no] (((ByteArray.toList (strOfNums l) == ByteArray.toList (ByteArray.mk #[])) = false) ∧ ((ByteArray.size (strOfNums l) : Int) = ((ka1 l : Int) : Int)) ∧ (¬ ((64 : Int) < (ka1 l : Int))) ∧ (cO (strOfNums l) (0 : Int) = some ((ka0 l 0 0) : Int)) ∧ (Fun 47 [.c (.d (D.lit (.int .u8 (ka0 l 0 0))))] (kG []) 0 (bV false) (kG []) 0)) [(0, kS (D.lit (.string (strOfNums l)))), (16, bV true)] [] 0 ⟨(rW zo), (by rw [strOfNums_size]), zo, (by have h9 := f3 (l := l) (Byt.at (kP : Byt l)) (k := 0) bN; exact h9), (by have h0 := (eH (ka0 l 0 0) qU); rw [hx4] at h0; exact h0)⟩ ?_
        refine zt ?_
        refine kX [.no] True [(2, bV false)] trivial ?_
        refine AW.ret ?_
        exact kC (.inr rfl) [] (P := ((yO l) = false)) zk (by first | exact g9 zo | exact hG (by assumption) | exact hC (k := k) zo (by assumption) | exact g8 zo (by assumption) (fun j hj => ha j zo))
theorem qC (x y : Int)  : Fun 29 [iE x, iE y] (kG []) 0 (kS (D.lit (.bool (decide (0 ≤ x ∧ x ≤ y))))) (kG []) 0 := by
  refine Fun.mk (n := 12) Try.func29 rfl rfl (ka5 rfl) ?_
  intro cx hcx
  refine kK [.no] True [(0, iV x), (1, iV y)] [] 0 trivial ?_
  by_cases hx1 : ((0 : Int) ≤ x)
  · by_cases hx2 : (x ≤ y)
    · refine zr [.no, .b true, .no, .no, .no, .b true, .no, .no] [4] [] ((((0 : Int) ≤ x)) ∧ ((x ≤ y))) [(4, bV true)] [] 0 ⟨zo, zo⟩ ?_
      refine AW.ret ?_
      exact kC (.inr rfl) [] (P := ((decide (0 ≤ x ∧ x ≤ y)) = true)) zk bO
    · refine zr [.no, .b true, .no, .no, .no, .b false, .no, .no] [4] [] ((((0 : Int) ≤ x)) ∧ (¬ (x ≤ y))) [(4, bV false)] [] 0 ⟨zo, zo⟩ ?_
      refine AW.ret ?_
      exact kC (.inr rfl) [] (P := ((decide (0 ≤ x ∧ x ≤ y)) = false)) zk bO
  · refine zr [.no, .b false, .no, .no, .no] [4] [] (¬ ((0 : Int) ≤ x)) [(4, bV false)] [] 0 zo ?_
    refine AW.ret ?_
    exact kC (.inr rfl) [] (P := ((decide (0 ≤ x ∧ x ≤ y)) = false)) zk bO
theorem yB {p : Prop} (h : p := by first | exact u3j (by assumption) | exact u01 (by assumption) (by omega) (by assumption) | exact u3k (by assumption) | exact u3i (by omega)) : p := h
theorem f8 (id : Int) (nm : List Int) (d1 d2 d3 d4 d5 : Int) (bs : List Bx) (n : Nat) (hy : Byt nm) (hl : ka1 nm ≤ 1000000) (hn : ka1 bs = n) (h1 : n ≤ 1000000) (hW : BsW bs) : Fun 14 [.agg [.d (D.lit (.int .u64 id)), .d (D.lit (.string (strOfNums nm))), iC d1, iC d2, iC d3, iC d4, iC d5, .d (D.sl (qI bs) n)]] (kG []) 0 (kS (D.lit (.bool (c4 nm d1 d2 d3 d4 d5 bs)))) (kG []) 0 := by
  refine Fun.mk (n := 54) Try.func14 rfl rfl (ka5 rfl) ?_
  intro cx hcx
  refine kK [.no, .no] True [(1, rV 0 0)] [(0, some (31, .ds [D.lit (.int .u64 id), D.lit (.string (strOfNums nm)), iD d1, iD d2, iD d3, iD d4, iD d5, D.sl (qI bs) n]))] 1 trivial ?_
  refine AW.seq ?_
  rcases kb6 (yO nm) with hx1 | hx1
  · by_cases hx2 : (d1 ≠ 1)
    · by_cases hx3 : (d1 ≠ 2)
      · refine zr (.no :: .no :: .call [] (bV true) [] 0 [] none :: kU 4 [.b true, .no, .no, .no, .b true, .no, .no]) [1, 16] [0] ((Fun 28 [.c (.d (D.lit (.string (strOfNums nm))))] (kG []) 0 (bV true) (kG []) 0) ∧ ((d1 ≠ 1)) ∧ ((d1 ≠ 2))) [(1, rV 0 0), (16, bV true)] [(0, some (31, .ds [D.lit (.int .u64 id), D.lit (.string (strOfNums nm)), iD d1, iD d2, iD d3, iD d4, iD d5, D.sl (qI bs) n]))] 1 ⟨(by have h0 := (nN nm (kP : Byt nm) zo); rw [hx1] at h0; exact h0), zo, zo⟩ ?_
        refine zt ?_
        refine kK [.no] True [(2, bV false)] [] 1 trivial ?_
        refine AW.ret ?_
        exact kC (.inr rfl) [] (P := ((c4 nm d1 d2 d3 d4 d5 bs) = false)) zk yB
      · refine zr (.no :: .no :: .call [] (bV true) [] 0 [] none :: kU 4 [.b true, .no, .no, .no, .b false, .no, .no]) [1, 16] [0] ((Fun 28 [.c (.d (D.lit (.string (strOfNums nm))))] (kG []) 0 (bV true) (kG []) 0) ∧ ((d1 ≠ 1)) ∧ (¬ (d1 ≠ 2))) [(1, rV 0 0), (16, bV false)] [(0, some (31, .ds [D.lit (.int .u64 id), D.lit (.string (strOfNums nm)), iD d1, iD d2, iD d3, iD d4, iD d5, D.sl (qI bs) n]))] 1 ⟨(by have h0 := (nN nm (kP : Byt nm) zo); rw [hx1] at h0; exact h0), zo, zo⟩ ?_
        refine yV ?_
        refine AW.seq ?_
        rcases kb6 (decide (0 ≤ d2 ∧ d2 ≤ 65535)) with hx4 | hx4
        · have hx5 : (((0 : Int) ≤ d2) ∧ (d2 ≤ 65535)) := of_decide_eq_true hx4
          rcases kb6 (decide (0 ≤ d3 ∧ d3 ≤ 1048576)) with hx6 | hx6
          · have hx7 : (((0 : Int) ≤ d3) ∧ (d3 ≤ 1048576)) := of_decide_eq_true hx6
            rcases kb6 (decide (0 ≤ d4 ∧ d4 ≤ 2048)) with hx8 | hx8
            · have hx9 : (((0 : Int) ≤ d4) ∧ (d4 ≤ 2048)) := of_decide_eq_true hx8
              rcases kb6 (decide (0 ≤ d5 ∧ d5 ≤ 4096)) with hx10 | hx10
              · have hx11 : (((0 : Int) ≤ d5) ∧ (d5 ≤ 4096)) := of_decide_eq_true hx10
                refine kK (.no :: .no :: .call [] (bV true) [] 0 [] none :: kU 4 (.call [] (bV true) [] 0 [] none :: kU 5 (.call [] (bV true) [] 0 [] none :: kU 5 [.call [] (bV true) [] 0 [] none, .no, .no]))) ((Fun 29 [iE d2, iE 65535] (kG []) 0 (bV true) (kG []) 0) ∧ (Fun 29 [iE d3, iE 1048576] (kG []) 0 (bV true) (kG []) 0) ∧ (Fun 29 [iE d4, iE 2048] (kG []) 0 (bV true) (kG []) 0) ∧ (Fun 29 [iE d5, iE 4096] (kG []) 0 (bV true) (kG []) 0)) [(1, rV 0 0), (38, bV false)] [(0, some (31, .ds [D.lit (.int .u64 id), D.lit (.string (strOfNums nm)), iD d1, iD d2, iD d3, iD d4, iD d5, D.sl (qI bs) n]))] 1 ⟨(by have h0 := (qC d2 65535); rw [hx4] at h0; exact h0), (by have h0 := (qC d3 1048576); rw [hx6] at h0; exact h0), (by have h0 := (qC d4 2048); rw [hx8] at h0; exact h0), (by have h0 := (qC d5 4096); rw [hx10] at h0; exact h0)⟩ ?_
                refine yV ?_
                by_cases hx12 : ((1 : Int) ≤ ((n : Nat) : Int))
                · by_cases hx13 : (((n : Nat) : Int) ≤ 8)
                  · rcases kb6 (lR bs) with hx14 | hx14
                    · refine zr (.no :: .no :: .no :: .b true :: kU 4 (.b true :: kU 4 [.call [] (bV true) [] 0 [] none, .no, .no])) [2] [] ((((1 : Int) ≤ (n : Int))) ∧ (((n : Int) ≤ 8)) ∧ (Fun 30 [.c (.d (D.sl (qI bs) n))] (kG []) 0 (bV true) (kG []) 0)) [(2, bV true)] [] 1 ⟨zo, zo, (by have h0 := (f7 bs n zo zo (kP : BsW bs)); rw [hx14] at h0; exact h0)⟩ ?_
                      refine AW.ret ?_
                      exact kC (.inr rfl) [] (P := ((c4 nm d1 d2 d3 d4 d5 bs) = true)) zk yB
                    · refine zr (.no :: .no :: .no :: .b true :: kU 4 (.b true :: kU 4 [.call [] (bV false) [] 0 [] none, .no, .no])) [2] [] ((((1 : Int) ≤ (n : Int))) ∧ (((n : Int) ≤ 8)) ∧ (Fun 30 [.c (.d (D.sl (qI bs) n))] (kG []) 0 (bV false) (kG []) 0)) [(2, bV false)] [] 1 ⟨zo, zo, (by have h0 := (f7 bs n zo zo (kP : BsW bs)); rw [hx14] at h0; exact h0)⟩ ?_
                      refine AW.ret ?_
                      exact kC (.inr rfl) [] (P := ((c4 nm d1 d2 d3 d4 d5 bs) = false)) zk yB
                  · refine zr (.no :: .no :: .no :: .b true :: kU 4 (.b false :: kU 4 [])) [2] [] ((((1 : Int) ≤ (n : Int))) ∧ (¬ ((n : Int) ≤ 8))) [(2, bV false)] [] 1 ⟨zo, zo⟩ ?_
                    refine AW.ret ?_
                    exact kC (.inr rfl) [] (P := ((c4 nm d1 d2 d3 d4 d5 bs) = false)) zk yB
                · refine zr (.no :: .no :: .no :: .b false :: kU 5 []) [2] [] (¬ ((1 : Int) ≤ (n : Int))) [(2, bV false)] [] 1 zo ?_
                  refine AW.ret ?_
                  exact kC (.inr rfl) [] (P := ((c4 nm d1 d2 d3 d4 d5 bs) = false)) zk yB
              · have hx15 : ¬ (((0 : Int) ≤ d5) ∧ (d5 ≤ 4096)) := of_decide_eq_false hx10
                refine kK (.no :: .no :: .call [] (bV true) [] 0 [] none :: kU 4 (.call [] (bV true) [] 0 [] none :: kU 5 (.call [] (bV true) [] 0 [] none :: kU 5 [.call [] (bV false) [] 0 [] none, .no, .no]))) ((Fun 29 [iE d2, iE 65535] (kG []) 0 (bV true) (kG []) 0) ∧ (Fun 29 [iE d3, iE 1048576] (kG []) 0 (bV true) (kG []) 0) ∧ (Fun 29 [iE d4, iE 2048] (kG []) 0 (bV true) (kG []) 0) ∧ (Fun 29 [iE d5, iE 4096] (kG []) 0 (bV false) (kG []) 0)) [(1, rV 0 0), (38, bV true)] [(0, some (31, .ds [D.lit (.int .u64 id), D.lit (.string (strOfNums nm)), iD d1, iD d2, iD d3, iD d4, iD d5, D.sl (qI bs) n]))] 1 ⟨(by have h0 := (qC d2 65535); rw [hx4] at h0; exact h0), (by have h0 := (qC d3 1048576); rw [hx6] at h0; exact h0), (by have h0 := (qC d4 2048); rw [hx8] at h0; exact h0), (by have h0 := (qC d5 4096); rw [hx10] at h0; exact h0)⟩ ?_
                refine zt ?_
                refine kK [.no] True [(2, bV false)] [] 1 trivial ?_
                refine AW.ret ?_
                exact kC (.inr rfl) [] (P := ((c4 nm d1 d2 d3 d4 d5 bs) = false)) zk yB
            · have hx16 : ¬ (((0 : Int) ≤ d4) ∧ (d4 ≤ 2048)) := of_decide_eq_false hx8
              refine kK (.no :: .no :: .call [] (bV true) [] 0 [] none :: kU 4 (.call [] (bV true) [] 0 [] none :: kU 5 (.call [] (bV false) [] 0 [] none :: kU 4 []))) ((Fun 29 [iE d2, iE 65535] (kG []) 0 (bV true) (kG []) 0) ∧ (Fun 29 [iE d3, iE 1048576] (kG []) 0 (bV true) (kG []) 0) ∧ (Fun 29 [iE d4, iE 2048] (kG []) 0 (bV false) (kG []) 0)) [(1, rV 0 0), (38, bV true)] [(0, some (31, .ds [D.lit (.int .u64 id), D.lit (.string (strOfNums nm)), iD d1, iD d2, iD d3, iD d4, iD d5, D.sl (qI bs) n]))] 1 ⟨(by have h0 := (qC d2 65535); rw [hx4] at h0; exact h0), (by have h0 := (qC d3 1048576); rw [hx6] at h0; exact h0), (by have h0 := (qC d4 2048); rw [hx8] at h0; exact h0)⟩ ?_
              refine zt ?_
              refine kK [.no] True [(2, bV false)] [] 1 trivial ?_
              refine AW.ret ?_
              exact kC (.inr rfl) [] (P := ((c4 nm d1 d2 d3 d4 d5 bs) = false)) zk yB
          · have hx17 : ¬ (((0 : Int) ≤ d3) ∧ (d3 ≤ 1048576)) := of_decide_eq_false hx6
            refine kK (.no :: .no :: .call [] (bV true) [] 0 [] none :: kU 4 (.call [] (bV false) [] 0 [] none :: kU 6 [])) ((Fun 29 [iE d2, iE 65535] (kG []) 0 (bV true) (kG []) 0) ∧ (Fun 29 [iE d3, iE 1048576] (kG []) 0 (bV false) (kG []) 0)) [(1, rV 0 0), (38, bV true)] [(0, some (31, .ds [D.lit (.int .u64 id), D.lit (.string (strOfNums nm)), iD d1, iD d2, iD d3, iD d4, iD d5, D.sl (qI bs) n]))] 1 ⟨(by have h0 := (qC d2 65535); rw [hx4] at h0; exact h0), (by have h0 := (qC d3 1048576); rw [hx6] at h0; exact h0)⟩ ?_
            refine zt ?_
            refine kK [.no] True [(2, bV false)] [] 1 trivial ?_
            refine AW.ret ?_
            exact kC (.inr rfl) [] (P := ((c4 nm d1 d2 d3 d4 d5 bs) = false)) zk yB
        · have hx18 : ¬ (((0 : Int) ≤ d2) ∧ (d2 ≤ 65535)) := of_decide_eq_false hx4
          refine kK (.no :: .no :: .call [] (bV false) [] 0 [] none :: kU 7 []) (Fun 29 [iE d2, iE 65535] (kG []) 0 (bV false) (kG []) 0) [(1, rV 0 0), (38, bV true)] [(0, some (31, .ds [D.lit (.int .u64 id), D.lit (.string (strOfNums nm)), iD d1, iD d2, iD d3, iD d4, iD d5, D.sl (qI bs) n]))] 1 (by have h0 := (qC d2 65535); rw [hx4] at h0; exact h0) ?_
          refine zt ?_
          refine kK [.no] True [(2, bV false)] [] 1 trivial ?_
          refine AW.ret ?_
          exact kC (.inr rfl) [] (P := ((c4 nm d1 d2 d3 d4 d5 bs) = false)) zk yB
    · refine zr (.no :: .no :: .call [] (bV true) [] 0 [] none :: kU 4 [.b false, .no, .no, .no]) [1, 16] [0] ((Fun 28 [.c (.d (D.lit (.string (strOfNums nm))))] (kG []) 0 (bV true) (kG []) 0) ∧ (¬ (d1 ≠ 1))) [(1, rV 0 0), (16, bV false)] [(0, some (31, .ds [D.lit (.int .u64 id), D.lit (.string (strOfNums nm)), iD d1, iD d2, iD d3, iD d4, iD d5, D.sl (qI bs) n]))] 1 ⟨(by have h0 := (nN nm (kP : Byt nm) zo); rw [hx1] at h0; exact h0), zo⟩ ?_
      refine yV ?_
      refine AW.seq ?_
      rcases kb6 (decide (0 ≤ d2 ∧ d2 ≤ 65535)) with hx19 | hx19
      · have hx20 : (((0 : Int) ≤ d2) ∧ (d2 ≤ 65535)) := of_decide_eq_true hx19
        rcases kb6 (decide (0 ≤ d3 ∧ d3 ≤ 1048576)) with hx21 | hx21
        · have hx22 : (((0 : Int) ≤ d3) ∧ (d3 ≤ 1048576)) := of_decide_eq_true hx21
          rcases kb6 (decide (0 ≤ d4 ∧ d4 ≤ 2048)) with hx23 | hx23
          · have hx24 : (((0 : Int) ≤ d4) ∧ (d4 ≤ 2048)) := of_decide_eq_true hx23
            rcases kb6 (decide (0 ≤ d5 ∧ d5 ≤ 4096)) with hx25 | hx25
            · have hx26 : (((0 : Int) ≤ d5) ∧ (d5 ≤ 4096)) := of_decide_eq_true hx25
              refine kK (.no :: .no :: .call [] (bV true) [] 0 [] none :: kU 4 (.call [] (bV true) [] 0 [] none :: kU 5 (.call [] (bV true) [] 0 [] none :: kU 5 [.call [] (bV true) [] 0 [] none, .no, .no]))) ((Fun 29 [iE d2, iE 65535] (kG []) 0 (bV true) (kG []) 0) ∧ (Fun 29 [iE d3, iE 1048576] (kG []) 0 (bV true) (kG []) 0) ∧ (Fun 29 [iE d4, iE 2048] (kG []) 0 (bV true) (kG []) 0) ∧ (Fun 29 [iE d5, iE 4096] (kG []) 0 (bV true) (kG []) 0)) [(1, rV 0 0), (38, bV false)] [(0, some (31, .ds [D.lit (.int .u64 id), D.lit (.string (strOfNums nm)), iD d1, iD d2, iD d3, iD d4, iD d5, D.sl (qI bs) n]))] 1 ⟨(by have h0 := (qC d2 65535); rw [hx19] at h0; exact h0), (by have h0 := (qC d3 1048576); rw [hx21] at h0; exact h0), (by have h0 := (qC d4 2048); rw [hx23] at h0; exact h0), (by have h0 := (qC d5 4096); rw [hx25] at h0; exact h0)⟩ ?_
              refine yV ?_
              by_cases hx27 : ((1 : Int) ≤ ((n : Nat) : Int))
              · by_cases hx28 : (((n : Nat) : Int) ≤ 8)
                · rcases kb6 (lR bs) with hx29 | hx29
                  · refine zr (.no :: .no :: .no :: .b true :: kU 4 (.b true :: kU 4 [.call [] (bV true) [] 0 [] none, .no, .no])) [2] [] ((((1 : Int) ≤ (n : Int))) ∧ (((n : Int) ≤ 8)) ∧ (Fun 30 [.c (.d (D.sl (qI bs) n))] (kG []) 0 (bV true) (kG []) 0)) [(2, bV true)] [] 1 ⟨zo, zo, (by have h0 := (f7 bs n zo zo (kP : BsW bs)); rw [hx29] at h0; exact h0)⟩ ?_
                    refine AW.ret ?_
                    exact kC (.inr rfl) [] (P := ((c4 nm d1 d2 d3 d4 d5 bs) = true)) zk yB
                  · refine zr (.no :: .no :: .no :: .b true :: kU 4 (.b true :: kU 4 [.call [] (bV false) [] 0 [] none, .no, .no])) [2] [] ((((1 : Int) ≤ (n : Int))) ∧ (((n : Int) ≤ 8)) ∧ (Fun 30 [.c (.d (D.sl (qI bs) n))] (kG []) 0 (bV false) (kG []) 0)) [(2, bV false)] [] 1 ⟨zo, zo, (by have h0 := (f7 bs n zo zo (kP : BsW bs)); rw [hx29] at h0; exact h0)⟩ ?_
                    refine AW.ret ?_
                    exact kC (.inr rfl) [] (P := ((c4 nm d1 d2 d3 d4 d5 bs) = false)) zk yB
                · refine zr (.no :: .no :: .no :: .b true :: kU 4 (.b false :: kU 4 [])) [2] [] ((((1 : Int) ≤ (n : Int))) ∧ (¬ ((n : Int) ≤ 8))) [(2, bV false)] [] 1 ⟨zo, zo⟩ ?_
                  refine AW.ret ?_
                  exact kC (.inr rfl) [] (P := ((c4 nm d1 d2 d3 d4 d5 bs) = false)) zk yB
              · refine zr (.no :: .no :: .no :: .b false :: kU 5 []) [2] [] (¬ ((1 : Int) ≤ (n : Int))) [(2, bV false)] [] 1 zo ?_
                refine AW.ret ?_
                exact kC (.inr rfl) [] (P := ((c4 nm d1 d2 d3 d4 d5 bs) = false)) zk yB
            · have hx30 : ¬ (((0 : Int) ≤ d5) ∧ (d5 ≤ 4096)) := of_decide_eq_false hx25
              refine kK (.no :: .no :: .call [] (bV true) [] 0 [] none :: kU 4 (.call [] (bV true) [] 0 [] none :: kU 5 (.call [] (bV true) [] 0 [] none :: kU 5 [.call [] (bV false) [] 0 [] none, .no, .no]))) ((Fun 29 [iE d2, iE 65535] (kG []) 0 (bV true) (kG []) 0) ∧ (Fun 29 [iE d3, iE 1048576] (kG []) 0 (bV true) (kG []) 0) ∧ (Fun 29 [iE d4, iE 2048] (kG []) 0 (bV true) (kG []) 0) ∧ (Fun 29 [iE d5, iE 4096] (kG []) 0 (bV false) (kG []) 0)) [(1, rV 0 0), (38, bV true)] [(0, some (31, .ds [D.lit (.int .u64 id), D.lit (.string (strOfNums nm)), iD d1, iD d2, iD d3, iD d4, iD d5, D.sl (qI bs) n]))] 1 ⟨(by have h0 := (qC d2 65535); rw [hx19] at h0; exact h0), (by have h0 := (qC d3 1048576); rw [hx21] at h0; exact h0), (by have h0 := (qC d4 2048); rw [hx23] at h0; exact h0), (by have h0 := (qC d5 4096); rw [hx25] at h0; exact h0)⟩ ?_
              refine zt ?_
              refine kK [.no] True [(2, bV false)] [] 1 trivial ?_
              refine AW.ret ?_
              exact kC (.inr rfl) [] (P := ((c4 nm d1 d2 d3 d4 d5 bs) = false)) zk yB
          · have hx31 : ¬ (((0 : Int) ≤ d4) ∧ (d4 ≤ 2048)) := of_decide_eq_false hx23
            refine kK (.no :: .no :: .call [] (bV true) [] 0 [] none :: kU 4 (.call [] (bV true) [] 0 [] none :: kU 5 (.call [] (bV false) [] 0 [] none :: kU 4 []))) ((Fun 29 [iE d2, iE 65535] (kG []) 0 (bV true) (kG []) 0) ∧ (Fun 29 [iE d3, iE 1048576] (kG []) 0 (bV true) (kG []) 0) ∧ (Fun 29 [iE d4, iE 2048] (kG []) 0 (bV false) (kG []) 0)) [(1, rV 0 0), (38, bV true)] [(0, some (31, .ds [D.lit (.int .u64 id), D.lit (.string (strOfNums nm)), iD d1, iD d2, iD d3, iD d4, iD d5, D.sl (qI bs) n]))] 1 ⟨(by have h0 := (qC d2 65535); rw [hx19] at h0; exact h0), (by have h0 := (qC d3 1048576); rw [hx21] at h0; exact h0), (by have h0 := (qC d4 2048); rw [hx23] at h0; exact h0)⟩ ?_
            refine zt ?_
            refine kK [.no] True [(2, bV false)] [] 1 trivial ?_
            refine AW.ret ?_
            exact kC (.inr rfl) [] (P := ((c4 nm d1 d2 d3 d4 d5 bs) = false)) zk yB
        · have hx32 : ¬ (((0 : Int) ≤ d3) ∧ (d3 ≤ 1048576)) := of_decide_eq_false hx21
          refine kK (.no :: .no :: .call [] (bV true) [] 0 [] none :: kU 4 (.call [] (bV false) [] 0 [] none :: kU 6 [])) ((Fun 29 [iE d2, iE 65535] (kG []) 0 (bV true) (kG []) 0) ∧ (Fun 29 [iE d3, iE 1048576] (kG []) 0 (bV false) (kG []) 0)) [(1, rV 0 0), (38, bV true)] [(0, some (31, .ds [D.lit (.int .u64 id), D.lit (.string (strOfNums nm)), iD d1, iD d2, iD d3, iD d4, iD d5, D.sl (qI bs) n]))] 1 ⟨(by have h0 := (qC d2 65535); rw [hx19] at h0; exact h0), (by have h0 := (qC d3 1048576); rw [hx21] at h0; exact h0)⟩ ?_
          refine zt ?_
          refine kK [.no] True [(2, bV false)] [] 1 trivial ?_
          refine AW.ret ?_
          exact kC (.inr rfl) [] (P := ((c4 nm d1 d2 d3 d4 d5 bs) = false)) zk yB
      · have hx33 : ¬ (((0 : Int) ≤ d2) ∧ (d2 ≤ 65535)) := of_decide_eq_false hx19
        refine kK (.no :: .no :: .call [] (bV false) [] 0 [] none :: kU 7 []) (Fun 29 [iE d2, iE 65535] (kG []) 0 (bV false) (kG []) 0) [(1, rV 0 0), (38, bV true)] [(0, some (31, .ds [D.lit (.int .u64 id), D.lit (.string (strOfNums nm)), iD d1, iD d2, iD d3, iD d4, iD d5, D.sl (qI bs) n]))] 1 (by have h0 := (qC d2 65535); rw [hx19] at h0; exact h0) ?_
        refine zt ?_
        refine kK [.no] True [(2, bV false)] [] 1 trivial ?_
        refine AW.ret ?_
        exact kC (.inr rfl) [] (P := ((c4 nm d1 d2 d3 d4 d5 bs) = false)) zk yB
  · refine zr [.no, .no, .call [] (bV false) [] 0 [] none, .no, .no, .no] [1, 16] [0] (Fun 28 [.c (.d (D.lit (.string (strOfNums nm))))] (kG []) 0 (bV false) (kG []) 0) [(1, rV 0 0), (16, bV true)] [(0, some (31, .ds [D.lit (.int .u64 id), D.lit (.string (strOfNums nm)), iD d1, iD d2, iD d3, iD d4, iD d5, D.sl (qI bs) n]))] 1 (by have h0 := (nN nm (kP : Byt nm) zo); rw [hx1] at h0; exact h0) ?_
    refine zt ?_
    refine kK [.no] True [(2, bV false)] [] 1 trivial ?_
    refine AW.ret ?_
    exact kC (.inr rfl) [] (P := ((c4 nm d1 d2 d3 d4 d5 bs) = false)) zk yB
abbrev rT (l : List Int) (m : Nat) (u : RS) : BC := .ds [D.sl (dI .u8 l) m, iD (((kL (j7 l (kD 2 l (kD 2 l (kD 4 l (kD 2 l (kD 2 l (qN l (kD 8 l u))))))))) : Nat) : Int), iD (kT (j7 l (kD 2 l (kD 2 l (kD 4 l (kD 2 l (kD 2 l (qN l (kD 8 l u)))))))))]
theorem k9r (l : List Int) (m : Nat) (u : RS) (hm : ka1 l = m) (hb : m ≤ 1000000) (hy : Byt l) (hu : kL u ≤ m) : Fun 24 [.c (.ptr 0 0)] (kG [(0, some (59, .ds [D.sl (dI .u8 l) m, iD (((kL u) : Nat) : Int), iD (kT u)]))]) 1 (.e (.agg [.d (D.lit (.int .u64 (vK l u))), .d (D.lit (.string (strOfNums (vY l (dz1 l u))))), iC (((kV l (iO l u)) : Nat) : Int), iC (((kV l (iN l u)) : Nat) : Int), iC (yA l (iM l u)), iC (((kV l (iL l u)) : Nat) : Int), iC (((kV l (iK l u)) : Nat) : Int), .d (D.sl (qI (yY l (aN l u))) (ka1 (yY l (aN l u))))])) (kG [(0, some (59, .ds [D.sl (dI .u8 l) m, iD (((kL (bK l u)) : Nat) : Int), iD (kT (bK l u))]))]) 1 := by
  refine Fun.mk (n := 29) Try.func24 rfl rfl (ka5 rfl) ?_
  intro cx hcx
  refine kK [.no] True [(0, rV 0 0), (2, rV 1 0)] [(0, some (59, .ds [db l m, uD (kL u), iD (kT u)])), (1, some (31, .ds [D.lit (.int .u64 0), D.lit (.string { data := #[] }), iD 0, iD 0, iD 0, iD 0, iD 0, qH]))] 2 trivial ?_
  have hx1 : ((kL (kD 8 l u)) ≤ m) := (uX (zo) (qU))
  have hx2 : (((0 : Int) ≤ (vK l u)) ∧ ((vK l u) ≤ 18446744073709551615)) := (tQ (kP : Byt l) u)
  refine kK [.no, .call [0] (kS (D.lit (.int .u64 (vK l u)))) [(0, some (59, .ds [db l m, uD (kL (kD 8 l u)), iD (kT (kD 8 l u))]))] 1 [] none, .no, .no, .no] _ [(0, rV 0 0), (2, rV 1 0), (3, rV 2 0)] [(0, some (59, .ds [db l m, uD (kL (kD 8 l u)), iD (kT (kD 8 l u))])), (1, some (31, .ds [D.lit (.int .u64 0), D.lit (.string { data := #[] }), iD 0, iD 0, iD 0, iD 0, iD 0, qH])), (2, some (31, .ds [D.lit (.int .u64 (vK l u)), D.lit (.string { data := #[] }), iD 0, iD 0, iD 0, iD 0, iD 0, qH]))] 3 (k65 l m u zo zo (kP : Byt l) qU) ?_
  have hx3 : ((kL (qN l (kD 8 l u))) ≤ m) := (k6f (zo) (qU))
  have hx4 : ((ka1 (vY l (kD 8 l u))) ≤ 64) := (lT _ _)
  refine kK [.no, .call [0] (kS (D.lit (.string (strOfNums (vY l (kD 8 l u)))))) [(0, some (59, .ds [db l m, uD (kL (qN l (kD 8 l u))), iD (kT (qN l (kD 8 l u)))]))] 1 [] none, .no, .no] _ [(0, rV 0 0), (2, rV 1 0), (3, rV 2 0)] [(0, some (59, .ds [db l m, uD (kL (qN l (kD 8 l u))), iD (kT (qN l (kD 8 l u)))])), (1, some (31, .ds [D.lit (.int .u64 0), D.lit (.string { data := #[] }), iD 0, iD 0, iD 0, iD 0, iD 0, qH])), (2, some (31, .ds [D.lit (.int .u64 (vK l u)), D.lit (.string (strOfNums (vY l (kD 8 l u)))), iD 0, iD 0, iD 0, iD 0, iD 0, qH]))] 3 (k9n l m (kD 8 l u) zo zo (kP : Byt l) qU) ?_
  have hx5 : ((kL (kD 2 l (qN l (kD 8 l u)))) ≤ m) := (uX (zo) (qU))
  have hx6 : ((kV l (qN l (kD 8 l u))) ≤ 65535) := (yE (kP : Byt l) (qN l (kD 8 l u)))
  refine kK [.no, .call [0] (uV (kV l (qN l (kD 8 l u)))) [(0, some (59, .ds [db l m, iD (kL (kD 2 l (qN l (kD 8 l u))) : Int), iD (kT (kD 2 l (qN l (kD 8 l u))))]))] 1 [] none, .no, .no] _ [(0, rV 0 0), (2, rV 1 0), (3, rV 2 0)] [(0, some (59, .ds [db l m, iD (kL (kD 2 l (qN l (kD 8 l u))) : Int), iD (kT (kD 2 l (qN l (kD 8 l u))))])), (1, some (31, .ds [D.lit (.int .u64 0), D.lit (.string { data := #[] }), iD 0, iD 0, iD 0, iD 0, iD 0, qH])), (2, some (31, .ds [D.lit (.int .u64 (vK l u)), D.lit (.string (strOfNums (vY l (kD 8 l u)))), uD (kV l (qN l (kD 8 l u))), iD 0, iD 0, iD 0, iD 0, qH]))] 3 (vC l m (qN l (kD 8 l u)) zo zo (kP : Byt l) qU) ?_
  have hx7 : ((kL (kD 2 l (kD 2 l (qN l (kD 8 l u))))) ≤ m) := (uX (zo) (qU))
  have hx8 : ((kV l (kD 2 l (qN l (kD 8 l u)))) ≤ 65535) := (yE (kP : Byt l) (kD 2 l (qN l (kD 8 l u))))
  refine kK [.no, .call [0] (iV (kV l (kD 2 l (qN l (kD 8 l u))) : Int)) [(0, some (59, .ds [db l m, iD (((kL (kD 2 l (kD 2 l (qN l (kD 8 l u))))) : Nat) : Int), iD (kT (kD 2 l (kD 2 l (qN l (kD 8 l u)))))]))] 1 [] none, .no, .no] _ [(0, rV 0 0), (2, rV 1 0), (3, rV 2 0)] [(0, some (59, .ds [db l m, iD (((kL (kD 2 l (kD 2 l (qN l (kD 8 l u))))) : Nat) : Int), iD (kT (kD 2 l (kD 2 l (qN l (kD 8 l u)))))])), (1, some (31, .ds [D.lit (.int .u64 0), D.lit (.string { data := #[] }), iD 0, iD 0, iD 0, iD 0, iD 0, qH])), (2, some (31, .ds [D.lit (.int .u64 (vK l u)), D.lit (.string (strOfNums (vY l (kD 8 l u)))), uD (kV l (qN l (kD 8 l u))), iD (kV l (kD 2 l (qN l (kD 8 l u))) : Int), iD 0, iD 0, iD 0, qH]))] 3 (vC l m (kD 2 l (qN l (kD 8 l u))) zo zo (kP : Byt l) qU) ?_
  have hx9 : ((kL (kD 4 l (kD 2 l (kD 2 l (qN l (kD 8 l u)))))) ≤ m) := (uX (zo) (qU))
  have hx10 : (((0 : Int) ≤ (yA l (kD 2 l (kD 2 l (qN l (kD 8 l u)))))) ∧ ((yA l (kD 2 l (kD 2 l (qN l (kD 8 l u))))) ≤ 4294967295)) := (lS (kP : Byt l) (kD 2 l (kD 2 l (qN l (kD 8 l u)))))
  refine kK [.no, .call [0] (iV (yA l (kD 2 l (kD 2 l (qN l (kD 8 l u)))))) [(0, some (59, .ds [db l m, iD (((kL (kD 4 l (kD 2 l (kD 2 l (qN l (kD 8 l u)))))) : Nat) : Int), iD (kT (kD 4 l (kD 2 l (kD 2 l (qN l (kD 8 l u))))))]))] 1 [] none, .no, .no] _ [(0, rV 0 0), (2, rV 1 0), (3, rV 2 0)] [(0, some (59, .ds [db l m, iD (((kL (kD 4 l (kD 2 l (kD 2 l (qN l (kD 8 l u)))))) : Nat) : Int), iD (kT (kD 4 l (kD 2 l (kD 2 l (qN l (kD 8 l u))))))])), (1, some (31, .ds [D.lit (.int .u64 0), D.lit (.string { data := #[] }), iD 0, iD 0, iD 0, iD 0, iD 0, qH])), (2, some (31, .ds [D.lit (.int .u64 (vK l u)), D.lit (.string (strOfNums (vY l (kD 8 l u)))), uD (kV l (qN l (kD 8 l u))), iD (kV l (kD 2 l (qN l (kD 8 l u))) : Int), iD (yA l (kD 2 l (kD 2 l (qN l (kD 8 l u))))), iD 0, iD 0, qH]))] 3 (nO l m (kD 2 l (kD 2 l (qN l (kD 8 l u)))) zo zo (kP : Byt l) qU) ?_
  have hx11 : ((kL (kD 2 l (kD 4 l (kD 2 l (kD 2 l (qN l (kD 8 l u))))))) ≤ m) := (uX (zo) (qU))
  have hx12 : ((kV l (kD 4 l (kD 2 l (kD 2 l (qN l (kD 8 l u)))))) ≤ 65535) := (yE (kP : Byt l) (kD 4 l (kD 2 l (kD 2 l (qN l (kD 8 l u))))))
  refine kK [.no, .call [0] (iV (((kV l (kD 4 l (kD 2 l (kD 2 l (qN l (kD 8 l u)))))) : Nat) : Int)) [(0, some (59, .ds [db l m, iD (((kL (kD 2 l (kD 4 l (kD 2 l (kD 2 l (qN l (kD 8 l u))))))) : Nat) : Int), iD (kT (kD 2 l (kD 4 l (kD 2 l (kD 2 l (qN l (kD 8 l u)))))))]))] 1 [] none, .no, .no] _ [(0, rV 0 0), (2, rV 1 0), (3, rV 2 0)] [(0, some (59, .ds [db l m, iD (((kL (kD 2 l (kD 4 l (kD 2 l (kD 2 l (qN l (kD 8 l u))))))) : Nat) : Int), iD (kT (kD 2 l (kD 4 l (kD 2 l (kD 2 l (qN l (kD 8 l u)))))))])), (1, some (31, .ds [D.lit (.int .u64 0), D.lit (.string { data := #[] }), iD 0, iD 0, iD 0, iD 0, iD 0, qH])), (2, some (31, .ds [D.lit (.int .u64 (vK l u)), D.lit (.string (strOfNums (vY l (kD 8 l u)))), uD (kV l (qN l (kD 8 l u))), iD (kV l (kD 2 l (qN l (kD 8 l u))) : Int), iD (yA l (kD 2 l (kD 2 l (qN l (kD 8 l u))))), iD (((kV l (kD 4 l (kD 2 l (kD 2 l (qN l (kD 8 l u)))))) : Nat) : Int), iD 0, qH]))] 3 (vC l m (kD 4 l (kD 2 l (kD 2 l (qN l (kD 8 l u))))) zo zo (kP : Byt l) qU) ?_
  have hx13 : ((kL (kD 2 l (kD 2 l (kD 4 l (kD 2 l (kD 2 l (qN l (kD 8 l u)))))))) ≤ m) := (uX (zo) (qU))
  have hx14 : ((kV l (kD 2 l (kD 4 l (kD 2 l (kD 2 l (qN l (kD 8 l u))))))) ≤ 65535) := (yE (kP : Byt l) (kD 2 l (kD 4 l (kD 2 l (kD 2 l (qN l (kD 8 l u)))))))
  refine kK [.no, .call [0] (iV (((kV l (kD 2 l (kD 4 l (kD 2 l (kD 2 l (qN l (kD 8 l u))))))) : Nat) : Int)) [(0, some (59, .ds [db l m, iD (((kL (kD 2 l (kD 2 l (kD 4 l (kD 2 l (kD 2 l (qN l (kD 8 l u)))))))) : Nat) : Int), iD (kT (kD 2 l (kD 2 l (kD 4 l (kD 2 l (kD 2 l (qN l (kD 8 l u))))))))]))] 1 [] none, .no, .no] _ [(0, rV 0 0), (2, rV 1 0), (3, rV 2 0)] [(0, some (59, .ds [db l m, iD (((kL (kD 2 l (kD 2 l (kD 4 l (kD 2 l (kD 2 l (qN l (kD 8 l u)))))))) : Nat) : Int), iD (kT (kD 2 l (kD 2 l (kD 4 l (kD 2 l (kD 2 l (qN l (kD 8 l u))))))))])), (1, some (31, .ds [D.lit (.int .u64 0), D.lit (.string { data := #[] }), iD 0, iD 0, iD 0, iD 0, iD 0, qH])), (2, some (31, .ds [D.lit (.int .u64 (vK l u)), D.lit (.string (strOfNums (vY l (kD 8 l u)))), uD (kV l (qN l (kD 8 l u))), iD (kV l (kD 2 l (qN l (kD 8 l u))) : Int), iD (yA l (kD 2 l (kD 2 l (qN l (kD 8 l u))))), iD (((kV l (kD 4 l (kD 2 l (kD 2 l (qN l (kD 8 l u)))))) : Nat) : Int), iD (((kV l (kD 2 l (kD 4 l (kD 2 l (kD 2 l (qN l (kD 8 l u))))))) : Nat) : Int), qH]))] 3 (vC l m (kD 2 l (kD 4 l (kD 2 l (kD 2 l (qN l (kD 8 l u)))))) zo zo (kP : Byt l) qU) ?_
  have hx15 : ((kL (j7 l (kD 2 l (kD 2 l (kD 4 l (kD 2 l (kD 2 l (qN l (kD 8 l u))))))))) ≤ m) := (k3f (zo) (qU))
  have hx16 : ((ka1 (yY l (kD 2 l (kD 2 l (kD 4 l (kD 2 l (kD 2 l (qN l (kD 8 l u))))))))) ≤ 65535) := (nE (kP : Byt l) (kD 2 l (kD 2 l (kD 4 l (kD 2 l (kD 2 l (qN l (kD 8 l u))))))))
  have hx17 : (BsW (yY l (kD 2 l (kD 2 l (kD 4 l (kD 2 l (kD 2 l (qN l (kD 8 l u))))))))) := (k3e (kP : Byt l) (kD 2 l (kD 2 l (kD 4 l (kD 2 l (kD 2 l (qN l (kD 8 l u))))))))
  refine kK [.no, .call [0] (qY (qI (yY l (kD 2 l (kD 2 l (kD 4 l (kD 2 l (kD 2 l (qN l (kD 8 l u))))))))) (ka1 (yY l (kD 2 l (kD 2 l (kD 4 l (kD 2 l (kD 2 l (qN l (kD 8 l u)))))))))) [(0, some (59, (rT l m u)))] 1 [] none, .no, .no] _ [(2, rV 1 0), (3, rV 2 0)] [(0, some (59, (rT l m u))), (1, some (31, .ds [D.lit (.int .u64 0), D.lit (.string { data := #[] }), iD 0, iD 0, iD 0, iD 0, iD 0, qH])), (2, some (31, .ds [D.lit (.int .u64 (vK l u)), D.lit (.string (strOfNums (vY l (kD 8 l u)))), uD (kV l (qN l (kD 8 l u))), iD (kV l (kD 2 l (qN l (kD 8 l u))) : Int), iD (yA l (kD 2 l (kD 2 l (qN l (kD 8 l u))))), iD (((kV l (kD 4 l (kD 2 l (kD 2 l (qN l (kD 8 l u)))))) : Nat) : Int), iD (((kV l (kD 2 l (kD 4 l (kD 2 l (kD 2 l (qN l (kD 8 l u))))))) : Nat) : Int), D.sl (qI (yY l (kD 2 l (kD 2 l (kD 4 l (kD 2 l (kD 2 l (qN l (kD 8 l u))))))))) (ka1 (yY l (kD 2 l (kD 2 l (kD 4 l (kD 2 l (kD 2 l (qN l (kD 8 l u)))))))))]))] 3 (k66 l m (kD 2 l (kD 2 l (kD 4 l (kD 2 l (kD 2 l (qN l (kD 8 l u))))))) zo zo (kP : Byt l) qU) ?_
  refine kK [.no, .no] True [(2, rV 1 0)] [(0, some (59, (rT l m u))), (1, some (31, .ds [D.lit (.int .u64 (vK l u)), D.lit (.string (strOfNums (vY l (kD 8 l u)))), uD (kV l (qN l (kD 8 l u))), iD (kV l (kD 2 l (qN l (kD 8 l u))) : Int), iD (yA l (kD 2 l (kD 2 l (qN l (kD 8 l u))))), iD (((kV l (kD 4 l (kD 2 l (kD 2 l (qN l (kD 8 l u)))))) : Nat) : Int), iD (((kV l (kD 2 l (kD 4 l (kD 2 l (kD 2 l (qN l (kD 8 l u))))))) : Nat) : Int), D.sl (qI (yY l (kD 2 l (kD 2 l (kD 4 l (kD 2 l (kD 2 l (qN l (kD 8 l u))))))))) (ka1 (yY l (kD 2 l (kD 2 l (kD 4 l (kD 2 l (kD 2 l (qN l (kD 8 l u)))))))))]))] 3 trivial ?_
  refine AW.ret ?_
  exact kC (.inr rfl) [] (P := (kN (vK l u)) ∧ ((.string (strOfNums (vY l (dz1 l u))) : Value) = .string (strOfNums (vY l (kD 8 l u)))) ∧ (((kV l (iO l u) : Int) : Int) = (kV l (qN l (kD 8 l u)) : Int)) ∧ (((kV l (iN l u) : Int) : Int) = (kV l (kD 2 l (qN l (kD 8 l u))) : Int)) ∧ (((yA l (iM l u)) : Int) = (yA l (kD 2 l (kD 2 l (qN l (kD 8 l u)))))) ∧ (((kV l (iL l u) : Int) : Int) = (((kV l (kD 4 l (kD 2 l (kD 2 l (qN l (kD 8 l u)))))) : Nat) : Int)) ∧ (((kV l (iK l u) : Int) : Int) = (((kV l (kD 2 l (kD 4 l (kD 2 l (kD 2 l (qN l (kD 8 l u))))))) : Nat) : Int)) ∧ (((qI (yY l (aN l u))) : List D) = (qI (yY l (kD 2 l (kD 2 l (kD 4 l (kD 2 l (kD 2 l (qN l (kD 8 l u)))))))))) ∧ (((ka1 (yY l (aN l u))) : Nat) = (ka1 (yY l (kD 2 l (kD 2 l (kD 4 l (kD 2 l (kD 2 l (qN l (kD 8 l u)))))))))) ∧ (([db l m, uD (kL (bK l u)), iD (kT (bK l u))] : List D) = [db l m, iD (((kL (j7 l (kD 2 l (kD 2 l (kD 4 l (kD 2 l (kD 2 l (qN l (kD 8 l u))))))))) : Nat) : Int), iD (kT (j7 l (kD 2 l (kD 2 l (kD 4 l (kD 2 l (kD 2 l (qN l (kD 8 l u)))))))))])) zk ⟨rfl, (congrArg (fun x9 => Value.string (strOfNums x9)) (show (vY l (dz1 l u)) = (vY l (kD 8 l u)) from rfl)), (by first | rfl | omega), (by first | rfl | omega), (by first | rfl | omega), (by first | rfl | omega), (by first | rfl | omega), rfl, (by first | rfl | omega), rfl⟩
abbrev yS (m : Nat) (l : List Int) := vY (ka2 (m - 4) l) (dz1 (ka2 (m - 4) l) kZ)
theorem gH {p : Prop} (h : p := by first | rfl | with_reducible assumption | exact qD _ _ _ | exact aJ _ _ _ | (simp only [u6, qS, qD, kc3, kd4, kc9, ke5, kc6]; done) | (simp only [u6, qS, qD, kc3, kd4, kc9, ke5, kc6]; rfl) | (rw [List.take_of_length_le (by simp only [kR, kQ, pbL_len, qJ, kb1, kb4, kc3] <;> omega)]; first | rfl | (simp only [qS, kc3, kd4, kc9]; done) | (simp only [qS, kc3, kd4, kc9]; rfl))) : p := h
theorem cA (l : List Int) (m : Nat) (hm : ka1 l = m) (hb : m ≤ 1000000) (hy : Byt l) : Fun 9 [.c (.d (D.sl (dI .u8 l) m))] (kG []) 0 (.tup [.agg [.d (D.lit (.int .u64 (rJ l))), .d (D.lit (.string (strOfNums (f0 l)))), iC (rO l), iC (rN l), iC (rM l), iC (rL l), iC (rK l), .d (D.sl (qI (aI l)) (ka1 (aI l)))], iE (uO l)]) (kG []) 0 := by
  have h4a : kL kZ = 4 := rfl
  have h4q : kT kZ = 0 := rfl
  refine Fun.mk (n := 61) Try.func9 rfl rfl (ka5 rfl) ?_
  intro cx hcx
  refine kK [.no, .no] True [(0, sV .u8 l m), (2, rV 0 0)] [(0, some (31, .ds [D.lit (.int .u64 0), D.lit (.string { data := #[] }), iD 0, iD 0, iD 0, iD 0, iD 0, qH]))] 1 trivial ?_
  refine kX [.no, .no, .w, .no] (qL ((m : Int) - 4)) [(0, sV .u8 l m), (2, rV 0 0), (4, iV (↑m - 4))] ⟨by omega, by omega⟩ ?_
  refine AW.seq ?_
  by_cases hx1 : ((((m : Nat) : Int) - 4) < 4)
  · refine zr [.no, .b true] [0, 2, 4, 14] [0] ((((m : Int) - 4) < 4)) [(0, sV .u8 l m), (2, rV 0 0), (4, iV (↑m - 4)), (14, bV true)] [(0, some (31, .ds [D.lit (.int .u64 0), D.lit (.string { data := #[] }), iD 0, iD 0, iD 0, iD 0, iD 0, qH]))] 1 zo ?_
    refine zt ?_
    refine kK [.no, .no, .no] True [(2, rV 0 0), (3, iV 4)] [(0, some (31, .ds [D.lit (.int .u64 0), D.lit (.string { data := #[] }), iD 0, iD 0, iD 0, iD 0, iD 0, qH]))] 1 trivial ?_
    refine aM (l' := [(2, rV 0 0), (3, iV 4)]) (g' := [(0, some (31, .ds [D.lit (.int .u64 0), D.lit (.string { data := #[] }), iD 0, iD 0, iD 0, iD 0, iD 0, D.sl ([] : List D) 0]))]) (NlS.cons rfl (.same _) (NlS.cons rfl (.same _) NlS.nil)) (NlG.to (bc := .ds [D.lit (.int .u64 0), D.lit (.string { data := #[] }), iD 0, iD 0, iD 0, iD 0, iD 0, qH]) rfl (NlL.cons (.same _) (NlL.cons (.same _) (NlL.cons (.same _) (NlL.cons (.same _) (NlL.cons (.same _) (NlL.cons (.same _) (NlL.cons (.same _) (NlL.cons (.nil) NlL.nil)))))))) NlG.nil) ?_
    have hz0 : uO l = 4 := (u23 hm (by omega))
    obtain ⟨hzI, hzN, hz1, hz2, hz3, hz4, hz5, hzB⟩ := zC (l := l) zo
    refine AW.ret ?_
    exact kC (.inr rfl) [] (P := (((rJ l) : Int) = 0) ∧ ((.string (strOfNums (f0 l)) : Value) = .string { data := #[] }) ∧ (((rO l) : Int) = 0) ∧ (((rN l) : Int) = 0) ∧ (((rM l) : Int) = 0) ∧ (((rL l) : Int) = 0) ∧ (((rK l) : Int) = 0) ∧ (((qI (aI l)) : List D) = ([] : List D)) ∧ (((ka1 (aI l)) : Nat) = 0) ∧ (((uO l) : Int) = 4)) zk ⟨(by first | omega | rfl | exact hzN.symm | exact hzN | (rw [hzN]; done) | (rw [hzN]; rfl) | (rw [hzB]; done) | (rw [hzB]; rfl)), (by rw [hzN]; rfl), (by first | omega | rfl | exact hzN.symm | exact hzN | (rw [hzN]; done) | (rw [hzN]; rfl) | (rw [hzB]; done) | (rw [hzB]; rfl)), (by first | omega | rfl | exact hzN.symm | exact hzN | (rw [hzN]; done) | (rw [hzN]; rfl) | (rw [hzB]; done) | (rw [hzB]; rfl)), (by first | omega | rfl | exact hzN.symm | exact hzN | (rw [hzN]; done) | (rw [hzN]; rfl) | (rw [hzB]; done) | (rw [hzB]; rfl)), (by first | omega | rfl | exact hzN.symm | exact hzN | (rw [hzN]; done) | (rw [hzN]; rfl) | (rw [hzB]; done) | (rw [hzB]; rfl)), (by first | omega | rfl | exact hzN.symm | exact hzN | (rw [hzN]; done) | (rw [hzN]; rfl) | (rw [hzB]; done) | (rw [hzB]; rfl)), (by first | omega | rfl | exact hzN.symm | exact hzN | (rw [hzN]; done) | (rw [hzN]; rfl) | (rw [hzB]; done) | (rw [hzB]; rfl)), (by first | omega | rfl | exact hzN.symm | exact hzN | (rw [hzN]; done) | (rw [hzN]; rfl) | (rw [hzB]; done) | (rw [hzB]; rfl)), (by first | omega | rfl | exact hzN.symm | exact hzN | (rw [hzN]; done) | (rw [hzN]; rfl) | (rw [hzB]; done) | (rw [hzB]; rfl))⟩
  · refine zr [.no, .b false] [0, 2, 4, 14] [0] (¬ (((m : Int) - 4) < 4)) [(0, sV .u8 l m), (2, rV 0 0), (4, iV (↑m - 4)), (14, bV false)] [(0, some (31, .ds [D.lit (.int .u64 0), D.lit (.string { data := #[] }), iD 0, iD 0, iD 0, iD 0, iD 0, qH]))] 1 zo ?_
    refine yV ?_
    refine AW.seq ?_
    have hx2 : (((0 : Int) ≤ (g32 l (m - 4))) ∧ ((g32 l (m - 4)) ≤ 4294967295)) := g32_rng (kP : Byt l) zo
    refine kK (.no :: .no :: .call [] (.tup [.c (.d (D.lit (.int .u32 (g32 l (m - 4))))), uE ((m - 4) + 4), iE 0]) [] 0 [] (some [.c (.d (db l m)), uE (m - 4)]) :: kU 7 []) ((k8 (dI .u8 l)) ∧ (kM m) ∧ (((((m - 4) : Nat) : Int) : Int) = ((m : Int) - 4)) ∧ (_)) [(0, sV .u8 l m), (2, rV 0 0), (4, iV (↑m - 4)), (5, kS (D.lit (.int .u32 (g32 l (m - 4)))))] [(0, some (31, .ds [D.lit (.int .u64 0), D.lit (.string { data := #[] }), iD 0, iD 0, iD 0, iD 0, iD 0, qH]))] 1 ⟨rfl, rfl, zo, (W_Get32 l m (m - 4) zo zo (kP : Byt l) zo)⟩ ?_
    by_cases hx4 : ((g32 l (m - 4)) ≠ (qR (ka2 (m - 4) l)))
    · have hx5 : (((0 : Int) ≤ (qR (ka2 (m - 4) l))) ∧ ((qR (ka2 (m - 4) l)) ≤ 4294967295)) := dG _
      refine kK [.no, .no, .no, .sls 0 (m - 4) (m - 4) (dI .u8 (ka2 (m - 4) l)), .call [] (kS (D.lit (.int .u32 (qR (ka2 (m - 4) l))))) [] 0 [] none, .b true] ((kM 0) ∧ ((((m : Int) - 4) : Int) = (((m - 4) : Nat) : Int)) ∧ ((0 : Nat) ≤ (m - 4)) ∧ ((m - 4) ≤ m) ∧ ((m - 4) - 0 = (m - 4)) ∧ (ka2 ((m - 4) * 1) (ka7 (0 * 1) (dI .u8 l)) = (dI .u8 (ka2 (m - 4) l))) ∧ (_) ∧ (((g32 l (m - 4)) ≠ (qR (ka2 (m - 4) l))))) [(0, sV .u8 l m), (2, rV 0 0), (4, iV (↑m - 4)), (28, bV true)] [(0, some (31, .ds [D.lit (.int .u64 0), D.lit (.string { data := #[] }), iD 0, iD 0, iD 0, iD 0, iD 0, qH]))] 1 ⟨rfl, (by first | rfl | omega), zo, zo, zo, gH, (k3x (ka2 (m - 4) l) (m - 4) qU zo (Byt.take (kP : Byt l) _)), zo⟩ ?_
      refine zt ?_
      refine kX [.no, .no, .no] True [(2, rV 0 0), (3, iV 6)] trivial ?_
      refine aM (l' := [(2, rV 0 0), (3, iV 6)]) (g' := [(0, some (31, .ds [D.lit (.int .u64 0), D.lit (.string { data := #[] }), iD 0, iD 0, iD 0, iD 0, iD 0, D.sl ([] : List D) 0]))]) (NlS.cons rfl (.same _) (NlS.cons rfl (.same _) NlS.nil)) (NlG.to (bc := .ds [D.lit (.int .u64 0), D.lit (.string { data := #[] }), iD 0, iD 0, iD 0, iD 0, iD 0, qH]) rfl (NlL.cons (.same _) (NlL.cons (.same _) (NlL.cons (.same _) (NlL.cons (.same _) (NlL.cons (.same _) (NlL.cons (.same _) (NlL.cons (.same _) (NlL.cons (.nil) NlL.nil)))))))) NlG.nil) ?_
      have hz0 : uO l = 6 := (u26 hm (by omega) (by omega))
      obtain ⟨hzI, hzN, hz1, hz2, hz3, hz4, hz5, hzB⟩ := zC (l := l) zo
      refine AW.ret ?_
      exact kC (.inr rfl) [] (P := (((rJ l) : Int) = 0) ∧ ((.string (strOfNums (f0 l)) : Value) = .string { data := #[] }) ∧ (((rO l) : Int) = 0) ∧ (((rN l) : Int) = 0) ∧ (((rM l) : Int) = 0) ∧ (((rL l) : Int) = 0) ∧ (((rK l) : Int) = 0) ∧ (((qI (aI l)) : List D) = ([] : List D)) ∧ (((ka1 (aI l)) : Nat) = 0) ∧ (((uO l) : Int) = 6)) zk ⟨(by first | omega | rfl | exact hzN.symm | exact hzN | (rw [hzN]; done) | (rw [hzN]; rfl) | (rw [hzB]; done) | (rw [hzB]; rfl)), (by rw [hzN]; rfl), (by first | omega | rfl | exact hzN.symm | exact hzN | (rw [hzN]; done) | (rw [hzN]; rfl) | (rw [hzB]; done) | (rw [hzB]; rfl)), (by first | omega | rfl | exact hzN.symm | exact hzN | (rw [hzN]; done) | (rw [hzN]; rfl) | (rw [hzB]; done) | (rw [hzB]; rfl)), (by first | omega | rfl | exact hzN.symm | exact hzN | (rw [hzN]; done) | (rw [hzN]; rfl) | (rw [hzB]; done) | (rw [hzB]; rfl)), (by first | omega | rfl | exact hzN.symm | exact hzN | (rw [hzN]; done) | (rw [hzN]; rfl) | (rw [hzB]; done) | (rw [hzB]; rfl)), (by first | omega | rfl | exact hzN.symm | exact hzN | (rw [hzN]; done) | (rw [hzN]; rfl) | (rw [hzB]; done) | (rw [hzB]; rfl)), (by first | omega | rfl | exact hzN.symm | exact hzN | (rw [hzN]; done) | (rw [hzN]; rfl) | (rw [hzB]; done) | (rw [hzB]; rfl)), (by first | omega | rfl | exact hzN.symm | exact hzN | (rw [hzN]; done) | (rw [hzN]; rfl) | (rw [hzB]; done) | (rw [hzB]; rfl)), (by first | omega | rfl | exact hzN.symm | exact hzN | (rw [hzN]; done) | (rw [hzN]; rfl) | (rw [hzB]; done) | (rw [hzB]; rfl))⟩
    · have hx6 : (((0 : Int) ≤ (qR (ka2 (m - 4) l))) ∧ ((qR (ka2 (m - 4) l)) ≤ 4294967295)) := dG _
      refine kK [.no, .no, .no, .sls 0 (m - 4) (m - 4) (dI .u8 (ka2 (m - 4) l)), .call [] (kS (D.lit (.int .u32 (qR (ka2 (m - 4) l))))) [] 0 [] none, .b false] ((kM 0) ∧ ((((m : Int) - 4) : Int) = (((m - 4) : Nat) : Int)) ∧ ((0 : Nat) ≤ (m - 4)) ∧ ((m - 4) ≤ m) ∧ ((m - 4) - 0 = (m - 4)) ∧ (ka2 ((m - 4) * 1) (ka7 (0 * 1) (dI .u8 l)) = (dI .u8 (ka2 (m - 4) l))) ∧ (_) ∧ (¬ ((g32 l (m - 4)) ≠ (qR (ka2 (m - 4) l))))) [(0, sV .u8 l m), (2, rV 0 0), (4, iV (↑m - 4)), (28, bV false)] [(0, some (31, .ds [D.lit (.int .u64 0), D.lit (.string { data := #[] }), iD 0, iD 0, iD 0, iD 0, iD 0, qH]))] 1 ⟨rfl, (by first | rfl | omega), zo, zo, zo, gH, (k3x (ka2 (m - 4) l) (m - 4) qU zo (Byt.take (kP : Byt l) _)), zo⟩ ?_
      refine yV ?_
      refine AW.seq ?_
      by_cases hx7 : ((ka2 4 l) = ([83, 78, 68, 49] : List Int))
      · refine zr [.no, .sls 0 4 4 (dI .u8 (ka2 4 l)), .st none (ka2 4 l), .b false] [0, 2, 4, 33] [0] ((kM 0) ∧ (kN 4) ∧ ((0 : Nat) ≤ 4) ∧ ((4 : Nat) ≤ m) ∧ ((4 : Nat) - 0 = 4) ∧ (ka2 (4 * 1) (ka7 (0 * 1) (dI .u8 l)) = (dI .u8 (ka2 4 l))) ∧ ((dI .u8 (ka2 4 l)).length = 4 * 1) ∧ (k8 (dI .u8 (ka2 4 l))) ∧ ((!(ByteArray.toList (strOfNums (ka2 4 l)) == ByteArray.toList (ByteArray.mk #[83, 78, 68, 49]))) = false)) [(0, sV .u8 l m), (2, rV 0 0), (4, iV (↑m - 4)), (33, bV false)] [(0, some (31, .ds [D.lit (.int .u64 0), D.lit (.string { data := #[] }), iD 0, iD 0, iD 0, iD 0, iD 0, qH]))] 1 ⟨rfl, rfl, zo, zo, zo, gH, (by first | omega | (simp only [kR, kQ, pbL_len, qJ, ka4, kb2, kb5, kb3, kb1, kb4, kc4, kd0, kc8, kc3] <;> omega) | rfl), rfl, (by rw [show (ByteArray.toList (strOfNums (ka2 4 l)) == ByteArray.toList (ByteArray.mk #[83, 78, 68, 49])) = true from (u1s (by assumption))]; rfl)⟩ ?_
        refine yV ?_
        refine kK [.no, .no, .sls 0 (m - 4) (m - 4) (dI .u8 (ka2 (m - 4) l)), .no, .no, .no] ((kM 0) ∧ ((((m : Int) - 4) : Int) = (((m - 4) : Nat) : Int)) ∧ ((0 : Nat) ≤ (m - 4)) ∧ ((m - 4) ≤ m) ∧ ((m - 4) - 0 = (m - 4)) ∧ (ka2 ((m - 4) * 1) (ka7 (0 * 1) (dI .u8 l)) = (dI .u8 (ka2 (m - 4) l)))) [(2, rV 0 0), (4, iV (↑m - 4)), (8, rV 1 0)] [(0, some (31, .ds [D.lit (.int .u64 0), D.lit (.string { data := #[] }), iD 0, iD 0, iD 0, iD 0, iD 0, qH])), (1, some (59, .ds [db (ka2 (m - 4) l) (m - 4), iD 4, iD 0]))] 2 ⟨rfl, (by first | rfl | omega), zo, zo, zo, gH⟩ ?_
        have hx8 : ((kL (bK (ka2 (m - 4) l) kZ)) ≤ (m - 4)) := (k9e (qU) (qU))
        have hx9 : (((0 : Int) ≤ (vK (ka2 (m - 4) l) kZ)) ∧ ((vK (ka2 (m - 4) l) kZ) ≤ 18446744073709551615)) := (tQ ((Byt.take (kP : Byt l) _)) _)
        have hx10 : ((ka1 (yS m l)) ≤ 64) := (lT _ _)
        have hx11 : ((ka1 (yY (ka2 (m - 4) l) (aN (ka2 (m - 4) l) kZ))) ≤ 65535) := (nE ((Byt.take (kP : Byt l) _)) _)
        have hx12 : (BsW (yY (ka2 (m - 4) l) (aN (ka2 (m - 4) l) kZ))) := (k3e ((Byt.take (kP : Byt l) _)) _)
        refine kK [.no, .call [1] (.e (.agg [.d (D.lit (.int .u64 (vK (ka2 (m - 4) l) kZ))), .d (D.lit (.string (strOfNums (yS m l)))), iC (((kV (ka2 (m - 4) l) (iO (ka2 (m - 4) l) kZ)) : Nat) : Int), iC (((kV (ka2 (m - 4) l) (iN (ka2 (m - 4) l) kZ)) : Nat) : Int), iC (yA (ka2 (m - 4) l) (iM (ka2 (m - 4) l) kZ)), iC (((kV (ka2 (m - 4) l) (iL (ka2 (m - 4) l) kZ)) : Nat) : Int), iC (((kV (ka2 (m - 4) l) (iK (ka2 (m - 4) l) kZ)) : Nat) : Int), .d (D.sl (qI (yY (ka2 (m - 4) l) (aN (ka2 (m - 4) l) kZ))) (ka1 (yY (ka2 (m - 4) l) (aN (ka2 (m - 4) l) kZ))))])) [(0, some (59, .ds [db (ka2 (m - 4) l) (m - 4), iD (((kL (bK (ka2 (m - 4) l) kZ)) : Nat) : Int), iD (kT (bK (ka2 (m - 4) l) kZ))]))] 1 [] (some [.c (.ptr 0 0)]), .no, .no] ((kM 0) ∧ (_)) [(2, rV 0 0), (4, iV (↑m - 4)), (8, rV 1 0), (9, rV 2 0)] [(0, some (31, .ds [D.lit (.int .u64 0), D.lit (.string { data := #[] }), iD 0, iD 0, iD 0, iD 0, iD 0, qH])), (1, some (59, .ds [db (ka2 (m - 4) l) (m - 4), iD (((kL (bK (ka2 (m - 4) l) kZ)) : Nat) : Int), iD (kT (bK (ka2 (m - 4) l) kZ))])), (2, some (31, .ds [D.lit (.int .u64 (vK (ka2 (m - 4) l) kZ)), D.lit (.string (strOfNums (yS m l))), iD (((kV (ka2 (m - 4) l) (iO (ka2 (m - 4) l) kZ)) : Nat) : Int), iD (((kV (ka2 (m - 4) l) (iN (ka2 (m - 4) l) kZ)) : Nat) : Int), iD (yA (ka2 (m - 4) l) (iM (ka2 (m - 4) l) kZ)), iD (((kV (ka2 (m - 4) l) (iL (ka2 (m - 4) l) kZ)) : Nat) : Int), iD (((kV (ka2 (m - 4) l) (iK (ka2 (m - 4) l) kZ)) : Nat) : Int), D.sl (qI (yY (ka2 (m - 4) l) (aN (ka2 (m - 4) l) kZ))) (ka1 (yY (ka2 (m - 4) l) (aN (ka2 (m - 4) l) kZ)))]))] 3 ⟨rfl, (k9r (ka2 (m - 4) l) (m - 4) kZ qU zo (Byt.take (kP : Byt l) _) qU)⟩ ?_
        refine AW.seq ?_
        by_cases hx13 : ((kT (bK (ka2 (m - 4) l) kZ)) ≠ 0)
        · refine zr (kU 4 [.b true, .no, .no]) [2, 9, 54] [0, 2] (((kT (bK (ka2 (m - 4) l) kZ)) ≠ 0)) [(2, rV 0 0), (9, rV 2 0), (54, bV true)] [(0, some (31, .ds [D.lit (.int .u64 0), D.lit (.string { data := #[] }), iD 0, iD 0, iD 0, iD 0, iD 0, qH])), (2, some (31, .ds [D.lit (.int .u64 (vK (ka2 (m - 4) l) kZ)), D.lit (.string (strOfNums (yS m l))), iD (((kV (ka2 (m - 4) l) (iO (ka2 (m - 4) l) kZ)) : Nat) : Int), iD (((kV (ka2 (m - 4) l) (iN (ka2 (m - 4) l) kZ)) : Nat) : Int), iD (yA (ka2 (m - 4) l) (iM (ka2 (m - 4) l) kZ)), iD (((kV (ka2 (m - 4) l) (iL (ka2 (m - 4) l) kZ)) : Nat) : Int), iD (((kV (ka2 (m - 4) l) (iK (ka2 (m - 4) l) kZ)) : Nat) : Int), D.sl (qI (yY (ka2 (m - 4) l) (aN (ka2 (m - 4) l) kZ))) (ka1 (yY (ka2 (m - 4) l) (aN (ka2 (m - 4) l) kZ)))]))] 3 zo ?_
          refine zt ?_
          refine kK [.no, .no, .no] True [(2, rV 0 0), (3, iV 5)] [(0, some (31, .ds [D.lit (.int .u64 0), D.lit (.string { data := #[] }), iD 0, iD 0, iD 0, iD 0, iD 0, qH]))] 3 trivial ?_
          refine aM (l' := [(2, rV 0 0), (3, iV 5)]) (g' := [(0, some (31, .ds [D.lit (.int .u64 0), D.lit (.string { data := #[] }), iD 0, iD 0, iD 0, iD 0, iD 0, D.sl ([] : List D) 0]))]) (NlS.cons rfl (.same _) (NlS.cons rfl (.same _) NlS.nil)) (NlG.to (bc := .ds [D.lit (.int .u64 0), D.lit (.string { data := #[] }), iD 0, iD 0, iD 0, iD 0, iD 0, qH]) rfl (NlL.cons (.same _) (NlL.cons (.same _) (NlL.cons (.same _) (NlL.cons (.same _) (NlL.cons (.same _) (NlL.cons (.same _) (NlL.cons (.same _) (NlL.cons (.nil) NlL.nil)))))))) NlG.nil) ?_
          have hz0 : uO l = 5 := (k9d hm (by omega) (by omega) (by assumption) (by omega))
          obtain ⟨hzI, hzN, hz1, hz2, hz3, hz4, hz5, hzB⟩ := zC (l := l) zo
          refine AW.ret ?_
          exact kC (.inr rfl) [] (P := (((rJ l) : Int) = 0) ∧ ((.string (strOfNums (f0 l)) : Value) = .string { data := #[] }) ∧ (((rO l) : Int) = 0) ∧ (((rN l) : Int) = 0) ∧ (((rM l) : Int) = 0) ∧ (((rL l) : Int) = 0) ∧ (((rK l) : Int) = 0) ∧ (((qI (aI l)) : List D) = ([] : List D)) ∧ (((ka1 (aI l)) : Nat) = 0) ∧ (((uO l) : Int) = 5)) zk ⟨(by first | omega | rfl | exact hzN.symm | exact hzN | (rw [hzN]; done) | (rw [hzN]; rfl) | (rw [hzB]; done) | (rw [hzB]; rfl)), (by rw [hzN]; rfl), (by first | omega | rfl | exact hzN.symm | exact hzN | (rw [hzN]; done) | (rw [hzN]; rfl) | (rw [hzB]; done) | (rw [hzB]; rfl)), (by first | omega | rfl | exact hzN.symm | exact hzN | (rw [hzN]; done) | (rw [hzN]; rfl) | (rw [hzB]; done) | (rw [hzB]; rfl)), (by first | omega | rfl | exact hzN.symm | exact hzN | (rw [hzN]; done) | (rw [hzN]; rfl) | (rw [hzB]; done) | (rw [hzB]; rfl)), (by first | omega | rfl | exact hzN.symm | exact hzN | (rw [hzN]; done) | (rw [hzN]; rfl) | (rw [hzB]; done) | (rw [hzB]; rfl)), (by first | omega | rfl | exact hzN.symm | exact hzN | (rw [hzN]; done) | (rw [hzN]; rfl) | (rw [hzB]; done) | (rw [hzB]; rfl)), (by first | omega | rfl | exact hzN.symm | exact hzN | (rw [hzN]; done) | (rw [hzN]; rfl) | (rw [hzB]; done) | (rw [hzB]; rfl)), (by first | omega | rfl | exact hzN.symm | exact hzN | (rw [hzN]; done) | (rw [hzN]; rfl) | (rw [hzB]; done) | (rw [hzB]; rfl)), (by first | omega | rfl | exact hzN.symm | exact hzN | (rw [hzN]; done) | (rw [hzN]; rfl) | (rw [hzB]; done) | (rw [hzB]; rfl))⟩
        · by_cases hx14 : ((((kL (bK (ka2 (m - 4) l) kZ)) : Nat) : Int) ≠ (((m : Nat) : Int) - 4))
          · refine zr (kU 4 (.b false :: kU 6 [.b true, .no])) [2, 9, 54] [0, 2] ((¬ ((kT (bK (ka2 (m - 4) l) kZ)) ≠ 0)) ∧ (((((kL (bK (ka2 (m - 4) l) kZ)) : Nat) : Int) ≠ ((m : Int) - 4)))) [(2, rV 0 0), (9, rV 2 0), (54, bV true)] [(0, some (31, .ds [D.lit (.int .u64 0), D.lit (.string { data := #[] }), iD 0, iD 0, iD 0, iD 0, iD 0, qH])), (2, some (31, .ds [D.lit (.int .u64 (vK (ka2 (m - 4) l) kZ)), D.lit (.string (strOfNums (yS m l))), iD (((kV (ka2 (m - 4) l) (iO (ka2 (m - 4) l) kZ)) : Nat) : Int), iD (((kV (ka2 (m - 4) l) (iN (ka2 (m - 4) l) kZ)) : Nat) : Int), iD (yA (ka2 (m - 4) l) (iM (ka2 (m - 4) l) kZ)), iD (((kV (ka2 (m - 4) l) (iL (ka2 (m - 4) l) kZ)) : Nat) : Int), iD (((kV (ka2 (m - 4) l) (iK (ka2 (m - 4) l) kZ)) : Nat) : Int), D.sl (qI (yY (ka2 (m - 4) l) (aN (ka2 (m - 4) l) kZ))) (ka1 (yY (ka2 (m - 4) l) (aN (ka2 (m - 4) l) kZ)))]))] 3 ⟨zo, zo⟩ ?_
            refine zt ?_
            refine kK [.no, .no, .no] True [(2, rV 0 0), (3, iV 5)] [(0, some (31, .ds [D.lit (.int .u64 0), D.lit (.string { data := #[] }), iD 0, iD 0, iD 0, iD 0, iD 0, qH]))] 3 trivial ?_
            refine aM (l' := [(2, rV 0 0), (3, iV 5)]) (g' := [(0, some (31, .ds [D.lit (.int .u64 0), D.lit (.string { data := #[] }), iD 0, iD 0, iD 0, iD 0, iD 0, D.sl ([] : List D) 0]))]) (NlS.cons rfl (.same _) (NlS.cons rfl (.same _) NlS.nil)) (NlG.to (bc := .ds [D.lit (.int .u64 0), D.lit (.string { data := #[] }), iD 0, iD 0, iD 0, iD 0, iD 0, qH]) rfl (NlL.cons (.same _) (NlL.cons (.same _) (NlL.cons (.same _) (NlL.cons (.same _) (NlL.cons (.same _) (NlL.cons (.same _) (NlL.cons (.same _) (NlL.cons (.nil) NlL.nil)))))))) NlG.nil) ?_
            have hz0 : uO l = 5 := (k9d hm (by omega) (by omega) (by assumption) (by omega))
            obtain ⟨hzI, hzN, hz1, hz2, hz3, hz4, hz5, hzB⟩ := zC (l := l) zo
            refine AW.ret ?_
            exact kC (.inr rfl) [] (P := (((rJ l) : Int) = 0) ∧ ((.string (strOfNums (f0 l)) : Value) = .string { data := #[] }) ∧ (((rO l) : Int) = 0) ∧ (((rN l) : Int) = 0) ∧ (((rM l) : Int) = 0) ∧ (((rL l) : Int) = 0) ∧ (((rK l) : Int) = 0) ∧ (((qI (aI l)) : List D) = ([] : List D)) ∧ (((ka1 (aI l)) : Nat) = 0) ∧ (((uO l) : Int) = 5)) zk ⟨(by first | omega | rfl | exact hzN.symm | exact hzN | (rw [hzN]; done) | (rw [hzN]; rfl) | (rw [hzB]; done) | (rw [hzB]; rfl)), (by rw [hzN]; rfl), (by first | omega | rfl | exact hzN.symm | exact hzN | (rw [hzN]; done) | (rw [hzN]; rfl) | (rw [hzB]; done) | (rw [hzB]; rfl)), (by first | omega | rfl | exact hzN.symm | exact hzN | (rw [hzN]; done) | (rw [hzN]; rfl) | (rw [hzB]; done) | (rw [hzB]; rfl)), (by first | omega | rfl | exact hzN.symm | exact hzN | (rw [hzN]; done) | (rw [hzN]; rfl) | (rw [hzB]; done) | (rw [hzB]; rfl)), (by first | omega | rfl | exact hzN.symm | exact hzN | (rw [hzN]; done) | (rw [hzN]; rfl) | (rw [hzB]; done) | (rw [hzB]; rfl)), (by first | omega | rfl | exact hzN.symm | exact hzN | (rw [hzN]; done) | (rw [hzN]; rfl) | (rw [hzB]; done) | (rw [hzB]; rfl)), (by first | omega | rfl | exact hzN.symm | exact hzN | (rw [hzN]; done) | (rw [hzN]; rfl) | (rw [hzB]; done) | (rw [hzB]; rfl)), (by first | omega | rfl | exact hzN.symm | exact hzN | (rw [hzN]; done) | (rw [hzN]; rfl) | (rw [hzB]; done) | (rw [hzB]; rfl)), (by first | omega | rfl | exact hzN.symm | exact hzN | (rw [hzN]; done) | (rw [hzN]; rfl) | (rw [hzB]; done) | (rw [hzB]; rfl))⟩
          · refine zr (kU 4 (.b false :: kU 6 [.b false, .no])) [2, 9, 54] [0, 2] ((¬ ((kT (bK (ka2 (m - 4) l) kZ)) ≠ 0)) ∧ (¬ ((((kL (bK (ka2 (m - 4) l) kZ)) : Nat) : Int) ≠ ((m : Int) - 4)))) [(2, rV 0 0), (9, rV 2 0), (54, bV false)] [(0, some (31, .ds [D.lit (.int .u64 0), D.lit (.string { data := #[] }), iD 0, iD 0, iD 0, iD 0, iD 0, qH])), (2, some (31, .ds [D.lit (.int .u64 (vK (ka2 (m - 4) l) kZ)), D.lit (.string (strOfNums (yS m l))), iD (((kV (ka2 (m - 4) l) (iO (ka2 (m - 4) l) kZ)) : Nat) : Int), iD (((kV (ka2 (m - 4) l) (iN (ka2 (m - 4) l) kZ)) : Nat) : Int), iD (yA (ka2 (m - 4) l) (iM (ka2 (m - 4) l) kZ)), iD (((kV (ka2 (m - 4) l) (iL (ka2 (m - 4) l) kZ)) : Nat) : Int), iD (((kV (ka2 (m - 4) l) (iK (ka2 (m - 4) l) kZ)) : Nat) : Int), D.sl (qI (yY (ka2 (m - 4) l) (aN (ka2 (m - 4) l) kZ))) (ka1 (yY (ka2 (m - 4) l) (aN (ka2 (m - 4) l) kZ)))]))] 3 ⟨zo, zo⟩ ?_
            refine yV ?_
            refine AW.seq ?_
            rcases kb6 (c4 (yS m l) (((kV (ka2 (m - 4) l) (iO (ka2 (m - 4) l) kZ)) : Nat) : Int) (((kV (ka2 (m - 4) l) (iN (ka2 (m - 4) l) kZ)) : Nat) : Int) (yA (ka2 (m - 4) l) (iM (ka2 (m - 4) l) kZ)) (((kV (ka2 (m - 4) l) (iL (ka2 (m - 4) l) kZ)) : Nat) : Int) (((kV (ka2 (m - 4) l) (iK (ka2 (m - 4) l) kZ)) : Nat) : Int) (yY (ka2 (m - 4) l) (aN (ka2 (m - 4) l) kZ))) with hx15 | hx15
            · refine zr [.no, .call [] (bV true) [] 0 [] none, .no] [2, 9, 58] [0, 2] (Fun 14 [.agg [.d (D.lit (.int .u64 (vK (ka2 (m - 4) l) kZ))), .d (D.lit (.string (strOfNums (yS m l)))), iC (((kV (ka2 (m - 4) l) (iO (ka2 (m - 4) l) kZ)) : Nat) : Int), iC (((kV (ka2 (m - 4) l) (iN (ka2 (m - 4) l) kZ)) : Nat) : Int), iC (yA (ka2 (m - 4) l) (iM (ka2 (m - 4) l) kZ)), iC (((kV (ka2 (m - 4) l) (iL (ka2 (m - 4) l) kZ)) : Nat) : Int), iC (((kV (ka2 (m - 4) l) (iK (ka2 (m - 4) l) kZ)) : Nat) : Int), .d (D.sl (qI (yY (ka2 (m - 4) l) (aN (ka2 (m - 4) l) kZ))) (ka1 (yY (ka2 (m - 4) l) (aN (ka2 (m - 4) l) kZ))))]] (kG []) 0 (bV true) (kG []) 0) [(2, rV 0 0), (9, rV 2 0), (58, bV false)] [(0, some (31, .ds [D.lit (.int .u64 0), D.lit (.string { data := #[] }), iD 0, iD 0, iD 0, iD 0, iD 0, qH])), (2, some (31, .ds [D.lit (.int .u64 (vK (ka2 (m - 4) l) kZ)), D.lit (.string (strOfNums (yS m l))), iD (((kV (ka2 (m - 4) l) (iO (ka2 (m - 4) l) kZ)) : Nat) : Int), iD (((kV (ka2 (m - 4) l) (iN (ka2 (m - 4) l) kZ)) : Nat) : Int), iD (yA (ka2 (m - 4) l) (iM (ka2 (m - 4) l) kZ)), iD (((kV (ka2 (m - 4) l) (iL (ka2 (m - 4) l) kZ)) : Nat) : Int), iD (((kV (ka2 (m - 4) l) (iK (ka2 (m - 4) l) kZ)) : Nat) : Int), D.sl (qI (yY (ka2 (m - 4) l) (aN (ka2 (m - 4) l) kZ))) (ka1 (yY (ka2 (m - 4) l) (aN (ka2 (m - 4) l) kZ)))]))] 3 (by have h0 := (f8 (vK (ka2 (m - 4) l) kZ) (yS m l) (((kV (ka2 (m - 4) l) (iO (ka2 (m - 4) l) kZ)) : Nat) : Int) (((kV (ka2 (m - 4) l) (iN (ka2 (m - 4) l) kZ)) : Nat) : Int) (yA (ka2 (m - 4) l) (iM (ka2 (m - 4) l) kZ)) (((kV (ka2 (m - 4) l) (iL (ka2 (m - 4) l) kZ)) : Nat) : Int) (((kV (ka2 (m - 4) l) (iK (ka2 (m - 4) l) kZ)) : Nat) : Int) (yY (ka2 (m - 4) l) (aN (ka2 (m - 4) l) kZ)) (ka1 (yY (ka2 (m - 4) l) (aN (ka2 (m - 4) l) kZ))) (tT (Byt.take (kP : Byt l) _) _) qU rfl qU (kP : BsW (yY (ka2 (m - 4) l) (aN (ka2 (m - 4) l) kZ)))); rw [hx15] at h0; exact h0) ?_
              refine yV ?_
              refine kK [.no, .no, .no] True [(2, rV 0 0), (3, iV 0)] [(0, some (31, .ds [D.lit (.int .u64 (vK (ka2 (m - 4) l) kZ)), D.lit (.string (strOfNums (yS m l))), iD (((kV (ka2 (m - 4) l) (iO (ka2 (m - 4) l) kZ)) : Nat) : Int), iD (((kV (ka2 (m - 4) l) (iN (ka2 (m - 4) l) kZ)) : Nat) : Int), iD (yA (ka2 (m - 4) l) (iM (ka2 (m - 4) l) kZ)), iD (((kV (ka2 (m - 4) l) (iL (ka2 (m - 4) l) kZ)) : Nat) : Int), iD (((kV (ka2 (m - 4) l) (iK (ka2 (m - 4) l) kZ)) : Nat) : Int), D.sl (qI (yY (ka2 (m - 4) l) (aN (ka2 (m - 4) l) kZ))) (ka1 (yY (ka2 (m - 4) l) (aN (ka2 (m - 4) l) kZ)))]))] 3 trivial ?_
              have hz0 : uO l = 0 := (u22 hm (by omega) (by omega) (by assumption) (by omega) hx15)
              obtain ⟨hzI, hzN, hz1, hz2, hz3, hz4, hz5, hzB⟩ := u49 hm rfl hz0
              refine AW.ret ?_
              exact kC (.inr rfl) [] (P := (((rJ l) : Int) = (vK (ka2 (m - 4) l) kZ)) ∧ ((.string (strOfNums (f0 l)) : Value) = .string (strOfNums (yS m l))) ∧ (((rO l) : Int) = (((kV (ka2 (m - 4) l) (iO (ka2 (m - 4) l) kZ)) : Nat) : Int)) ∧ (((rN l) : Int) = (((kV (ka2 (m - 4) l) (iN (ka2 (m - 4) l) kZ)) : Nat) : Int)) ∧ (((rM l) : Int) = (yA (ka2 (m - 4) l) (iM (ka2 (m - 4) l) kZ))) ∧ (((rL l) : Int) = (((kV (ka2 (m - 4) l) (iL (ka2 (m - 4) l) kZ)) : Nat) : Int)) ∧ (((rK l) : Int) = (((kV (ka2 (m - 4) l) (iK (ka2 (m - 4) l) kZ)) : Nat) : Int)) ∧ (((qI (aI l)) : List D) = (qI (yY (ka2 (m - 4) l) (aN (ka2 (m - 4) l) kZ)))) ∧ (((ka1 (aI l)) : Nat) = (ka1 (yY (ka2 (m - 4) l) (aN (ka2 (m - 4) l) kZ)))) ∧ (((uO l) : Int) = 0)) zk ⟨(by first | omega | rfl | exact hzN.symm | exact hzN | (rw [hzN]; done) | (rw [hzN]; rfl) | (rw [hzB]; done) | (rw [hzB]; rfl)), (congrArg (fun x9 => Value.string (strOfNums x9)) (show (f0 l) = (yS m l) from (by first | omega | rfl | exact hzN.symm | exact hzN | (rw [hzN]; done) | (rw [hzN]; rfl) | (rw [hzB]; done) | (rw [hzB]; rfl)))), (by first | omega | rfl | exact hzN.symm | exact hzN | (rw [hzN]; done) | (rw [hzN]; rfl) | (rw [hzB]; done) | (rw [hzB]; rfl)), (by first | omega | rfl | exact hzN.symm | exact hzN | (rw [hzN]; done) | (rw [hzN]; rfl) | (rw [hzB]; done) | (rw [hzB]; rfl)), (by first | omega | rfl | exact hzN.symm | exact hzN | (rw [hzN]; done) | (rw [hzN]; rfl) | (rw [hzB]; done) | (rw [hzB]; rfl)), (by first | omega | rfl | exact hzN.symm | exact hzN | (rw [hzN]; done) | (rw [hzN]; rfl) | (rw [hzB]; done) | (rw [hzB]; rfl)), (by first | omega | rfl | exact hzN.symm | exact hzN | (rw [hzN]; done) | (rw [hzN]; rfl) | (rw [hzB]; done) | (rw [hzB]; rfl)), (by first | omega | rfl | exact hzN.symm | exact hzN | (rw [hzN]; done) | (rw [hzN]; rfl) | (rw [hzB]; done) | (rw [hzB]; rfl)), (by first | omega | rfl | exact hzN.symm | exact hzN | (rw [hzN]; done) | (rw [hzN]; rfl) | (rw [hzB]; done) | (rw [hzB]; rfl)), (by first | omega | rfl | exact hzN.symm | exact hzN | (rw [hzN]; done) | (rw [hzN]; rfl) | (rw [hzB]; done) | (rw [hzB]; rfl))⟩
            · refine zr [.no, .call [] (bV false) [] 0 [] none, .no] [2, 9, 58] [0, 2] (Fun 14 [.agg [.d (D.lit (.int .u64 (vK (ka2 (m - 4) l) kZ))), .d (D.lit (.string (strOfNums (yS m l)))), iC (((kV (ka2 (m - 4) l) (iO (ka2 (m - 4) l) kZ)) : Nat) : Int), iC (((kV (ka2 (m - 4) l) (iN (ka2 (m - 4) l) kZ)) : Nat) : Int), iC (yA (ka2 (m - 4) l) (iM (ka2 (m - 4) l) kZ)), iC (((kV (ka2 (m - 4) l) (iL (ka2 (m - 4) l) kZ)) : Nat) : Int), iC (((kV (ka2 (m - 4) l) (iK (ka2 (m - 4) l) kZ)) : Nat) : Int), .d (D.sl (qI (yY (ka2 (m - 4) l) (aN (ka2 (m - 4) l) kZ))) (ka1 (yY (ka2 (m - 4) l) (aN (ka2 (m - 4) l) kZ))))]] (kG []) 0 (bV false) (kG []) 0) [(2, rV 0 0), (9, rV 2 0), (58, bV true)] [(0, some (31, .ds [D.lit (.int .u64 0), D.lit (.string { data := #[] }), iD 0, iD 0, iD 0, iD 0, iD 0, qH])), (2, some (31, .ds [D.lit (.int .u64 (vK (ka2 (m - 4) l) kZ)), D.lit (.string (strOfNums (yS m l))), iD (((kV (ka2 (m - 4) l) (iO (ka2 (m - 4) l) kZ)) : Nat) : Int), iD (((kV (ka2 (m - 4) l) (iN (ka2 (m - 4) l) kZ)) : Nat) : Int), iD (yA (ka2 (m - 4) l) (iM (ka2 (m - 4) l) kZ)), iD (((kV (ka2 (m - 4) l) (iL (ka2 (m - 4) l) kZ)) : Nat) : Int), iD (((kV (ka2 (m - 4) l) (iK (ka2 (m - 4) l) kZ)) : Nat) : Int), D.sl (qI (yY (ka2 (m - 4) l) (aN (ka2 (m - 4) l) kZ))) (ka1 (yY (ka2 (m - 4) l) (aN (ka2 (m - 4) l) kZ)))]))] 3 (by have h0 := (f8 (vK (ka2 (m - 4) l) kZ) (yS m l) (((kV (ka2 (m - 4) l) (iO (ka2 (m - 4) l) kZ)) : Nat) : Int) (((kV (ka2 (m - 4) l) (iN (ka2 (m - 4) l) kZ)) : Nat) : Int) (yA (ka2 (m - 4) l) (iM (ka2 (m - 4) l) kZ)) (((kV (ka2 (m - 4) l) (iL (ka2 (m - 4) l) kZ)) : Nat) : Int) (((kV (ka2 (m - 4) l) (iK (ka2 (m - 4) l) kZ)) : Nat) : Int) (yY (ka2 (m - 4) l) (aN (ka2 (m - 4) l) kZ)) (ka1 (yY (ka2 (m - 4) l) (aN (ka2 (m - 4) l) kZ))) (tT (Byt.take (kP : Byt l) _) _) qU rfl qU (kP : BsW (yY (ka2 (m - 4) l) (aN (ka2 (m - 4) l) kZ)))); rw [hx15] at h0; exact h0) ?_
              refine zt ?_
              refine kK [.no, .no, .no] True [(2, rV 0 0), (3, iV 1)] [(0, some (31, .ds [D.lit (.int .u64 0), D.lit (.string { data := #[] }), iD 0, iD 0, iD 0, iD 0, iD 0, qH]))] 3 trivial ?_
              refine aM (l' := [(2, rV 0 0), (3, iV 1)]) (g' := [(0, some (31, .ds [D.lit (.int .u64 0), D.lit (.string { data := #[] }), iD 0, iD 0, iD 0, iD 0, iD 0, D.sl ([] : List D) 0]))]) (NlS.cons rfl (.same _) (NlS.cons rfl (.same _) NlS.nil)) (NlG.to (bc := .ds [D.lit (.int .u64 0), D.lit (.string { data := #[] }), iD 0, iD 0, iD 0, iD 0, iD 0, qH]) rfl (NlL.cons (.same _) (NlL.cons (.same _) (NlL.cons (.same _) (NlL.cons (.same _) (NlL.cons (.same _) (NlL.cons (.same _) (NlL.cons (.same _) (NlL.cons (.nil) NlL.nil)))))))) NlG.nil) ?_
              have hz0 : uO l = 1 := (u4a hm (by omega) (by omega) (by assumption) (by omega) hx15)
              obtain ⟨hzI, hzN, hz1, hz2, hz3, hz4, hz5, hzB⟩ := zC (l := l) zo
              refine AW.ret ?_
              exact kC (.inr rfl) [] (P := (((rJ l) : Int) = 0) ∧ ((.string (strOfNums (f0 l)) : Value) = .string { data := #[] }) ∧ (((rO l) : Int) = 0) ∧ (((rN l) : Int) = 0) ∧ (((rM l) : Int) = 0) ∧ (((rL l) : Int) = 0) ∧ (((rK l) : Int) = 0) ∧ (((qI (aI l)) : List D) = ([] : List D)) ∧ (((ka1 (aI l)) : Nat) = 0) ∧ (((uO l) : Int) = 1)) zk ⟨(by first | omega | rfl | exact hzN.symm | exact hzN | (rw [hzN]; done) | (rw [hzN]; rfl) | (rw [hzB]; done) | (rw [hzB]; rfl)), (by rw [hzN]; rfl), (by first | omega | rfl | exact hzN.symm | exact hzN | (rw [hzN]; done) | (rw [hzN]; rfl) | (rw [hzB]; done) | (rw [hzB]; rfl)), (by first | omega | rfl | exact hzN.symm | exact hzN | (rw [hzN]; done) | (rw [hzN]; rfl) | (rw [hzB]; done) | (rw [hzB]; rfl)), (by first | omega | rfl | exact hzN.symm | exact hzN | (rw [hzN]; done) | (rw [hzN]; rfl) | (rw [hzB]; done) | (rw [hzB]; rfl)), (by first | omega | rfl | exact hzN.symm | exact hzN | (rw [hzN]; done) | (rw [hzN]; rfl) | (rw [hzB]; done) | (rw [hzB]; rfl)), (by first | omega | rfl | exact hzN.symm | exact hzN | (rw [hzN]; done) | (rw [hzN]; rfl) | (rw [hzB]; done) | (rw [hzB]; rfl)), (by first | omega | rfl | exact hzN.symm | exact hzN | (rw [hzN]; done) | (rw [hzN]; rfl) | (rw [hzB]; done) | (rw [hzB]; rfl)), (by first | omega | rfl | exact hzN.symm | exact hzN | (rw [hzN]; done) | (rw [hzN]; rfl) | (rw [hzB]; done) | (rw [hzB]; rfl)), (by first | omega | rfl | exact hzN.symm | exact hzN | (rw [hzN]; done) | (rw [hzN]; rfl) | (rw [hzB]; done) | (rw [hzB]; rfl))⟩
      · refine zr [.no, .sls 0 4 4 (dI .u8 (ka2 4 l)), .st none (ka2 4 l), .b true] [0, 2, 4, 33] [0] ((kM 0) ∧ (kN 4) ∧ ((0 : Nat) ≤ 4) ∧ ((4 : Nat) ≤ m) ∧ ((4 : Nat) - 0 = 4) ∧ (ka2 (4 * 1) (ka7 (0 * 1) (dI .u8 l)) = (dI .u8 (ka2 4 l))) ∧ ((dI .u8 (ka2 4 l)).length = 4 * 1) ∧ (k8 (dI .u8 (ka2 4 l))) ∧ ((!(ByteArray.toList (strOfNums (ka2 4 l)) == ByteArray.toList (ByteArray.mk #[83, 78, 68, 49]))) = true)) [(0, sV .u8 l m), (2, rV 0 0), (4, iV (↑m - 4)), (33, bV true)] [(0, some (31, .ds [D.lit (.int .u64 0), D.lit (.string { data := #[] }), iD 0, iD 0, iD 0, iD 0, iD 0, qH]))] 1 ⟨rfl, rfl, zo, zo, zo, gH, (by first | omega | (simp only [kR, kQ, pbL_len, qJ, ka4, kb2, kb5, kb3, kb1, kb4, kc4, kd0, kc8, kc3] <;> omega) | rfl), rfl, (by rw [show (ByteArray.toList (strOfNums (ka2 4 l)) == ByteArray.toList (ByteArray.mk #[83, 78, 68, 49])) = false from (u1t (Byt.take (kP : Byt l) _) (by assumption))]; rfl)⟩ ?_
        refine zt ?_
        refine kK [.no, .no, .no] True [(2, rV 0 0), (3, iV 5)] [(0, some (31, .ds [D.lit (.int .u64 0), D.lit (.string { data := #[] }), iD 0, iD 0, iD 0, iD 0, iD 0, qH]))] 1 trivial ?_
        refine aM (l' := [(2, rV 0 0), (3, iV 5)]) (g' := [(0, some (31, .ds [D.lit (.int .u64 0), D.lit (.string { data := #[] }), iD 0, iD 0, iD 0, iD 0, iD 0, D.sl ([] : List D) 0]))]) (NlS.cons rfl (.same _) (NlS.cons rfl (.same _) NlS.nil)) (NlG.to (bc := .ds [D.lit (.int .u64 0), D.lit (.string { data := #[] }), iD 0, iD 0, iD 0, iD 0, iD 0, qH]) rfl (NlL.cons (.same _) (NlL.cons (.same _) (NlL.cons (.same _) (NlL.cons (.same _) (NlL.cons (.same _) (NlL.cons (.same _) (NlL.cons (.same _) (NlL.cons (.nil) NlL.nil)))))))) NlG.nil) ?_
        have hz0 : uO l = 5 := (u25 hm (by omega) (by omega) (by assumption))
        obtain ⟨hzI, hzN, hz1, hz2, hz3, hz4, hz5, hzB⟩ := zC (l := l) zo
        refine AW.ret ?_
        exact kC (.inr rfl) [] (P := (((rJ l) : Int) = 0) ∧ ((.string (strOfNums (f0 l)) : Value) = .string { data := #[] }) ∧ (((rO l) : Int) = 0) ∧ (((rN l) : Int) = 0) ∧ (((rM l) : Int) = 0) ∧ (((rL l) : Int) = 0) ∧ (((rK l) : Int) = 0) ∧ (((qI (aI l)) : List D) = ([] : List D)) ∧ (((ka1 (aI l)) : Nat) = 0) ∧ (((uO l) : Int) = 5)) zk ⟨(by first | omega | rfl | exact hzN.symm | exact hzN | (rw [hzN]; done) | (rw [hzN]; rfl) | (rw [hzB]; done) | (rw [hzB]; rfl)), (by rw [hzN]; rfl), (by first | omega | rfl | exact hzN.symm | exact hzN | (rw [hzN]; done) | (rw [hzN]; rfl) | (rw [hzB]; done) | (rw [hzB]; rfl)), (by first | omega | rfl | exact hzN.symm | exact hzN | (rw [hzN]; done) | (rw [hzN]; rfl) | (rw [hzB]; done) | (rw [hzB]; rfl)), (by first | omega | rfl | exact hzN.symm | exact hzN | (rw [hzN]; done) | (rw [hzN]; rfl) | (rw [hzB]; done) | (rw [hzB]; rfl)), (by first | omega | rfl | exact hzN.symm | exact hzN | (rw [hzN]; done) | (rw [hzN]; rfl) | (rw [hzB]; done) | (rw [hzB]; rfl)), (by first | omega | rfl | exact hzN.symm | exact hzN | (rw [hzN]; done) | (rw [hzN]; rfl) | (rw [hzB]; done) | (rw [hzB]; rfl)), (by first | omega | rfl | exact hzN.symm | exact hzN | (rw [hzN]; done) | (rw [hzN]; rfl) | (rw [hzB]; done) | (rw [hzB]; rfl)), (by first | omega | rfl | exact hzN.symm | exact hzN | (rw [hzN]; done) | (rw [hzN]; rfl) | (rw [hzB]; done) | (rw [hzB]; rfl)), (by first | omega | rfl | exact hzN.symm | exact hzN | (rw [hzN]; done) | (rw [hzN]; rfl) | (rw [hzB]; done) | (rw [hzB]; rfl))⟩
end Go.Proofs.Ytalbpleglapihaa
