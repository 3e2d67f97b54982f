/- Names, descriptors. No statement is proved here. -/
import Derived.Test.YtalbpleglapihaaZD11C
namespace Go.Proofs.Ytalbpleglapihaa
open Go.ChangeShapes Go.WideShapes Go.ChangeAt Go.RowKit
open Bool renaming and_eq_true → kc0, and_false → ke4, eq_false_or_eq_true → kb5
open List renaming append_nil → kc8, drop → ka7, drop_zero → kd2, getD → ka0, getD_eq_getElem?_getD → ka8, getElem?_eq_getElem → ka9, length → ka1, length_append → ka4, length_cons → kb1, length_drop → kb2, length_map → kd0, length_nil → kb6, length_replicate → kb4, length_reverse → kc7, length_set → kc2, length_take → kb3, nil_append → kf0, take → ka2
open Nat renaming le_of_ble_eq_true → ka5, mul_one → kc4, zero_mul → kd8
set_option linter.unusedVariables false
set_option linter.unusedSimpArgs false
set_option maxHeartbeats 4000000
set_option maxRecDepth 100000
theorem gN {l : List Int} (h : ∀ j, j < l.length → 0 ≤ ka0 l j 0 ∧ ka0 l j 0 ≤ 255) {k : Nat} (hk : k < l.length) : dA (strOfNums l) (k : Int) = some (ka0 l k 0) := by
  have h9 := h k hk
  unfold dA
  rw [if_pos (by omega), strOfNums_data, Int.toNat_natCast, List.getElem?_map, ka9 hk]
  rw [ka8, ka9 hk, Option.getD_some] at *
  simp only [Option.map_some, UInt8.toNat_ofNat', Option.some.injEq]
  omega
theorem k7s {l : List Int} (h : l.length = 0) : (ByteArray.toList (strOfNums l) == ByteArray.toList (ByteArray.mk #[])) = true := by
  have : l = [] := List.length_eq_zero_iff.1 h
  subst this; rw [ByteArray.toList_eq, ByteArray.toList_eq]; rfl
theorem s7 {l : List Int} (h : ¬ l.length = 0) : (ByteArray.toList (strOfNums l) == ByteArray.toList (ByteArray.mk #[])) = false := by
  rw [beq_eq_false_iff_ne]
  intro e
  have e2 := congrArg ka1 e
  rw [ByteArray.toList_eq, ByteArray.toList_eq, strOfNums_data, kd0] at e2
  exact h (by rw [e2]; rfl)
/-! chapter 11: names, descriptors -/
theorem u0w {l : List Int} {p : Int → Bool} (h : ∀ j, j < l.length → p (ka0 l j 0) = true) : l.all p = true := by
  rw [List.all_eq_true]
  intro x hx
  obtain ⟨j, hj, e⟩ := List.mem_iff_getElem.1 hx
  have h1 := h j hj
  rw [ka8, ka9 hj] at h1
  rw [← e]; exact h1
theorem u0x {l : List Int} {p : Int → Bool} (h : l.all p = true) (j : Nat) (hj : j < l.length) : p (ka0 l j 0) = true := by
  rw [ka8, ka9 hj]
  exact List.all_eq_true.1 h _ (List.getElem_mem hj)
def zV (x : Int) : Bool := decide ((97 ≤ x ∧ x ≤ 122) ∨ (65 ≤ x ∧ x ≤ 90))
def o1 (x : Int) : Bool := decide (((97 ≤ x ∧ x ≤ 122) ∨ (65 ≤ x ∧ x ≤ 90)) ∨ (48 ≤ x ∧ x ≤ 57) ∨ x = 45 ∨ x = 46 ∨ x = 95)
theorem k83 {x : Int} (h : zV x = true) : o1 x = true := decide_eq_true (.inl (of_decide_eq_true h))
theorem u3h {x : Int} (h : (48 ≤ x ∧ x ≤ 57) ∨ x = 45 ∨ x = 46 ∨ x = 95) : o1 x = true := decide_eq_true (.inr h)
theorem u5m {x : Int} (h : zV x = false) (h2 : ¬ ((48 ≤ x ∧ x ≤ 57) ∨ x = 45 ∨ x = 46 ∨ x = 95)) : o1 x = false := decide_eq_false (fun h9 => h9.elim (of_decide_eq_false h) h2)
theorem k82 : ByteArray.mk #[83, 78, 68, 49] = strOfNums [83, 78, 68, 49] := by first | rfl | kernel_rfl
theorem u3c {a : List Int} (h : a = [83, 78, 68, 49]) : (ByteArray.toList (strOfNums a) == ByteArray.toList (ByteArray.mk #[83, 78, 68, 49])) = true := by rw [k82]; exact u27 h
theorem u3d {a : List Int} (ha : Byt a) (h : ¬ a = [83, 78, 68, 49]) : (ByteArray.toList (strOfNums a) == ByteArray.toList (ByteArray.mk #[83, 78, 68, 49])) = false := by
  rw [k82]; exact u28 ha (Byt.cons (by omega) (Byt.cons (by omega) (Byt.cons (by omega) (Byt.cons (by omega) Byt.nil)))) h
def yQ (l : List Int) : Bool := decide (1 ≤ l.length ∧ l.length ≤ 64) && zV (ka0 l 0 0) && l.all o1
theorem iP {l : List Int} (h : 1 ≤ l.length ∧ l.length ≤ 64) (h1 : zV (ka0 l 0 0) = true) (h2 : ∀ j, j < l.length → o1 (ka0 l j 0) = true) : yQ l = true := by unfold yQ; rw [decide_eq_true h, h1, u0w h2]; rfl
theorem iQ {l : List Int} (h : ¬ (1 ≤ l.length ∧ l.length ≤ 64)) : yQ l = false := by unfold yQ; rw [decide_eq_false h]; rfl
theorem iT {l : List Int} (h : zV (ka0 l 0 0) = false) : yQ l = false := by unfold yQ; rw [h, ke4]; rfl
theorem iS {l : List Int} {k : Nat} (hk : k < l.length) (h : o1 (ka0 l k 0) = false) : yQ l = false := by
  unfold yQ
  rw [Bool.and_eq_false_iff]
  right
  cases e : l.all o1 with
  | false => rfl
  | true => have := u0x e k hk; rw [h] at this; cases this
theorem k23 {l : List Int} (h : yQ l = true) : 1 ≤ l.length ∧ l.length ≤ 64 := by
  unfold yQ at h
  rw [kc0, kc0] at h
  exact of_decide_eq_true h.1.1
def dM (nm : List Int) (d1 d2 d3 d4 d5 : Int) (bs : List Bx) : Bool := yQ nm && (decide ((d1 = 1 ∨ d1 = 2) ∧ (0 ≤ d2 ∧ d2 ≤ 65535) ∧ (0 ≤ d3 ∧ d3 ≤ 1048576) ∧ (0 ≤ d4 ∧ d4 ≤ 2048) ∧ (0 ≤ d5 ∧ d5 ≤ 4096) ∧ 1 ≤ bs.length ∧ bs.length ≤ 8) && mM bs)
theorem u52 {nm : List Int} {d1 d2 d3 d4 d5 : Int} {bs : List Bx} (h : yQ nm = false) : dM nm d1 d2 d3 d4 d5 bs = false := by unfold dM; rw [h]; rfl
theorem u51 {nm : List Int} {d1 d2 d3 d4 d5 : Int} {bs : List Bx} (h : ¬ ((d1 = 1 ∨ d1 = 2) ∧ (0 ≤ d2 ∧ d2 ≤ 65535) ∧ (0 ≤ d3 ∧ d3 ≤ 1048576) ∧ (0 ≤ d4 ∧ d4 ≤ 2048) ∧ (0 ≤ d5 ∧ d5 ≤ 4096) ∧ 1 ≤ bs.length ∧ bs.length ≤ 8)) : dM nm d1 d2 d3 d4 d5 bs = false := by unfold dM; rw [decide_eq_false h, Bool.false_and, ke4]
theorem u53 {nm : List Int} {d1 d2 d3 d4 d5 : Int} {bs : List Bx} (h : mM bs = false) : dM nm d1 d2 d3 d4 d5 bs = false := by unfold dM; rw [h, ke4, ke4]
theorem u1m {nm : List Int} {d1 d2 d3 d4 d5 : Int} {bs : List Bx} (h0 : yQ nm = true) (h : (d1 = 1 ∨ d1 = 2) ∧ (0 ≤ d2 ∧ d2 ≤ 65535) ∧ (0 ≤ d3 ∧ d3 ≤ 1048576) ∧ (0 ≤ d4 ∧ d4 ≤ 2048) ∧ (0 ≤ d5 ∧ d5 ≤ 4096) ∧ 1 ≤ bs.length ∧ bs.length ≤ 8) (h2 : mM bs = true) : dM nm d1 d2 d3 d4 d5 bs = true := by unfold dM; rw [h0, decide_eq_true h, h2]; rfl
def dz1 (l : List Int) (u : RS) : RS := kD 8 l u
def jH (l : List Int) (u : RS) : RS := qO l (dz1 l u)
def jG (l : List Int) (u : RS) : RS := kD 2 l (jH l u)
def jF (l : List Int) (u : RS) : RS := kD 2 l (jG l u)
def jE (l : List Int) (u : RS) : RS := kD 4 l (jF l u)
def jD (l : List Int) (u : RS) : RS := kD 2 l (jE l u)
def aS (l : List Int) (u : RS) : RS := kD 2 l (jD l u)
def dG (l : List Int) (u : RS) : RS := lW l (aS l u)
theorem u0u {m : Nat} {l : List Int} {u : RS} (hm : l.length = m) (hu : kL u ≤ m) : kL (dG l u) ≤ m := k4h hm (uX hm (uX hm (uX hm (uX hm (uX hm (k7p hm (uX hm hu)))))))
def deV (l : List Int) : Bool := dM (aA l (dz1 l qB)) ((kV l (jH l qB) : Nat) : Int) ((kV l (jG l qB) : Nat) : Int) (u7 l (jF l qB)) ((kV l (jE l qB) : Nat) : Int) ((kV l (jD l qB) : Nat) : Int) (yX l (aS l qB))
def yC (l : List Int) : Int :=
  if l.length < 8 then 4
  else if ¬ g32 l (l.length - 4) = kY (ka2 (l.length - 4) l) then 6
  else if ¬ ka2 4 l = [83, 78, 68, 49] then 5
  else if ¬ (kU (dG (ka2 (l.length - 4) l) qB) = 0 ∧ kL (dG (ka2 (l.length - 4) l) qB) = l.length - 4) then 5
  else if deV (ka2 (l.length - 4) l) = false then 1 else 0
theorem u3o {l : List Int} {m : Nat} (hm : l.length = m) (h : m < 8) : yC l = 4 := by subst hm; exact if_pos h
theorem u0t {l : List Int} {m : Nat} (hm : l.length = m) (h : ¬ m < 8) (h1 : ¬ g32 l (m - 4) = kY (ka2 (m - 4) l)) : yC l = 6 := by subst hm; unfold yC; rw [if_neg h, if_pos h1]
theorem u5r {l : List Int} {m : Nat} (hm : l.length = m) (h : ¬ m < 8) (h1 : g32 l (m - 4) = kY (ka2 (m - 4) l)) (h2 : ¬ ka2 4 l = [83, 78, 68, 49]) : yC l = 5 := by subst hm; unfold yC; rw [if_neg h, if_neg (not_not_intro h1), if_pos h2]
theorem u3p {l : List Int} {m : Nat} (hm : l.length = m) (h : ¬ m < 8) (h1 : g32 l (m - 4) = kY (ka2 (m - 4) l)) (h2 : ka2 4 l = [83, 78, 68, 49]) (h3 : ¬ (kU (dG (ka2 (m - 4) l) qB) = 0 ∧ kL (dG (ka2 (m - 4) l) qB) = m - 4)) : yC l = 5 := by subst hm; unfold yC; rw [if_neg h, if_neg (not_not_intro h1), if_neg (not_not_intro h2), if_pos h3]
theorem u5q {l : List Int} {m : Nat} (hm : l.length = m) (h : ¬ m < 8) (h1 : g32 l (m - 4) = kY (ka2 (m - 4) l)) (h2 : ka2 4 l = [83, 78, 68, 49]) (h3 : kU (dG (ka2 (m - 4) l) qB) = 0 ∧ kL (dG (ka2 (m - 4) l) qB) = m - 4) (h4 : deV (ka2 (m - 4) l) = false) : yC l = 1 := by subst hm; unfold yC; rw [if_neg h, if_neg (not_not_intro h1), if_neg (not_not_intro h2), if_neg (not_not_intro h3), if_pos h4]
theorem u3n {l : List Int} {m : Nat} (hm : l.length = m) (h : ¬ m < 8) (h1 : g32 l (m - 4) = kY (ka2 (m - 4) l)) (h2 : ka2 4 l = [83, 78, 68, 49]) (h3 : kU (dG (ka2 (m - 4) l) qB) = 0 ∧ kL (dG (ka2 (m - 4) l) qB) = m - 4) (h4 : deV (ka2 (m - 4) l) = true) : yC l = 0 := by subst hm; unfold yC; rw [if_neg h, if_neg (not_not_intro h1), if_neg (not_not_intro h2), if_neg (not_not_intro h3), if_neg (by rw [h4]; decide)]
theorem gM (l : List Int) : 0 ≤ yC l ∧ yC l ≤ 6 := by unfold yC; repeat' split <;> omega
def tF (l : List Int) : List Int := ka2 (l.length - 4) l
def o2 (l : List Int) : Int := if yC l = 0 then vQ (tF l) qB else 0
def gB (l : List Int) : List Int := if yC l = 0 then aA (tF l) (dz1 (tF l) qB) else []
def o7 (l : List Int) : Int := if yC l = 0 then ((kV (tF l) (jH (tF l) qB) : Nat) : Int) else 0
def o6 (l : List Int) : Int := if yC l = 0 then ((kV (tF l) (jG (tF l) qB) : Nat) : Int) else 0
def o5 (l : List Int) : Int := if yC l = 0 then u7 (tF l) (jF (tF l) qB) else 0
def o4 (l : List Int) : Int := if yC l = 0 then ((kV (tF l) (jE (tF l) qB) : Nat) : Int) else 0
def o3 (l : List Int) : Int := if yC l = 0 then ((kV (tF l) (jD (tF l) qB) : Nat) : Int) else 0
def vV (l : List Int) : List Bx := if yC l = 0 then yX (tF l) (aS (tF l) qB) else []
theorem wA {l : List Int} (h : ¬ yC l = 0) : o2 l = 0 ∧ gB l = [] ∧ o7 l = 0 ∧ o6 l = 0 ∧ o5 l = 0 ∧ o4 l = 0 ∧ o3 l = 0 ∧ vV l = [] := ⟨if_neg h, if_neg h, if_neg h, if_neg h, if_neg h, if_neg h, if_neg h, if_neg h⟩
theorem u3m {l p : List Int} {m : Nat} (hm : l.length = m) (hp : ka2 (m - 4) l = p) (h : yC l = 0) : o2 l = vQ p qB ∧ gB l = aA p (dz1 p qB) ∧ o7 l = ((kV p (jH p qB) : Nat) : Int) ∧ o6 l = ((kV p (jG p qB) : Nat) : Int) ∧ o5 l = u7 p (jF p qB) ∧ o4 l = ((kV p (jE p qB) : Nat) : Int) ∧ o3 l = ((kV p (jD p qB) : Nat) : Int) ∧ vV l = yX p (aS p qB) := by
  subst hp; subst hm
  exact ⟨if_pos h, if_pos h, if_pos h, if_pos h, if_pos h, if_pos h, if_pos h, if_pos h⟩
theorem xV {l : List Int} (hy : Byt l) : BsW (vV l) := by
  unfold vV; split
  · exact k4g (hy.take _) _
  · exact BsW.nil
theorem gL {l : List Int} (hy : Byt l) : ka1 (vV l) ≤ 65535 := by
  unfold vV; split
  · exact oH (hy.take _) _
  · exact Nat.zero_le _
theorem gK (l : List Int) : ka1 (gB l) ≤ 64 := by
  unfold gB; split
  · exact mO _ _
  · exact Nat.zero_le _
attribute [local irreducible] yC o2 gB o7 o6 o5 o4 o3 vV kD qO aA kV u7 vQ uW dZ aJ vT bZ lW yX kY
theorem cG {p : Prop} (h : p := by first | exact decide_eq_true (by omega) | exact decide_eq_false (by omega)) : p := h
theorem eV (x : Int) (hx : 0 ≤ x ∧ x ≤ 255) : Fun 47 [.c (.d (D.lit (.int .u8 x)))] (kG []) 0 (kT (D.lit (.bool (zV x)))) (kG []) 0 := by
  refine Fun.mk (n := 17) Try.func47 rfl rfl (ka5 rfl) ?_
  intro cx hcx
  refine kK [.no] True [(0, kT (D.lit (.int .u8 x)))] [] 0 trivial ?_
  by_cases hx1 : ((97 : Int) ≤ x)
  · by_cases hx2 : (x ≤ 122)
    · refine zr [.no, .b true, .no, .no, .b true, .no, .no, .no, .no] [2] [] ((((97 : Int) ≤ x)) ∧ ((x ≤ 122))) [(2, bV true)] [] 0 ⟨zo, zo⟩ ?_
      refine AW.ret ?_
      exact kC (.inr rfl) [] (P := ((zV x) = true)) zk cG
    · refine zr [.no, .b true, .no, .no, .b false, .no, .no, .no, .b true, .no, .no, .b false, .no, .no, .no] [2] [] ((((97 : Int) ≤ x)) ∧ (¬ (x ≤ 122)) ∧ (((65 : Int) ≤ x)) ∧ (¬ (x ≤ 90))) [(2, bV false)] [] 0 ⟨zo, zo, zo, zo⟩ ?_
      refine AW.ret ?_
      exact kC (.inr rfl) [] (P := ((zV x) = false)) zk cG
  · by_cases hx3 : ((65 : Int) ≤ x)
    · by_cases hx4 : (x ≤ 90)
      · refine zr (.no :: .b false :: kS 4 [.b true, .no, .no, .b true, .no, .no, .no]) [2] [] ((¬ ((97 : Int) ≤ x)) ∧ (((65 : Int) ≤ x)) ∧ ((x ≤ 90))) [(2, bV true)] [] 0 ⟨zo, zo, zo⟩ ?_
        refine AW.ret ?_
        exact kC (.inr rfl) [] (P := ((zV x) = true)) zk cG
      · refine zr (.no :: .b false :: kS 4 [.b true, .no, .no, .b false, .no, .no, .no]) [2] [] ((¬ ((97 : Int) ≤ x)) ∧ (((65 : Int) ≤ x)) ∧ (¬ (x ≤ 90))) [(2, bV false)] [] 0 ⟨zo, zo, zo⟩ ?_
        refine AW.ret ?_
        exact kC (.inr rfl) [] (P := ((zV x) = false)) zk cG
    · refine zr (.no :: .b false :: kS 4 (.b false :: kS 4 [])) [2] [] ((¬ ((97 : Int) ≤ x)) ∧ (¬ ((65 : Int) ≤ x))) [(2, bV false)] [] 0 ⟨zo, zo⟩ ?_
      refine AW.ret ?_
      exact kC (.inr rfl) [] (P := ((zV x) = false)) zk cG
theorem dL {p : Prop} (h : p := by first | exact k83 (by assumption) | exact u3h (by omega) | exact u5m (by assumption) (by omega)) : p := h
theorem k8y (x : Int) (hx : 0 ≤ x ∧ x ≤ 255) : Fun 48 [.c (.d (D.lit (.int .u8 x)))] (kG []) 0 (kT (D.lit (.bool (o1 x)))) (kG []) 0 := by
  refine Fun.mk (n := 25) Try.func48 rfl rfl (ka5 rfl) ?_
  intro cx hcx
  refine kK [.no] True [(0, kT (D.lit (.int .u8 x)))] [] 0 trivial ?_
  rcases kb5 (zV x) with hx1 | hx1
  · refine zr (.no :: .call [] (bV true) [] 0 [] none :: kS 9 []) [2] [] (Fun 47 [.c (.d (D.lit (.int .u8 x)))] (kG []) 0 (bV true) (kG []) 0) [(2, bV true)] [] 0 (by have h0 := (eV x zo); rw [hx1] at h0; exact h0) ?_
    refine AW.ret ?_
    exact kC (.inr rfl) [] (P := ((o1 x) = true)) zk dL
  · by_cases hx2 : ((48 : Int) ≤ x)
    · by_cases hx3 : (x ≤ 57)
      · refine zr (.no :: .call [] (bV false) [] 0 [] none :: .no :: .no :: .b true :: .no :: .no :: .b true :: kS 9 []) [2] [] ((Fun 47 [.c (.d (D.lit (.int .u8 x)))] (kG []) 0 (bV false) (kG []) 0) ∧ (((48 : Int) ≤ x)) ∧ ((x ≤ 57))) [(2, bV true)] [] 0 ⟨(by have h0 := (eV x zo); rw [hx1] at h0; exact h0), zo, zo⟩ ?_
        refine AW.ret ?_
        exact kC (.inr rfl) [] (P := ((o1 x) = true)) zk dL
      · by_cases hx4 : (x = 95)
        · refine zr [.no, .call [] (bV false) [] 0 [] none, .no, .no, .b true, .no, .no, .b false, .no, .no, .no, .no, .b false, .no, .no, .no, .b false, .no, .no, .no, .b true, .no, .no] [2] [] ((Fun 47 [.c (.d (D.lit (.int .u8 x)))] (kG []) 0 (bV false) (kG []) 0) ∧ (((48 : Int) ≤ x)) ∧ (¬ (x ≤ 57)) ∧ (¬ (x = 45)) ∧ (¬ (x = 46)) ∧ ((x = 95))) [(2, bV true)] [] 0 ⟨(by have h0 := (eV x zo); rw [hx1] at h0; exact h0), zo, zo, zo, zo, zo⟩ ?_
          refine AW.ret ?_
          exact kC (.inr rfl) [] (P := ((o1 x) = true)) zk dL
        · refine zr [.no, .call [] (bV false) [] 0 [] none, .no, .no, .b true, .no, .no, .b false, .no, .no, .no, .no, .b false, .no, .no, .no, .b false, .no, .no, .no, .b false, .no, .no] [2] [] ((Fun 47 [.c (.d (D.lit (.int .u8 x)))] (kG []) 0 (bV false) (kG []) 0) ∧ (((48 : Int) ≤ x)) ∧ (¬ (x ≤ 57)) ∧ (¬ (x = 45)) ∧ (¬ (x = 46)) ∧ (¬ (x = 95))) [(2, bV false)] [] 0 ⟨(by have h0 := (eV x zo); rw [hx1] at h0; exact h0), zo, zo, zo, zo, zo⟩ ?_
          refine AW.ret ?_
          exact kC (.inr rfl) [] (P := ((o1 x) = false)) zk dL
    · by_cases hx5 : (x = 45)
      · refine zr (.no :: .call [] (bV false) [] 0 [] none :: .no :: .no :: .b false :: kS 5 (.b true :: kS 6 [])) [2] [] ((Fun 47 [.c (.d (D.lit (.int .u8 x)))] (kG []) 0 (bV false) (kG []) 0) ∧ (¬ ((48 : Int) ≤ x)) ∧ ((x = 45))) [(2, bV true)] [] 0 ⟨(by have h0 := (eV x zo); rw [hx1] at h0; exact h0), zo, zo⟩ ?_
        refine AW.ret ?_
        exact kC (.inr rfl) [] (P := ((o1 x) = true)) zk dL
      · by_cases hx6 : (x = 46)
        · refine zr (.no :: .call [] (bV false) [] 0 [] none :: .no :: .no :: .b false :: kS 5 (.b false :: .no :: .no :: .no :: .b true :: kS 4 [])) [2] [] ((Fun 47 [.c (.d (D.lit (.int .u8 x)))] (kG []) 0 (bV false) (kG []) 0) ∧ (¬ ((48 : Int) ≤ x)) ∧ (¬ (x = 45)) ∧ ((x = 46))) [(2, bV true)] [] 0 ⟨(by have h0 := (eV x zo); rw [hx1] at h0; exact h0), zo, zo, zo⟩ ?_
          refine AW.ret ?_
          exact kC (.inr rfl) [] (P := ((o1 x) = true)) zk dL
        · refine zr (.no :: .call [] (bV false) [] 0 [] none :: .no :: .no :: .b false :: kS 5 [.b false, .no, .no, .no, .b false, .no, .no, .no, .b false, .no, .no]) [2] [] ((Fun 47 [.c (.d (D.lit (.int .u8 x)))] (kG []) 0 (bV false) (kG []) 0) ∧ (¬ ((48 : Int) ≤ x)) ∧ (¬ (x = 45)) ∧ (¬ (x = 46)) ∧ (¬ (x = 95))) [(2, bV false)] [] 0 ⟨(by have h0 := (eV x zo); rw [hx1] at h0; exact h0), zo, zo, zo, zo⟩ ?_
          refine AW.ret ?_
          exact kC (.inr rfl) [] (P := ((o1 x) = false)) zk dL
theorem cF {p : Prop} (h : p := by first | omega | (simp only [kb2, kb3]; omega)) : p := h
theorem qV {p : Prop} (h : p := by first | omega | with_reducible assumption | (simp only [kR, kO, pbL_len, ka4, kb1, kb6, kb3, kb2, kb4, kc2] <;> omega) | rfl | assumption) : p := h
theorem oQ (l : List Int) (hy : Byt l) (hb : ka1 l ≤ 9223372036854775807) : Fun 28 [.c (.d (D.lit (.string (strOfNums l))))] (kG []) 0 (kT (D.lit (.bool (yQ l)))) (kG []) 0 := by
  refine Fun.mk (n := 28) Try.func28 rfl rfl (ka5 rfl) ?_
  intro cx hcx
  refine kK [.no] True [(0, kT (D.lit (.string (strOfNums l))))] [] 0 trivial ?_
  refine AW.seq ?_
  by_cases hx1 : ((ka1 l) = 0)
  · refine zr (.no :: .b true :: kS 4 []) [0, 16] [] ((ByteArray.toList (strOfNums l) == ByteArray.toList (ByteArray.mk #[])) = true) [(0, kT (D.lit (.string (strOfNums l)))), (16, bV true)] [] 0 (k7s zo) ?_
    refine zt ?_
    refine kK [.no] True [(2, bV false)] [] 0 trivial ?_
    refine AW.ret ?_
    exact kC (.inr rfl) [] (P := ((yQ l) = false)) zk (by first | exact iQ zo | exact iT (by assumption) | exact iS (k := k) zo (by assumption) | exact iP zo (by assumption) (fun j hj => ha j zo))
  · by_cases hx2 : ((64 : Int) < (((ka1 l) : Nat) : Int))
    · refine zr [.no, .b false, .no, .no, .i (ka1 l : Int), .b true, .no, .no, .no] [0, 16] [] (((ByteArray.toList (strOfNums l) == ByteArray.toList (ByteArray.mk #[])) = false) ∧ ((ByteArray.size (strOfNums l) : Int) = ((ka1 l : Int) : Int)) ∧ (((64 : Int) < (ka1 l : Int)))) [(0, kT (D.lit (.string (strOfNums l)))), (16, bV true)] [] 0 ⟨(s7 zo), (by rw [strOfNums_size]), zo⟩ ?_
      refine zt ?_
      refine kK [.no] True [(2, bV false)] [] 0 trivial ?_
      refine AW.ret ?_
      exact kC (.inr rfl) [] (P := ((yQ l) = false)) zk (by first | exact iQ zo | exact iT (by assumption) | exact iS (k := k) zo (by assumption) | exact iP zo (by assumption) (fun j hj => ha j zo))
    · rcases kb5 (zV (ka0 l 0 0)) with hx4 | hx4
      · have hx5 : 0 ≤ (ka0 l 0 0) ∧ (ka0 l 0 0) ≤ 255 := Byt.at (kP : Byt l) _ cF
        refine kK [.no, .b false, .no, .no, .i (ka1 l : Int), .b false, .no, .no, .no, .i (ka0 l 0 0), .call [] (bV true) [] 0 [] none, .no, .no] (((ByteArray.toList (strOfNums l) == ByteArray.toList (ByteArray.mk #[])) = false) ∧ ((ByteArray.size (strOfNums l) : Int) = ((ka1 l : Int) : Int)) ∧ (¬ ((64 : Int) < (ka1 l : Int))) ∧ (dA (strOfNums l) (0 : Int) = some ((ka0 l 0 0) : Int)) ∧ (Fun 47 [.c (.d (D.lit (.int .u8 (ka0 l 0 0))))] (kG []) 0 (bV true) (kG []) 0)) [(0, kT (D.lit (.string (strOfNums l)))), (16, bV false)] [] 0 ⟨(s7 zo), (by rw [strOfNums_size]), zo, (by have h9 := gN (l := l) (Byt.at (kP : Byt l)) (k := 0) cF; exact h9), (by have h0 := (eV (ka0 l 0 0) qV); rw [hx4] at h0; exact h0)⟩ ?_
        refine yM ?_
        refine AW.seq ?_
        refine kX [.no, .i (ka1 l : Int), .no] ((ByteArray.size (strOfNums l) : Int) = ((ka1 l : Int) : Int)) [(0, kT (D.lit (.string (strOfNums l)))), (18, uV (ka1 l)), (19, iV 0)] (by rw [strOfNums_size]) ?_
        refine AW.block ?_
        refine kW 0 hcx (fun (x : {x : Nat // match x with | k => (k ≤ ka1 l) ∧ (∀ j, j < k → o1 (ka0 l j 0) = true)}) => match x with | ⟨k, _⟩ => (⟨[(0, kT (D.lit (.string (strOfNums l)))), (18, uV (ka1 l)), (19, uV k)], [], 0⟩ : ES)) (fun x => match x with | ⟨k, _⟩ => ka1 l - k) ⟨(0 : Nat), ⟨(by first | omega | assumption | simp), (fun j hj => absurd hj (Nat.not_lt_zero j))⟩⟩ [] (P := ((.string (strOfNums l) : Value) = .string (strOfNums l)) ∧ (kM (ka1 l : Int)) ∧ (kM 0)) zk ⟨rfl, rfl, rfl⟩ ?_
        rintro ⟨k, hinv0⟩
        obtain ⟨hk, ha⟩ : (k ≤ ka1 l) ∧ (∀ j, j < k → o1 (ka0 l j 0) = true) := hinv0
        refine uH (l := [(0, kT (D.lit (.string (strOfNums l)))), (18, uV (ka1 l)), (19, uV k)]) (g := []) (nx := 0) rfl rfl rfl ?_
        by_cases hx6 : (((k : Nat) : Int) < (((ka1 l) : Nat) : Int))
        · refine zr [.b true] [0, 18, 19, 20] [] (((k : Int) < (ka1 l : Int))) [(0, kT (D.lit (.string (strOfNums l)))), (18, uV (ka1 l)), (19, uV k), (20, bV true)] [] 0 zo ?_
          refine AW.seq ?_
          refine vD ?_
          refine AW.seq ?_
          refine AW.block ?_
          refine kK [.no, .no] True [(0, kT (D.lit (.string (strOfNums l)))), (3, uV k), (18, uV (ka1 l)), (19, uV k)] [] 0 trivial ?_
          rcases kb5 (o1 (ka0 l k 0)) with hx8 | hx8
          · have hx9 : 0 ≤ (ka0 l k 0) ∧ (ka0 l k 0) ≤ 255 := Byt.at (kP : Byt l) _ cF
            refine kK [.no, .no, .i (ka0 l k 0), .call [] (bV true) [] 0 [] none, .no] ((dA (strOfNums l) ((k : Int) : Int) = some ((ka0 l k 0) : Int)) ∧ (Fun 48 [.c (.d (D.lit (.int .u8 (ka0 l k 0))))] (kG []) 0 (bV true) (kG []) 0)) [(0, kT (D.lit (.string (strOfNums l)))), (18, uV (ka1 l)), (19, uV k), (26, bV false)] [] 0 ⟨(by have h9 := gN (l := l) (Byt.at (kP : Byt l)) (k := k) cF; exact h9), (by have h0 := (k8y (ka0 l k 0) qV); rw [hx8] at h0; exact h0)⟩ ?_
            refine yM ?_
            refine yD [.w, .no] (qL ((k : Int) + 1)) [(0, kT (D.lit (.string (strOfNums l)))), (18, uV (ka1 l)), (19, iV (↑k + 1))] ⟨by omega, by omega⟩ ?_
            exact qS ⟨((k + 1) : Nat), ⟨(by first | omega | assumption | simp), (fun j hj => (Nat.lt_succ_iff_lt_or_eq.1 hj).elim (ha j) (fun e9 => by subst e9; first | assumption | exact k83 (by assumption) | exact u3h zo))⟩⟩ [] (P := ((.string (strOfNums l) : Value) = .string (strOfNums l)) ∧ (kM (ka1 l : Int)) ∧ (q1S k)) zk ⟨rfl, rfl, (by first | rfl | omega | assumption | (simp; done) | (simp; omega))⟩ (show ka1 l - (k + 1) < ka1 l - k from (by first | omega | (show _ < _; simp; omega)))
          · have hx10 : 0 ≤ (ka0 l k 0) ∧ (ka0 l k 0) ≤ 255 := Byt.at (kP : Byt l) _ cF
            refine kK [.no, .no, .i (ka0 l k 0), .call [] (bV false) [] 0 [] none, .no] ((dA (strOfNums l) ((k : Int) : Int) = some ((ka0 l k 0) : Int)) ∧ (Fun 48 [.c (.d (D.lit (.int .u8 (ka0 l k 0))))] (kG []) 0 (bV false) (kG []) 0)) [(0, kT (D.lit (.string (strOfNums l)))), (18, uV (ka1 l)), (19, uV k), (26, bV true)] [] 0 ⟨(by have h9 := gN (l := l) (Byt.at (kP : Byt l)) (k := k) cF; exact h9), (by have h0 := (k8y (ka0 l k 0) qV); rw [hx8] at h0; exact h0)⟩ ?_
            refine zt ?_
            refine kX [.no] True [(2, bV false)] trivial ?_
            refine AW.ret ?_
            exact kC (.inr rfl) [] (P := ((yQ l) = false)) zk (by first | exact iQ zo | exact iT (by assumption) | exact iS (k := k) zo (by assumption) | exact iP zo (by assumption) (fun j hj => ha j zo))
        · refine zr [.b false] [0, 18, 19, 20] [] (¬ ((k : Int) < (ka1 l : Int))) [(0, kT (D.lit (.string (strOfNums l)))), (18, uV (ka1 l)), (19, uV k), (20, bV false)] [] 0 zo ?_
          refine AW.seq ?_
          refine zf ?_
          refine AW.exit ?_
          refine kK [.no] True [(2, bV true)] [] 0 trivial ?_
          refine AW.ret ?_
          exact kC (.inr rfl) [] (P := ((yQ l) = true)) zk (by first | exact iQ zo | exact iT (by assumption) | exact iS (k := k) zo (by assumption) | exact iP zo (by assumption) (fun j hj => ha j zo))
      · have hx11 : 0 ≤ (ka0 l 0 0) ∧ (ka0 l 0 0) ≤ 255 := Byt.at (kP : Byt l) _ cF
        refine kK [.no, .b false, .no, .no, .i (ka1 l : Int), .b false, .no, .no, .no, .i (ka0 l 0 0), .call [] (bV false) [] 0 [] none, .no, .no] (((ByteArray.toList (strOfNums l) == ByteArray.toList (ByteArray.mk #[])) = false) ∧ ((ByteArray.size (strOfNums l) : Int) = ((ka1 l : Int) : Int)) ∧ (¬ ((64 : Int) < (ka1 l : Int))) ∧ (dA (strOfNums l) (0 : Int) = some ((ka0 l 0 0) : Int)) ∧ (Fun 47 [.c (.d (D.lit (.int .u8 (ka0 l 0 0))))] (kG []) 0 (bV false) (kG []) 0)) [(0, kT (D.lit (.string (strOfNums l)))), (16, bV true)] [] 0 ⟨(s7 zo), (by rw [strOfNums_size]), zo, (by have h9 := gN (l := l) (Byt.at (kP : Byt l)) (k := 0) cF; exact h9), (by have h0 := (eV (ka0 l 0 0) qV); rw [hx4] at h0; exact h0)⟩ ?_
        refine zt ?_
        refine kX [.no] True [(2, bV false)] trivial ?_
        refine AW.ret ?_
        exact kC (.inr rfl) [] (P := ((yQ l) = false)) zk (by first | exact iQ zo | exact iT (by assumption) | exact iS (k := k) zo (by assumption) | exact iP zo (by assumption) (fun j hj => ha j zo))
theorem qE (x y : Int)  : Fun 29 [iE x, iE y] (kG []) 0 (kT (D.lit (.bool (decide (0 ≤ x ∧ x ≤ y))))) (kG []) 0 := by
  refine Fun.mk (n := 12) Try.func29 rfl rfl (ka5 rfl) ?_
  intro cx hcx
  refine kK [.no] True [(0, iV x), (1, iV y)] [] 0 trivial ?_
  by_cases hx1 : ((0 : Int) ≤ x)
  · by_cases hx2 : (x ≤ y)
    · refine zr [.no, .b true, .no, .no, .no, .b true, .no, .no] [4] [] ((((0 : Int) ≤ x)) ∧ ((x ≤ y))) [(4, bV true)] [] 0 ⟨zo, zo⟩ ?_
      refine AW.ret ?_
      exact kC (.inr rfl) [] (P := ((decide (0 ≤ x ∧ x ≤ y)) = true)) zk cG
    · refine zr [.no, .b true, .no, .no, .no, .b false, .no, .no] [4] [] ((((0 : Int) ≤ x)) ∧ (¬ (x ≤ y))) [(4, bV false)] [] 0 ⟨zo, zo⟩ ?_
      refine AW.ret ?_
      exact kC (.inr rfl) [] (P := ((decide (0 ≤ x ∧ x ≤ y)) = false)) zk cG
  · refine zr [.no, .b false, .no, .no, .no] [4] [] (¬ ((0 : Int) ≤ x)) [(4, bV false)] [] 0 zo ?_
    refine AW.ret ?_
    exact kC (.inr rfl) [] (P := ((decide (0 ≤ x ∧ x ≤ y)) = false)) zk cG
theorem u9 {p : Prop} (h : p := by first | exact u52 (by assumption) | exact u1m (by assumption) (by omega) (by assumption) | exact u53 (by assumption) | exact u51 (by omega)) : p := h
theorem gR (id : Int) (nm : List Int) (d1 d2 d3 d4 d5 : Int) (bs : List Bx) (n : Nat) (hy : Byt nm) (hl : ka1 nm ≤ 1000000) (hn : ka1 bs = n) (h1 : n ≤ 1000000) (hW : BsW bs) : Fun 14 [.agg [.d (D.lit (.int .u64 id)), .d (D.lit (.string (strOfNums nm))), iC d1, iC d2, iC d3, iC d4, iC d5, .d (D.sl (qC bs) n)]] (kG []) 0 (kT (D.lit (.bool (dM nm d1 d2 d3 d4 d5 bs)))) (kG []) 0 := by
  refine Fun.mk (n := 54) Try.func14 rfl rfl (ka5 rfl) ?_
  intro cx hcx
  refine kK [.no, .no] True [(1, rV 0 0)] [(0, some (31, .ds [D.lit (.int .u64 id), D.lit (.string (strOfNums nm)), iD d1, iD d2, iD d3, iD d4, iD d5, D.sl (qC bs) n]))] 1 trivial ?_
  refine AW.seq ?_
  rcases kb5 (yQ nm) with hx1 | hx1
  · by_cases hx2 : (d1 ≠ 1)
    · by_cases hx3 : (d1 ≠ 2)
      · refine zr (.no :: .no :: .call [] (bV true) [] 0 [] none :: kS 4 [.b true, .no, .no, .no, .b true, .no, .no]) [1, 16] [0] ((Fun 28 [.c (.d (D.lit (.string (strOfNums nm))))] (kG []) 0 (bV true) (kG []) 0) ∧ ((d1 ≠ 1)) ∧ ((d1 ≠ 2))) [(1, rV 0 0), (16, bV true)] [(0, some (31, .ds [D.lit (.int .u64 id), D.lit (.string (strOfNums nm)), iD d1, iD d2, iD d3, iD d4, iD d5, D.sl (qC bs) n]))] 1 ⟨(by have h0 := (oQ nm (kP : Byt nm) zo); rw [hx1] at h0; exact h0), zo, zo⟩ ?_
        refine zt ?_
        refine kK [.no] True [(2, bV false)] [] 1 trivial ?_
        refine AW.ret ?_
        exact kC (.inr rfl) [] (P := ((dM nm d1 d2 d3 d4 d5 bs) = false)) zk u9
      · refine zr (.no :: .no :: .call [] (bV true) [] 0 [] none :: kS 4 [.b true, .no, .no, .no, .b false, .no, .no]) [1, 16] [0] ((Fun 28 [.c (.d (D.lit (.string (strOfNums nm))))] (kG []) 0 (bV true) (kG []) 0) ∧ ((d1 ≠ 1)) ∧ (¬ (d1 ≠ 2))) [(1, rV 0 0), (16, bV false)] [(0, some (31, .ds [D.lit (.int .u64 id), D.lit (.string (strOfNums nm)), iD d1, iD d2, iD d3, iD d4, iD d5, D.sl (qC bs) n]))] 1 ⟨(by have h0 := (oQ nm (kP : Byt nm) zo); rw [hx1] at h0; exact h0), zo, zo⟩ ?_
        refine yM ?_
        refine AW.seq ?_
        rcases kb5 (decide (0 ≤ d2 ∧ d2 ≤ 65535)) with hx4 | hx4
        · have hx5 : (((0 : Int) ≤ d2) ∧ (d2 ≤ 65535)) := of_decide_eq_true hx4
          rcases kb5 (decide (0 ≤ d3 ∧ d3 ≤ 1048576)) with hx6 | hx6
          · have hx7 : (((0 : Int) ≤ d3) ∧ (d3 ≤ 1048576)) := of_decide_eq_true hx6
            rcases kb5 (decide (0 ≤ d4 ∧ d4 ≤ 2048)) with hx8 | hx8
            · have hx9 : (((0 : Int) ≤ d4) ∧ (d4 ≤ 2048)) := of_decide_eq_true hx8
              rcases kb5 (decide (0 ≤ d5 ∧ d5 ≤ 4096)) with hx10 | hx10
              · have hx11 : (((0 : Int) ≤ d5) ∧ (d5 ≤ 4096)) := of_decide_eq_true hx10
                refine kK (.no :: .no :: .call [] (bV true) [] 0 [] none :: kS 4 (.call [] (bV true) [] 0 [] none :: kS 5 (.call [] (bV true) [] 0 [] none :: kS 5 [.call [] (bV true) [] 0 [] none, .no, .no]))) ((Fun 29 [iE d2, iE 65535] (kG []) 0 (bV true) (kG []) 0) ∧ (Fun 29 [iE d3, iE 1048576] (kG []) 0 (bV true) (kG []) 0) ∧ (Fun 29 [iE d4, iE 2048] (kG []) 0 (bV true) (kG []) 0) ∧ (Fun 29 [iE d5, iE 4096] (kG []) 0 (bV true) (kG []) 0)) [(1, rV 0 0), (38, bV false)] [(0, some (31, .ds [D.lit (.int .u64 id), D.lit (.string (strOfNums nm)), iD d1, iD d2, iD d3, iD d4, iD d5, D.sl (qC bs) n]))] 1 ⟨(by have h0 := (qE d2 65535); rw [hx4] at h0; exact h0), (by have h0 := (qE d3 1048576); rw [hx6] at h0; exact h0), (by have h0 := (qE d4 2048); rw [hx8] at h0; exact h0), (by have h0 := (qE d5 4096); rw [hx10] at h0; exact h0)⟩ ?_
                refine yM ?_
                by_cases hx12 : ((1 : Int) ≤ ((n : Nat) : Int))
                · by_cases hx13 : (((n : Nat) : Int) ≤ 8)
                  · rcases kb5 (mM bs) with hx14 | hx14
                    · refine zr (.no :: .no :: .no :: .b true :: kS 4 (.b true :: kS 4 [.call [] (bV true) [] 0 [] none, .no, .no])) [2] [] ((((1 : Int) ≤ (n : Int))) ∧ (((n : Int) ≤ 8)) ∧ (Fun 30 [.c (.d (D.sl (qC bs) n))] (kG []) 0 (bV true) (kG []) 0)) [(2, bV true)] [] 1 ⟨zo, zo, (by have h0 := (gQ bs n zo zo (kP : BsW bs)); rw [hx14] at h0; exact h0)⟩ ?_
                      refine AW.ret ?_
                      exact kC (.inr rfl) [] (P := ((dM nm d1 d2 d3 d4 d5 bs) = true)) zk u9
                    · refine zr (.no :: .no :: .no :: .b true :: kS 4 (.b true :: kS 4 [.call [] (bV false) [] 0 [] none, .no, .no])) [2] [] ((((1 : Int) ≤ (n : Int))) ∧ (((n : Int) ≤ 8)) ∧ (Fun 30 [.c (.d (D.sl (qC bs) n))] (kG []) 0 (bV false) (kG []) 0)) [(2, bV false)] [] 1 ⟨zo, zo, (by have h0 := (gQ bs n zo zo (kP : BsW bs)); rw [hx14] at h0; exact h0)⟩ ?_
                      refine AW.ret ?_
                      exact kC (.inr rfl) [] (P := ((dM nm d1 d2 d3 d4 d5 bs) = false)) zk u9
                  · refine zr (.no :: .no :: .no :: .b true :: kS 4 (.b false :: kS 4 [])) [2] [] ((((1 : Int) ≤ (n : Int))) ∧ (¬ ((n : Int) ≤ 8))) [(2, bV false)] [] 1 ⟨zo, zo⟩ ?_
                    refine AW.ret ?_
                    exact kC (.inr rfl) [] (P := ((dM nm d1 d2 d3 d4 d5 bs) = false)) zk u9
                · refine zr (.no :: .no :: .no :: .b false :: kS 5 []) [2] [] (¬ ((1 : Int) ≤ (n : Int))) [(2, bV false)] [] 1 zo ?_
                  refine AW.ret ?_
                  exact kC (.inr rfl) [] (P := ((dM nm d1 d2 d3 d4 d5 bs) = false)) zk u9
              · have hx15 : ¬ (((0 : Int) ≤ d5) ∧ (d5 ≤ 4096)) := of_decide_eq_false hx10
                refine kK (.no :: .no :: .call [] (bV true) [] 0 [] none :: kS 4 (.call [] (bV true) [] 0 [] none :: kS 5 (.call [] (bV true) [] 0 [] none :: kS 5 [.call [] (bV false) [] 0 [] none, .no, .no]))) ((Fun 29 [iE d2, iE 65535] (kG []) 0 (bV true) (kG []) 0) ∧ (Fun 29 [iE d3, iE 1048576] (kG []) 0 (bV true) (kG []) 0) ∧ (Fun 29 [iE d4, iE 2048] (kG []) 0 (bV true) (kG []) 0) ∧ (Fun 29 [iE d5, iE 4096] (kG []) 0 (bV false) (kG []) 0)) [(1, rV 0 0), (38, bV true)] [(0, some (31, .ds [D.lit (.int .u64 id), D.lit (.string (strOfNums nm)), iD d1, iD d2, iD d3, iD d4, iD d5, D.sl (qC bs) n]))] 1 ⟨(by have h0 := (qE d2 65535); rw [hx4] at h0; exact h0), (by have h0 := (qE d3 1048576); rw [hx6] at h0; exact h0), (by have h0 := (qE d4 2048); rw [hx8] at h0; exact h0), (by have h0 := (qE d5 4096); rw [hx10] at h0; exact h0)⟩ ?_
                refine zt ?_
                refine kK [.no] True [(2, bV false)] [] 1 trivial ?_
                refine AW.ret ?_
                exact kC (.inr rfl) [] (P := ((dM nm d1 d2 d3 d4 d5 bs) = false)) zk u9
            · have hx16 : ¬ (((0 : Int) ≤ d4) ∧ (d4 ≤ 2048)) := of_decide_eq_false hx8
              refine kK (.no :: .no :: .call [] (bV true) [] 0 [] none :: kS 4 (.call [] (bV true) [] 0 [] none :: kS 5 (.call [] (bV false) [] 0 [] none :: kS 4 []))) ((Fun 29 [iE d2, iE 65535] (kG []) 0 (bV true) (kG []) 0) ∧ (Fun 29 [iE d3, iE 1048576] (kG []) 0 (bV true) (kG []) 0) ∧ (Fun 29 [iE d4, iE 2048] (kG []) 0 (bV false) (kG []) 0)) [(1, rV 0 0), (38, bV true)] [(0, some (31, .ds [D.lit (.int .u64 id), D.lit (.string (strOfNums nm)), iD d1, iD d2, iD d3, iD d4, iD d5, D.sl (qC bs) n]))] 1 ⟨(by have h0 := (qE d2 65535); rw [hx4] at h0; exact h0), (by have h0 := (qE d3 1048576); rw [hx6] at h0; exact h0), (by have h0 := (qE d4 2048); rw [hx8] at h0; exact h0)⟩ ?_
              refine zt ?_
              refine kK [.no] True [(2, bV false)] [] 1 trivial ?_
              refine AW.ret ?_
              exact kC (.inr rfl) [] (P := ((dM nm d1 d2 d3 d4 d5 bs) = false)) zk u9
          · have hx17 : ¬ (((0 : Int) ≤ d3) ∧ (d3 ≤ 1048576)) := of_decide_eq_false hx6
            refine kK (.no :: .no :: .call [] (bV true) [] 0 [] none :: kS 4 (.call [] (bV false) [] 0 [] none :: kS 6 [])) ((Fun 29 [iE d2, iE 65535] (kG []) 0 (bV true) (kG []) 0) ∧ (Fun 29 [iE d3, iE 1048576] (kG []) 0 (bV false) (kG []) 0)) [(1, rV 0 0), (38, bV true)] [(0, some (31, .ds [D.lit (.int .u64 id), D.lit (.string (strOfNums nm)), iD d1, iD d2, iD d3, iD d4, iD d5, D.sl (qC bs) n]))] 1 ⟨(by have h0 := (qE d2 65535); rw [hx4] at h0; exact h0), (by have h0 := (qE d3 1048576); rw [hx6] at h0; exact h0)⟩ ?_
            refine zt ?_
            refine kK [.no] True [(2, bV false)] [] 1 trivial ?_
            refine AW.ret ?_
            exact kC (.inr rfl) [] (P := ((dM nm d1 d2 d3 d4 d5 bs) = false)) zk u9
        · have hx18 : ¬ (((0 : Int) ≤ d2) ∧ (d2 ≤ 65535)) := of_decide_eq_false hx4
          refine kK (.no :: .no :: .call [] (bV false) [] 0 [] none :: kS 7 []) (Fun 29 [iE d2, iE 65535] (kG []) 0 (bV false) (kG []) 0) [(1, rV 0 0), (38, bV true)] [(0, some (31, .ds [D.lit (.int .u64 id), D.lit (.string (strOfNums nm)), iD d1, iD d2, iD d3, iD d4, iD d5, D.sl (qC bs) n]))] 1 (by have h0 := (qE d2 65535); rw [hx4] at h0; exact h0) ?_
          refine zt ?_
          refine kK [.no] True [(2, bV false)] [] 1 trivial ?_
          refine AW.ret ?_
          exact kC (.inr rfl) [] (P := ((dM nm d1 d2 d3 d4 d5 bs) = false)) zk u9
    · refine zr (.no :: .no :: .call [] (bV true) [] 0 [] none :: kS 4 [.b false, .no, .no, .no]) [1, 16] [0] ((Fun 28 [.c (.d (D.lit (.string (strOfNums nm))))] (kG []) 0 (bV true) (kG []) 0) ∧ (¬ (d1 ≠ 1))) [(1, rV 0 0), (16, bV false)] [(0, some (31, .ds [D.lit (.int .u64 id), D.lit (.string (strOfNums nm)), iD d1, iD d2, iD d3, iD d4, iD d5, D.sl (qC bs) n]))] 1 ⟨(by have h0 := (oQ nm (kP : Byt nm) zo); rw [hx1] at h0; exact h0), zo⟩ ?_
      refine yM ?_
      refine AW.seq ?_
      rcases kb5 (decide (0 ≤ d2 ∧ d2 ≤ 65535)) with hx19 | hx19
      · have hx20 : (((0 : Int) ≤ d2) ∧ (d2 ≤ 65535)) := of_decide_eq_true hx19
        rcases kb5 (decide (0 ≤ d3 ∧ d3 ≤ 1048576)) with hx21 | hx21
        · have hx22 : (((0 : Int) ≤ d3) ∧ (d3 ≤ 1048576)) := of_decide_eq_true hx21
          rcases kb5 (decide (0 ≤ d4 ∧ d4 ≤ 2048)) with hx23 | hx23
          · have hx24 : (((0 : Int) ≤ d4) ∧ (d4 ≤ 2048)) := of_decide_eq_true hx23
            rcases kb5 (decide (0 ≤ d5 ∧ d5 ≤ 4096)) with hx25 | hx25
            · have hx26 : (((0 : Int) ≤ d5) ∧ (d5 ≤ 4096)) := of_decide_eq_true hx25
              refine kK (.no :: .no :: .call [] (bV true) [] 0 [] none :: kS 4 (.call [] (bV true) [] 0 [] none :: kS 5 (.call [] (bV true) [] 0 [] none :: kS 5 [.call [] (bV true) [] 0 [] none, .no, .no]))) ((Fun 29 [iE d2, iE 65535] (kG []) 0 (bV true) (kG []) 0) ∧ (Fun 29 [iE d3, iE 1048576] (kG []) 0 (bV true) (kG []) 0) ∧ (Fun 29 [iE d4, iE 2048] (kG []) 0 (bV true) (kG []) 0) ∧ (Fun 29 [iE d5, iE 4096] (kG []) 0 (bV true) (kG []) 0)) [(1, rV 0 0), (38, bV false)] [(0, some (31, .ds [D.lit (.int .u64 id), D.lit (.string (strOfNums nm)), iD d1, iD d2, iD d3, iD d4, iD d5, D.sl (qC bs) n]))] 1 ⟨(by have h0 := (qE d2 65535); rw [hx19] at h0; exact h0), (by have h0 := (qE d3 1048576); rw [hx21] at h0; exact h0), (by have h0 := (qE d4 2048); rw [hx23] at h0; exact h0), (by have h0 := (qE d5 4096); rw [hx25] at h0; exact h0)⟩ ?_
              refine yM ?_
              by_cases hx27 : ((1 : Int) ≤ ((n : Nat) : Int))
              · by_cases hx28 : (((n : Nat) : Int) ≤ 8)
                · rcases kb5 (mM bs) with hx29 | hx29
                  · refine zr (.no :: .no :: .no :: .b true :: kS 4 (.b true :: kS 4 [.call [] (bV true) [] 0 [] none, .no, .no])) [2] [] ((((1 : Int) ≤ (n : Int))) ∧ (((n : Int) ≤ 8)) ∧ (Fun 30 [.c (.d (D.sl (qC bs) n))] (kG []) 0 (bV true) (kG []) 0)) [(2, bV true)] [] 1 ⟨zo, zo, (by have h0 := (gQ bs n zo zo (kP : BsW bs)); rw [hx29] at h0; exact h0)⟩ ?_
                    refine AW.ret ?_
                    exact kC (.inr rfl) [] (P := ((dM nm d1 d2 d3 d4 d5 bs) = true)) zk u9
                  · refine zr (.no :: .no :: .no :: .b true :: kS 4 (.b true :: kS 4 [.call [] (bV false) [] 0 [] none, .no, .no])) [2] [] ((((1 : Int) ≤ (n : Int))) ∧ (((n : Int) ≤ 8)) ∧ (Fun 30 [.c (.d (D.sl (qC bs) n))] (kG []) 0 (bV false) (kG []) 0)) [(2, bV false)] [] 1 ⟨zo, zo, (by have h0 := (gQ bs n zo zo (kP : BsW bs)); rw [hx29] at h0; exact h0)⟩ ?_
                    refine AW.ret ?_
                    exact kC (.inr rfl) [] (P := ((dM nm d1 d2 d3 d4 d5 bs) = false)) zk u9
                · refine zr (.no :: .no :: .no :: .b true :: kS 4 (.b false :: kS 4 [])) [2] [] ((((1 : Int) ≤ (n : Int))) ∧ (¬ ((n : Int) ≤ 8))) [(2, bV false)] [] 1 ⟨zo, zo⟩ ?_
                  refine AW.ret ?_
                  exact kC (.inr rfl) [] (P := ((dM nm d1 d2 d3 d4 d5 bs) = false)) zk u9
              · refine zr (.no :: .no :: .no :: .b false :: kS 5 []) [2] [] (¬ ((1 : Int) ≤ (n : Int))) [(2, bV false)] [] 1 zo ?_
                refine AW.ret ?_
                exact kC (.inr rfl) [] (P := ((dM nm d1 d2 d3 d4 d5 bs) = false)) zk u9
            · have hx30 : ¬ (((0 : Int) ≤ d5) ∧ (d5 ≤ 4096)) := of_decide_eq_false hx25
              refine kK (.no :: .no :: .call [] (bV true) [] 0 [] none :: kS 4 (.call [] (bV true) [] 0 [] none :: kS 5 (.call [] (bV true) [] 0 [] none :: kS 5 [.call [] (bV false) [] 0 [] none, .no, .no]))) ((Fun 29 [iE d2, iE 65535] (kG []) 0 (bV true) (kG []) 0) ∧ (Fun 29 [iE d3, iE 1048576] (kG []) 0 (bV true) (kG []) 0) ∧ (Fun 29 [iE d4, iE 2048] (kG []) 0 (bV true) (kG []) 0) ∧ (Fun 29 [iE d5, iE 4096] (kG []) 0 (bV false) (kG []) 0)) [(1, rV 0 0), (38, bV true)] [(0, some (31, .ds [D.lit (.int .u64 id), D.lit (.string (strOfNums nm)), iD d1, iD d2, iD d3, iD d4, iD d5, D.sl (qC bs) n]))] 1 ⟨(by have h0 := (qE d2 65535); rw [hx19] at h0; exact h0), (by have h0 := (qE d3 1048576); rw [hx21] at h0; exact h0), (by have h0 := (qE d4 2048); rw [hx23] at h0; exact h0), (by have h0 := (qE d5 4096); rw [hx25] at h0; exact h0)⟩ ?_
              refine zt ?_
              refine kK [.no] True [(2, bV false)] [] 1 trivial ?_
              refine AW.ret ?_
              exact kC (.inr rfl) [] (P := ((dM nm d1 d2 d3 d4 d5 bs) = false)) zk u9
          · have hx31 : ¬ (((0 : Int) ≤ d4) ∧ (d4 ≤ 2048)) := of_decide_eq_false hx23
            refine kK (.no :: .no :: .call [] (bV true) [] 0 [] none :: kS 4 (.call [] (bV true) [] 0 [] none :: kS 5 (.call [] (bV false) [] 0 [] none :: kS 4 []))) ((Fun 29 [iE d2, iE 65535] (kG []) 0 (bV true) (kG []) 0) ∧ (Fun 29 [iE d3, iE 1048576] (kG []) 0 (bV true) (kG []) 0) ∧ (Fun 29 [iE d4, iE 2048] (kG []) 0 (bV false) (kG []) 0)) [(1, rV 0 0), (38, bV true)] [(0, some (31, .ds [D.lit (.int .u64 id), D.lit (.string (strOfNums nm)), iD d1, iD d2, iD d3, iD d4, iD d5, D.sl (qC bs) n]))] 1 ⟨(by have h0 := (qE d2 65535); rw [hx19] at h0; exact h0), (by have h0 := (qE d3 1048576); rw [hx21] at h0; exact h0), (by have h0 := (qE d4 2048); rw [hx23] at h0; exact h0)⟩ ?_
            refine zt ?_
            refine kK [.no] True [(2, bV false)] [] 1 trivial ?_
            refine AW.ret ?_
            exact kC (.inr rfl) [] (P := ((dM nm d1 d2 d3 d4 d5 bs) = false)) zk u9
        · have hx32 : ¬ (((0 : Int) ≤ d3) ∧ (d3 ≤ 1048576)) := of_decide_eq_false hx21
          refine kK (.no :: .no :: .call [] (bV true) [] 0 [] none :: kS 4 (.call [] (bV false) [] 0 [] none :: kS 6 [])) ((Fun 29 [iE d2, iE 65535] (kG []) 0 (bV true) (kG []) 0) ∧ (Fun 29 [iE d3, iE 1048576] (kG []) 0 (bV false) (kG []) 0)) [(1, rV 0 0), (38, bV true)] [(0, some (31, .ds [D.lit (.int .u64 id), D.lit (.string (strOfNums nm)), iD d1, iD d2, iD d3, iD d4, iD d5, D.sl (qC bs) n]))] 1 ⟨(by have h0 := (qE d2 65535); rw [hx19] at h0; exact h0), (by have h0 := (qE d3 1048576); rw [hx21] at h0; exact h0)⟩ ?_
          refine zt ?_
          refine kK [.no] True [(2, bV false)] [] 1 trivial ?_
          refine AW.ret ?_
          exact kC (.inr rfl) [] (P := ((dM nm d1 d2 d3 d4 d5 bs) = false)) zk u9
      · have hx33 : ¬ (((0 : Int) ≤ d2) ∧ (d2 ≤ 65535)) := of_decide_eq_false hx19
        refine kK (.no :: .no :: .call [] (bV false) [] 0 [] none :: kS 7 []) (Fun 29 [iE d2, iE 65535] (kG []) 0 (bV false) (kG []) 0) [(1, rV 0 0), (38, bV true)] [(0, some (31, .ds [D.lit (.int .u64 id), D.lit (.string (strOfNums nm)), iD d1, iD d2, iD d3, iD d4, iD d5, D.sl (qC bs) n]))] 1 (by have h0 := (qE d2 65535); rw [hx19] at h0; exact h0) ?_
        refine zt ?_
        refine kK [.no] True [(2, bV false)] [] 1 trivial ?_
        refine AW.ret ?_
        exact kC (.inr rfl) [] (P := ((dM nm d1 d2 d3 d4 d5 bs) = false)) zk u9
  · refine zr [.no, .no, .call [] (bV false) [] 0 [] none, .no, .no, .no] [1, 16] [0] (Fun 28 [.c (.d (D.lit (.string (strOfNums nm))))] (kG []) 0 (bV false) (kG []) 0) [(1, rV 0 0), (16, bV true)] [(0, some (31, .ds [D.lit (.int .u64 id), D.lit (.string (strOfNums nm)), iD d1, iD d2, iD d3, iD d4, iD d5, D.sl (qC bs) n]))] 1 (by have h0 := (oQ nm (kP : Byt nm) zo); rw [hx1] at h0; exact h0) ?_
    refine zt ?_
    refine kK [.no] True [(2, bV false)] [] 1 trivial ?_
    refine AW.ret ?_
    exact kC (.inr rfl) [] (P := ((dM nm d1 d2 d3 d4 d5 bs) = false)) zk u9
abbrev s5 (l : List Int) (m : Nat) (u : RS) : BC := .ds [D.sl (dI .u8 l) m, iD (((kL (lW l (kD 2 l (kD 2 l (kD 4 l (kD 2 l (kD 2 l (qO l (kD 8 l u))))))))) : Nat) : Int), iD (kU (lW l (kD 2 l (kD 2 l (kD 4 l (kD 2 l (kD 2 l (qO l (kD 8 l u)))))))))]
theorem u17 (l : List Int) (m : Nat) (u : RS) (hm : ka1 l = m) (hb : m ≤ 1000000) (hy : Byt l) (hu : kL u ≤ m) : Fun 24 [.c (.ptr 0 0)] (kG [(0, some (59, .ds [D.sl (dI .u8 l) m, iD (((kL u) : Nat) : Int), iD (kU u)]))]) 1 (.e (.agg [.d (D.lit (.int .u64 (vQ l u))), .d (D.lit (.string (strOfNums (aA l (dz1 l u))))), iC (((kV l (jH l u)) : Nat) : Int), iC (((kV l (jG l u)) : Nat) : Int), iC (u7 l (jF l u)), iC (((kV l (jE l u)) : Nat) : Int), iC (((kV l (jD l u)) : Nat) : Int), .d (D.sl (qC (yX l (aS l u))) (ka1 (yX l (aS l u))))])) (kG [(0, some (59, .ds [D.sl (dI .u8 l) m, iD (((kL (dG l u)) : Nat) : Int), iD (kU (dG l u))]))]) 1 := by
  refine Fun.mk (n := 29) Try.func24 rfl rfl (ka5 rfl) ?_
  intro cx hcx
  refine kK [.no] True [(0, rV 0 0), (2, rV 1 0)] [(0, some (59, .ds [db l m, uD (kL u), iD (kU u)])), (1, some (31, .ds [D.lit (.int .u64 0), D.lit (.string { data := #[] }), iD 0, iD 0, iD 0, iD 0, iD 0, qI]))] 2 trivial ?_
  have hx1 : ((kL (kD 8 l u)) ≤ m) := (uX (zo) (qV))
  have hx2 : (((0 : Int) ≤ (vQ l u)) ∧ ((vQ l u) ≤ 18446744073709551615)) := (wO (kP : Byt l) u)
  refine kK [.no, .call [0] (kT (D.lit (.int .u64 (vQ l u)))) [(0, some (59, .ds [db l m, uD (kL (kD 8 l u)), iD (kU (kD 8 l u))]))] 1 [] none, .no, .no, .no] _ [(0, rV 0 0), (2, rV 1 0), (3, rV 2 0)] [(0, some (59, .ds [db l m, uD (kL (kD 8 l u)), iD (kU (kD 8 l u))])), (1, some (31, .ds [D.lit (.int .u64 0), D.lit (.string { data := #[] }), iD 0, iD 0, iD 0, iD 0, iD 0, qI])), (2, some (31, .ds [D.lit (.int .u64 (vQ l u)), D.lit (.string { data := #[] }), iD 0, iD 0, iD 0, iD 0, iD 0, qI]))] 3 (k7e l m u zo zo (kP : Byt l) qV) ?_
  have hx3 : ((kL (qO l (kD 8 l u))) ≤ m) := (k7p (zo) (qV))
  have hx4 : ((ka1 (aA l (kD 8 l u))) ≤ 64) := (mO _ _)
  refine kK [.no, .call [0] (kT (D.lit (.string (strOfNums (aA l (kD 8 l u)))))) [(0, some (59, .ds [db l m, uD (kL (qO l (kD 8 l u))), iD (kU (qO l (kD 8 l u)))]))] 1 [] none, .no, .no] _ [(0, rV 0 0), (2, rV 1 0), (3, rV 2 0)] [(0, some (59, .ds [db l m, uD (kL (qO l (kD 8 l u))), iD (kU (qO l (kD 8 l u)))])), (1, some (31, .ds [D.lit (.int .u64 0), D.lit (.string { data := #[] }), iD 0, iD 0, iD 0, iD 0, iD 0, qI])), (2, some (31, .ds [D.lit (.int .u64 (vQ l u)), D.lit (.string (strOfNums (aA l (kD 8 l u)))), iD 0, iD 0, iD 0, iD 0, iD 0, qI]))] 3 (u13 l m (kD 8 l u) zo zo (kP : Byt l) qV) ?_
  have hx5 : ((kL (kD 2 l (qO l (kD 8 l u)))) ≤ m) := (uX (zo) (qV))
  have hx6 : ((kV l (qO l (kD 8 l u))) ≤ 65535) := (yE (kP : Byt l) (qO l (kD 8 l u)))
  refine kK [.no, .call [0] (uV (kV l (qO l (kD 8 l u)))) [(0, some (59, .ds [db l m, iD (kL (kD 2 l (qO l (kD 8 l u))) : Int), iD (kU (kD 2 l (qO l (kD 8 l u))))]))] 1 [] none, .no, .no] _ [(0, rV 0 0), (2, rV 1 0), (3, rV 2 0)] [(0, some (59, .ds [db l m, iD (kL (kD 2 l (qO l (kD 8 l u))) : Int), iD (kU (kD 2 l (qO l (kD 8 l u))))])), (1, some (31, .ds [D.lit (.int .u64 0), D.lit (.string { data := #[] }), iD 0, iD 0, iD 0, iD 0, iD 0, qI])), (2, some (31, .ds [D.lit (.int .u64 (vQ l u)), D.lit (.string (strOfNums (aA l (kD 8 l u)))), uD (kV l (qO l (kD 8 l u))), iD 0, iD 0, iD 0, iD 0, qI]))] 3 (vG l m (qO l (kD 8 l u)) zo zo (kP : Byt l) qV) ?_
  have hx7 : ((kL (kD 2 l (kD 2 l (qO l (kD 8 l u))))) ≤ m) := (uX (zo) (qV))
  have hx8 : ((kV l (kD 2 l (qO l (kD 8 l u)))) ≤ 65535) := (yE (kP : Byt l) (kD 2 l (qO l (kD 8 l u))))
  refine kK [.no, .call [0] (iV (kV l (kD 2 l (qO l (kD 8 l u))) : Int)) [(0, some (59, .ds [db l m, iD (((kL (kD 2 l (kD 2 l (qO l (kD 8 l u))))) : Nat) : Int), iD (kU (kD 2 l (kD 2 l (qO l (kD 8 l u)))))]))] 1 [] none, .no, .no] _ [(0, rV 0 0), (2, rV 1 0), (3, rV 2 0)] [(0, some (59, .ds [db l m, iD (((kL (kD 2 l (kD 2 l (qO l (kD 8 l u))))) : Nat) : Int), iD (kU (kD 2 l (kD 2 l (qO l (kD 8 l u)))))])), (1, some (31, .ds [D.lit (.int .u64 0), D.lit (.string { data := #[] }), iD 0, iD 0, iD 0, iD 0, iD 0, qI])), (2, some (31, .ds [D.lit (.int .u64 (vQ l u)), D.lit (.string (strOfNums (aA l (kD 8 l u)))), uD (kV l (qO l (kD 8 l u))), iD (kV l (kD 2 l (qO l (kD 8 l u))) : Int), iD 0, iD 0, iD 0, qI]))] 3 (vG l m (kD 2 l (qO l (kD 8 l u))) zo zo (kP : Byt l) qV) ?_
  have hx9 : ((kL (kD 4 l (kD 2 l (kD 2 l (qO l (kD 8 l u)))))) ≤ m) := (uX (zo) (qV))
  have hx10 : (((0 : Int) ≤ (u7 l (kD 2 l (kD 2 l (qO l (kD 8 l u)))))) ∧ ((u7 l (kD 2 l (kD 2 l (qO l (kD 8 l u))))) ≤ 4294967295)) := (mN (kP : Byt l) (kD 2 l (kD 2 l (qO l (kD 8 l u)))))
  refine kK [.no, .call [0] (iV (u7 l (kD 2 l (kD 2 l (qO l (kD 8 l u)))))) [(0, some (59, .ds [db l m, iD (((kL (kD 4 l (kD 2 l (kD 2 l (qO l (kD 8 l u)))))) : Nat) : Int), iD (kU (kD 4 l (kD 2 l (kD 2 l (qO l (kD 8 l u))))))]))] 1 [] none, .no, .no] _ [(0, rV 0 0), (2, rV 1 0), (3, rV 2 0)] [(0, some (59, .ds [db l m, iD (((kL (kD 4 l (kD 2 l (kD 2 l (qO l (kD 8 l u)))))) : Nat) : Int), iD (kU (kD 4 l (kD 2 l (kD 2 l (qO l (kD 8 l u))))))])), (1, some (31, .ds [D.lit (.int .u64 0), D.lit (.string { data := #[] }), iD 0, iD 0, iD 0, iD 0, iD 0, qI])), (2, some (31, .ds [D.lit (.int .u64 (vQ l u)), D.lit (.string (strOfNums (aA l (kD 8 l u)))), uD (kV l (qO l (kD 8 l u))), iD (kV l (kD 2 l (qO l (kD 8 l u))) : Int), iD (u7 l (kD 2 l (kD 2 l (qO l (kD 8 l u))))), iD 0, iD 0, qI]))] 3 (oR l m (kD 2 l (kD 2 l (qO l (kD 8 l u)))) zo zo (kP : Byt l) qV) ?_
  have hx11 : ((kL (kD 2 l (kD 4 l (kD 2 l (kD 2 l (qO l (kD 8 l u))))))) ≤ m) := (uX (zo) (qV))
  have hx12 : ((kV l (kD 4 l (kD 2 l (kD 2 l (qO l (kD 8 l u)))))) ≤ 65535) := (yE (kP : Byt l) (kD 4 l (kD 2 l (kD 2 l (qO l (kD 8 l u))))))
  refine kK [.no, .call [0] (iV (((kV l (kD 4 l (kD 2 l (kD 2 l (qO l (kD 8 l u)))))) : Nat) : Int)) [(0, some (59, .ds [db l m, iD (((kL (kD 2 l (kD 4 l (kD 2 l (kD 2 l (qO l (kD 8 l u))))))) : Nat) : Int), iD (kU (kD 2 l (kD 4 l (kD 2 l (kD 2 l (qO l (kD 8 l u)))))))]))] 1 [] none, .no, .no] _ [(0, rV 0 0), (2, rV 1 0), (3, rV 2 0)] [(0, some (59, .ds [db l m, iD (((kL (kD 2 l (kD 4 l (kD 2 l (kD 2 l (qO l (kD 8 l u))))))) : Nat) : Int), iD (kU (kD 2 l (kD 4 l (kD 2 l (kD 2 l (qO l (kD 8 l u)))))))])), (1, some (31, .ds [D.lit (.int .u64 0), D.lit (.string { data := #[] }), iD 0, iD 0, iD 0, iD 0, iD 0, qI])), (2, some (31, .ds [D.lit (.int .u64 (vQ l u)), D.lit (.string (strOfNums (aA l (kD 8 l u)))), uD (kV l (qO l (kD 8 l u))), iD (kV l (kD 2 l (qO l (kD 8 l u))) : Int), iD (u7 l (kD 2 l (kD 2 l (qO l (kD 8 l u))))), iD (((kV l (kD 4 l (kD 2 l (kD 2 l (qO l (kD 8 l u)))))) : Nat) : Int), iD 0, qI]))] 3 (vG l m (kD 4 l (kD 2 l (kD 2 l (qO l (kD 8 l u))))) zo zo (kP : Byt l) qV) ?_
  have hx13 : ((kL (kD 2 l (kD 2 l (kD 4 l (kD 2 l (kD 2 l (qO l (kD 8 l u)))))))) ≤ m) := (uX (zo) (qV))
  have hx14 : ((kV l (kD 2 l (kD 4 l (kD 2 l (kD 2 l (qO l (kD 8 l u))))))) ≤ 65535) := (yE (kP : Byt l) (kD 2 l (kD 4 l (kD 2 l (kD 2 l (qO l (kD 8 l u)))))))
  refine kK [.no, .call [0] (iV (((kV l (kD 2 l (kD 4 l (kD 2 l (kD 2 l (qO l (kD 8 l u))))))) : Nat) : Int)) [(0, some (59, .ds [db l m, iD (((kL (kD 2 l (kD 2 l (kD 4 l (kD 2 l (kD 2 l (qO l (kD 8 l u)))))))) : Nat) : Int), iD (kU (kD 2 l (kD 2 l (kD 4 l (kD 2 l (kD 2 l (qO l (kD 8 l u))))))))]))] 1 [] none, .no, .no] _ [(0, rV 0 0), (2, rV 1 0), (3, rV 2 0)] [(0, some (59, .ds [db l m, iD (((kL (kD 2 l (kD 2 l (kD 4 l (kD 2 l (kD 2 l (qO l (kD 8 l u)))))))) : Nat) : Int), iD (kU (kD 2 l (kD 2 l (kD 4 l (kD 2 l (kD 2 l (qO l (kD 8 l u))))))))])), (1, some (31, .ds [D.lit (.int .u64 0), D.lit (.string { data := #[] }), iD 0, iD 0, iD 0, iD 0, iD 0, qI])), (2, some (31, .ds [D.lit (.int .u64 (vQ l u)), D.lit (.string (strOfNums (aA l (kD 8 l u)))), uD (kV l (qO l (kD 8 l u))), iD (kV l (kD 2 l (qO l (kD 8 l u))) : Int), iD (u7 l (kD 2 l (kD 2 l (qO l (kD 8 l u))))), iD (((kV l (kD 4 l (kD 2 l (kD 2 l (qO l (kD 8 l u)))))) : Nat) : Int), iD (((kV l (kD 2 l (kD 4 l (kD 2 l (kD 2 l (qO l (kD 8 l u))))))) : Nat) : Int), qI]))] 3 (vG l m (kD 2 l (kD 4 l (kD 2 l (kD 2 l (qO l (kD 8 l u)))))) zo zo (kP : Byt l) qV) ?_
  have hx15 : ((kL (lW l (kD 2 l (kD 2 l (kD 4 l (kD 2 l (kD 2 l (qO l (kD 8 l u))))))))) ≤ m) := (k4h (zo) (qV))
  have hx16 : ((ka1 (yX l (kD 2 l (kD 2 l (kD 4 l (kD 2 l (kD 2 l (qO l (kD 8 l u))))))))) ≤ 65535) := (oH (kP : Byt l) (kD 2 l (kD 2 l (kD 4 l (kD 2 l (kD 2 l (qO l (kD 8 l u))))))))
  have hx17 : (BsW (yX l (kD 2 l (kD 2 l (kD 4 l (kD 2 l (kD 2 l (qO l (kD 8 l u))))))))) := (k4g (kP : Byt l) (kD 2 l (kD 2 l (kD 4 l (kD 2 l (kD 2 l (qO l (kD 8 l u))))))))
  refine kK [.no, .call [0] (qX (qC (yX l (kD 2 l (kD 2 l (kD 4 l (kD 2 l (kD 2 l (qO l (kD 8 l u))))))))) (ka1 (yX l (kD 2 l (kD 2 l (kD 4 l (kD 2 l (kD 2 l (qO l (kD 8 l u)))))))))) [(0, some (59, (s5 l m u)))] 1 [] none, .no, .no] _ [(2, rV 1 0), (3, rV 2 0)] [(0, some (59, (s5 l m u))), (1, some (31, .ds [D.lit (.int .u64 0), D.lit (.string { data := #[] }), iD 0, iD 0, iD 0, iD 0, iD 0, qI])), (2, some (31, .ds [D.lit (.int .u64 (vQ l u)), D.lit (.string (strOfNums (aA l (kD 8 l u)))), uD (kV l (qO l (kD 8 l u))), iD (kV l (kD 2 l (qO l (kD 8 l u))) : Int), iD (u7 l (kD 2 l (kD 2 l (qO l (kD 8 l u))))), iD (((kV l (kD 4 l (kD 2 l (kD 2 l (qO l (kD 8 l u)))))) : Nat) : Int), iD (((kV l (kD 2 l (kD 4 l (kD 2 l (kD 2 l (qO l (kD 8 l u))))))) : Nat) : Int), D.sl (qC (yX l (kD 2 l (kD 2 l (kD 4 l (kD 2 l (kD 2 l (qO l (kD 8 l u))))))))) (ka1 (yX l (kD 2 l (kD 2 l (kD 4 l (kD 2 l (kD 2 l (qO l (kD 8 l u)))))))))]))] 3 (k7f l m (kD 2 l (kD 2 l (kD 4 l (kD 2 l (kD 2 l (qO l (kD 8 l u))))))) zo zo (kP : Byt l) qV) ?_
  refine kK [.no, .no] True [(2, rV 1 0)] [(0, some (59, (s5 l m u))), (1, some (31, .ds [D.lit (.int .u64 (vQ l u)), D.lit (.string (strOfNums (aA l (kD 8 l u)))), uD (kV l (qO l (kD 8 l u))), iD (kV l (kD 2 l (qO l (kD 8 l u))) : Int), iD (u7 l (kD 2 l (kD 2 l (qO l (kD 8 l u))))), iD (((kV l (kD 4 l (kD 2 l (kD 2 l (qO l (kD 8 l u)))))) : Nat) : Int), iD (((kV l (kD 2 l (kD 4 l (kD 2 l (kD 2 l (qO l (kD 8 l u))))))) : Nat) : Int), D.sl (qC (yX l (kD 2 l (kD 2 l (kD 4 l (kD 2 l (kD 2 l (qO l (kD 8 l u))))))))) (ka1 (yX l (kD 2 l (kD 2 l (kD 4 l (kD 2 l (kD 2 l (qO l (kD 8 l u)))))))))]))] 3 trivial ?_
  refine AW.ret ?_
  exact kC (.inr rfl) [] (P := (kM (vQ l u)) ∧ ((.string (strOfNums (aA l (dz1 l u))) : Value) = .string (strOfNums (aA l (kD 8 l u)))) ∧ (((kV l (jH l u) : Int) : Int) = (kV l (qO l (kD 8 l u)) : Int)) ∧ (((kV l (jG l u) : Int) : Int) = (kV l (kD 2 l (qO l (kD 8 l u))) : Int)) ∧ (((u7 l (jF l u)) : Int) = (u7 l (kD 2 l (kD 2 l (qO l (kD 8 l u)))))) ∧ (((kV l (jE l u) : Int) : Int) = (((kV l (kD 4 l (kD 2 l (kD 2 l (qO l (kD 8 l u)))))) : Nat) : Int)) ∧ (((kV l (jD l u) : Int) : Int) = (((kV l (kD 2 l (kD 4 l (kD 2 l (kD 2 l (qO l (kD 8 l u))))))) : Nat) : Int)) ∧ (((qC (yX l (aS l u))) : List D) = (qC (yX l (kD 2 l (kD 2 l (kD 4 l (kD 2 l (kD 2 l (qO l (kD 8 l u)))))))))) ∧ (((ka1 (yX l (aS l u))) : Nat) = (ka1 (yX l (kD 2 l (kD 2 l (kD 4 l (kD 2 l (kD 2 l (qO l (kD 8 l u)))))))))) ∧ (([db l m, uD (kL (dG l u)), iD (kU (dG l u))] : List D) = [db l m, iD (((kL (lW l (kD 2 l (kD 2 l (kD 4 l (kD 2 l (kD 2 l (qO l (kD 8 l u))))))))) : Nat) : Int), iD (kU (lW l (kD 2 l (kD 2 l (kD 4 l (kD 2 l (kD 2 l (qO l (kD 8 l u)))))))))])) zk ⟨rfl, (congrArg (fun x9 => Value.string (strOfNums x9)) (show (aA l (dz1 l u)) = (aA l (kD 8 l u)) from rfl)), (by first | rfl | omega), (by first | rfl | omega), (by first | rfl | omega), (by first | rfl | omega), (by first | rfl | omega), rfl, (by first | rfl | omega), rfl⟩
abbrev yU (m : Nat) (l : List Int) := aA (ka2 (m - 4) l) (dz1 (ka2 (m - 4) l) qB)
theorem gY {p : Prop} (h : p := by first | rfl | with_reducible assumption | exact qN _ _ _ | exact bP _ _ _ | (simp only [yP, uB, qN, kc4, kd8, kd2, kf0, kc8]; done) | (simp only [yP, uB, qN, kc4, kd8, kd2, kf0, kc8]; rfl) | (rw [List.take_of_length_le (by simp only [kR, kO, pbL_len, qK, kb2, kb4, kc4] <;> omega)]; first | rfl | (simp only [uB, kc4, kd8, kd2]; done) | (simp only [uB, kc4, kd8, kd2]; rfl))) : p := h
theorem eW (l : List Int) (m : Nat) (hm : ka1 l = m) (hb : m ≤ 1000000) (hy : Byt l) : Fun 9 [.c (.d (D.sl (dI .u8 l) m))] (kG []) 0 (.tup [.agg [.d (D.lit (.int .u64 (o2 l))), .d (D.lit (.string (strOfNums (gB l)))), iC (o7 l), iC (o6 l), iC (o5 l), iC (o4 l), iC (o3 l), .d (D.sl (qC (vV l)) (ka1 (vV l)))], iE (yC l)]) (kG []) 0 := by
  have h4a : kL qB = 4 := rfl
  have h4q : kU qB = 0 := rfl
  refine Fun.mk (n := 61) Try.func9 rfl rfl (ka5 rfl) ?_
  intro cx hcx
  refine kK [.no, .no] True [(0, sV .u8 l m), (2, rV 0 0)] [(0, some (31, .ds [D.lit (.int .u64 0), D.lit (.string { data := #[] }), iD 0, iD 0, iD 0, iD 0, iD 0, qI]))] 1 trivial ?_
  refine kX [.no, .no, .w, .no] (qL ((m : Int) - 4)) [(0, sV .u8 l m), (2, rV 0 0), (4, iV (↑m - 4))] ⟨by omega, by omega⟩ ?_
  refine AW.seq ?_
  by_cases hx1 : ((((m : Nat) : Int) - 4) < 4)
  · refine zr [.no, .b true] [0, 2, 4, 14] [0] ((((m : Int) - 4) < 4)) [(0, sV .u8 l m), (2, rV 0 0), (4, iV (↑m - 4)), (14, bV true)] [(0, some (31, .ds [D.lit (.int .u64 0), D.lit (.string { data := #[] }), iD 0, iD 0, iD 0, iD 0, iD 0, qI]))] 1 zo ?_
    refine zt ?_
    refine kK [.no, .no, .no] True [(2, rV 0 0), (3, iV 4)] [(0, some (31, .ds [D.lit (.int .u64 0), D.lit (.string { data := #[] }), iD 0, iD 0, iD 0, iD 0, iD 0, qI]))] 1 trivial ?_
    refine aR (l' := [(2, rV 0 0), (3, iV 4)]) (g' := [(0, some (31, .ds [D.lit (.int .u64 0), D.lit (.string { data := #[] }), iD 0, iD 0, iD 0, iD 0, iD 0, D.sl ([] : List D) 0]))]) (NlS.cons rfl (.same _) (NlS.cons rfl (.same _) NlS.nil)) (NlG.to (bc := .ds [D.lit (.int .u64 0), D.lit (.string { data := #[] }), iD 0, iD 0, iD 0, iD 0, iD 0, qI]) rfl (NlL.cons (.same _) (NlL.cons (.same _) (NlL.cons (.same _) (NlL.cons (.same _) (NlL.cons (.same _) (NlL.cons (.same _) (NlL.cons (.same _) (NlL.cons (.nil) NlL.nil)))))))) NlG.nil) ?_
    have hz0 : yC l = 4 := (u3o hm (by omega))
    obtain ⟨hzI, hzN, hz1, hz2, hz3, hz4, hz5, hzB⟩ := wA (l := l) zo
    refine AW.ret ?_
    exact kC (.inr rfl) [] (P := (((o2 l) : Int) = 0) ∧ ((.string (strOfNums (gB l)) : Value) = .string { data := #[] }) ∧ (((o7 l) : Int) = 0) ∧ (((o6 l) : Int) = 0) ∧ (((o5 l) : Int) = 0) ∧ (((o4 l) : Int) = 0) ∧ (((o3 l) : Int) = 0) ∧ (((qC (vV l)) : List D) = ([] : List D)) ∧ (((ka1 (vV l)) : Nat) = 0) ∧ (((yC l) : Int) = 4)) zk ⟨(by first | omega | rfl | exact hzN.symm | exact hzN | (rw [hzN]; done) | (rw [hzN]; rfl) | (rw [hzB]; done) | (rw [hzB]; rfl)), (by rw [hzN]; rfl), (by first | omega | rfl | exact hzN.symm | exact hzN | (rw [hzN]; done) | (rw [hzN]; rfl) | (rw [hzB]; done) | (rw [hzB]; rfl)), (by first | omega | rfl | exact hzN.symm | exact hzN | (rw [hzN]; done) | (rw [hzN]; rfl) | (rw [hzB]; done) | (rw [hzB]; rfl)), (by first | omega | rfl | exact hzN.symm | exact hzN | (rw [hzN]; done) | (rw [hzN]; rfl) | (rw [hzB]; done) | (rw [hzB]; rfl)), (by first | omega | rfl | exact hzN.symm | exact hzN | (rw [hzN]; done) | (rw [hzN]; rfl) | (rw [hzB]; done) | (rw [hzB]; rfl)), (by first | omega | rfl | exact hzN.symm | exact hzN | (rw [hzN]; done) | (rw [hzN]; rfl) | (rw [hzB]; done) | (rw [hzB]; rfl)), (by first | omega | rfl | exact hzN.symm | exact hzN | (rw [hzN]; done) | (rw [hzN]; rfl) | (rw [hzB]; done) | (rw [hzB]; rfl)), (by first | omega | rfl | exact hzN.symm | exact hzN | (rw [hzN]; done) | (rw [hzN]; rfl) | (rw [hzB]; done) | (rw [hzB]; rfl)), (by first | omega | rfl | exact hzN.symm | exact hzN | (rw [hzN]; done) | (rw [hzN]; rfl) | (rw [hzB]; done) | (rw [hzB]; rfl))⟩
  · refine zr [.no, .b false] [0, 2, 4, 14] [0] (¬ (((m : Int) - 4) < 4)) [(0, sV .u8 l m), (2, rV 0 0), (4, iV (↑m - 4)), (14, bV false)] [(0, some (31, .ds [D.lit (.int .u64 0), D.lit (.string { data := #[] }), iD 0, iD 0, iD 0, iD 0, iD 0, qI]))] 1 zo ?_
    refine yM ?_
    refine AW.seq ?_
    have hx2 : (((0 : Int) ≤ (g32 l (m - 4))) ∧ ((g32 l (m - 4)) ≤ 4294967295)) := g32_rng (kP : Byt l) zo
    refine kK (.no :: .no :: .call [] (.tup [.c (.d (D.lit (.int .u32 (g32 l (m - 4))))), uE ((m - 4) + 4), iE 0]) [] 0 [] (some [.c (.d (db l m)), uE (m - 4)]) :: kS 7 []) ((k8 (dI .u8 l)) ∧ (kN m) ∧ (((((m - 4) : Nat) : Int) : Int) = ((m : Int) - 4)) ∧ (_)) [(0, sV .u8 l m), (2, rV 0 0), (4, iV (↑m - 4)), (5, kT (D.lit (.int .u32 (g32 l (m - 4)))))] [(0, some (31, .ds [D.lit (.int .u64 0), D.lit (.string { data := #[] }), iD 0, iD 0, iD 0, iD 0, iD 0, qI]))] 1 ⟨rfl, rfl, zo, (W_Get32 l m (m - 4) zo zo (kP : Byt l) zo)⟩ ?_
    by_cases hx4 : ((g32 l (m - 4)) ≠ (kY (ka2 (m - 4) l)))
    · have hx5 : (((0 : Int) ≤ (kY (ka2 (m - 4) l))) ∧ ((kY (ka2 (m - 4) l)) ≤ 4294967295)) := gF _
      refine kK [.no, .no, .no, .sls 0 (m - 4) (m - 4) (dI .u8 (ka2 (m - 4) l)), .call [] (kT (D.lit (.int .u32 (kY (ka2 (m - 4) l))))) [] 0 [] none, .b true] ((kN 0) ∧ ((((m : Int) - 4) : Int) = (((m - 4) : Nat) : Int)) ∧ ((0 : Nat) ≤ (m - 4)) ∧ ((m - 4) ≤ m) ∧ ((m - 4) - 0 = (m - 4)) ∧ (ka2 ((m - 4) * 1) (ka7 (0 * 1) (dI .u8 l)) = (dI .u8 (ka2 (m - 4) l))) ∧ (_) ∧ (((g32 l (m - 4)) ≠ (kY (ka2 (m - 4) l))))) [(0, sV .u8 l m), (2, rV 0 0), (4, iV (↑m - 4)), (28, bV true)] [(0, some (31, .ds [D.lit (.int .u64 0), D.lit (.string { data := #[] }), iD 0, iD 0, iD 0, iD 0, iD 0, qI]))] 1 ⟨rfl, (by first | rfl | omega), zo, zo, zo, gY, (k52 (ka2 (m - 4) l) (m - 4) qV zo (Byt.take (kP : Byt l) _)), zo⟩ ?_
      refine zt ?_
      refine kX [.no, .no, .no] True [(2, rV 0 0), (3, iV 6)] trivial ?_
      refine aR (l' := [(2, rV 0 0), (3, iV 6)]) (g' := [(0, some (31, .ds [D.lit (.int .u64 0), D.lit (.string { data := #[] }), iD 0, iD 0, iD 0, iD 0, iD 0, D.sl ([] : List D) 0]))]) (NlS.cons rfl (.same _) (NlS.cons rfl (.same _) NlS.nil)) (NlG.to (bc := .ds [D.lit (.int .u64 0), D.lit (.string { data := #[] }), iD 0, iD 0, iD 0, iD 0, iD 0, qI]) rfl (NlL.cons (.same _) (NlL.cons (.same _) (NlL.cons (.same _) (NlL.cons (.same _) (NlL.cons (.same _) (NlL.cons (.same _) (NlL.cons (.same _) (NlL.cons (.nil) NlL.nil)))))))) NlG.nil) ?_
      have hz0 : yC l = 6 := (u0t hm (by omega) (by omega))
      obtain ⟨hzI, hzN, hz1, hz2, hz3, hz4, hz5, hzB⟩ := wA (l := l) zo
      refine AW.ret ?_
      exact kC (.inr rfl) [] (P := (((o2 l) : Int) = 0) ∧ ((.string (strOfNums (gB l)) : Value) = .string { data := #[] }) ∧ (((o7 l) : Int) = 0) ∧ (((o6 l) : Int) = 0) ∧ (((o5 l) : Int) = 0) ∧ (((o4 l) : Int) = 0) ∧ (((o3 l) : Int) = 0) ∧ (((qC (vV l)) : List D) = ([] : List D)) ∧ (((ka1 (vV l)) : Nat) = 0) ∧ (((yC l) : Int) = 6)) zk ⟨(by first | omega | rfl | exact hzN.symm | exact hzN | (rw [hzN]; done) | (rw [hzN]; rfl) | (rw [hzB]; done) | (rw [hzB]; rfl)), (by rw [hzN]; rfl), (by first | omega | rfl | exact hzN.symm | exact hzN | (rw [hzN]; done) | (rw [hzN]; rfl) | (rw [hzB]; done) | (rw [hzB]; rfl)), (by first | omega | rfl | exact hzN.symm | exact hzN | (rw [hzN]; done) | (rw [hzN]; rfl) | (rw [hzB]; done) | (rw [hzB]; rfl)), (by first | omega | rfl | exact hzN.symm | exact hzN | (rw [hzN]; done) | (rw [hzN]; rfl) | (rw [hzB]; done) | (rw [hzB]; rfl)), (by first | omega | rfl | exact hzN.symm | exact hzN | (rw [hzN]; done) | (rw [hzN]; rfl) | (rw [hzB]; done) | (rw [hzB]; rfl)), (by first | omega | rfl | exact hzN.symm | exact hzN | (rw [hzN]; done) | (rw [hzN]; rfl) | (rw [hzB]; done) | (rw [hzB]; rfl)), (by first | omega | rfl | exact hzN.symm | exact hzN | (rw [hzN]; done) | (rw [hzN]; rfl) | (rw [hzB]; done) | (rw [hzB]; rfl)), (by first | omega | rfl | exact hzN.symm | exact hzN | (rw [hzN]; done) | (rw [hzN]; rfl) | (rw [hzB]; done) | (rw [hzB]; rfl)), (by first | omega | rfl | exact hzN.symm | exact hzN | (rw [hzN]; done) | (rw [hzN]; rfl) | (rw [hzB]; done) | (rw [hzB]; rfl))⟩
    · have hx6 : (((0 : Int) ≤ (kY (ka2 (m - 4) l))) ∧ ((kY (ka2 (m - 4) l)) ≤ 4294967295)) := gF _
      refine kK [.no, .no, .no, .sls 0 (m - 4) (m - 4) (dI .u8 (ka2 (m - 4) l)), .call [] (kT (D.lit (.int .u32 (kY (ka2 (m - 4) l))))) [] 0 [] none, .b false] ((kN 0) ∧ ((((m : Int) - 4) : Int) = (((m - 4) : Nat) : Int)) ∧ ((0 : Nat) ≤ (m - 4)) ∧ ((m - 4) ≤ m) ∧ ((m - 4) - 0 = (m - 4)) ∧ (ka2 ((m - 4) * 1) (ka7 (0 * 1) (dI .u8 l)) = (dI .u8 (ka2 (m - 4) l))) ∧ (_) ∧ (¬ ((g32 l (m - 4)) ≠ (kY (ka2 (m - 4) l))))) [(0, sV .u8 l m), (2, rV 0 0), (4, iV (↑m - 4)), (28, bV false)] [(0, some (31, .ds [D.lit (.int .u64 0), D.lit (.string { data := #[] }), iD 0, iD 0, iD 0, iD 0, iD 0, qI]))] 1 ⟨rfl, (by first | rfl | omega), zo, zo, zo, gY, (k52 (ka2 (m - 4) l) (m - 4) qV zo (Byt.take (kP : Byt l) _)), zo⟩ ?_
      refine yM ?_
      refine AW.seq ?_
      by_cases hx7 : ((ka2 4 l) = ([83, 78, 68, 49] : List Int))
      · refine zr [.no, .sls 0 4 4 (dI .u8 (ka2 4 l)), .st none (ka2 4 l), .b false] [0, 2, 4, 33] [0] ((kN 0) ∧ (kM 4) ∧ ((0 : Nat) ≤ 4) ∧ ((4 : Nat) ≤ m) ∧ ((4 : Nat) - 0 = 4) ∧ (ka2 (4 * 1) (ka7 (0 * 1) (dI .u8 l)) = (dI .u8 (ka2 4 l))) ∧ ((dI .u8 (ka2 4 l)).length = 4 * 1) ∧ (k8 (dI .u8 (ka2 4 l))) ∧ ((!(ByteArray.toList (strOfNums (ka2 4 l)) == ByteArray.toList (ByteArray.mk #[83, 78, 68, 49]))) = false)) [(0, sV .u8 l m), (2, rV 0 0), (4, iV (↑m - 4)), (33, bV false)] [(0, some (31, .ds [D.lit (.int .u64 0), D.lit (.string { data := #[] }), iD 0, iD 0, iD 0, iD 0, iD 0, qI]))] 1 ⟨rfl, rfl, zo, zo, zo, gY, (by first | omega | (simp only [kR, kO, pbL_len, qK, ka4, kb1, kb6, kb3, kb2, kb4, kc2, kd0, kc7, kc4] <;> omega) | rfl), rfl, (by rw [show (ByteArray.toList (strOfNums (ka2 4 l)) == ByteArray.toList (ByteArray.mk #[83, 78, 68, 49])) = true from (u3c (by assumption))]; rfl)⟩ ?_
        refine yM ?_
        refine kK [.no, .no, .sls 0 (m - 4) (m - 4) (dI .u8 (ka2 (m - 4) l)), .no, .no, .no] ((kN 0) ∧ ((((m : Int) - 4) : Int) = (((m - 4) : Nat) : Int)) ∧ ((0 : Nat) ≤ (m - 4)) ∧ ((m - 4) ≤ m) ∧ ((m - 4) - 0 = (m - 4)) ∧ (ka2 ((m - 4) * 1) (ka7 (0 * 1) (dI .u8 l)) = (dI .u8 (ka2 (m - 4) l)))) [(2, rV 0 0), (4, iV (↑m - 4)), (8, rV 1 0)] [(0, some (31, .ds [D.lit (.int .u64 0), D.lit (.string { data := #[] }), iD 0, iD 0, iD 0, iD 0, iD 0, qI])), (1, some (59, .ds [db (ka2 (m - 4) l) (m - 4), iD 4, iD 0]))] 2 ⟨rfl, (by first | rfl | omega), zo, zo, zo, gY⟩ ?_
        have hx8 : ((kL (dG (ka2 (m - 4) l) qB)) ≤ (m - 4)) := (u0u (qV) (qV))
        have hx9 : (((0 : Int) ≤ (vQ (ka2 (m - 4) l) qB)) ∧ ((vQ (ka2 (m - 4) l) qB) ≤ 18446744073709551615)) := (wO ((Byt.take (kP : Byt l) _)) _)
        have hx10 : ((ka1 (yU m l)) ≤ 64) := (mO _ _)
        have hx11 : ((ka1 (yX (ka2 (m - 4) l) (aS (ka2 (m - 4) l) qB))) ≤ 65535) := (oH ((Byt.take (kP : Byt l) _)) _)
        have hx12 : (BsW (yX (ka2 (m - 4) l) (aS (ka2 (m - 4) l) qB))) := (k4g ((Byt.take (kP : Byt l) _)) _)
        refine kK [.no, .call [1] (.e (.agg [.d (D.lit (.int .u64 (vQ (ka2 (m - 4) l) qB))), .d (D.lit (.string (strOfNums (yU m l)))), iC (((kV (ka2 (m - 4) l) (jH (ka2 (m - 4) l) qB)) : Nat) : Int), iC (((kV (ka2 (m - 4) l) (jG (ka2 (m - 4) l) qB)) : Nat) : Int), iC (u7 (ka2 (m - 4) l) (jF (ka2 (m - 4) l) qB)), iC (((kV (ka2 (m - 4) l) (jE (ka2 (m - 4) l) qB)) : Nat) : Int), iC (((kV (ka2 (m - 4) l) (jD (ka2 (m - 4) l) qB)) : Nat) : Int), .d (D.sl (qC (yX (ka2 (m - 4) l) (aS (ka2 (m - 4) l) qB))) (ka1 (yX (ka2 (m - 4) l) (aS (ka2 (m - 4) l) qB))))])) [(0, some (59, .ds [db (ka2 (m - 4) l) (m - 4), iD (((kL (dG (ka2 (m - 4) l) qB)) : Nat) : Int), iD (kU (dG (ka2 (m - 4) l) qB))]))] 1 [] (some [.c (.ptr 0 0)]), .no, .no] ((kN 0) ∧ (_)) [(2, rV 0 0), (4, iV (↑m - 4)), (8, rV 1 0), (9, rV 2 0)] [(0, some (31, .ds [D.lit (.int .u64 0), D.lit (.string { data := #[] }), iD 0, iD 0, iD 0, iD 0, iD 0, qI])), (1, some (59, .ds [db (ka2 (m - 4) l) (m - 4), iD (((kL (dG (ka2 (m - 4) l) qB)) : Nat) : Int), iD (kU (dG (ka2 (m - 4) l) qB))])), (2, some (31, .ds [D.lit (.int .u64 (vQ (ka2 (m - 4) l) qB)), D.lit (.string (strOfNums (yU m l))), iD (((kV (ka2 (m - 4) l) (jH (ka2 (m - 4) l) qB)) : Nat) : Int), iD (((kV (ka2 (m - 4) l) (jG (ka2 (m - 4) l) qB)) : Nat) : Int), iD (u7 (ka2 (m - 4) l) (jF (ka2 (m - 4) l) qB)), iD (((kV (ka2 (m - 4) l) (jE (ka2 (m - 4) l) qB)) : Nat) : Int), iD (((kV (ka2 (m - 4) l) (jD (ka2 (m - 4) l) qB)) : Nat) : Int), D.sl (qC (yX (ka2 (m - 4) l) (aS (ka2 (m - 4) l) qB))) (ka1 (yX (ka2 (m - 4) l) (aS (ka2 (m - 4) l) qB)))]))] 3 ⟨rfl, (u17 (ka2 (m - 4) l) (m - 4) qB qV zo (Byt.take (kP : Byt l) _) qV)⟩ ?_
        refine AW.seq ?_
        by_cases hx13 : ((kU (dG (ka2 (m - 4) l) qB)) ≠ 0)
        · refine zr (kS 4 [.b true, .no, .no]) [2, 9, 54] [0, 2] (((kU (dG (ka2 (m - 4) l) qB)) ≠ 0)) [(2, rV 0 0), (9, rV 2 0), (54, bV true)] [(0, some (31, .ds [D.lit (.int .u64 0), D.lit (.string { data := #[] }), iD 0, iD 0, iD 0, iD 0, iD 0, qI])), (2, some (31, .ds [D.lit (.int .u64 (vQ (ka2 (m - 4) l) qB)), D.lit (.string (strOfNums (yU m l))), iD (((kV (ka2 (m - 4) l) (jH (ka2 (m - 4) l) qB)) : Nat) : Int), iD (((kV (ka2 (m - 4) l) (jG (ka2 (m - 4) l) qB)) : Nat) : Int), iD (u7 (ka2 (m - 4) l) (jF (ka2 (m - 4) l) qB)), iD (((kV (ka2 (m - 4) l) (jE (ka2 (m - 4) l) qB)) : Nat) : Int), iD (((kV (ka2 (m - 4) l) (jD (ka2 (m - 4) l) qB)) : Nat) : Int), D.sl (qC (yX (ka2 (m - 4) l) (aS (ka2 (m - 4) l) qB))) (ka1 (yX (ka2 (m - 4) l) (aS (ka2 (m - 4) l) qB)))]))] 3 zo ?_
          refine zt ?_
          refine kK [.no, .no, .no] True [(2, rV 0 0), (3, iV 5)] [(0, some (31, .ds [D.lit (.int .u64 0), D.lit (.string { data := #[] }), iD 0, iD 0, iD 0, iD 0, iD 0, qI]))] 3 trivial ?_
          refine aR (l' := [(2, rV 0 0), (3, iV 5)]) (g' := [(0, some (31, .ds [D.lit (.int .u64 0), D.lit (.string { data := #[] }), iD 0, iD 0, iD 0, iD 0, iD 0, D.sl ([] : List D) 0]))]) (NlS.cons rfl (.same _) (NlS.cons rfl (.same _) NlS.nil)) (NlG.to (bc := .ds [D.lit (.int .u64 0), D.lit (.string { data := #[] }), iD 0, iD 0, iD 0, iD 0, iD 0, qI]) rfl (NlL.cons (.same _) (NlL.cons (.same _) (NlL.cons (.same _) (NlL.cons (.same _) (NlL.cons (.same _) (NlL.cons (.same _) (NlL.cons (.same _) (NlL.cons (.nil) NlL.nil)))))))) NlG.nil) ?_
          have hz0 : yC l = 5 := (u3p hm (by omega) (by omega) (by assumption) (by omega))
          obtain ⟨hzI, hzN, hz1, hz2, hz3, hz4, hz5, hzB⟩ := wA (l := l) zo
          refine AW.ret ?_
          exact kC (.inr rfl) [] (P := (((o2 l) : Int) = 0) ∧ ((.string (strOfNums (gB l)) : Value) = .string { data := #[] }) ∧ (((o7 l) : Int) = 0) ∧ (((o6 l) : Int) = 0) ∧ (((o5 l) : Int) = 0) ∧ (((o4 l) : Int) = 0) ∧ (((o3 l) : Int) = 0) ∧ (((qC (vV l)) : List D) = ([] : List D)) ∧ (((ka1 (vV l)) : Nat) = 0) ∧ (((yC l) : Int) = 5)) zk ⟨(by first | omega | rfl | exact hzN.symm | exact hzN | (rw [hzN]; done) | (rw [hzN]; rfl) | (rw [hzB]; done) | (rw [hzB]; rfl)), (by rw [hzN]; rfl), (by first | omega | rfl | exact hzN.symm | exact hzN | (rw [hzN]; done) | (rw [hzN]; rfl) | (rw [hzB]; done) | (rw [hzB]; rfl)), (by first | omega | rfl | exact hzN.symm | exact hzN | (rw [hzN]; done) | (rw [hzN]; rfl) | (rw [hzB]; done) | (rw [hzB]; rfl)), (by first | omega | rfl | exact hzN.symm | exact hzN | (rw [hzN]; done) | (rw [hzN]; rfl) | (rw [hzB]; done) | (rw [hzB]; rfl)), (by first | omega | rfl | exact hzN.symm | exact hzN | (rw [hzN]; done) | (rw [hzN]; rfl) | (rw [hzB]; done) | (rw [hzB]; rfl)), (by first | omega | rfl | exact hzN.symm | exact hzN | (rw [hzN]; done) | (rw [hzN]; rfl) | (rw [hzB]; done) | (rw [hzB]; rfl)), (by first | omega | rfl | exact hzN.symm | exact hzN | (rw [hzN]; done) | (rw [hzN]; rfl) | (rw [hzB]; done) | (rw [hzB]; rfl)), (by first | omega | rfl | exact hzN.symm | exact hzN | (rw [hzN]; done) | (rw [hzN]; rfl) | (rw [hzB]; done) | (rw [hzB]; rfl)), (by first | omega | rfl | exact hzN.symm | exact hzN | (rw [hzN]; done) | (rw [hzN]; rfl) | (rw [hzB]; done) | (rw [hzB]; rfl))⟩
        · by_cases hx14 : ((((kL (dG (ka2 (m - 4) l) qB)) : Nat) : Int) ≠ (((m : Nat) : Int) - 4))
          · refine zr (kS 4 (.b false :: kS 6 [.b true, .no])) [2, 9, 54] [0, 2] ((¬ ((kU (dG (ka2 (m - 4) l) qB)) ≠ 0)) ∧ (((((kL (dG (ka2 (m - 4) l) qB)) : Nat) : Int) ≠ ((m : Int) - 4)))) [(2, rV 0 0), (9, rV 2 0), (54, bV true)] [(0, some (31, .ds [D.lit (.int .u64 0), D.lit (.string { data := #[] }), iD 0, iD 0, iD 0, iD 0, iD 0, qI])), (2, some (31, .ds [D.lit (.int .u64 (vQ (ka2 (m - 4) l) qB)), D.lit (.string (strOfNums (yU m l))), iD (((kV (ka2 (m - 4) l) (jH (ka2 (m - 4) l) qB)) : Nat) : Int), iD (((kV (ka2 (m - 4) l) (jG (ka2 (m - 4) l) qB)) : Nat) : Int), iD (u7 (ka2 (m - 4) l) (jF (ka2 (m - 4) l) qB)), iD (((kV (ka2 (m - 4) l) (jE (ka2 (m - 4) l) qB)) : Nat) : Int), iD (((kV (ka2 (m - 4) l) (jD (ka2 (m - 4) l) qB)) : Nat) : Int), D.sl (qC (yX (ka2 (m - 4) l) (aS (ka2 (m - 4) l) qB))) (ka1 (yX (ka2 (m - 4) l) (aS (ka2 (m - 4) l) qB)))]))] 3 ⟨zo, zo⟩ ?_
            refine zt ?_
            refine kK [.no, .no, .no] True [(2, rV 0 0), (3, iV 5)] [(0, some (31, .ds [D.lit (.int .u64 0), D.lit (.string { data := #[] }), iD 0, iD 0, iD 0, iD 0, iD 0, qI]))] 3 trivial ?_
            refine aR (l' := [(2, rV 0 0), (3, iV 5)]) (g' := [(0, some (31, .ds [D.lit (.int .u64 0), D.lit (.string { data := #[] }), iD 0, iD 0, iD 0, iD 0, iD 0, D.sl ([] : List D) 0]))]) (NlS.cons rfl (.same _) (NlS.cons rfl (.same _) NlS.nil)) (NlG.to (bc := .ds [D.lit (.int .u64 0), D.lit (.string { data := #[] }), iD 0, iD 0, iD 0, iD 0, iD 0, qI]) rfl (NlL.cons (.same _) (NlL.cons (.same _) (NlL.cons (.same _) (NlL.cons (.same _) (NlL.cons (.same _) (NlL.cons (.same _) (NlL.cons (.same _) (NlL.cons (.nil) NlL.nil)))))))) NlG.nil) ?_
            have hz0 : yC l = 5 := (u3p hm (by omega) (by omega) (by assumption) (by omega))
            obtain ⟨hzI, hzN, hz1, hz2, hz3, hz4, hz5, hzB⟩ := wA (l := l) zo
            refine AW.ret ?_
            exact kC (.inr rfl) [] (P := (((o2 l) : Int) = 0) ∧ ((.string (strOfNums (gB l)) : Value) = .string { data := #[] }) ∧ (((o7 l) : Int) = 0) ∧ (((o6 l) : Int) = 0) ∧ (((o5 l) : Int) = 0) ∧ (((o4 l) : Int) = 0) ∧ (((o3 l) : Int) = 0) ∧ (((qC (vV l)) : List D) = ([] : List D)) ∧ (((ka1 (vV l)) : Nat) = 0) ∧ (((yC l) : Int) = 5)) zk ⟨(by first | omega | rfl | exact hzN.symm | exact hzN | (rw [hzN]; done) | (rw [hzN]; rfl) | (rw [hzB]; done) | (rw [hzB]; rfl)), (by rw [hzN]; rfl), (by first | omega | rfl | exact hzN.symm | exact hzN | (rw [hzN]; done) | (rw [hzN]; rfl) | (rw [hzB]; done) | (rw [hzB]; rfl)), (by first | omega | rfl | exact hzN.symm | exact hzN | (rw [hzN]; done) | (rw [hzN]; rfl) | (rw [hzB]; done) | (rw [hzB]; rfl)), (by first | omega | rfl | exact hzN.symm | exact hzN | (rw [hzN]; done) | (rw [hzN]; rfl) | (rw [hzB]; done) | (rw [hzB]; rfl)), (by first | omega | rfl | exact hzN.symm | exact hzN | (rw [hzN]; done) | (rw [hzN]; rfl) | (rw [hzB]; done) | (rw [hzB]; rfl)), (by first | omega | rfl | exact hzN.symm | exact hzN | (rw [hzN]; done) | (rw [hzN]; rfl) | (rw [hzB]; done) | (rw [hzB]; rfl)), (by first | omega | rfl | exact hzN.symm | exact hzN | (rw [hzN]; done) | (rw [hzN]; rfl) | (rw [hzB]; done) | (rw [hzB]; rfl)), (by first | omega | rfl | exact hzN.symm | exact hzN | (rw [hzN]; done) | (rw [hzN]; rfl) | (rw [hzB]; done) | (rw [hzB]; rfl)), (by first | omega | rfl | exact hzN.symm | exact hzN | (rw [hzN]; done) | (rw [hzN]; rfl) | (rw [hzB]; done) | (rw [hzB]; rfl))⟩
          · refine zr (kS 4 (.b false :: kS 6 [.b false, .no])) [2, 9, 54] [0, 2] ((¬ ((kU (dG (ka2 (m - 4) l) qB)) ≠ 0)) ∧ (¬ ((((kL (dG (ka2 (m - 4) l) qB)) : Nat) : Int) ≠ ((m : Int) - 4)))) [(2, rV 0 0), (9, rV 2 0), (54, bV false)] [(0, some (31, .ds [D.lit (.int .u64 0), D.lit (.string { data := #[] }), iD 0, iD 0, iD 0, iD 0, iD 0, qI])), (2, some (31, .ds [D.lit (.int .u64 (vQ (ka2 (m - 4) l) qB)), D.lit (.string (strOfNums (yU m l))), iD (((kV (ka2 (m - 4) l) (jH (ka2 (m - 4) l) qB)) : Nat) : Int), iD (((kV (ka2 (m - 4) l) (jG (ka2 (m - 4) l) qB)) : Nat) : Int), iD (u7 (ka2 (m - 4) l) (jF (ka2 (m - 4) l) qB)), iD (((kV (ka2 (m - 4) l) (jE (ka2 (m - 4) l) qB)) : Nat) : Int), iD (((kV (ka2 (m - 4) l) (jD (ka2 (m - 4) l) qB)) : Nat) : Int), D.sl (qC (yX (ka2 (m - 4) l) (aS (ka2 (m - 4) l) qB))) (ka1 (yX (ka2 (m - 4) l) (aS (ka2 (m - 4) l) qB)))]))] 3 ⟨zo, zo⟩ ?_
            refine yM ?_
            refine AW.seq ?_
            rcases kb5 (dM (yU m l) (((kV (ka2 (m - 4) l) (jH (ka2 (m - 4) l) qB)) : Nat) : Int) (((kV (ka2 (m - 4) l) (jG (ka2 (m - 4) l) qB)) : Nat) : Int) (u7 (ka2 (m - 4) l) (jF (ka2 (m - 4) l) qB)) (((kV (ka2 (m - 4) l) (jE (ka2 (m - 4) l) qB)) : Nat) : Int) (((kV (ka2 (m - 4) l) (jD (ka2 (m - 4) l) qB)) : Nat) : Int) (yX (ka2 (m - 4) l) (aS (ka2 (m - 4) l) qB))) with hx15 | hx15
            · refine zr [.no, .call [] (bV true) [] 0 [] none, .no] [2, 9, 58] [0, 2] (Fun 14 [.agg [.d (D.lit (.int .u64 (vQ (ka2 (m - 4) l) qB))), .d (D.lit (.string (strOfNums (yU m l)))), iC (((kV (ka2 (m - 4) l) (jH (ka2 (m - 4) l) qB)) : Nat) : Int), iC (((kV (ka2 (m - 4) l) (jG (ka2 (m - 4) l) qB)) : Nat) : Int), iC (u7 (ka2 (m - 4) l) (jF (ka2 (m - 4) l) qB)), iC (((kV (ka2 (m - 4) l) (jE (ka2 (m - 4) l) qB)) : Nat) : Int), iC (((kV (ka2 (m - 4) l) (jD (ka2 (m - 4) l) qB)) : Nat) : Int), .d (D.sl (qC (yX (ka2 (m - 4) l) (aS (ka2 (m - 4) l) qB))) (ka1 (yX (ka2 (m - 4) l) (aS (ka2 (m - 4) l) qB))))]] (kG []) 0 (bV true) (kG []) 0) [(2, rV 0 0), (9, rV 2 0), (58, bV false)] [(0, some (31, .ds [D.lit (.int .u64 0), D.lit (.string { data := #[] }), iD 0, iD 0, iD 0, iD 0, iD 0, qI])), (2, some (31, .ds [D.lit (.int .u64 (vQ (ka2 (m - 4) l) qB)), D.lit (.string (strOfNums (yU m l))), iD (((kV (ka2 (m - 4) l) (jH (ka2 (m - 4) l) qB)) : Nat) : Int), iD (((kV (ka2 (m - 4) l) (jG (ka2 (m - 4) l) qB)) : Nat) : Int), iD (u7 (ka2 (m - 4) l) (jF (ka2 (m - 4) l) qB)), iD (((kV (ka2 (m - 4) l) (jE (ka2 (m - 4) l) qB)) : Nat) : Int), iD (((kV (ka2 (m - 4) l) (jD (ka2 (m - 4) l) qB)) : Nat) : Int), D.sl (qC (yX (ka2 (m - 4) l) (aS (ka2 (m - 4) l) qB))) (ka1 (yX (ka2 (m - 4) l) (aS (ka2 (m - 4) l) qB)))]))] 3 (by have h0 := (gR (vQ (ka2 (m - 4) l) qB) (yU m l) (((kV (ka2 (m - 4) l) (jH (ka2 (m - 4) l) qB)) : Nat) : Int) (((kV (ka2 (m - 4) l) (jG (ka2 (m - 4) l) qB)) : Nat) : Int) (u7 (ka2 (m - 4) l) (jF (ka2 (m - 4) l) qB)) (((kV (ka2 (m - 4) l) (jE (ka2 (m - 4) l) qB)) : Nat) : Int) (((kV (ka2 (m - 4) l) (jD (ka2 (m - 4) l) qB)) : Nat) : Int) (yX (ka2 (m - 4) l) (aS (ka2 (m - 4) l) qB)) (ka1 (yX (ka2 (m - 4) l) (aS (ka2 (m - 4) l) qB))) (wR (Byt.take (kP : Byt l) _) _) qV rfl qV (kP : BsW (yX (ka2 (m - 4) l) (aS (ka2 (m - 4) l) qB)))); rw [hx15] at h0; exact h0) ?_
              refine yM ?_
              refine kK [.no, .no, .no] True [(2, rV 0 0), (3, iV 0)] [(0, some (31, .ds [D.lit (.int .u64 (vQ (ka2 (m - 4) l) qB)), D.lit (.string (strOfNums (yU m l))), iD (((kV (ka2 (m - 4) l) (jH (ka2 (m - 4) l) qB)) : Nat) : Int), iD (((kV (ka2 (m - 4) l) (jG (ka2 (m - 4) l) qB)) : Nat) : Int), iD (u7 (ka2 (m - 4) l) (jF (ka2 (m - 4) l) qB)), iD (((kV (ka2 (m - 4) l) (jE (ka2 (m - 4) l) qB)) : Nat) : Int), iD (((kV (ka2 (m - 4) l) (jD (ka2 (m - 4) l) qB)) : Nat) : Int), D.sl (qC (yX (ka2 (m - 4) l) (aS (ka2 (m - 4) l) qB))) (ka1 (yX (ka2 (m - 4) l) (aS (ka2 (m - 4) l) qB)))]))] 3 trivial ?_
              have hz0 : yC l = 0 := (u3n hm (by omega) (by omega) (by assumption) (by omega) hx15)
              obtain ⟨hzI, hzN, hz1, hz2, hz3, hz4, hz5, hzB⟩ := u3m hm rfl hz0
              refine AW.ret ?_
              exact kC (.inr rfl) [] (P := (((o2 l) : Int) = (vQ (ka2 (m - 4) l) qB)) ∧ ((.string (strOfNums (gB l)) : Value) = .string (strOfNums (yU m l))) ∧ (((o7 l) : Int) = (((kV (ka2 (m - 4) l) (jH (ka2 (m - 4) l) qB)) : Nat) : Int)) ∧ (((o6 l) : Int) = (((kV (ka2 (m - 4) l) (jG (ka2 (m - 4) l) qB)) : Nat) : Int)) ∧ (((o5 l) : Int) = (u7 (ka2 (m - 4) l) (jF (ka2 (m - 4) l) qB))) ∧ (((o4 l) : Int) = (((kV (ka2 (m - 4) l) (jE (ka2 (m - 4) l) qB)) : Nat) : Int)) ∧ (((o3 l) : Int) = (((kV (ka2 (m - 4) l) (jD (ka2 (m - 4) l) qB)) : Nat) : Int)) ∧ (((qC (vV l)) : List D) = (qC (yX (ka2 (m - 4) l) (aS (ka2 (m - 4) l) qB)))) ∧ (((ka1 (vV l)) : Nat) = (ka1 (yX (ka2 (m - 4) l) (aS (ka2 (m - 4) l) qB)))) ∧ (((yC l) : Int) = 0)) zk ⟨(by first | omega | rfl | exact hzN.symm | exact hzN | (rw [hzN]; done) | (rw [hzN]; rfl) | (rw [hzB]; done) | (rw [hzB]; rfl)), (congrArg (fun x9 => Value.string (strOfNums x9)) (show (gB l) = (yU m l) from (by first | omega | rfl | exact hzN.symm | exact hzN | (rw [hzN]; done) | (rw [hzN]; rfl) | (rw [hzB]; done) | (rw [hzB]; rfl)))), (by first | omega | rfl | exact hzN.symm | exact hzN | (rw [hzN]; done) | (rw [hzN]; rfl) | (rw [hzB]; done) | (rw [hzB]; rfl)), (by first | omega | rfl | exact hzN.symm | exact hzN | (rw [hzN]; done) | (rw [hzN]; rfl) | (rw [hzB]; done) | (rw [hzB]; rfl)), (by first | omega | rfl | exact hzN.symm | exact hzN | (rw [hzN]; done) | (rw [hzN]; rfl) | (rw [hzB]; done) | (rw [hzB]; rfl)), (by first | omega | rfl | exact hzN.symm | exact hzN | (rw [hzN]; done) | (rw [hzN]; rfl) | (rw [hzB]; done) | (rw [hzB]; rfl)), (by first | omega | rfl | exact hzN.symm | exact hzN | (rw [hzN]; done) | (rw [hzN]; rfl) | (rw [hzB]; done) | (rw [hzB]; rfl)), (by first | omega | rfl | exact hzN.symm | exact hzN | (rw [hzN]; done) | (rw [hzN]; rfl) | (rw [hzB]; done) | (rw [hzB]; rfl)), (by first | omega | rfl | exact hzN.symm | exact hzN | (rw [hzN]; done) | (rw [hzN]; rfl) | (rw [hzB]; done) | (rw [hzB]; rfl)), (by first | omega | rfl | exact hzN.symm | exact hzN | (rw [hzN]; done) | (rw [hzN]; rfl) | (rw [hzB]; done) | (rw [hzB]; rfl))⟩
            · refine zr [.no, .call [] (bV false) [] 0 [] none, .no] [2, 9, 58] [0, 2] (Fun 14 [.agg [.d (D.lit (.int .u64 (vQ (ka2 (m - 4) l) qB))), .d (D.lit (.string (strOfNums (yU m l)))), iC (((kV (ka2 (m - 4) l) (jH (ka2 (m - 4) l) qB)) : Nat) : Int), iC (((kV (ka2 (m - 4) l) (jG (ka2 (m - 4) l) qB)) : Nat) : Int), iC (u7 (ka2 (m - 4) l) (jF (ka2 (m - 4) l) qB)), iC (((kV (ka2 (m - 4) l) (jE (ka2 (m - 4) l) qB)) : Nat) : Int), iC (((kV (ka2 (m - 4) l) (jD (ka2 (m - 4) l) qB)) : Nat) : Int), .d (D.sl (qC (yX (ka2 (m - 4) l) (aS (ka2 (m - 4) l) qB))) (ka1 (yX (ka2 (m - 4) l) (aS (ka2 (m - 4) l) qB))))]] (kG []) 0 (bV false) (kG []) 0) [(2, rV 0 0), (9, rV 2 0), (58, bV true)] [(0, some (31, .ds [D.lit (.int .u64 0), D.lit (.string { data := #[] }), iD 0, iD 0, iD 0, iD 0, iD 0, qI])), (2, some (31, .ds [D.lit (.int .u64 (vQ (ka2 (m - 4) l) qB)), D.lit (.string (strOfNums (yU m l))), iD (((kV (ka2 (m - 4) l) (jH (ka2 (m - 4) l) qB)) : Nat) : Int), iD (((kV (ka2 (m - 4) l) (jG (ka2 (m - 4) l) qB)) : Nat) : Int), iD (u7 (ka2 (m - 4) l) (jF (ka2 (m - 4) l) qB)), iD (((kV (ka2 (m - 4) l) (jE (ka2 (m - 4) l) qB)) : Nat) : Int), iD (((kV (ka2 (m - 4) l) (jD (ka2 (m - 4) l) qB)) : Nat) : Int), D.sl (qC (yX (ka2 (m - 4) l) (aS (ka2 (m - 4) l) qB))) (ka1 (yX (ka2 (m - 4) l) (aS (ka2 (m - 4) l) qB)))]))] 3 (by have h0 := (gR (vQ (ka2 (m - 4) l) qB) (yU m l) (((kV (ka2 (m - 4) l) (jH (ka2 (m - 4) l) qB)) : Nat) : Int) (((kV (ka2 (m - 4) l) (jG (ka2 (m - 4) l) qB)) : Nat) : Int) (u7 (ka2 (m - 4) l) (jF (ka2 (m - 4) l) qB)) (((kV (ka2 (m - 4) l) (jE (ka2 (m - 4) l) qB)) : Nat) : Int) (((kV (ka2 (m - 4) l) (jD (ka2 (m - 4) l) qB)) : Nat) : Int) (yX (ka2 (m - 4) l) (aS (ka2 (m - 4) l) qB)) (ka1 (yX (ka2 (m - 4) l) (aS (ka2 (m - 4) l) qB))) (wR (Byt.take (kP : Byt l) _) _) qV rfl qV (kP : BsW (yX (ka2 (m - 4) l) (aS (ka2 (m - 4) l) qB)))); rw [hx15] at h0; exact h0) ?_
              refine zt ?_
              refine kK [.no, .no, .no] True [(2, rV 0 0), (3, iV 1)] [(0, some (31, .ds [D.lit (.int .u64 0), D.lit (.string { data := #[] }), iD 0, iD 0, iD 0, iD 0, iD 0, qI]))] 3 trivial ?_
              refine aR (l' := [(2, rV 0 0), (3, iV 1)]) (g' := [(0, some (31, .ds [D.lit (.int .u64 0), D.lit (.string { data := #[] }), iD 0, iD 0, iD 0, iD 0, iD 0, D.sl ([] : List D) 0]))]) (NlS.cons rfl (.same _) (NlS.cons rfl (.same _) NlS.nil)) (NlG.to (bc := .ds [D.lit (.int .u64 0), D.lit (.string { data := #[] }), iD 0, iD 0, iD 0, iD 0, iD 0, qI]) rfl (NlL.cons (.same _) (NlL.cons (.same _) (NlL.cons (.same _) (NlL.cons (.same _) (NlL.cons (.same _) (NlL.cons (.same _) (NlL.cons (.same _) (NlL.cons (.nil) NlL.nil)))))))) NlG.nil) ?_
              have hz0 : yC l = 1 := (u5q hm (by omega) (by omega) (by assumption) (by omega) hx15)
              obtain ⟨hzI, hzN, hz1, hz2, hz3, hz4, hz5, hzB⟩ := wA (l := l) zo
              refine AW.ret ?_
              exact kC (.inr rfl) [] (P := (((o2 l) : Int) = 0) ∧ ((.string (strOfNums (gB l)) : Value) = .string { data := #[] }) ∧ (((o7 l) : Int) = 0) ∧ (((o6 l) : Int) = 0) ∧ (((o5 l) : Int) = 0) ∧ (((o4 l) : Int) = 0) ∧ (((o3 l) : Int) = 0) ∧ (((qC (vV l)) : List D) = ([] : List D)) ∧ (((ka1 (vV l)) : Nat) = 0) ∧ (((yC l) : Int) = 1)) zk ⟨(by first | omega | rfl | exact hzN.symm | exact hzN | (rw [hzN]; done) | (rw [hzN]; rfl) | (rw [hzB]; done) | (rw [hzB]; rfl)), (by rw [hzN]; rfl), (by first | omega | rfl | exact hzN.symm | exact hzN | (rw [hzN]; done) | (rw [hzN]; rfl) | (rw [hzB]; done) | (rw [hzB]; rfl)), (by first | omega | rfl | exact hzN.symm | exact hzN | (rw [hzN]; done) | (rw [hzN]; rfl) | (rw [hzB]; done) | (rw [hzB]; rfl)), (by first | omega | rfl | exact hzN.symm | exact hzN | (rw [hzN]; done) | (rw [hzN]; rfl) | (rw [hzB]; done) | (rw [hzB]; rfl)), (by first | omega | rfl | exact hzN.symm | exact hzN | (rw [hzN]; done) | (rw [hzN]; rfl) | (rw [hzB]; done) | (rw [hzB]; rfl)), (by first | omega | rfl | exact hzN.symm | exact hzN | (rw [hzN]; done) | (rw [hzN]; rfl) | (rw [hzB]; done) | (rw [hzB]; rfl)), (by first | omega | rfl | exact hzN.symm | exact hzN | (rw [hzN]; done) | (rw [hzN]; rfl) | (rw [hzB]; done) | (rw [hzB]; rfl)), (by first | omega | rfl | exact hzN.symm | exact hzN | (rw [hzN]; done) | (rw [hzN]; rfl) | (rw [hzB]; done) | (rw [hzB]; rfl)), (by first | omega | rfl | exact hzN.symm | exact hzN | (rw [hzN]; done) | (rw [hzN]; rfl) | (rw [hzB]; done) | (rw [hzB]; rfl))⟩
      · refine zr [.no, .sls 0 4 4 (dI .u8 (ka2 4 l)), .st none (ka2 4 l), .b true] [0, 2, 4, 33] [0] ((kN 0) ∧ (kM 4) ∧ ((0 : Nat) ≤ 4) ∧ ((4 : Nat) ≤ m) ∧ ((4 : Nat) - 0 = 4) ∧ (ka2 (4 * 1) (ka7 (0 * 1) (dI .u8 l)) = (dI .u8 (ka2 4 l))) ∧ ((dI .u8 (ka2 4 l)).length = 4 * 1) ∧ (k8 (dI .u8 (ka2 4 l))) ∧ ((!(ByteArray.toList (strOfNums (ka2 4 l)) == ByteArray.toList (ByteArray.mk #[83, 78, 68, 49]))) = true)) [(0, sV .u8 l m), (2, rV 0 0), (4, iV (↑m - 4)), (33, bV true)] [(0, some (31, .ds [D.lit (.int .u64 0), D.lit (.string { data := #[] }), iD 0, iD 0, iD 0, iD 0, iD 0, qI]))] 1 ⟨rfl, rfl, zo, zo, zo, gY, (by first | omega | (simp only [kR, kO, pbL_len, qK, ka4, kb1, kb6, kb3, kb2, kb4, kc2, kd0, kc7, kc4] <;> omega) | rfl), rfl, (by rw [show (ByteArray.toList (strOfNums (ka2 4 l)) == ByteArray.toList (ByteArray.mk #[83, 78, 68, 49])) = false from (u3d (Byt.take (kP : Byt l) _) (by assumption))]; rfl)⟩ ?_
        refine zt ?_
        refine kK [.no, .no, .no] True [(2, rV 0 0), (3, iV 5)] [(0, some (31, .ds [D.lit (.int .u64 0), D.lit (.string { data := #[] }), iD 0, iD 0, iD 0, iD 0, iD 0, qI]))] 1 trivial ?_
        refine aR (l' := [(2, rV 0 0), (3, iV 5)]) (g' := [(0, some (31, .ds [D.lit (.int .u64 0), D.lit (.string { data := #[] }), iD 0, iD 0, iD 0, iD 0, iD 0, D.sl ([] : List D) 0]))]) (NlS.cons rfl (.same _) (NlS.cons rfl (.same _) NlS.nil)) (NlG.to (bc := .ds [D.lit (.int .u64 0), D.lit (.string { data := #[] }), iD 0, iD 0, iD 0, iD 0, iD 0, qI]) rfl (NlL.cons (.same _) (NlL.cons (.same _) (NlL.cons (.same _) (NlL.cons (.same _) (NlL.cons (.same _) (NlL.cons (.same _) (NlL.cons (.same _) (NlL.cons (.nil) NlL.nil)))))))) NlG.nil) ?_
        have hz0 : yC l = 5 := (u5r hm (by omega) (by omega) (by assumption))
        obtain ⟨hzI, hzN, hz1, hz2, hz3, hz4, hz5, hzB⟩ := wA (l := l) zo
        refine AW.ret ?_
        exact kC (.inr rfl) [] (P := (((o2 l) : Int) = 0) ∧ ((.string (strOfNums (gB l)) : Value) = .string { data := #[] }) ∧ (((o7 l) : Int) = 0) ∧ (((o6 l) : Int) = 0) ∧ (((o5 l) : Int) = 0) ∧ (((o4 l) : Int) = 0) ∧ (((o3 l) : Int) = 0) ∧ (((qC (vV l)) : List D) = ([] : List D)) ∧ (((ka1 (vV l)) : Nat) = 0) ∧ (((yC l) : Int) = 5)) zk ⟨(by first | omega | rfl | exact hzN.symm | exact hzN | (rw [hzN]; done) | (rw [hzN]; rfl) | (rw [hzB]; done) | (rw [hzB]; rfl)), (by rw [hzN]; rfl), (by first | omega | rfl | exact hzN.symm | exact hzN | (rw [hzN]; done) | (rw [hzN]; rfl) | (rw [hzB]; done) | (rw [hzB]; rfl)), (by first | omega | rfl | exact hzN.symm | exact hzN | (rw [hzN]; done) | (rw [hzN]; rfl) | (rw [hzB]; done) | (rw [hzB]; rfl)), (by first | omega | rfl | exact hzN.symm | exact hzN | (rw [hzN]; done) | (rw [hzN]; rfl) | (rw [hzB]; done) | (rw [hzB]; rfl)), (by first | omega | rfl | exact hzN.symm | exact hzN | (rw [hzN]; done) | (rw [hzN]; rfl) | (rw [hzB]; done) | (rw [hzB]; rfl)), (by first | omega | rfl | exact hzN.symm | exact hzN | (rw [hzN]; done) | (rw [hzN]; rfl) | (rw [hzB]; done) | (rw [hzB]; rfl)), (by first | omega | rfl | exact hzN.symm | exact hzN | (rw [hzN]; done) | (rw [hzN]; rfl) | (rw [hzB]; done) | (rw [hzB]; rfl)), (by first | omega | rfl | exact hzN.symm | exact hzN | (rw [hzN]; done) | (rw [hzN]; rfl) | (rw [hzB]; done) | (rw [hzB]; rfl)), (by first | omega | rfl | exact hzN.symm | exact hzN | (rw [hzN]; done) | (rw [hzN]; rfl) | (rw [hzB]; done) | (rw [hzB]; rfl))⟩
end Go.Proofs.Ytalbpleglapihaa
