/- Names, descriptors. No statement is proved here. -/
import Derived.Test.YtalbpleglapihaaZD11C
namespace Go.Proofs.Ytalbpleglapihaa
open Go.ChangeShapes Go.WideShapes Go.ChangeAt Go.RowKit
set_option linter.unusedVariables false
set_option linter.unusedSimpArgs false
set_option maxHeartbeats 4000000
set_option maxRecDepth 100000
theorem fV {l : List Int} (h : ∀ j, j < l.length → 0 ≤ List.getD l j 0 ∧ List.getD l j 0 ≤ 255) {k : Nat} (hk : k < l.length) : cH (strOfNums l) (k : Int) = some (List.getD l k 0) := by
  have h9 := h k hk
  unfold cH
  rw [if_pos (by omega), strOfNums_data, Int.toNat_natCast, List.getElem?_map, List.getElem?_eq_getElem hk]
  rw [List.getD_eq_getElem?_getD, List.getElem?_eq_getElem hk, Option.getD_some] at *
  simp only [Option.map_some, UInt8.toNat_ofNat', Option.some.injEq]
  omega
theorem tM {l : List Int} (h : l.length = 0) : (ByteArray.toList (strOfNums l) == ByteArray.toList (ByteArray.mk #[])) = true := by
  have : l = [] := List.length_eq_zero_iff.1 h
  subst this; rw [ByteArray.toList_eq, ByteArray.toList_eq]; rfl
theorem rK {l : List Int} (h : ¬ l.length = 0) : (ByteArray.toList (strOfNums l) == ByteArray.toList (ByteArray.mk #[])) = false := by
  rw [beq_eq_false_iff_ne]
  intro e
  have e2 := congrArg List.length e
  rw [ByteArray.toList_eq, ByteArray.toList_eq, strOfNums_data, List.length_map] at e2
  exact h (by rw [e2]; rfl)
/-! chapter 11: names, descriptors -/
theorem k97 {l : List Int} {p : Int → Bool} (h : ∀ j, j < l.length → p (List.getD l j 0) = true) : l.all p = true := by
  rw [List.all_eq_true]
  intro x hx
  obtain ⟨j, hj, e⟩ := List.mem_iff_getElem.1 hx
  have h1 := h j hj
  rw [List.getD_eq_getElem?_getD, List.getElem?_eq_getElem hj] at h1
  rw [← e]; exact h1
theorem k98 {l : List Int} {p : Int → Bool} (h : l.all p = true) (j : Nat) (hj : j < l.length) : p (List.getD l j 0) = true := by
  rw [List.getD_eq_getElem?_getD, List.getElem?_eq_getElem hj]
  exact List.all_eq_true.1 h _ (List.getElem_mem hj)
def xJ (x : Int) : Bool := decide ((97 ≤ x ∧ x ≤ 122) ∨ (65 ≤ x ∧ x ≤ 90))
def nM (x : Int) : Bool := decide (((97 ≤ x ∧ x ≤ 122) ∨ (65 ≤ x ∧ x ≤ 90)) ∨ (48 ≤ x ∧ x ≤ 57) ∨ x = 45 ∨ x = 46 ∨ x = 95)
theorem k6f {x : Int} (h : xJ x = true) : nM x = true := decide_eq_true (.inl (of_decide_eq_true h))
theorem u1m {x : Int} (h : (48 ≤ x ∧ x ≤ 57) ∨ x = 45 ∨ x = 46 ∨ x = 95) : nM x = true := decide_eq_true (.inr h)
theorem u3v {x : Int} (h : xJ x = false) (h2 : ¬ ((48 ≤ x ∧ x ≤ 57) ∨ x = 45 ∨ x = 46 ∨ x = 95)) : nM x = false := decide_eq_false (fun h9 => h9.elim (of_decide_eq_false h) h2)
theorem k6e : ByteArray.mk #[83, 78, 68, 49] = strOfNums [83, 78, 68, 49] := by first | rfl | kernel_rfl
theorem u1h {a : List Int} (h : a = [83, 78, 68, 49]) : (ByteArray.toList (strOfNums a) == ByteArray.toList (ByteArray.mk #[83, 78, 68, 49])) = true := by rw [k6e]; exact u0a h
theorem u1i {a : List Int} (ha : Byt a) (h : ¬ a = [83, 78, 68, 49]) : (ByteArray.toList (strOfNums a) == ByteArray.toList (ByteArray.mk #[83, 78, 68, 49])) = false := by
  rw [k6e]; exact u0b ha (Byt.cons (by omega) (Byt.cons (by omega) (Byt.cons (by omega) (Byt.cons (by omega) Byt.nil)))) h
def yM (l : List Int) : Bool := decide (1 ≤ l.length ∧ l.length ≤ 64) && xJ (List.getD l 0 0) && l.all nM
theorem gU {l : List Int} (h : 1 ≤ l.length ∧ l.length ≤ 64) (h1 : xJ (List.getD l 0 0) = true) (h2 : ∀ j, j < l.length → nM (List.getD l j 0) = true) : yM l = true := by unfold yM; rw [decide_eq_true h, h1, k97 h2]; rfl
theorem gV {l : List Int} (h : ¬ (1 ≤ l.length ∧ l.length ≤ 64)) : yM l = false := by unfold yM; rw [decide_eq_false h]; rfl
theorem gX {l : List Int} (h : xJ (List.getD l 0 0) = false) : yM l = false := by unfold yM; rw [h, Bool.and_false]; rfl
theorem gW {l : List Int} {k : Nat} (hk : k < l.length) (h : nM (List.getD l k 0) = false) : yM l = false := by
  unfold yM
  rw [Bool.and_eq_false_iff]
  right
  cases e : l.all nM with
  | false => rfl
  | true => have := k98 e k hk; rw [h] at this; cases this
theorem k0p {l : List Int} (h : yM l = true) : 1 ≤ l.length ∧ l.length ≤ 64 := by
  unfold yM at h
  rw [Bool.and_eq_true, Bool.and_eq_true] at h
  exact of_decide_eq_true h.1.1
def cU (nm : List Int) (d1 d2 d3 d4 d5 : Int) (bs : List Bx) : Bool := yM nm && (decide ((d1 = 1 ∨ d1 = 2) ∧ (0 ≤ d2 ∧ d2 ≤ 65535) ∧ (0 ≤ d3 ∧ d3 ≤ 1048576) ∧ (0 ≤ d4 ∧ d4 ≤ 2048) ∧ (0 ≤ d5 ∧ d5 ≤ 4096) ∧ 1 ≤ bs.length ∧ bs.length ≤ 8) && lI bs)
theorem u3c {nm : List Int} {d1 d2 d3 d4 d5 : Int} {bs : List Bx} (h : yM nm = false) : cU nm d1 d2 d3 d4 d5 bs = false := by unfold cU; rw [h]; rfl
theorem u3b {nm : List Int} {d1 d2 d3 d4 d5 : Int} {bs : List Bx} (h : ¬ ((d1 = 1 ∨ d1 = 2) ∧ (0 ≤ d2 ∧ d2 ≤ 65535) ∧ (0 ≤ d3 ∧ d3 ≤ 1048576) ∧ (0 ≤ d4 ∧ d4 ≤ 2048) ∧ (0 ≤ d5 ∧ d5 ≤ 4096) ∧ 1 ≤ bs.length ∧ bs.length ≤ 8)) : cU nm d1 d2 d3 d4 d5 bs = false := by unfold cU; rw [decide_eq_false h, Bool.false_and, Bool.and_false]
theorem u3d {nm : List Int} {d1 d2 d3 d4 d5 : Int} {bs : List Bx} (h : lI bs = false) : cU nm d1 d2 d3 d4 d5 bs = false := by unfold cU; rw [h, Bool.and_false, Bool.and_false]
theorem k9s {nm : List Int} {d1 d2 d3 d4 d5 : Int} {bs : List Bx} (h0 : yM nm = true) (h : (d1 = 1 ∨ d1 = 2) ∧ (0 ≤ d2 ∧ d2 ≤ 65535) ∧ (0 ≤ d3 ∧ d3 ≤ 1048576) ∧ (0 ≤ d4 ∧ d4 ≤ 2048) ∧ (0 ≤ d5 ∧ d5 ≤ 4096) ∧ 1 ≤ bs.length ∧ bs.length ≤ 8) (h2 : lI bs = true) : cU nm d1 d2 d3 d4 d5 bs = true := by unfold cU; rw [h0, decide_eq_true h, h2]; rfl
def dz1 (l : List Int) (u : RS) : RS := kD 8 l u
def iH (l : List Int) (u : RS) : RS := qO l (dz1 l u)
def iG (l : List Int) (u : RS) : RS := kD 2 l (iH l u)
def iF (l : List Int) (u : RS) : RS := kD 2 l (iG l u)
def iB (l : List Int) (u : RS) : RS := kD 4 l (iF l u)
def iA (l : List Int) (u : RS) : RS := kD 2 l (iB l u)
def aK (l : List Int) (u : RS) : RS := kD 2 l (iA l u)
def bI (l : List Int) (u : RS) : RS := jW l (aK l u)
theorem k94 {m : Nat} {l : List Int} {u : RS} (hm : l.length = m) (hu : kL u ≤ m) : kL (bI l u) ≤ m := k32 hm (uW hm (uW hm (uW hm (uW hm (uW hm (k66 hm (uW hm hu)))))))
def deV (l : List Int) : Bool := cU (vY l (dz1 l kY)) ((kV l (iH l kY) : Nat) : Int) ((kV l (iG l kY) : Nat) : Int) (u9 l (iF l kY)) ((kV l (iB l kY) : Nat) : Int) ((kV l (iA l kY) : Nat) : Int) (yV l (aK l kY))
def u4 (l : List Int) : Int :=
  if l.length < 8 then 4
  else if ¬ g32 l (l.length - 4) = qG (List.take (l.length - 4) l) then 6
  else if ¬ List.take 4 l = [83, 78, 68, 49] then 5
  else if ¬ (kT (bI (List.take (l.length - 4) l) kY) = 0 ∧ kL (bI (List.take (l.length - 4) l) kY) = l.length - 4) then 5
  else if deV (List.take (l.length - 4) l) = false then 1 else 0
theorem k5j {l : List Int} {m : Nat} (hm : l.length = m) (h : m < 8) : u4 l = 4 := by subst hm; exact if_pos h
theorem k93 {l : List Int} {m : Nat} (hm : l.length = m) (h : ¬ m < 8) (h1 : ¬ g32 l (m - 4) = qG (List.take (m - 4) l)) : u4 l = 6 := by subst hm; unfold u4; rw [if_neg h, if_pos h1]
theorem u1v {l : List Int} {m : Nat} (hm : l.length = m) (h : ¬ m < 8) (h1 : g32 l (m - 4) = qG (List.take (m - 4) l)) (h2 : ¬ List.take 4 l = [83, 78, 68, 49]) : u4 l = 5 := by subst hm; unfold u4; rw [if_neg h, if_neg (not_not_intro h1), if_pos h2]
theorem k92 {l : List Int} {m : Nat} (hm : l.length = m) (h : ¬ m < 8) (h1 : g32 l (m - 4) = qG (List.take (m - 4) l)) (h2 : List.take 4 l = [83, 78, 68, 49]) (h3 : ¬ (kT (bI (List.take (m - 4) l) kY) = 0 ∧ kL (bI (List.take (m - 4) l) kY) = m - 4)) : u4 l = 5 := by subst hm; unfold u4; rw [if_neg h, if_neg (not_not_intro h1), if_neg (not_not_intro h2), if_pos h3]
theorem u40 {l : List Int} {m : Nat} (hm : l.length = m) (h : ¬ m < 8) (h1 : g32 l (m - 4) = qG (List.take (m - 4) l)) (h2 : List.take 4 l = [83, 78, 68, 49]) (h3 : kT (bI (List.take (m - 4) l) kY) = 0 ∧ kL (bI (List.take (m - 4) l) kY) = m - 4) (h4 : deV (List.take (m - 4) l) = false) : u4 l = 1 := by subst hm; unfold u4; rw [if_neg h, if_neg (not_not_intro h1), if_neg (not_not_intro h2), if_neg (not_not_intro h3), if_pos h4]
theorem u3z {l : List Int} {m : Nat} (hm : l.length = m) (h : ¬ m < 8) (h1 : g32 l (m - 4) = qG (List.take (m - 4) l)) (h2 : List.take 4 l = [83, 78, 68, 49]) (h3 : kT (bI (List.take (m - 4) l) kY) = 0 ∧ kL (bI (List.take (m - 4) l) kY) = m - 4) (h4 : deV (List.take (m - 4) l) = true) : u4 l = 0 := by subst hm; unfold u4; rw [if_neg h, if_neg (not_not_intro h1), if_neg (not_not_intro h2), if_neg (not_not_intro h3), if_neg (by rw [h4]; decide)]
theorem fU (l : List Int) : 0 ≤ u4 l ∧ u4 l ≤ 6 := by unfold u4; repeat' split <;> omega
def rR (l : List Int) : List Int := List.take (l.length - 4) l
def nN (l : List Int) : Int := if u4 l = 0 then vJ (rR l) kY else 0
def cN (l : List Int) : List Int := if u4 l = 0 then vY (rR l) (dz1 (rR l) kY) else []
def nS (l : List Int) : Int := if u4 l = 0 then ((kV (rR l) (iH (rR l) kY) : Nat) : Int) else 0
def nR (l : List Int) : Int := if u4 l = 0 then ((kV (rR l) (iG (rR l) kY) : Nat) : Int) else 0
def nQ (l : List Int) : Int := if u4 l = 0 then u9 (rR l) (iF (rR l) kY) else 0
def nP (l : List Int) : Int := if u4 l = 0 then ((kV (rR l) (iB (rR l) kY) : Nat) : Int) else 0
def nO (l : List Int) : Int := if u4 l = 0 then ((kV (rR l) (iA (rR l) kY) : Nat) : Int) else 0
def vL (l : List Int) : List Bx := if u4 l = 0 then yV (rR l) (aK (rR l) kY) else []
theorem sX {l : List Int} (h : ¬ u4 l = 0) : nN l = 0 ∧ cN l = [] ∧ nS l = 0 ∧ nR l = 0 ∧ nQ l = 0 ∧ nP l = 0 ∧ nO l = 0 ∧ vL l = [] := ⟨if_neg h, if_neg h, if_neg h, if_neg h, if_neg h, if_neg h, if_neg h, if_neg h⟩
theorem u3y {l p : List Int} {m : Nat} (hm : l.length = m) (hp : List.take (m - 4) l = p) (h : u4 l = 0) : nN l = vJ p kY ∧ cN l = vY p (dz1 p kY) ∧ nS l = ((kV p (iH p kY) : Nat) : Int) ∧ nR l = ((kV p (iG p kY) : Nat) : Int) ∧ nQ l = u9 p (iF p kY) ∧ nP l = ((kV p (iB p kY) : Nat) : Int) ∧ nO l = ((kV p (iA p kY) : Nat) : Int) ∧ vL l = yV p (aK p kY) := by
  subst hp; subst hm
  exact ⟨if_pos h, if_pos h, if_pos h, if_pos h, if_pos h, if_pos h, if_pos h, if_pos h⟩
theorem wL {l : List Int} (hy : Byt l) : BsW (vL l) := by
  unfold vL; split
  · exact k31 (hy.take _) _
  · exact BsW.nil
theorem fT {l : List Int} (hy : Byt l) : List.length (vL l) ≤ 65535 := by
  unfold vL; split
  · exact mZ (hy.take _) _
  · exact Nat.zero_le _
theorem fS (l : List Int) : List.length (cN l) ≤ 64 := by
  unfold cN; split
  · exact lK _ _
  · exact Nat.zero_le _
attribute [local irreducible] u4 nN cN nS nR nQ nP nO vL kD qO vY kV u9 vJ uU c8 aC vN bH jW yV qG
theorem bL {p : Prop} (h : p := by first | exact decide_eq_true (by omega) | exact decide_eq_false (by omega)) : p := h
theorem d7 (x : Int) (hx : 0 ≤ x ∧ x ≤ 255) : Fun 47 [.c (.d (D.lit (.int .u8 x)))] (kG []) 0 (kP (D.lit (.bool (xJ x)))) (kG []) 0 := by
  refine Fun.mk (n := 17) Try.func47 rfl rfl (Nat.le_of_ble_eq_true rfl) ?_
  intro cx hcx
  refine kK [.no] True [(0, kP (D.lit (.int .u8 x)))] [] 0 trivial ?_
  by_cases hx1 : ((97 : Int) ≤ x)
  · by_cases hx2 : (x ≤ 122)
    · refine zr [.no, .b true, .no, .no, .b true, .no, .no, .no, .no] [2] [] ((((97 : Int) ≤ x)) ∧ ((x ≤ 122))) [(2, bV true)] [] 0 ⟨zo, zo⟩ ?_
      refine AW.ret ?_
      exact kC (.inr rfl) [] (P := ((xJ x) = true)) zk bL
    · refine zr [.no, .b true, .no, .no, .b false, .no, .no, .no, .b true, .no, .no, .b false, .no, .no, .no] [2] [] ((((97 : Int) ≤ x)) ∧ (¬ (x ≤ 122)) ∧ (((65 : Int) ≤ x)) ∧ (¬ (x ≤ 90))) [(2, bV false)] [] 0 ⟨zo, zo, zo, zo⟩ ?_
      refine AW.ret ?_
      exact kC (.inr rfl) [] (P := ((xJ x) = false)) zk bL
  · by_cases hx3 : ((65 : Int) ≤ x)
    · by_cases hx4 : (x ≤ 90)
      · refine zr (.no :: .b false :: kU 4 [.b true, .no, .no, .b true, .no, .no, .no]) [2] [] ((¬ ((97 : Int) ≤ x)) ∧ (((65 : Int) ≤ x)) ∧ ((x ≤ 90))) [(2, bV true)] [] 0 ⟨zo, zo, zo⟩ ?_
        refine AW.ret ?_
        exact kC (.inr rfl) [] (P := ((xJ x) = true)) zk bL
      · refine zr (.no :: .b false :: kU 4 [.b true, .no, .no, .b false, .no, .no, .no]) [2] [] ((¬ ((97 : Int) ≤ x)) ∧ (((65 : Int) ≤ x)) ∧ (¬ (x ≤ 90))) [(2, bV false)] [] 0 ⟨zo, zo, zo⟩ ?_
        refine AW.ret ?_
        exact kC (.inr rfl) [] (P := ((xJ x) = false)) zk bL
    · refine zr (.no :: .b false :: kU 4 (.b false :: kU 4 [])) [2] [] ((¬ ((97 : Int) ≤ x)) ∧ (¬ ((65 : Int) ≤ x))) [(2, bV false)] [] 0 ⟨zo, zo⟩ ?_
      refine AW.ret ?_
      exact kC (.inr rfl) [] (P := ((xJ x) = false)) zk bL
theorem cT {p : Prop} (h : p := by first | exact k6f (by assumption) | exact u1m (by omega) | exact u3v (by assumption) (by omega)) : p := h
theorem k7c (x : Int) (hx : 0 ≤ x ∧ x ≤ 255) : Fun 48 [.c (.d (D.lit (.int .u8 x)))] (kG []) 0 (kP (D.lit (.bool (nM x)))) (kG []) 0 := by
  refine Fun.mk (n := 25) Try.func48 rfl rfl (Nat.le_of_ble_eq_true rfl) ?_
  intro cx hcx
  refine kK [.no] True [(0, kP (D.lit (.int .u8 x)))] [] 0 trivial ?_
  rcases Bool.eq_false_or_eq_true (xJ x) with hx1 | hx1
  · refine zr (.no :: .call [] (bV true) [] 0 [] none :: kU 9 []) [2] [] (Fun 47 [.c (.d (D.lit (.int .u8 x)))] (kG []) 0 (bV true) (kG []) 0) [(2, bV true)] [] 0 (by have h0 := (d7 x zo); rw [hx1] at h0; exact h0) ?_
    refine AW.ret ?_
    exact kC (.inr rfl) [] (P := ((nM x) = true)) zk cT
  · by_cases hx2 : ((48 : Int) ≤ x)
    · by_cases hx3 : (x ≤ 57)
      · refine zr (.no :: .call [] (bV false) [] 0 [] none :: .no :: .no :: .b true :: .no :: .no :: .b true :: kU 9 []) [2] [] ((Fun 47 [.c (.d (D.lit (.int .u8 x)))] (kG []) 0 (bV false) (kG []) 0) ∧ (((48 : Int) ≤ x)) ∧ ((x ≤ 57))) [(2, bV true)] [] 0 ⟨(by have h0 := (d7 x zo); rw [hx1] at h0; exact h0), zo, zo⟩ ?_
        refine AW.ret ?_
        exact kC (.inr rfl) [] (P := ((nM x) = true)) zk cT
      · by_cases hx4 : (x = 95)
        · refine zr [.no, .call [] (bV false) [] 0 [] none, .no, .no, .b true, .no, .no, .b false, .no, .no, .no, .no, .b false, .no, .no, .no, .b false, .no, .no, .no, .b true, .no, .no] [2] [] ((Fun 47 [.c (.d (D.lit (.int .u8 x)))] (kG []) 0 (bV false) (kG []) 0) ∧ (((48 : Int) ≤ x)) ∧ (¬ (x ≤ 57)) ∧ (¬ (x = 45)) ∧ (¬ (x = 46)) ∧ ((x = 95))) [(2, bV true)] [] 0 ⟨(by have h0 := (d7 x zo); rw [hx1] at h0; exact h0), zo, zo, zo, zo, zo⟩ ?_
          refine AW.ret ?_
          exact kC (.inr rfl) [] (P := ((nM x) = true)) zk cT
        · refine zr [.no, .call [] (bV false) [] 0 [] none, .no, .no, .b true, .no, .no, .b false, .no, .no, .no, .no, .b false, .no, .no, .no, .b false, .no, .no, .no, .b false, .no, .no] [2] [] ((Fun 47 [.c (.d (D.lit (.int .u8 x)))] (kG []) 0 (bV false) (kG []) 0) ∧ (((48 : Int) ≤ x)) ∧ (¬ (x ≤ 57)) ∧ (¬ (x = 45)) ∧ (¬ (x = 46)) ∧ (¬ (x = 95))) [(2, bV false)] [] 0 ⟨(by have h0 := (d7 x zo); rw [hx1] at h0; exact h0), zo, zo, zo, zo, zo⟩ ?_
          refine AW.ret ?_
          exact kC (.inr rfl) [] (P := ((nM x) = false)) zk cT
    · by_cases hx5 : (x = 45)
      · refine zr (.no :: .call [] (bV false) [] 0 [] none :: .no :: .no :: .b false :: kU 5 (.b true :: kU 6 [])) [2] [] ((Fun 47 [.c (.d (D.lit (.int .u8 x)))] (kG []) 0 (bV false) (kG []) 0) ∧ (¬ ((48 : Int) ≤ x)) ∧ ((x = 45))) [(2, bV true)] [] 0 ⟨(by have h0 := (d7 x zo); rw [hx1] at h0; exact h0), zo, zo⟩ ?_
        refine AW.ret ?_
        exact kC (.inr rfl) [] (P := ((nM x) = true)) zk cT
      · by_cases hx6 : (x = 46)
        · refine zr (.no :: .call [] (bV false) [] 0 [] none :: .no :: .no :: .b false :: kU 5 (.b false :: .no :: .no :: .no :: .b true :: kU 4 [])) [2] [] ((Fun 47 [.c (.d (D.lit (.int .u8 x)))] (kG []) 0 (bV false) (kG []) 0) ∧ (¬ ((48 : Int) ≤ x)) ∧ (¬ (x = 45)) ∧ ((x = 46))) [(2, bV true)] [] 0 ⟨(by have h0 := (d7 x zo); rw [hx1] at h0; exact h0), zo, zo, zo⟩ ?_
          refine AW.ret ?_
          exact kC (.inr rfl) [] (P := ((nM x) = true)) zk cT
        · refine zr (.no :: .call [] (bV false) [] 0 [] none :: .no :: .no :: .b false :: kU 5 [.b false, .no, .no, .no, .b false, .no, .no, .no, .b false, .no, .no]) [2] [] ((Fun 47 [.c (.d (D.lit (.int .u8 x)))] (kG []) 0 (bV false) (kG []) 0) ∧ (¬ ((48 : Int) ≤ x)) ∧ (¬ (x = 45)) ∧ (¬ (x = 46)) ∧ (¬ (x = 95))) [(2, bV false)] [] 0 ⟨(by have h0 := (d7 x zo); rw [hx1] at h0; exact h0), zo, zo, zo, zo⟩ ?_
          refine AW.ret ?_
          exact kC (.inr rfl) [] (P := ((nM x) = false)) zk cT
theorem bK {p : Prop} (h : p := by first | omega | (simp only [List.length_drop, List.length_take]; omega)) : p := h
theorem qV {p : Prop} (h : p := by first | omega | with_reducible assumption | (simp only [kR, kQ, pbL_len, List.length_append, List.length_cons, List.length_nil, List.length_take, List.length_drop, List.length_replicate, List.length_set] <;> omega) | rfl | assumption) : p := h
theorem nE (l : List Int) (hy : Byt l) (hb : List.length l ≤ 9223372036854775807) : Fun 28 [.c (.d (D.lit (.string (strOfNums l))))] (kG []) 0 (kP (D.lit (.bool (yM l)))) (kG []) 0 := by
  refine Fun.mk (n := 28) Try.func28 rfl rfl (Nat.le_of_ble_eq_true rfl) ?_
  intro cx hcx
  refine kK [.no] True [(0, kP (D.lit (.string (strOfNums l))))] [] 0 trivial ?_
  refine AW.seq ?_
  by_cases hx1 : ((List.length l) = 0)
  · refine zr (.no :: .b true :: kU 4 []) [0, 16] [] ((ByteArray.toList (strOfNums l) == ByteArray.toList (ByteArray.mk #[])) = true) [(0, kP (D.lit (.string (strOfNums l)))), (16, bV true)] [] 0 (tM zo) ?_
    refine zt ?_
    refine kK [.no] True [(2, bV false)] [] 0 trivial ?_
    refine AW.ret ?_
    exact kC (.inr rfl) [] (P := ((yM l) = false)) zk (by first | exact gV zo | exact gX (by assumption) | exact gW (k := k) zo (by assumption) | exact gU zo (by assumption) (fun j hj => ha j zo))
  · by_cases hx2 : ((64 : Int) < (((List.length l) : Nat) : Int))
    · refine zr [.no, .b false, .no, .no, .i (List.length l : Int), .b true, .no, .no, .no] [0, 16] [] (((ByteArray.toList (strOfNums l) == ByteArray.toList (ByteArray.mk #[])) = false) ∧ ((ByteArray.size (strOfNums l) : Int) = ((List.length l : Int) : Int)) ∧ (((64 : Int) < (List.length l : Int)))) [(0, kP (D.lit (.string (strOfNums l)))), (16, bV true)] [] 0 ⟨(rK zo), (by rw [strOfNums_size]), zo⟩ ?_
      refine zt ?_
      refine kK [.no] True [(2, bV false)] [] 0 trivial ?_
      refine AW.ret ?_
      exact kC (.inr rfl) [] (P := ((yM l) = false)) zk (by first | exact gV zo | exact gX (by assumption) | exact gW (k := k) zo (by assumption) | exact gU zo (by assumption) (fun j hj => ha j zo))
    · rcases Bool.eq_false_or_eq_true (xJ (List.getD l 0 0)) with hx4 | hx4
      · have hx5 : 0 ≤ (List.getD l 0 0) ∧ (List.getD l 0 0) ≤ 255 := Byt.at (kS : Byt l) _ bK
        refine kK [.no, .b false, .no, .no, .i (List.length l : Int), .b false, .no, .no, .no, .i (List.getD l 0 0), .call [] (bV true) [] 0 [] none, .no, .no] (((ByteArray.toList (strOfNums l) == ByteArray.toList (ByteArray.mk #[])) = false) ∧ ((ByteArray.size (strOfNums l) : Int) = ((List.length l : Int) : Int)) ∧ (¬ ((64 : Int) < (List.length l : Int))) ∧ (cH (strOfNums l) (0 : Int) = some ((List.getD l 0 0) : Int)) ∧ (Fun 47 [.c (.d (D.lit (.int .u8 (List.getD l 0 0))))] (kG []) 0 (bV true) (kG []) 0)) [(0, kP (D.lit (.string (strOfNums l)))), (16, bV false)] [] 0 ⟨(rK zo), (by rw [strOfNums_size]), zo, (by have h9 := fV (l := l) (Byt.at (kS : Byt l)) (k := 0) bK; exact h9), (by have h0 := (d7 (List.getD l 0 0) qV); rw [hx4] at h0; exact h0)⟩ ?_
        refine yW ?_
        refine AW.seq ?_
        refine kX [.no, .i (List.length l : Int), .no] ((ByteArray.size (strOfNums l) : Int) = ((List.length l : Int) : Int)) [(0, kP (D.lit (.string (strOfNums l)))), (18, uV (List.length l)), (19, iV 0)] (by rw [strOfNums_size]) ?_
        refine AW.block ?_
        refine kW 0 hcx (fun (x : {x : Nat // match x with | k => (k ≤ List.length l) ∧ (∀ j, j < k → nM (List.getD l j 0) = true)}) => match x with | ⟨k, _⟩ => (⟨[(0, kP (D.lit (.string (strOfNums l)))), (18, uV (List.length l)), (19, uV k)], [], 0⟩ : ES)) (fun x => match x with | ⟨k, _⟩ => List.length l - k) ⟨(0 : Nat), ⟨(by first | omega | assumption | simp), (fun j hj => absurd hj (Nat.not_lt_zero j))⟩⟩ [] (P := ((.string (strOfNums l) : Value) = .string (strOfNums l)) ∧ (kN (List.length l : Int)) ∧ (kN 0)) zk ⟨rfl, rfl, rfl⟩ ?_
        rintro ⟨k, hinv0⟩
        obtain ⟨hk, ha⟩ : (k ≤ List.length l) ∧ (∀ j, j < k → nM (List.getD l j 0) = true) := hinv0
        refine uI (l := [(0, kP (D.lit (.string (strOfNums l)))), (18, uV (List.length l)), (19, uV k)]) (g := []) (nx := 0) rfl rfl rfl ?_
        by_cases hx6 : (((k : Nat) : Int) < (((List.length l) : Nat) : Int))
        · refine zr [.b true] [0, 18, 19, 20] [] (((k : Int) < (List.length l : Int))) [(0, kP (D.lit (.string (strOfNums l)))), (18, uV (List.length l)), (19, uV k), (20, bV true)] [] 0 zo ?_
          refine AW.seq ?_
          refine vC ?_
          refine AW.seq ?_
          refine AW.block ?_
          refine kK [.no, .no] True [(0, kP (D.lit (.string (strOfNums l)))), (3, uV k), (18, uV (List.length l)), (19, uV k)] [] 0 trivial ?_
          rcases Bool.eq_false_or_eq_true (nM (List.getD l k 0)) with hx8 | hx8
          · have hx9 : 0 ≤ (List.getD l k 0) ∧ (List.getD l k 0) ≤ 255 := Byt.at (kS : Byt l) _ bK
            refine kK [.no, .no, .i (List.getD l k 0), .call [] (bV true) [] 0 [] none, .no] ((cH (strOfNums l) ((k : Int) : Int) = some ((List.getD l k 0) : Int)) ∧ (Fun 48 [.c (.d (D.lit (.int .u8 (List.getD l k 0))))] (kG []) 0 (bV true) (kG []) 0)) [(0, kP (D.lit (.string (strOfNums l)))), (18, uV (List.length l)), (19, uV k), (26, bV false)] [] 0 ⟨(by have h9 := fV (l := l) (Byt.at (kS : Byt l)) (k := k) bK; exact h9), (by have h0 := (k7c (List.getD l k 0) qV); rw [hx8] at h0; exact h0)⟩ ?_
            refine yW ?_
            refine yG [.w, .no] (qM ((k : Int) + 1)) [(0, kP (D.lit (.string (strOfNums l)))), (18, uV (List.length l)), (19, iV (↑k + 1))] ⟨by omega, by omega⟩ ?_
            exact qR ⟨((k + 1) : Nat), ⟨(by first | omega | assumption | simp), (fun j hj => (Nat.lt_succ_iff_lt_or_eq.1 hj).elim (ha j) (fun e9 => by subst e9; first | assumption | exact k6f (by assumption) | exact u1m zo))⟩⟩ [] (P := ((.string (strOfNums l) : Value) = .string (strOfNums l)) ∧ (kN (List.length l : Int)) ∧ (q1S k)) zk ⟨rfl, rfl, (by first | rfl | omega | assumption | (simp; done) | (simp; omega))⟩ (show List.length l - (k + 1) < List.length l - k from (by first | omega | (show _ < _; simp; omega)))
          · have hx10 : 0 ≤ (List.getD l k 0) ∧ (List.getD l k 0) ≤ 255 := Byt.at (kS : Byt l) _ bK
            refine kK [.no, .no, .i (List.getD l k 0), .call [] (bV false) [] 0 [] none, .no] ((cH (strOfNums l) ((k : Int) : Int) = some ((List.getD l k 0) : Int)) ∧ (Fun 48 [.c (.d (D.lit (.int .u8 (List.getD l k 0))))] (kG []) 0 (bV false) (kG []) 0)) [(0, kP (D.lit (.string (strOfNums l)))), (18, uV (List.length l)), (19, uV k), (26, bV true)] [] 0 ⟨(by have h9 := fV (l := l) (Byt.at (kS : Byt l)) (k := k) bK; exact h9), (by have h0 := (k7c (List.getD l k 0) qV); rw [hx8] at h0; exact h0)⟩ ?_
            refine zt ?_
            refine kX [.no] True [(2, bV false)] trivial ?_
            refine AW.ret ?_
            exact kC (.inr rfl) [] (P := ((yM l) = false)) zk (by first | exact gV zo | exact gX (by assumption) | exact gW (k := k) zo (by assumption) | exact gU zo (by assumption) (fun j hj => ha j zo))
        · refine zr [.b false] [0, 18, 19, 20] [] (¬ ((k : Int) < (List.length l : Int))) [(0, kP (D.lit (.string (strOfNums l)))), (18, uV (List.length l)), (19, uV k), (20, bV false)] [] 0 zo ?_
          refine AW.seq ?_
          refine zf ?_
          refine AW.exit ?_
          refine kK [.no] True [(2, bV true)] [] 0 trivial ?_
          refine AW.ret ?_
          exact kC (.inr rfl) [] (P := ((yM l) = true)) zk (by first | exact gV zo | exact gX (by assumption) | exact gW (k := k) zo (by assumption) | exact gU zo (by assumption) (fun j hj => ha j zo))
      · have hx11 : 0 ≤ (List.getD l 0 0) ∧ (List.getD l 0 0) ≤ 255 := Byt.at (kS : Byt l) _ bK
        refine kK [.no, .b false, .no, .no, .i (List.length l : Int), .b false, .no, .no, .no, .i (List.getD l 0 0), .call [] (bV false) [] 0 [] none, .no, .no] (((ByteArray.toList (strOfNums l) == ByteArray.toList (ByteArray.mk #[])) = false) ∧ ((ByteArray.size (strOfNums l) : Int) = ((List.length l : Int) : Int)) ∧ (¬ ((64 : Int) < (List.length l : Int))) ∧ (cH (strOfNums l) (0 : Int) = some ((List.getD l 0 0) : Int)) ∧ (Fun 47 [.c (.d (D.lit (.int .u8 (List.getD l 0 0))))] (kG []) 0 (bV false) (kG []) 0)) [(0, kP (D.lit (.string (strOfNums l)))), (16, bV true)] [] 0 ⟨(rK zo), (by rw [strOfNums_size]), zo, (by have h9 := fV (l := l) (Byt.at (kS : Byt l)) (k := 0) bK; exact h9), (by have h0 := (d7 (List.getD l 0 0) qV); rw [hx4] at h0; exact h0)⟩ ?_
        refine zt ?_
        refine kX [.no] True [(2, bV false)] trivial ?_
        refine AW.ret ?_
        exact kC (.inr rfl) [] (P := ((yM l) = false)) zk (by first | exact gV zo | exact gX (by assumption) | exact gW (k := k) zo (by assumption) | exact gU zo (by assumption) (fun j hj => ha j zo))
theorem qC (x y : Int)  : Fun 29 [iE x, iE y] (kG []) 0 (kP (D.lit (.bool (decide (0 ≤ x ∧ x ≤ y))))) (kG []) 0 := by
  refine Fun.mk (n := 12) Try.func29 rfl rfl (Nat.le_of_ble_eq_true rfl) ?_
  intro cx hcx
  refine kK [.no] True [(0, iV x), (1, iV y)] [] 0 trivial ?_
  by_cases hx1 : ((0 : Int) ≤ x)
  · by_cases hx2 : (x ≤ y)
    · refine zr [.no, .b true, .no, .no, .no, .b true, .no, .no] [4] [] ((((0 : Int) ≤ x)) ∧ ((x ≤ y))) [(4, bV true)] [] 0 ⟨zo, zo⟩ ?_
      refine AW.ret ?_
      exact kC (.inr rfl) [] (P := ((decide (0 ≤ x ∧ x ≤ y)) = true)) zk bL
    · refine zr [.no, .b true, .no, .no, .no, .b false, .no, .no] [4] [] ((((0 : Int) ≤ x)) ∧ (¬ (x ≤ y))) [(4, bV false)] [] 0 ⟨zo, zo⟩ ?_
      refine AW.ret ?_
      exact kC (.inr rfl) [] (P := ((decide (0 ≤ x ∧ x ≤ y)) = false)) zk bL
  · refine zr [.no, .b false, .no, .no, .no] [4] [] (¬ ((0 : Int) ≤ x)) [(4, bV false)] [] 0 zo ?_
    refine AW.ret ?_
    exact kC (.inr rfl) [] (P := ((decide (0 ≤ x ∧ x ≤ y)) = false)) zk bL
theorem yA {p : Prop} (h : p := by first | exact u3c (by assumption) | exact k9s (by assumption) (by omega) (by assumption) | exact u3d (by assumption) | exact u3b (by omega)) : p := h
theorem fZ (id : Int) (nm : List Int) (d1 d2 d3 d4 d5 : Int) (bs : List Bx) (n : Nat) (hy : Byt nm) (hl : List.length nm ≤ 1000000) (hn : List.length bs = n) (h1 : n ≤ 1000000) (hW : BsW bs) : Fun 14 [.agg [.d (D.lit (.int .u64 id)), .d (D.lit (.string (strOfNums nm))), iC d1, iC d2, iC d3, iC d4, iC d5, .d (D.sl (qH bs) n)]] (kG []) 0 (kP (D.lit (.bool (cU nm d1 d2 d3 d4 d5 bs)))) (kG []) 0 := by
  refine Fun.mk (n := 54) Try.func14 rfl rfl (Nat.le_of_ble_eq_true rfl) ?_
  intro cx hcx
  refine kK [.no, .no] True [(1, rV 0 0)] [(0, some (31, .ds [D.lit (.int .u64 id), D.lit (.string (strOfNums nm)), iD d1, iD d2, iD d3, iD d4, iD d5, D.sl (qH bs) n]))] 1 trivial ?_
  refine AW.seq ?_
  rcases Bool.eq_false_or_eq_true (yM nm) with hx1 | hx1
  · by_cases hx2 : (d1 ≠ 1)
    · by_cases hx3 : (d1 ≠ 2)
      · refine zr (.no :: .no :: .call [] (bV true) [] 0 [] none :: kU 4 [.b true, .no, .no, .no, .b true, .no, .no]) [1, 16] [0] ((Fun 28 [.c (.d (D.lit (.string (strOfNums nm))))] (kG []) 0 (bV true) (kG []) 0) ∧ ((d1 ≠ 1)) ∧ ((d1 ≠ 2))) [(1, rV 0 0), (16, bV true)] [(0, some (31, .ds [D.lit (.int .u64 id), D.lit (.string (strOfNums nm)), iD d1, iD d2, iD d3, iD d4, iD d5, D.sl (qH bs) n]))] 1 ⟨(by have h0 := (nE nm (kS : Byt nm) zo); rw [hx1] at h0; exact h0), zo, zo⟩ ?_
        refine zt ?_
        refine kK [.no] True [(2, bV false)] [] 1 trivial ?_
        refine AW.ret ?_
        exact kC (.inr rfl) [] (P := ((cU nm d1 d2 d3 d4 d5 bs) = false)) zk yA
      · refine zr (.no :: .no :: .call [] (bV true) [] 0 [] none :: kU 4 [.b true, .no, .no, .no, .b false, .no, .no]) [1, 16] [0] ((Fun 28 [.c (.d (D.lit (.string (strOfNums nm))))] (kG []) 0 (bV true) (kG []) 0) ∧ ((d1 ≠ 1)) ∧ (¬ (d1 ≠ 2))) [(1, rV 0 0), (16, bV false)] [(0, some (31, .ds [D.lit (.int .u64 id), D.lit (.string (strOfNums nm)), iD d1, iD d2, iD d3, iD d4, iD d5, D.sl (qH bs) n]))] 1 ⟨(by have h0 := (nE nm (kS : Byt nm) zo); rw [hx1] at h0; exact h0), zo, zo⟩ ?_
        refine yW ?_
        refine AW.seq ?_
        rcases Bool.eq_false_or_eq_true (decide (0 ≤ d2 ∧ d2 ≤ 65535)) with hx4 | hx4
        · have hx5 : (((0 : Int) ≤ d2) ∧ (d2 ≤ 65535)) := of_decide_eq_true hx4
          rcases Bool.eq_false_or_eq_true (decide (0 ≤ d3 ∧ d3 ≤ 1048576)) with hx6 | hx6
          · have hx7 : (((0 : Int) ≤ d3) ∧ (d3 ≤ 1048576)) := of_decide_eq_true hx6
            rcases Bool.eq_false_or_eq_true (decide (0 ≤ d4 ∧ d4 ≤ 2048)) with hx8 | hx8
            · have hx9 : (((0 : Int) ≤ d4) ∧ (d4 ≤ 2048)) := of_decide_eq_true hx8
              rcases Bool.eq_false_or_eq_true (decide (0 ≤ d5 ∧ d5 ≤ 4096)) with hx10 | hx10
              · have hx11 : (((0 : Int) ≤ d5) ∧ (d5 ≤ 4096)) := of_decide_eq_true hx10
                refine kK (.no :: .no :: .call [] (bV true) [] 0 [] none :: kU 4 (.call [] (bV true) [] 0 [] none :: kU 5 (.call [] (bV true) [] 0 [] none :: kU 5 [.call [] (bV true) [] 0 [] none, .no, .no]))) ((Fun 29 [iE d2, iE 65535] (kG []) 0 (bV true) (kG []) 0) ∧ (Fun 29 [iE d3, iE 1048576] (kG []) 0 (bV true) (kG []) 0) ∧ (Fun 29 [iE d4, iE 2048] (kG []) 0 (bV true) (kG []) 0) ∧ (Fun 29 [iE d5, iE 4096] (kG []) 0 (bV true) (kG []) 0)) [(1, rV 0 0), (38, bV false)] [(0, some (31, .ds [D.lit (.int .u64 id), D.lit (.string (strOfNums nm)), iD d1, iD d2, iD d3, iD d4, iD d5, D.sl (qH bs) n]))] 1 ⟨(by have h0 := (qC d2 65535); rw [hx4] at h0; exact h0), (by have h0 := (qC d3 1048576); rw [hx6] at h0; exact h0), (by have h0 := (qC d4 2048); rw [hx8] at h0; exact h0), (by have h0 := (qC d5 4096); rw [hx10] at h0; exact h0)⟩ ?_
                refine yW ?_
                by_cases hx12 : ((1 : Int) ≤ ((n : Nat) : Int))
                · by_cases hx13 : (((n : Nat) : Int) ≤ 8)
                  · rcases Bool.eq_false_or_eq_true (lI bs) with hx14 | hx14
                    · refine zr (.no :: .no :: .no :: .b true :: kU 4 (.b true :: kU 4 [.call [] (bV true) [] 0 [] none, .no, .no])) [2] [] ((((1 : Int) ≤ (n : Int))) ∧ (((n : Int) ≤ 8)) ∧ (Fun 30 [.c (.d (D.sl (qH bs) n))] (kG []) 0 (bV true) (kG []) 0)) [(2, bV true)] [] 1 ⟨zo, zo, (by have h0 := (fY bs n zo zo (kS : BsW bs)); rw [hx14] at h0; exact h0)⟩ ?_
                      refine AW.ret ?_
                      exact kC (.inr rfl) [] (P := ((cU nm d1 d2 d3 d4 d5 bs) = true)) zk yA
                    · refine zr (.no :: .no :: .no :: .b true :: kU 4 (.b true :: kU 4 [.call [] (bV false) [] 0 [] none, .no, .no])) [2] [] ((((1 : Int) ≤ (n : Int))) ∧ (((n : Int) ≤ 8)) ∧ (Fun 30 [.c (.d (D.sl (qH bs) n))] (kG []) 0 (bV false) (kG []) 0)) [(2, bV false)] [] 1 ⟨zo, zo, (by have h0 := (fY bs n zo zo (kS : BsW bs)); rw [hx14] at h0; exact h0)⟩ ?_
                      refine AW.ret ?_
                      exact kC (.inr rfl) [] (P := ((cU nm d1 d2 d3 d4 d5 bs) = false)) zk yA
                  · refine zr (.no :: .no :: .no :: .b true :: kU 4 (.b false :: kU 4 [])) [2] [] ((((1 : Int) ≤ (n : Int))) ∧ (¬ ((n : Int) ≤ 8))) [(2, bV false)] [] 1 ⟨zo, zo⟩ ?_
                    refine AW.ret ?_
                    exact kC (.inr rfl) [] (P := ((cU nm d1 d2 d3 d4 d5 bs) = false)) zk yA
                · refine zr (.no :: .no :: .no :: .b false :: kU 5 []) [2] [] (¬ ((1 : Int) ≤ (n : Int))) [(2, bV false)] [] 1 zo ?_
                  refine AW.ret ?_
                  exact kC (.inr rfl) [] (P := ((cU nm d1 d2 d3 d4 d5 bs) = false)) zk yA
              · have hx15 : ¬ (((0 : Int) ≤ d5) ∧ (d5 ≤ 4096)) := of_decide_eq_false hx10
                refine kK (.no :: .no :: .call [] (bV true) [] 0 [] none :: kU 4 (.call [] (bV true) [] 0 [] none :: kU 5 (.call [] (bV true) [] 0 [] none :: kU 5 [.call [] (bV false) [] 0 [] none, .no, .no]))) ((Fun 29 [iE d2, iE 65535] (kG []) 0 (bV true) (kG []) 0) ∧ (Fun 29 [iE d3, iE 1048576] (kG []) 0 (bV true) (kG []) 0) ∧ (Fun 29 [iE d4, iE 2048] (kG []) 0 (bV true) (kG []) 0) ∧ (Fun 29 [iE d5, iE 4096] (kG []) 0 (bV false) (kG []) 0)) [(1, rV 0 0), (38, bV true)] [(0, some (31, .ds [D.lit (.int .u64 id), D.lit (.string (strOfNums nm)), iD d1, iD d2, iD d3, iD d4, iD d5, D.sl (qH bs) n]))] 1 ⟨(by have h0 := (qC d2 65535); rw [hx4] at h0; exact h0), (by have h0 := (qC d3 1048576); rw [hx6] at h0; exact h0), (by have h0 := (qC d4 2048); rw [hx8] at h0; exact h0), (by have h0 := (qC d5 4096); rw [hx10] at h0; exact h0)⟩ ?_
                refine zt ?_
                refine kK [.no] True [(2, bV false)] [] 1 trivial ?_
                refine AW.ret ?_
                exact kC (.inr rfl) [] (P := ((cU nm d1 d2 d3 d4 d5 bs) = false)) zk yA
            · have hx16 : ¬ (((0 : Int) ≤ d4) ∧ (d4 ≤ 2048)) := of_decide_eq_false hx8
              refine kK (.no :: .no :: .call [] (bV true) [] 0 [] none :: kU 4 (.call [] (bV true) [] 0 [] none :: kU 5 (.call [] (bV false) [] 0 [] none :: kU 4 []))) ((Fun 29 [iE d2, iE 65535] (kG []) 0 (bV true) (kG []) 0) ∧ (Fun 29 [iE d3, iE 1048576] (kG []) 0 (bV true) (kG []) 0) ∧ (Fun 29 [iE d4, iE 2048] (kG []) 0 (bV false) (kG []) 0)) [(1, rV 0 0), (38, bV true)] [(0, some (31, .ds [D.lit (.int .u64 id), D.lit (.string (strOfNums nm)), iD d1, iD d2, iD d3, iD d4, iD d5, D.sl (qH bs) n]))] 1 ⟨(by have h0 := (qC d2 65535); rw [hx4] at h0; exact h0), (by have h0 := (qC d3 1048576); rw [hx6] at h0; exact h0), (by have h0 := (qC d4 2048); rw [hx8] at h0; exact h0)⟩ ?_
              refine zt ?_
              refine kK [.no] True [(2, bV false)] [] 1 trivial ?_
              refine AW.ret ?_
              exact kC (.inr rfl) [] (P := ((cU nm d1 d2 d3 d4 d5 bs) = false)) zk yA
          · have hx17 : ¬ (((0 : Int) ≤ d3) ∧ (d3 ≤ 1048576)) := of_decide_eq_false hx6
            refine kK (.no :: .no :: .call [] (bV true) [] 0 [] none :: kU 4 (.call [] (bV false) [] 0 [] none :: kU 6 [])) ((Fun 29 [iE d2, iE 65535] (kG []) 0 (bV true) (kG []) 0) ∧ (Fun 29 [iE d3, iE 1048576] (kG []) 0 (bV false) (kG []) 0)) [(1, rV 0 0), (38, bV true)] [(0, some (31, .ds [D.lit (.int .u64 id), D.lit (.string (strOfNums nm)), iD d1, iD d2, iD d3, iD d4, iD d5, D.sl (qH bs) n]))] 1 ⟨(by have h0 := (qC d2 65535); rw [hx4] at h0; exact h0), (by have h0 := (qC d3 1048576); rw [hx6] at h0; exact h0)⟩ ?_
            refine zt ?_
            refine kK [.no] True [(2, bV false)] [] 1 trivial ?_
            refine AW.ret ?_
            exact kC (.inr rfl) [] (P := ((cU nm d1 d2 d3 d4 d5 bs) = false)) zk yA
        · have hx18 : ¬ (((0 : Int) ≤ d2) ∧ (d2 ≤ 65535)) := of_decide_eq_false hx4
          refine kK (.no :: .no :: .call [] (bV false) [] 0 [] none :: kU 7 []) (Fun 29 [iE d2, iE 65535] (kG []) 0 (bV false) (kG []) 0) [(1, rV 0 0), (38, bV true)] [(0, some (31, .ds [D.lit (.int .u64 id), D.lit (.string (strOfNums nm)), iD d1, iD d2, iD d3, iD d4, iD d5, D.sl (qH bs) n]))] 1 (by have h0 := (qC d2 65535); rw [hx4] at h0; exact h0) ?_
          refine zt ?_
          refine kK [.no] True [(2, bV false)] [] 1 trivial ?_
          refine AW.ret ?_
          exact kC (.inr rfl) [] (P := ((cU nm d1 d2 d3 d4 d5 bs) = false)) zk yA
    · refine zr (.no :: .no :: .call [] (bV true) [] 0 [] none :: kU 4 [.b false, .no, .no, .no]) [1, 16] [0] ((Fun 28 [.c (.d (D.lit (.string (strOfNums nm))))] (kG []) 0 (bV true) (kG []) 0) ∧ (¬ (d1 ≠ 1))) [(1, rV 0 0), (16, bV false)] [(0, some (31, .ds [D.lit (.int .u64 id), D.lit (.string (strOfNums nm)), iD d1, iD d2, iD d3, iD d4, iD d5, D.sl (qH bs) n]))] 1 ⟨(by have h0 := (nE nm (kS : Byt nm) zo); rw [hx1] at h0; exact h0), zo⟩ ?_
      refine yW ?_
      refine AW.seq ?_
      rcases Bool.eq_false_or_eq_true (decide (0 ≤ d2 ∧ d2 ≤ 65535)) with hx19 | hx19
      · have hx20 : (((0 : Int) ≤ d2) ∧ (d2 ≤ 65535)) := of_decide_eq_true hx19
        rcases Bool.eq_false_or_eq_true (decide (0 ≤ d3 ∧ d3 ≤ 1048576)) with hx21 | hx21
        · have hx22 : (((0 : Int) ≤ d3) ∧ (d3 ≤ 1048576)) := of_decide_eq_true hx21
          rcases Bool.eq_false_or_eq_true (decide (0 ≤ d4 ∧ d4 ≤ 2048)) with hx23 | hx23
          · have hx24 : (((0 : Int) ≤ d4) ∧ (d4 ≤ 2048)) := of_decide_eq_true hx23
            rcases Bool.eq_false_or_eq_true (decide (0 ≤ d5 ∧ d5 ≤ 4096)) with hx25 | hx25
            · have hx26 : (((0 : Int) ≤ d5) ∧ (d5 ≤ 4096)) := of_decide_eq_true hx25
              refine kK (.no :: .no :: .call [] (bV true) [] 0 [] none :: kU 4 (.call [] (bV true) [] 0 [] none :: kU 5 (.call [] (bV true) [] 0 [] none :: kU 5 [.call [] (bV true) [] 0 [] none, .no, .no]))) ((Fun 29 [iE d2, iE 65535] (kG []) 0 (bV true) (kG []) 0) ∧ (Fun 29 [iE d3, iE 1048576] (kG []) 0 (bV true) (kG []) 0) ∧ (Fun 29 [iE d4, iE 2048] (kG []) 0 (bV true) (kG []) 0) ∧ (Fun 29 [iE d5, iE 4096] (kG []) 0 (bV true) (kG []) 0)) [(1, rV 0 0), (38, bV false)] [(0, some (31, .ds [D.lit (.int .u64 id), D.lit (.string (strOfNums nm)), iD d1, iD d2, iD d3, iD d4, iD d5, D.sl (qH bs) n]))] 1 ⟨(by have h0 := (qC d2 65535); rw [hx19] at h0; exact h0), (by have h0 := (qC d3 1048576); rw [hx21] at h0; exact h0), (by have h0 := (qC d4 2048); rw [hx23] at h0; exact h0), (by have h0 := (qC d5 4096); rw [hx25] at h0; exact h0)⟩ ?_
              refine yW ?_
              by_cases hx27 : ((1 : Int) ≤ ((n : Nat) : Int))
              · by_cases hx28 : (((n : Nat) : Int) ≤ 8)
                · rcases Bool.eq_false_or_eq_true (lI bs) with hx29 | hx29
                  · refine zr (.no :: .no :: .no :: .b true :: kU 4 (.b true :: kU 4 [.call [] (bV true) [] 0 [] none, .no, .no])) [2] [] ((((1 : Int) ≤ (n : Int))) ∧ (((n : Int) ≤ 8)) ∧ (Fun 30 [.c (.d (D.sl (qH bs) n))] (kG []) 0 (bV true) (kG []) 0)) [(2, bV true)] [] 1 ⟨zo, zo, (by have h0 := (fY bs n zo zo (kS : BsW bs)); rw [hx29] at h0; exact h0)⟩ ?_
                    refine AW.ret ?_
                    exact kC (.inr rfl) [] (P := ((cU nm d1 d2 d3 d4 d5 bs) = true)) zk yA
                  · refine zr (.no :: .no :: .no :: .b true :: kU 4 (.b true :: kU 4 [.call [] (bV false) [] 0 [] none, .no, .no])) [2] [] ((((1 : Int) ≤ (n : Int))) ∧ (((n : Int) ≤ 8)) ∧ (Fun 30 [.c (.d (D.sl (qH bs) n))] (kG []) 0 (bV false) (kG []) 0)) [(2, bV false)] [] 1 ⟨zo, zo, (by have h0 := (fY bs n zo zo (kS : BsW bs)); rw [hx29] at h0; exact h0)⟩ ?_
                    refine AW.ret ?_
                    exact kC (.inr rfl) [] (P := ((cU nm d1 d2 d3 d4 d5 bs) = false)) zk yA
                · refine zr (.no :: .no :: .no :: .b true :: kU 4 (.b false :: kU 4 [])) [2] [] ((((1 : Int) ≤ (n : Int))) ∧ (¬ ((n : Int) ≤ 8))) [(2, bV false)] [] 1 ⟨zo, zo⟩ ?_
                  refine AW.ret ?_
                  exact kC (.inr rfl) [] (P := ((cU nm d1 d2 d3 d4 d5 bs) = false)) zk yA
              · refine zr (.no :: .no :: .no :: .b false :: kU 5 []) [2] [] (¬ ((1 : Int) ≤ (n : Int))) [(2, bV false)] [] 1 zo ?_
                refine AW.ret ?_
                exact kC (.inr rfl) [] (P := ((cU nm d1 d2 d3 d4 d5 bs) = false)) zk yA
            · have hx30 : ¬ (((0 : Int) ≤ d5) ∧ (d5 ≤ 4096)) := of_decide_eq_false hx25
              refine kK (.no :: .no :: .call [] (bV true) [] 0 [] none :: kU 4 (.call [] (bV true) [] 0 [] none :: kU 5 (.call [] (bV true) [] 0 [] none :: kU 5 [.call [] (bV false) [] 0 [] none, .no, .no]))) ((Fun 29 [iE d2, iE 65535] (kG []) 0 (bV true) (kG []) 0) ∧ (Fun 29 [iE d3, iE 1048576] (kG []) 0 (bV true) (kG []) 0) ∧ (Fun 29 [iE d4, iE 2048] (kG []) 0 (bV true) (kG []) 0) ∧ (Fun 29 [iE d5, iE 4096] (kG []) 0 (bV false) (kG []) 0)) [(1, rV 0 0), (38, bV true)] [(0, some (31, .ds [D.lit (.int .u64 id), D.lit (.string (strOfNums nm)), iD d1, iD d2, iD d3, iD d4, iD d5, D.sl (qH bs) n]))] 1 ⟨(by have h0 := (qC d2 65535); rw [hx19] at h0; exact h0), (by have h0 := (qC d3 1048576); rw [hx21] at h0; exact h0), (by have h0 := (qC d4 2048); rw [hx23] at h0; exact h0), (by have h0 := (qC d5 4096); rw [hx25] at h0; exact h0)⟩ ?_
              refine zt ?_
              refine kK [.no] True [(2, bV false)] [] 1 trivial ?_
              refine AW.ret ?_
              exact kC (.inr rfl) [] (P := ((cU nm d1 d2 d3 d4 d5 bs) = false)) zk yA
          · have hx31 : ¬ (((0 : Int) ≤ d4) ∧ (d4 ≤ 2048)) := of_decide_eq_false hx23
            refine kK (.no :: .no :: .call [] (bV true) [] 0 [] none :: kU 4 (.call [] (bV true) [] 0 [] none :: kU 5 (.call [] (bV false) [] 0 [] none :: kU 4 []))) ((Fun 29 [iE d2, iE 65535] (kG []) 0 (bV true) (kG []) 0) ∧ (Fun 29 [iE d3, iE 1048576] (kG []) 0 (bV true) (kG []) 0) ∧ (Fun 29 [iE d4, iE 2048] (kG []) 0 (bV false) (kG []) 0)) [(1, rV 0 0), (38, bV true)] [(0, some (31, .ds [D.lit (.int .u64 id), D.lit (.string (strOfNums nm)), iD d1, iD d2, iD d3, iD d4, iD d5, D.sl (qH bs) n]))] 1 ⟨(by have h0 := (qC d2 65535); rw [hx19] at h0; exact h0), (by have h0 := (qC d3 1048576); rw [hx21] at h0; exact h0), (by have h0 := (qC d4 2048); rw [hx23] at h0; exact h0)⟩ ?_
            refine zt ?_
            refine kK [.no] True [(2, bV false)] [] 1 trivial ?_
            refine AW.ret ?_
            exact kC (.inr rfl) [] (P := ((cU nm d1 d2 d3 d4 d5 bs) = false)) zk yA
        · have hx32 : ¬ (((0 : Int) ≤ d3) ∧ (d3 ≤ 1048576)) := of_decide_eq_false hx21
          refine kK (.no :: .no :: .call [] (bV true) [] 0 [] none :: kU 4 (.call [] (bV false) [] 0 [] none :: kU 6 [])) ((Fun 29 [iE d2, iE 65535] (kG []) 0 (bV true) (kG []) 0) ∧ (Fun 29 [iE d3, iE 1048576] (kG []) 0 (bV false) (kG []) 0)) [(1, rV 0 0), (38, bV true)] [(0, some (31, .ds [D.lit (.int .u64 id), D.lit (.string (strOfNums nm)), iD d1, iD d2, iD d3, iD d4, iD d5, D.sl (qH bs) n]))] 1 ⟨(by have h0 := (qC d2 65535); rw [hx19] at h0; exact h0), (by have h0 := (qC d3 1048576); rw [hx21] at h0; exact h0)⟩ ?_
          refine zt ?_
          refine kK [.no] True [(2, bV false)] [] 1 trivial ?_
          refine AW.ret ?_
          exact kC (.inr rfl) [] (P := ((cU nm d1 d2 d3 d4 d5 bs) = false)) zk yA
      · have hx33 : ¬ (((0 : Int) ≤ d2) ∧ (d2 ≤ 65535)) := of_decide_eq_false hx19
        refine kK (.no :: .no :: .call [] (bV false) [] 0 [] none :: kU 7 []) (Fun 29 [iE d2, iE 65535] (kG []) 0 (bV false) (kG []) 0) [(1, rV 0 0), (38, bV true)] [(0, some (31, .ds [D.lit (.int .u64 id), D.lit (.string (strOfNums nm)), iD d1, iD d2, iD d3, iD d4, iD d5, D.sl (qH bs) n]))] 1 (by have h0 := (qC d2 65535); rw [hx19] at h0; exact h0) ?_
        refine zt ?_
        refine kK [.no] True [(2, bV false)] [] 1 trivial ?_
        refine AW.ret ?_
        exact kC (.inr rfl) [] (P := ((cU nm d1 d2 d3 d4 d5 bs) = false)) zk yA
  · refine zr [.no, .no, .call [] (bV false) [] 0 [] none, .no, .no, .no] [1, 16] [0] (Fun 28 [.c (.d (D.lit (.string (strOfNums nm))))] (kG []) 0 (bV false) (kG []) 0) [(1, rV 0 0), (16, bV true)] [(0, some (31, .ds [D.lit (.int .u64 id), D.lit (.string (strOfNums nm)), iD d1, iD d2, iD d3, iD d4, iD d5, D.sl (qH bs) n]))] 1 (by have h0 := (nE nm (kS : Byt nm) zo); rw [hx1] at h0; exact h0) ?_
    refine zt ?_
    refine kK [.no] True [(2, bV false)] [] 1 trivial ?_
    refine AW.ret ?_
    exact kC (.inr rfl) [] (P := ((cU nm d1 d2 d3 d4 d5 bs) = false)) zk yA
abbrev rI (l : List Int) (m : Nat) (u : RS) : BC := .ds [D.sl (dI .u8 l) m, iD (((kL (jW l (kD 2 l (kD 2 l (kD 4 l (kD 2 l (kD 2 l (qO l (kD 8 l u))))))))) : Nat) : Int), iD (kT (jW l (kD 2 l (kD 2 l (kD 4 l (kD 2 l (kD 2 l (qO l (kD 8 l u)))))))))]
theorem k9h (l : List Int) (m : Nat) (u : RS) (hm : List.length l = m) (hb : m ≤ 1000000) (hy : Byt l) (hu : kL u ≤ m) : Fun 24 [.c (.ptr 0 0)] (kG [(0, some (59, .ds [D.sl (dI .u8 l) m, iD (((kL u) : Nat) : Int), iD (kT u)]))]) 1 (.e (.agg [.d (D.lit (.int .u64 (vJ l u))), .d (D.lit (.string (strOfNums (vY l (dz1 l u))))), iC (((kV l (iH l u)) : Nat) : Int), iC (((kV l (iG l u)) : Nat) : Int), iC (u9 l (iF l u)), iC (((kV l (iB l u)) : Nat) : Int), iC (((kV l (iA l u)) : Nat) : Int), .d (D.sl (qH (yV l (aK l u))) (List.length (yV l (aK l u))))])) (kG [(0, some (59, .ds [D.sl (dI .u8 l) m, iD (((kL (bI l u)) : Nat) : Int), iD (kT (bI l u))]))]) 1 := by
  refine Fun.mk (n := 29) Try.func24 rfl rfl (Nat.le_of_ble_eq_true rfl) ?_
  intro cx hcx
  refine kK [.no] True [(0, rV 0 0), (2, rV 1 0)] [(0, some (59, .ds [db l m, uD (kL u), iD (kT u)])), (1, some (31, .ds [D.lit (.int .u64 0), D.lit (.string { data := #[] }), iD 0, iD 0, iD 0, iD 0, iD 0, qI]))] 2 trivial ?_
  have hx1 : ((kL (kD 8 l u)) ≤ m) := (uW (zo) (qV))
  have hx2 : (((0 : Int) ≤ (vJ l u)) ∧ ((vJ l u) ≤ 18446744073709551615)) := (tG (kS : Byt l) u)
  refine kK [.no, .call [0] (kP (D.lit (.int .u64 (vJ l u)))) [(0, some (59, .ds [db l m, uD (kL (kD 8 l u)), iD (kT (kD 8 l u))]))] 1 [] none, .no, .no, .no] _ [(0, rV 0 0), (2, rV 1 0), (3, rV 2 0)] [(0, some (59, .ds [db l m, uD (kL (kD 8 l u)), iD (kT (kD 8 l u))])), (1, some (31, .ds [D.lit (.int .u64 0), D.lit (.string { data := #[] }), iD 0, iD 0, iD 0, iD 0, iD 0, qI])), (2, some (31, .ds [D.lit (.int .u64 (vJ l u)), D.lit (.string { data := #[] }), iD 0, iD 0, iD 0, iD 0, iD 0, qI]))] 3 (k5w l m u zo zo (kS : Byt l) qV) ?_
  have hx3 : ((kL (qO l (kD 8 l u))) ≤ m) := (k66 (zo) (qV))
  have hx4 : ((List.length (vY l (kD 8 l u))) ≤ 64) := (lK _ _)
  refine kK [.no, .call [0] (kP (D.lit (.string (strOfNums (vY l (kD 8 l u)))))) [(0, some (59, .ds [db l m, uD (kL (qO l (kD 8 l u))), iD (kT (qO l (kD 8 l u)))]))] 1 [] none, .no, .no] _ [(0, rV 0 0), (2, rV 1 0), (3, rV 2 0)] [(0, some (59, .ds [db l m, uD (kL (qO l (kD 8 l u))), iD (kT (qO l (kD 8 l u)))])), (1, some (31, .ds [D.lit (.int .u64 0), D.lit (.string { data := #[] }), iD 0, iD 0, iD 0, iD 0, iD 0, qI])), (2, some (31, .ds [D.lit (.int .u64 (vJ l u)), D.lit (.string (strOfNums (vY l (kD 8 l u)))), iD 0, iD 0, iD 0, iD 0, iD 0, qI]))] 3 (k9d l m (kD 8 l u) zo zo (kS : Byt l) qV) ?_
  have hx5 : ((kL (kD 2 l (qO l (kD 8 l u)))) ≤ m) := (uW (zo) (qV))
  have hx6 : ((kV l (qO l (kD 8 l u))) ≤ 65535) := (yD (kS : Byt l) (qO l (kD 8 l u)))
  refine kK [.no, .call [0] (uV (kV l (qO l (kD 8 l u)))) [(0, some (59, .ds [db l m, iD (kL (kD 2 l (qO l (kD 8 l u))) : Int), iD (kT (kD 2 l (qO l (kD 8 l u))))]))] 1 [] none, .no, .no] _ [(0, rV 0 0), (2, rV 1 0), (3, rV 2 0)] [(0, some (59, .ds [db l m, iD (kL (kD 2 l (qO l (kD 8 l u))) : Int), iD (kT (kD 2 l (qO l (kD 8 l u))))])), (1, some (31, .ds [D.lit (.int .u64 0), D.lit (.string { data := #[] }), iD 0, iD 0, iD 0, iD 0, iD 0, qI])), (2, some (31, .ds [D.lit (.int .u64 (vJ l u)), D.lit (.string (strOfNums (vY l (kD 8 l u)))), uD (kV l (qO l (kD 8 l u))), iD 0, iD 0, iD 0, iD 0, qI]))] 3 (vB l m (qO l (kD 8 l u)) zo zo (kS : Byt l) qV) ?_
  have hx7 : ((kL (kD 2 l (kD 2 l (qO l (kD 8 l u))))) ≤ m) := (uW (zo) (qV))
  have hx8 : ((kV l (kD 2 l (qO l (kD 8 l u)))) ≤ 65535) := (yD (kS : Byt l) (kD 2 l (qO l (kD 8 l u))))
  refine kK [.no, .call [0] (iV (kV l (kD 2 l (qO l (kD 8 l u))) : Int)) [(0, some (59, .ds [db l m, iD (((kL (kD 2 l (kD 2 l (qO l (kD 8 l u))))) : Nat) : Int), iD (kT (kD 2 l (kD 2 l (qO l (kD 8 l u)))))]))] 1 [] none, .no, .no] _ [(0, rV 0 0), (2, rV 1 0), (3, rV 2 0)] [(0, some (59, .ds [db l m, iD (((kL (kD 2 l (kD 2 l (qO l (kD 8 l u))))) : Nat) : Int), iD (kT (kD 2 l (kD 2 l (qO l (kD 8 l u)))))])), (1, some (31, .ds [D.lit (.int .u64 0), D.lit (.string { data := #[] }), iD 0, iD 0, iD 0, iD 0, iD 0, qI])), (2, some (31, .ds [D.lit (.int .u64 (vJ l u)), D.lit (.string (strOfNums (vY l (kD 8 l u)))), uD (kV l (qO l (kD 8 l u))), iD (kV l (kD 2 l (qO l (kD 8 l u))) : Int), iD 0, iD 0, iD 0, qI]))] 3 (vB l m (kD 2 l (qO l (kD 8 l u))) zo zo (kS : Byt l) qV) ?_
  have hx9 : ((kL (kD 4 l (kD 2 l (kD 2 l (qO l (kD 8 l u)))))) ≤ m) := (uW (zo) (qV))
  have hx10 : (((0 : Int) ≤ (u9 l (kD 2 l (kD 2 l (qO l (kD 8 l u)))))) ∧ ((u9 l (kD 2 l (kD 2 l (qO l (kD 8 l u))))) ≤ 4294967295)) := (lJ (kS : Byt l) (kD 2 l (kD 2 l (qO l (kD 8 l u)))))
  refine kK [.no, .call [0] (iV (u9 l (kD 2 l (kD 2 l (qO l (kD 8 l u)))))) [(0, some (59, .ds [db l m, iD (((kL (kD 4 l (kD 2 l (kD 2 l (qO l (kD 8 l u)))))) : Nat) : Int), iD (kT (kD 4 l (kD 2 l (kD 2 l (qO l (kD 8 l u))))))]))] 1 [] none, .no, .no] _ [(0, rV 0 0), (2, rV 1 0), (3, rV 2 0)] [(0, some (59, .ds [db l m, iD (((kL (kD 4 l (kD 2 l (kD 2 l (qO l (kD 8 l u)))))) : Nat) : Int), iD (kT (kD 4 l (kD 2 l (kD 2 l (qO l (kD 8 l u))))))])), (1, some (31, .ds [D.lit (.int .u64 0), D.lit (.string { data := #[] }), iD 0, iD 0, iD 0, iD 0, iD 0, qI])), (2, some (31, .ds [D.lit (.int .u64 (vJ l u)), D.lit (.string (strOfNums (vY l (kD 8 l u)))), uD (kV l (qO l (kD 8 l u))), iD (kV l (kD 2 l (qO l (kD 8 l u))) : Int), iD (u9 l (kD 2 l (kD 2 l (qO l (kD 8 l u))))), iD 0, iD 0, qI]))] 3 (nF l m (kD 2 l (kD 2 l (qO l (kD 8 l u)))) zo zo (kS : Byt l) qV) ?_
  have hx11 : ((kL (kD 2 l (kD 4 l (kD 2 l (kD 2 l (qO l (kD 8 l u))))))) ≤ m) := (uW (zo) (qV))
  have hx12 : ((kV l (kD 4 l (kD 2 l (kD 2 l (qO l (kD 8 l u)))))) ≤ 65535) := (yD (kS : Byt l) (kD 4 l (kD 2 l (kD 2 l (qO l (kD 8 l u))))))
  refine kK [.no, .call [0] (iV (((kV l (kD 4 l (kD 2 l (kD 2 l (qO l (kD 8 l u)))))) : Nat) : Int)) [(0, some (59, .ds [db l m, iD (((kL (kD 2 l (kD 4 l (kD 2 l (kD 2 l (qO l (kD 8 l u))))))) : Nat) : Int), iD (kT (kD 2 l (kD 4 l (kD 2 l (kD 2 l (qO l (kD 8 l u)))))))]))] 1 [] none, .no, .no] _ [(0, rV 0 0), (2, rV 1 0), (3, rV 2 0)] [(0, some (59, .ds [db l m, iD (((kL (kD 2 l (kD 4 l (kD 2 l (kD 2 l (qO l (kD 8 l u))))))) : Nat) : Int), iD (kT (kD 2 l (kD 4 l (kD 2 l (kD 2 l (qO l (kD 8 l u)))))))])), (1, some (31, .ds [D.lit (.int .u64 0), D.lit (.string { data := #[] }), iD 0, iD 0, iD 0, iD 0, iD 0, qI])), (2, some (31, .ds [D.lit (.int .u64 (vJ l u)), D.lit (.string (strOfNums (vY l (kD 8 l u)))), uD (kV l (qO l (kD 8 l u))), iD (kV l (kD 2 l (qO l (kD 8 l u))) : Int), iD (u9 l (kD 2 l (kD 2 l (qO l (kD 8 l u))))), iD (((kV l (kD 4 l (kD 2 l (kD 2 l (qO l (kD 8 l u)))))) : Nat) : Int), iD 0, qI]))] 3 (vB l m (kD 4 l (kD 2 l (kD 2 l (qO l (kD 8 l u))))) zo zo (kS : Byt l) qV) ?_
  have hx13 : ((kL (kD 2 l (kD 2 l (kD 4 l (kD 2 l (kD 2 l (qO l (kD 8 l u)))))))) ≤ m) := (uW (zo) (qV))
  have hx14 : ((kV l (kD 2 l (kD 4 l (kD 2 l (kD 2 l (qO l (kD 8 l u))))))) ≤ 65535) := (yD (kS : Byt l) (kD 2 l (kD 4 l (kD 2 l (kD 2 l (qO l (kD 8 l u)))))))
  refine kK [.no, .call [0] (iV (((kV l (kD 2 l (kD 4 l (kD 2 l (kD 2 l (qO l (kD 8 l u))))))) : Nat) : Int)) [(0, some (59, .ds [db l m, iD (((kL (kD 2 l (kD 2 l (kD 4 l (kD 2 l (kD 2 l (qO l (kD 8 l u)))))))) : Nat) : Int), iD (kT (kD 2 l (kD 2 l (kD 4 l (kD 2 l (kD 2 l (qO l (kD 8 l u))))))))]))] 1 [] none, .no, .no] _ [(0, rV 0 0), (2, rV 1 0), (3, rV 2 0)] [(0, some (59, .ds [db l m, iD (((kL (kD 2 l (kD 2 l (kD 4 l (kD 2 l (kD 2 l (qO l (kD 8 l u)))))))) : Nat) : Int), iD (kT (kD 2 l (kD 2 l (kD 4 l (kD 2 l (kD 2 l (qO l (kD 8 l u))))))))])), (1, some (31, .ds [D.lit (.int .u64 0), D.lit (.string { data := #[] }), iD 0, iD 0, iD 0, iD 0, iD 0, qI])), (2, some (31, .ds [D.lit (.int .u64 (vJ l u)), D.lit (.string (strOfNums (vY l (kD 8 l u)))), uD (kV l (qO l (kD 8 l u))), iD (kV l (kD 2 l (qO l (kD 8 l u))) : Int), iD (u9 l (kD 2 l (kD 2 l (qO l (kD 8 l u))))), iD (((kV l (kD 4 l (kD 2 l (kD 2 l (qO l (kD 8 l u)))))) : Nat) : Int), iD (((kV l (kD 2 l (kD 4 l (kD 2 l (kD 2 l (qO l (kD 8 l u))))))) : Nat) : Int), qI]))] 3 (vB l m (kD 2 l (kD 4 l (kD 2 l (kD 2 l (qO l (kD 8 l u)))))) zo zo (kS : Byt l) qV) ?_
  have hx15 : ((kL (jW l (kD 2 l (kD 2 l (kD 4 l (kD 2 l (kD 2 l (qO l (kD 8 l u))))))))) ≤ m) := (k32 (zo) (qV))
  have hx16 : ((List.length (yV l (kD 2 l (kD 2 l (kD 4 l (kD 2 l (kD 2 l (qO l (kD 8 l u))))))))) ≤ 65535) := (mZ (kS : Byt l) (kD 2 l (kD 2 l (kD 4 l (kD 2 l (kD 2 l (qO l (kD 8 l u))))))))
  have hx17 : (BsW (yV l (kD 2 l (kD 2 l (kD 4 l (kD 2 l (kD 2 l (qO l (kD 8 l u))))))))) := (k31 (kS : Byt l) (kD 2 l (kD 2 l (kD 4 l (kD 2 l (kD 2 l (qO l (kD 8 l u))))))))
  refine kK [.no, .call [0] (qX (qH (yV l (kD 2 l (kD 2 l (kD 4 l (kD 2 l (kD 2 l (qO l (kD 8 l u))))))))) (List.length (yV l (kD 2 l (kD 2 l (kD 4 l (kD 2 l (kD 2 l (qO l (kD 8 l u)))))))))) [(0, some (59, (rI l m u)))] 1 [] none, .no, .no] _ [(2, rV 1 0), (3, rV 2 0)] [(0, some (59, (rI l m u))), (1, some (31, .ds [D.lit (.int .u64 0), D.lit (.string { data := #[] }), iD 0, iD 0, iD 0, iD 0, iD 0, qI])), (2, some (31, .ds [D.lit (.int .u64 (vJ l u)), D.lit (.string (strOfNums (vY l (kD 8 l u)))), uD (kV l (qO l (kD 8 l u))), iD (kV l (kD 2 l (qO l (kD 8 l u))) : Int), iD (u9 l (kD 2 l (kD 2 l (qO l (kD 8 l u))))), iD (((kV l (kD 4 l (kD 2 l (kD 2 l (qO l (kD 8 l u)))))) : Nat) : Int), iD (((kV l (kD 2 l (kD 4 l (kD 2 l (kD 2 l (qO l (kD 8 l u))))))) : Nat) : Int), D.sl (qH (yV l (kD 2 l (kD 2 l (kD 4 l (kD 2 l (kD 2 l (qO l (kD 8 l u))))))))) (List.length (yV l (kD 2 l (kD 2 l (kD 4 l (kD 2 l (kD 2 l (qO l (kD 8 l u)))))))))]))] 3 (k5x l m (kD 2 l (kD 2 l (kD 4 l (kD 2 l (kD 2 l (qO l (kD 8 l u))))))) zo zo (kS : Byt l) qV) ?_
  refine kK [.no, .no] True [(2, rV 1 0)] [(0, some (59, (rI l m u))), (1, some (31, .ds [D.lit (.int .u64 (vJ l u)), D.lit (.string (strOfNums (vY l (kD 8 l u)))), uD (kV l (qO l (kD 8 l u))), iD (kV l (kD 2 l (qO l (kD 8 l u))) : Int), iD (u9 l (kD 2 l (kD 2 l (qO l (kD 8 l u))))), iD (((kV l (kD 4 l (kD 2 l (kD 2 l (qO l (kD 8 l u)))))) : Nat) : Int), iD (((kV l (kD 2 l (kD 4 l (kD 2 l (kD 2 l (qO l (kD 8 l u))))))) : Nat) : Int), D.sl (qH (yV l (kD 2 l (kD 2 l (kD 4 l (kD 2 l (kD 2 l (qO l (kD 8 l u))))))))) (List.length (yV l (kD 2 l (kD 2 l (kD 4 l (kD 2 l (kD 2 l (qO l (kD 8 l u)))))))))]))] 3 trivial ?_
  refine AW.ret ?_
  exact kC (.inr rfl) [] (P := (kN (vJ l u)) ∧ ((.string (strOfNums (vY l (dz1 l u))) : Value) = .string (strOfNums (vY l (kD 8 l u)))) ∧ (((kV l (iH l u) : Int) : Int) = (kV l (qO l (kD 8 l u)) : Int)) ∧ (((kV l (iG l u) : Int) : Int) = (kV l (kD 2 l (qO l (kD 8 l u))) : Int)) ∧ (((u9 l (iF l u)) : Int) = (u9 l (kD 2 l (kD 2 l (qO l (kD 8 l u)))))) ∧ (((kV l (iB l u) : Int) : Int) = (((kV l (kD 4 l (kD 2 l (kD 2 l (qO l (kD 8 l u)))))) : Nat) : Int)) ∧ (((kV l (iA l u) : Int) : Int) = (((kV l (kD 2 l (kD 4 l (kD 2 l (kD 2 l (qO l (kD 8 l u))))))) : Nat) : Int)) ∧ (((qH (yV l (aK l u))) : List D) = (qH (yV l (kD 2 l (kD 2 l (kD 4 l (kD 2 l (kD 2 l (qO l (kD 8 l u)))))))))) ∧ (((List.length (yV l (aK l u))) : Nat) = (List.length (yV l (kD 2 l (kD 2 l (kD 4 l (kD 2 l (kD 2 l (qO l (kD 8 l u)))))))))) ∧ (([db l m, uD (kL (bI l u)), iD (kT (bI l u))] : List D) = [db l m, iD (((kL (jW l (kD 2 l (kD 2 l (kD 4 l (kD 2 l (kD 2 l (qO l (kD 8 l u))))))))) : Nat) : Int), iD (kT (jW l (kD 2 l (kD 2 l (kD 4 l (kD 2 l (kD 2 l (qO l (kD 8 l u)))))))))])) zk ⟨rfl, (congrArg (fun x9 => Value.string (strOfNums x9)) (show (vY l (dz1 l u)) = (vY l (kD 8 l u)) from rfl)), (by first | rfl | omega), (by first | rfl | omega), (by first | rfl | omega), (by first | rfl | omega), (by first | rfl | omega), rfl, (by first | rfl | omega), rfl⟩
abbrev yQ (m : Nat) (l : List Int) := vY (List.take (m - 4) l) (dz1 (List.take (m - 4) l) kY)
theorem gA {p : Prop} (h : p := by first | rfl | with_reducible assumption | exact qK _ _ _ | exact aG _ _ _ | (simp only [u5, qT, qK, Nat.mul_one, Nat.zero_mul, List.drop_zero, List.nil_append, List.append_nil]; done) | (simp only [u5, qT, qK, Nat.mul_one, Nat.zero_mul, List.drop_zero, List.nil_append, List.append_nil]; rfl) | (rw [List.take_of_length_le (by simp only [kR, kQ, pbL_len, qL, List.length_drop, List.length_replicate, Nat.mul_one] <;> omega)]; first | rfl | (simp only [qT, Nat.mul_one, Nat.zero_mul, List.drop_zero]; done) | (simp only [qT, Nat.mul_one, Nat.zero_mul, List.drop_zero]; rfl))) : p := h
theorem d8 (l : List Int) (m : Nat) (hm : List.length l = m) (hb : m ≤ 1000000) (hy : Byt l) : Fun 9 [.c (.d (D.sl (dI .u8 l) m))] (kG []) 0 (.tup [.agg [.d (D.lit (.int .u64 (nN l))), .d (D.lit (.string (strOfNums (cN l)))), iC (nS l), iC (nR l), iC (nQ l), iC (nP l), iC (nO l), .d (D.sl (qH (vL l)) (List.length (vL l)))], iE (u4 l)]) (kG []) 0 := by
  have h4a : kL kY = 4 := rfl
  have h4q : kT kY = 0 := rfl
  refine Fun.mk (n := 61) Try.func9 rfl rfl (Nat.le_of_ble_eq_true rfl) ?_
  intro cx hcx
  refine kK [.no, .no] True [(0, sV .u8 l m), (2, rV 0 0)] [(0, some (31, .ds [D.lit (.int .u64 0), D.lit (.string { data := #[] }), iD 0, iD 0, iD 0, iD 0, iD 0, qI]))] 1 trivial ?_
  refine kX [.no, .no, .w, .no] (qM ((m : Int) - 4)) [(0, sV .u8 l m), (2, rV 0 0), (4, iV (↑m - 4))] ⟨by omega, by omega⟩ ?_
  refine AW.seq ?_
  by_cases hx1 : ((((m : Nat) : Int) - 4) < 4)
  · refine zr [.no, .b true] [0, 2, 4, 14] [0] ((((m : Int) - 4) < 4)) [(0, sV .u8 l m), (2, rV 0 0), (4, iV (↑m - 4)), (14, bV true)] [(0, some (31, .ds [D.lit (.int .u64 0), D.lit (.string { data := #[] }), iD 0, iD 0, iD 0, iD 0, iD 0, qI]))] 1 zo ?_
    refine zt ?_
    refine kK [.no, .no, .no] True [(2, rV 0 0), (3, iV 4)] [(0, some (31, .ds [D.lit (.int .u64 0), D.lit (.string { data := #[] }), iD 0, iD 0, iD 0, iD 0, iD 0, qI]))] 1 trivial ?_
    refine aJ (l' := [(2, rV 0 0), (3, iV 4)]) (g' := [(0, some (31, .ds [D.lit (.int .u64 0), D.lit (.string { data := #[] }), iD 0, iD 0, iD 0, iD 0, iD 0, D.sl ([] : List D) 0]))]) (NlS.cons rfl (.same _) (NlS.cons rfl (.same _) NlS.nil)) (NlG.to (bc := .ds [D.lit (.int .u64 0), D.lit (.string { data := #[] }), iD 0, iD 0, iD 0, iD 0, iD 0, qI]) rfl (NlL.cons (.same _) (NlL.cons (.same _) (NlL.cons (.same _) (NlL.cons (.same _) (NlL.cons (.same _) (NlL.cons (.same _) (NlL.cons (.same _) (NlL.cons (.nil) NlL.nil)))))))) NlG.nil) ?_
    have hz0 : u4 l = 4 := (k5j hm (by omega))
    obtain ⟨hzI, hzN, hz1, hz2, hz3, hz4, hz5, hzB⟩ := sX (l := l) zo
    refine AW.ret ?_
    exact kC (.inr rfl) [] (P := (((nN l) : Int) = 0) ∧ ((.string (strOfNums (cN l)) : Value) = .string { data := #[] }) ∧ (((nS l) : Int) = 0) ∧ (((nR l) : Int) = 0) ∧ (((nQ l) : Int) = 0) ∧ (((nP l) : Int) = 0) ∧ (((nO l) : Int) = 0) ∧ (((qH (vL l)) : List D) = ([] : List D)) ∧ (((List.length (vL l)) : Nat) = 0) ∧ (((u4 l) : Int) = 4)) zk ⟨(by first | omega | rfl | exact hzN.symm | exact hzN | (rw [hzN]; done) | (rw [hzN]; rfl) | (rw [hzB]; done) | (rw [hzB]; rfl)), (by rw [hzN]; rfl), (by first | omega | rfl | exact hzN.symm | exact hzN | (rw [hzN]; done) | (rw [hzN]; rfl) | (rw [hzB]; done) | (rw [hzB]; rfl)), (by first | omega | rfl | exact hzN.symm | exact hzN | (rw [hzN]; done) | (rw [hzN]; rfl) | (rw [hzB]; done) | (rw [hzB]; rfl)), (by first | omega | rfl | exact hzN.symm | exact hzN | (rw [hzN]; done) | (rw [hzN]; rfl) | (rw [hzB]; done) | (rw [hzB]; rfl)), (by first | omega | rfl | exact hzN.symm | exact hzN | (rw [hzN]; done) | (rw [hzN]; rfl) | (rw [hzB]; done) | (rw [hzB]; rfl)), (by first | omega | rfl | exact hzN.symm | exact hzN | (rw [hzN]; done) | (rw [hzN]; rfl) | (rw [hzB]; done) | (rw [hzB]; rfl)), (by first | omega | rfl | exact hzN.symm | exact hzN | (rw [hzN]; done) | (rw [hzN]; rfl) | (rw [hzB]; done) | (rw [hzB]; rfl)), (by first | omega | rfl | exact hzN.symm | exact hzN | (rw [hzN]; done) | (rw [hzN]; rfl) | (rw [hzB]; done) | (rw [hzB]; rfl)), (by first | omega | rfl | exact hzN.symm | exact hzN | (rw [hzN]; done) | (rw [hzN]; rfl) | (rw [hzB]; done) | (rw [hzB]; rfl))⟩
  · refine zr [.no, .b false] [0, 2, 4, 14] [0] (¬ (((m : Int) - 4) < 4)) [(0, sV .u8 l m), (2, rV 0 0), (4, iV (↑m - 4)), (14, bV false)] [(0, some (31, .ds [D.lit (.int .u64 0), D.lit (.string { data := #[] }), iD 0, iD 0, iD 0, iD 0, iD 0, qI]))] 1 zo ?_
    refine yW ?_
    refine AW.seq ?_
    have hx2 : (((0 : Int) ≤ (g32 l (m - 4))) ∧ ((g32 l (m - 4)) ≤ 4294967295)) := g32_rng (kS : Byt l) zo
    refine kK (.no :: .no :: .call [] (.tup [.c (.d (D.lit (.int .u32 (g32 l (m - 4))))), uE ((m - 4) + 4), iE 0]) [] 0 [] (some [.c (.d (db l m)), uE (m - 4)]) :: kU 7 []) ((k8 (dI .u8 l)) ∧ (kM m) ∧ (((((m - 4) : Nat) : Int) : Int) = ((m : Int) - 4)) ∧ (_)) [(0, sV .u8 l m), (2, rV 0 0), (4, iV (↑m - 4)), (5, kP (D.lit (.int .u32 (g32 l (m - 4)))))] [(0, some (31, .ds [D.lit (.int .u64 0), D.lit (.string { data := #[] }), iD 0, iD 0, iD 0, iD 0, iD 0, qI]))] 1 ⟨rfl, rfl, zo, (W_Get32 l m (m - 4) zo zo (kS : Byt l) zo)⟩ ?_
    by_cases hx4 : ((g32 l (m - 4)) ≠ (qG (List.take (m - 4) l)))
    · have hx5 : (((0 : Int) ≤ (qG (List.take (m - 4) l))) ∧ ((qG (List.take (m - 4) l)) ≤ 4294967295)) := fM _
      refine kK [.no, .no, .no, .sls 0 (m - 4) (m - 4) (dI .u8 (List.take (m - 4) l)), .call [] (kP (D.lit (.int .u32 (qG (List.take (m - 4) l))))) [] 0 [] none, .b true] ((kM 0) ∧ ((((m : Int) - 4) : Int) = (((m - 4) : Nat) : Int)) ∧ ((0 : Nat) ≤ (m - 4)) ∧ ((m - 4) ≤ m) ∧ ((m - 4) - 0 = (m - 4)) ∧ (List.take ((m - 4) * 1) (List.drop (0 * 1) (dI .u8 l)) = (dI .u8 (List.take (m - 4) l))) ∧ (_) ∧ (((g32 l (m - 4)) ≠ (qG (List.take (m - 4) l))))) [(0, sV .u8 l m), (2, rV 0 0), (4, iV (↑m - 4)), (28, bV true)] [(0, some (31, .ds [D.lit (.int .u64 0), D.lit (.string { data := #[] }), iD 0, iD 0, iD 0, iD 0, iD 0, qI]))] 1 ⟨rfl, (by first | rfl | omega), zo, zo, zo, gA, (k3l (List.take (m - 4) l) (m - 4) qV zo (Byt.take (kS : Byt l) _)), zo⟩ ?_
      refine zt ?_
      refine kX [.no, .no, .no] True [(2, rV 0 0), (3, iV 6)] trivial ?_
      refine aJ (l' := [(2, rV 0 0), (3, iV 6)]) (g' := [(0, some (31, .ds [D.lit (.int .u64 0), D.lit (.string { data := #[] }), iD 0, iD 0, iD 0, iD 0, iD 0, D.sl ([] : List D) 0]))]) (NlS.cons rfl (.same _) (NlS.cons rfl (.same _) NlS.nil)) (NlG.to (bc := .ds [D.lit (.int .u64 0), D.lit (.string { data := #[] }), iD 0, iD 0, iD 0, iD 0, iD 0, qI]) rfl (NlL.cons (.same _) (NlL.cons (.same _) (NlL.cons (.same _) (NlL.cons (.same _) (NlL.cons (.same _) (NlL.cons (.same _) (NlL.cons (.same _) (NlL.cons (.nil) NlL.nil)))))))) NlG.nil) ?_
      have hz0 : u4 l = 6 := (k93 hm (by omega) (by omega))
      obtain ⟨hzI, hzN, hz1, hz2, hz3, hz4, hz5, hzB⟩ := sX (l := l) zo
      refine AW.ret ?_
      exact kC (.inr rfl) [] (P := (((nN l) : Int) = 0) ∧ ((.string (strOfNums (cN l)) : Value) = .string { data := #[] }) ∧ (((nS l) : Int) = 0) ∧ (((nR l) : Int) = 0) ∧ (((nQ l) : Int) = 0) ∧ (((nP l) : Int) = 0) ∧ (((nO l) : Int) = 0) ∧ (((qH (vL l)) : List D) = ([] : List D)) ∧ (((List.length (vL l)) : Nat) = 0) ∧ (((u4 l) : Int) = 6)) zk ⟨(by first | omega | rfl | exact hzN.symm | exact hzN | (rw [hzN]; done) | (rw [hzN]; rfl) | (rw [hzB]; done) | (rw [hzB]; rfl)), (by rw [hzN]; rfl), (by first | omega | rfl | exact hzN.symm | exact hzN | (rw [hzN]; done) | (rw [hzN]; rfl) | (rw [hzB]; done) | (rw [hzB]; rfl)), (by first | omega | rfl | exact hzN.symm | exact hzN | (rw [hzN]; done) | (rw [hzN]; rfl) | (rw [hzB]; done) | (rw [hzB]; rfl)), (by first | omega | rfl | exact hzN.symm | exact hzN | (rw [hzN]; done) | (rw [hzN]; rfl) | (rw [hzB]; done) | (rw [hzB]; rfl)), (by first | omega | rfl | exact hzN.symm | exact hzN | (rw [hzN]; done) | (rw [hzN]; rfl) | (rw [hzB]; done) | (rw [hzB]; rfl)), (by first | omega | rfl | exact hzN.symm | exact hzN | (rw [hzN]; done) | (rw [hzN]; rfl) | (rw [hzB]; done) | (rw [hzB]; rfl)), (by first | omega | rfl | exact hzN.symm | exact hzN | (rw [hzN]; done) | (rw [hzN]; rfl) | (rw [hzB]; done) | (rw [hzB]; rfl)), (by first | omega | rfl | exact hzN.symm | exact hzN | (rw [hzN]; done) | (rw [hzN]; rfl) | (rw [hzB]; done) | (rw [hzB]; rfl)), (by first | omega | rfl | exact hzN.symm | exact hzN | (rw [hzN]; done) | (rw [hzN]; rfl) | (rw [hzB]; done) | (rw [hzB]; rfl))⟩
    · have hx6 : (((0 : Int) ≤ (qG (List.take (m - 4) l))) ∧ ((qG (List.take (m - 4) l)) ≤ 4294967295)) := fM _
      refine kK [.no, .no, .no, .sls 0 (m - 4) (m - 4) (dI .u8 (List.take (m - 4) l)), .call [] (kP (D.lit (.int .u32 (qG (List.take (m - 4) l))))) [] 0 [] none, .b false] ((kM 0) ∧ ((((m : Int) - 4) : Int) = (((m - 4) : Nat) : Int)) ∧ ((0 : Nat) ≤ (m - 4)) ∧ ((m - 4) ≤ m) ∧ ((m - 4) - 0 = (m - 4)) ∧ (List.take ((m - 4) * 1) (List.drop (0 * 1) (dI .u8 l)) = (dI .u8 (List.take (m - 4) l))) ∧ (_) ∧ (¬ ((g32 l (m - 4)) ≠ (qG (List.take (m - 4) l))))) [(0, sV .u8 l m), (2, rV 0 0), (4, iV (↑m - 4)), (28, bV false)] [(0, some (31, .ds [D.lit (.int .u64 0), D.lit (.string { data := #[] }), iD 0, iD 0, iD 0, iD 0, iD 0, qI]))] 1 ⟨rfl, (by first | rfl | omega), zo, zo, zo, gA, (k3l (List.take (m - 4) l) (m - 4) qV zo (Byt.take (kS : Byt l) _)), zo⟩ ?_
      refine yW ?_
      refine AW.seq ?_
      by_cases hx7 : ((List.take 4 l) = ([83, 78, 68, 49] : List Int))
      · refine zr [.no, .sls 0 4 4 (dI .u8 (List.take 4 l)), .st none (List.take 4 l), .b false] [0, 2, 4, 33] [0] ((kM 0) ∧ (kN 4) ∧ ((0 : Nat) ≤ 4) ∧ ((4 : Nat) ≤ m) ∧ ((4 : Nat) - 0 = 4) ∧ (List.take (4 * 1) (List.drop (0 * 1) (dI .u8 l)) = (dI .u8 (List.take 4 l))) ∧ ((dI .u8 (List.take 4 l)).length = 4 * 1) ∧ (k8 (dI .u8 (List.take 4 l))) ∧ ((!(ByteArray.toList (strOfNums (List.take 4 l)) == ByteArray.toList (ByteArray.mk #[83, 78, 68, 49]))) = false)) [(0, sV .u8 l m), (2, rV 0 0), (4, iV (↑m - 4)), (33, bV false)] [(0, some (31, .ds [D.lit (.int .u64 0), D.lit (.string { data := #[] }), iD 0, iD 0, iD 0, iD 0, iD 0, qI]))] 1 ⟨rfl, rfl, zo, zo, zo, gA, (by first | omega | (simp only [kR, kQ, pbL_len, qL, List.length_append, List.length_cons, List.length_nil, List.length_take, List.length_drop, List.length_replicate, List.length_set, List.length_map, List.length_reverse, Nat.mul_one] <;> omega) | rfl), rfl, (by rw [show (ByteArray.toList (strOfNums (List.take 4 l)) == ByteArray.toList (ByteArray.mk #[83, 78, 68, 49])) = true from (u1h (by assumption))]; rfl)⟩ ?_
        refine yW ?_
        refine kK [.no, .no, .sls 0 (m - 4) (m - 4) (dI .u8 (List.take (m - 4) l)), .no, .no, .no] ((kM 0) ∧ ((((m : Int) - 4) : Int) = (((m - 4) : Nat) : Int)) ∧ ((0 : Nat) ≤ (m - 4)) ∧ ((m - 4) ≤ m) ∧ ((m - 4) - 0 = (m - 4)) ∧ (List.take ((m - 4) * 1) (List.drop (0 * 1) (dI .u8 l)) = (dI .u8 (List.take (m - 4) l)))) [(2, rV 0 0), (4, iV (↑m - 4)), (8, rV 1 0)] [(0, some (31, .ds [D.lit (.int .u64 0), D.lit (.string { data := #[] }), iD 0, iD 0, iD 0, iD 0, iD 0, qI])), (1, some (59, .ds [db (List.take (m - 4) l) (m - 4), iD 4, iD 0]))] 2 ⟨rfl, (by first | rfl | omega), zo, zo, zo, gA⟩ ?_
        have hx8 : ((kL (bI (List.take (m - 4) l) kY)) ≤ (m - 4)) := (k94 (qV) (qV))
        have hx9 : (((0 : Int) ≤ (vJ (List.take (m - 4) l) kY)) ∧ ((vJ (List.take (m - 4) l) kY) ≤ 18446744073709551615)) := (tG ((Byt.take (kS : Byt l) _)) _)
        have hx10 : ((List.length (yQ m l)) ≤ 64) := (lK _ _)
        have hx11 : ((List.length (yV (List.take (m - 4) l) (aK (List.take (m - 4) l) kY))) ≤ 65535) := (mZ ((Byt.take (kS : Byt l) _)) _)
        have hx12 : (BsW (yV (List.take (m - 4) l) (aK (List.take (m - 4) l) kY))) := (k31 ((Byt.take (kS : Byt l) _)) _)
        refine kK [.no, .call [1] (.e (.agg [.d (D.lit (.int .u64 (vJ (List.take (m - 4) l) kY))), .d (D.lit (.string (strOfNums (yQ m l)))), iC (((kV (List.take (m - 4) l) (iH (List.take (m - 4) l) kY)) : Nat) : Int), iC (((kV (List.take (m - 4) l) (iG (List.take (m - 4) l) kY)) : Nat) : Int), iC (u9 (List.take (m - 4) l) (iF (List.take (m - 4) l) kY)), iC (((kV (List.take (m - 4) l) (iB (List.take (m - 4) l) kY)) : Nat) : Int), iC (((kV (List.take (m - 4) l) (iA (List.take (m - 4) l) kY)) : Nat) : Int), .d (D.sl (qH (yV (List.take (m - 4) l) (aK (List.take (m - 4) l) kY))) (List.length (yV (List.take (m - 4) l) (aK (List.take (m - 4) l) kY))))])) [(0, some (59, .ds [db (List.take (m - 4) l) (m - 4), iD (((kL (bI (List.take (m - 4) l) kY)) : Nat) : Int), iD (kT (bI (List.take (m - 4) l) kY))]))] 1 [] (some [.c (.ptr 0 0)]), .no, .no] ((kM 0) ∧ (_)) [(2, rV 0 0), (4, iV (↑m - 4)), (8, rV 1 0), (9, rV 2 0)] [(0, some (31, .ds [D.lit (.int .u64 0), D.lit (.string { data := #[] }), iD 0, iD 0, iD 0, iD 0, iD 0, qI])), (1, some (59, .ds [db (List.take (m - 4) l) (m - 4), iD (((kL (bI (List.take (m - 4) l) kY)) : Nat) : Int), iD (kT (bI (List.take (m - 4) l) kY))])), (2, some (31, .ds [D.lit (.int .u64 (vJ (List.take (m - 4) l) kY)), D.lit (.string (strOfNums (yQ m l))), iD (((kV (List.take (m - 4) l) (iH (List.take (m - 4) l) kY)) : Nat) : Int), iD (((kV (List.take (m - 4) l) (iG (List.take (m - 4) l) kY)) : Nat) : Int), iD (u9 (List.take (m - 4) l) (iF (List.take (m - 4) l) kY)), iD (((kV (List.take (m - 4) l) (iB (List.take (m - 4) l) kY)) : Nat) : Int), iD (((kV (List.take (m - 4) l) (iA (List.take (m - 4) l) kY)) : Nat) : Int), D.sl (qH (yV (List.take (m - 4) l) (aK (List.take (m - 4) l) kY))) (List.length (yV (List.take (m - 4) l) (aK (List.take (m - 4) l) kY)))]))] 3 ⟨rfl, (k9h (List.take (m - 4) l) (m - 4) kY qV zo (Byt.take (kS : Byt l) _) qV)⟩ ?_
        refine AW.seq ?_
        by_cases hx13 : ((kT (bI (List.take (m - 4) l) kY)) ≠ 0)
        · refine zr (kU 4 [.b true, .no, .no]) [2, 9, 54] [0, 2] (((kT (bI (List.take (m - 4) l) kY)) ≠ 0)) [(2, rV 0 0), (9, rV 2 0), (54, bV true)] [(0, some (31, .ds [D.lit (.int .u64 0), D.lit (.string { data := #[] }), iD 0, iD 0, iD 0, iD 0, iD 0, qI])), (2, some (31, .ds [D.lit (.int .u64 (vJ (List.take (m - 4) l) kY)), D.lit (.string (strOfNums (yQ m l))), iD (((kV (List.take (m - 4) l) (iH (List.take (m - 4) l) kY)) : Nat) : Int), iD (((kV (List.take (m - 4) l) (iG (List.take (m - 4) l) kY)) : Nat) : Int), iD (u9 (List.take (m - 4) l) (iF (List.take (m - 4) l) kY)), iD (((kV (List.take (m - 4) l) (iB (List.take (m - 4) l) kY)) : Nat) : Int), iD (((kV (List.take (m - 4) l) (iA (List.take (m - 4) l) kY)) : Nat) : Int), D.sl (qH (yV (List.take (m - 4) l) (aK (List.take (m - 4) l) kY))) (List.length (yV (List.take (m - 4) l) (aK (List.take (m - 4) l) kY)))]))] 3 zo ?_
          refine zt ?_
          refine kK [.no, .no, .no] True [(2, rV 0 0), (3, iV 5)] [(0, some (31, .ds [D.lit (.int .u64 0), D.lit (.string { data := #[] }), iD 0, iD 0, iD 0, iD 0, iD 0, qI]))] 3 trivial ?_
          refine aJ (l' := [(2, rV 0 0), (3, iV 5)]) (g' := [(0, some (31, .ds [D.lit (.int .u64 0), D.lit (.string { data := #[] }), iD 0, iD 0, iD 0, iD 0, iD 0, D.sl ([] : List D) 0]))]) (NlS.cons rfl (.same _) (NlS.cons rfl (.same _) NlS.nil)) (NlG.to (bc := .ds [D.lit (.int .u64 0), D.lit (.string { data := #[] }), iD 0, iD 0, iD 0, iD 0, iD 0, qI]) rfl (NlL.cons (.same _) (NlL.cons (.same _) (NlL.cons (.same _) (NlL.cons (.same _) (NlL.cons (.same _) (NlL.cons (.same _) (NlL.cons (.same _) (NlL.cons (.nil) NlL.nil)))))))) NlG.nil) ?_
          have hz0 : u4 l = 5 := (k92 hm (by omega) (by omega) (by assumption) (by omega))
          obtain ⟨hzI, hzN, hz1, hz2, hz3, hz4, hz5, hzB⟩ := sX (l := l) zo
          refine AW.ret ?_
          exact kC (.inr rfl) [] (P := (((nN l) : Int) = 0) ∧ ((.string (strOfNums (cN l)) : Value) = .string { data := #[] }) ∧ (((nS l) : Int) = 0) ∧ (((nR l) : Int) = 0) ∧ (((nQ l) : Int) = 0) ∧ (((nP l) : Int) = 0) ∧ (((nO l) : Int) = 0) ∧ (((qH (vL l)) : List D) = ([] : List D)) ∧ (((List.length (vL l)) : Nat) = 0) ∧ (((u4 l) : Int) = 5)) zk ⟨(by first | omega | rfl | exact hzN.symm | exact hzN | (rw [hzN]; done) | (rw [hzN]; rfl) | (rw [hzB]; done) | (rw [hzB]; rfl)), (by rw [hzN]; rfl), (by first | omega | rfl | exact hzN.symm | exact hzN | (rw [hzN]; done) | (rw [hzN]; rfl) | (rw [hzB]; done) | (rw [hzB]; rfl)), (by first | omega | rfl | exact hzN.symm | exact hzN | (rw [hzN]; done) | (rw [hzN]; rfl) | (rw [hzB]; done) | (rw [hzB]; rfl)), (by first | omega | rfl | exact hzN.symm | exact hzN | (rw [hzN]; done) | (rw [hzN]; rfl) | (rw [hzB]; done) | (rw [hzB]; rfl)), (by first | omega | rfl | exact hzN.symm | exact hzN | (rw [hzN]; done) | (rw [hzN]; rfl) | (rw [hzB]; done) | (rw [hzB]; rfl)), (by first | omega | rfl | exact hzN.symm | exact hzN | (rw [hzN]; done) | (rw [hzN]; rfl) | (rw [hzB]; done) | (rw [hzB]; rfl)), (by first | omega | rfl | exact hzN.symm | exact hzN | (rw [hzN]; done) | (rw [hzN]; rfl) | (rw [hzB]; done) | (rw [hzB]; rfl)), (by first | omega | rfl | exact hzN.symm | exact hzN | (rw [hzN]; done) | (rw [hzN]; rfl) | (rw [hzB]; done) | (rw [hzB]; rfl)), (by first | omega | rfl | exact hzN.symm | exact hzN | (rw [hzN]; done) | (rw [hzN]; rfl) | (rw [hzB]; done) | (rw [hzB]; rfl))⟩
        · by_cases hx14 : ((((kL (bI (List.take (m - 4) l) kY)) : Nat) : Int) ≠ (((m : Nat) : Int) - 4))
          · refine zr (kU 4 (.b false :: kU 6 [.b true, .no])) [2, 9, 54] [0, 2] ((¬ ((kT (bI (List.take (m - 4) l) kY)) ≠ 0)) ∧ (((((kL (bI (List.take (m - 4) l) kY)) : Nat) : Int) ≠ ((m : Int) - 4)))) [(2, rV 0 0), (9, rV 2 0), (54, bV true)] [(0, some (31, .ds [D.lit (.int .u64 0), D.lit (.string { data := #[] }), iD 0, iD 0, iD 0, iD 0, iD 0, qI])), (2, some (31, .ds [D.lit (.int .u64 (vJ (List.take (m - 4) l) kY)), D.lit (.string (strOfNums (yQ m l))), iD (((kV (List.take (m - 4) l) (iH (List.take (m - 4) l) kY)) : Nat) : Int), iD (((kV (List.take (m - 4) l) (iG (List.take (m - 4) l) kY)) : Nat) : Int), iD (u9 (List.take (m - 4) l) (iF (List.take (m - 4) l) kY)), iD (((kV (List.take (m - 4) l) (iB (List.take (m - 4) l) kY)) : Nat) : Int), iD (((kV (List.take (m - 4) l) (iA (List.take (m - 4) l) kY)) : Nat) : Int), D.sl (qH (yV (List.take (m - 4) l) (aK (List.take (m - 4) l) kY))) (List.length (yV (List.take (m - 4) l) (aK (List.take (m - 4) l) kY)))]))] 3 ⟨zo, zo⟩ ?_
            refine zt ?_
            refine kK [.no, .no, .no] True [(2, rV 0 0), (3, iV 5)] [(0, some (31, .ds [D.lit (.int .u64 0), D.lit (.string { data := #[] }), iD 0, iD 0, iD 0, iD 0, iD 0, qI]))] 3 trivial ?_
            refine aJ (l' := [(2, rV 0 0), (3, iV 5)]) (g' := [(0, some (31, .ds [D.lit (.int .u64 0), D.lit (.string { data := #[] }), iD 0, iD 0, iD 0, iD 0, iD 0, D.sl ([] : List D) 0]))]) (NlS.cons rfl (.same _) (NlS.cons rfl (.same _) NlS.nil)) (NlG.to (bc := .ds [D.lit (.int .u64 0), D.lit (.string { data := #[] }), iD 0, iD 0, iD 0, iD 0, iD 0, qI]) rfl (NlL.cons (.same _) (NlL.cons (.same _) (NlL.cons (.same _) (NlL.cons (.same _) (NlL.cons (.same _) (NlL.cons (.same _) (NlL.cons (.same _) (NlL.cons (.nil) NlL.nil)))))))) NlG.nil) ?_
            have hz0 : u4 l = 5 := (k92 hm (by omega) (by omega) (by assumption) (by omega))
            obtain ⟨hzI, hzN, hz1, hz2, hz3, hz4, hz5, hzB⟩ := sX (l := l) zo
            refine AW.ret ?_
            exact kC (.inr rfl) [] (P := (((nN l) : Int) = 0) ∧ ((.string (strOfNums (cN l)) : Value) = .string { data := #[] }) ∧ (((nS l) : Int) = 0) ∧ (((nR l) : Int) = 0) ∧ (((nQ l) : Int) = 0) ∧ (((nP l) : Int) = 0) ∧ (((nO l) : Int) = 0) ∧ (((qH (vL l)) : List D) = ([] : List D)) ∧ (((List.length (vL l)) : Nat) = 0) ∧ (((u4 l) : Int) = 5)) zk ⟨(by first | omega | rfl | exact hzN.symm | exact hzN | (rw [hzN]; done) | (rw [hzN]; rfl) | (rw [hzB]; done) | (rw [hzB]; rfl)), (by rw [hzN]; rfl), (by first | omega | rfl | exact hzN.symm | exact hzN | (rw [hzN]; done) | (rw [hzN]; rfl) | (rw [hzB]; done) | (rw [hzB]; rfl)), (by first | omega | rfl | exact hzN.symm | exact hzN | (rw [hzN]; done) | (rw [hzN]; rfl) | (rw [hzB]; done) | (rw [hzB]; rfl)), (by first | omega | rfl | exact hzN.symm | exact hzN | (rw [hzN]; done) | (rw [hzN]; rfl) | (rw [hzB]; done) | (rw [hzB]; rfl)), (by first | omega | rfl | exact hzN.symm | exact hzN | (rw [hzN]; done) | (rw [hzN]; rfl) | (rw [hzB]; done) | (rw [hzB]; rfl)), (by first | omega | rfl | exact hzN.symm | exact hzN | (rw [hzN]; done) | (rw [hzN]; rfl) | (rw [hzB]; done) | (rw [hzB]; rfl)), (by first | omega | rfl | exact hzN.symm | exact hzN | (rw [hzN]; done) | (rw [hzN]; rfl) | (rw [hzB]; done) | (rw [hzB]; rfl)), (by first | omega | rfl | exact hzN.symm | exact hzN | (rw [hzN]; done) | (rw [hzN]; rfl) | (rw [hzB]; done) | (rw [hzB]; rfl)), (by first | omega | rfl | exact hzN.symm | exact hzN | (rw [hzN]; done) | (rw [hzN]; rfl) | (rw [hzB]; done) | (rw [hzB]; rfl))⟩
          · refine zr (kU 4 (.b false :: kU 6 [.b false, .no])) [2, 9, 54] [0, 2] ((¬ ((kT (bI (List.take (m - 4) l) kY)) ≠ 0)) ∧ (¬ ((((kL (bI (List.take (m - 4) l) kY)) : Nat) : Int) ≠ ((m : Int) - 4)))) [(2, rV 0 0), (9, rV 2 0), (54, bV false)] [(0, some (31, .ds [D.lit (.int .u64 0), D.lit (.string { data := #[] }), iD 0, iD 0, iD 0, iD 0, iD 0, qI])), (2, some (31, .ds [D.lit (.int .u64 (vJ (List.take (m - 4) l) kY)), D.lit (.string (strOfNums (yQ m l))), iD (((kV (List.take (m - 4) l) (iH (List.take (m - 4) l) kY)) : Nat) : Int), iD (((kV (List.take (m - 4) l) (iG (List.take (m - 4) l) kY)) : Nat) : Int), iD (u9 (List.take (m - 4) l) (iF (List.take (m - 4) l) kY)), iD (((kV (List.take (m - 4) l) (iB (List.take (m - 4) l) kY)) : Nat) : Int), iD (((kV (List.take (m - 4) l) (iA (List.take (m - 4) l) kY)) : Nat) : Int), D.sl (qH (yV (List.take (m - 4) l) (aK (List.take (m - 4) l) kY))) (List.length (yV (List.take (m - 4) l) (aK (List.take (m - 4) l) kY)))]))] 3 ⟨zo, zo⟩ ?_
            refine yW ?_
            refine AW.seq ?_
            rcases Bool.eq_false_or_eq_true (cU (yQ m l) (((kV (List.take (m - 4) l) (iH (List.take (m - 4) l) kY)) : Nat) : Int) (((kV (List.take (m - 4) l) (iG (List.take (m - 4) l) kY)) : Nat) : Int) (u9 (List.take (m - 4) l) (iF (List.take (m - 4) l) kY)) (((kV (List.take (m - 4) l) (iB (List.take (m - 4) l) kY)) : Nat) : Int) (((kV (List.take (m - 4) l) (iA (List.take (m - 4) l) kY)) : Nat) : Int) (yV (List.take (m - 4) l) (aK (List.take (m - 4) l) kY))) with hx15 | hx15
            · refine zr [.no, .call [] (bV true) [] 0 [] none, .no] [2, 9, 58] [0, 2] (Fun 14 [.agg [.d (D.lit (.int .u64 (vJ (List.take (m - 4) l) kY))), .d (D.lit (.string (strOfNums (yQ m l)))), iC (((kV (List.take (m - 4) l) (iH (List.take (m - 4) l) kY)) : Nat) : Int), iC (((kV (List.take (m - 4) l) (iG (List.take (m - 4) l) kY)) : Nat) : Int), iC (u9 (List.take (m - 4) l) (iF (List.take (m - 4) l) kY)), iC (((kV (List.take (m - 4) l) (iB (List.take (m - 4) l) kY)) : Nat) : Int), iC (((kV (List.take (m - 4) l) (iA (List.take (m - 4) l) kY)) : Nat) : Int), .d (D.sl (qH (yV (List.take (m - 4) l) (aK (List.take (m - 4) l) kY))) (List.length (yV (List.take (m - 4) l) (aK (List.take (m - 4) l) kY))))]] (kG []) 0 (bV true) (kG []) 0) [(2, rV 0 0), (9, rV 2 0), (58, bV false)] [(0, some (31, .ds [D.lit (.int .u64 0), D.lit (.string { data := #[] }), iD 0, iD 0, iD 0, iD 0, iD 0, qI])), (2, some (31, .ds [D.lit (.int .u64 (vJ (List.take (m - 4) l) kY)), D.lit (.string (strOfNums (yQ m l))), iD (((kV (List.take (m - 4) l) (iH (List.take (m - 4) l) kY)) : Nat) : Int), iD (((kV (List.take (m - 4) l) (iG (List.take (m - 4) l) kY)) : Nat) : Int), iD (u9 (List.take (m - 4) l) (iF (List.take (m - 4) l) kY)), iD (((kV (List.take (m - 4) l) (iB (List.take (m - 4) l) kY)) : Nat) : Int), iD (((kV (List.take (m - 4) l) (iA (List.take (m - 4) l) kY)) : Nat) : Int), D.sl (qH (yV (List.take (m - 4) l) (aK (List.take (m - 4) l) kY))) (List.length (yV (List.take (m - 4) l) (aK (List.take (m - 4) l) kY)))]))] 3 (by have h0 := (fZ (vJ (List.take (m - 4) l) kY) (yQ m l) (((kV (List.take (m - 4) l) (iH (List.take (m - 4) l) kY)) : Nat) : Int) (((kV (List.take (m - 4) l) (iG (List.take (m - 4) l) kY)) : Nat) : Int) (u9 (List.take (m - 4) l) (iF (List.take (m - 4) l) kY)) (((kV (List.take (m - 4) l) (iB (List.take (m - 4) l) kY)) : Nat) : Int) (((kV (List.take (m - 4) l) (iA (List.take (m - 4) l) kY)) : Nat) : Int) (yV (List.take (m - 4) l) (aK (List.take (m - 4) l) kY)) (List.length (yV (List.take (m - 4) l) (aK (List.take (m - 4) l) kY))) (tJ (Byt.take (kS : Byt l) _) _) qV rfl qV (kS : BsW (yV (List.take (m - 4) l) (aK (List.take (m - 4) l) kY)))); rw [hx15] at h0; exact h0) ?_
              refine yW ?_
              refine kK [.no, .no, .no] True [(2, rV 0 0), (3, iV 0)] [(0, some (31, .ds [D.lit (.int .u64 (vJ (List.take (m - 4) l) kY)), D.lit (.string (strOfNums (yQ m l))), iD (((kV (List.take (m - 4) l) (iH (List.take (m - 4) l) kY)) : Nat) : Int), iD (((kV (List.take (m - 4) l) (iG (List.take (m - 4) l) kY)) : Nat) : Int), iD (u9 (List.take (m - 4) l) (iF (List.take (m - 4) l) kY)), iD (((kV (List.take (m - 4) l) (iB (List.take (m - 4) l) kY)) : Nat) : Int), iD (((kV (List.take (m - 4) l) (iA (List.take (m - 4) l) kY)) : Nat) : Int), D.sl (qH (yV (List.take (m - 4) l) (aK (List.take (m - 4) l) kY))) (List.length (yV (List.take (m - 4) l) (aK (List.take (m - 4) l) kY)))]))] 3 trivial ?_
              have hz0 : u4 l = 0 := (u3z hm (by omega) (by omega) (by assumption) (by omega) hx15)
              obtain ⟨hzI, hzN, hz1, hz2, hz3, hz4, hz5, hzB⟩ := u3y hm rfl hz0
              refine AW.ret ?_
              exact kC (.inr rfl) [] (P := (((nN l) : Int) = (vJ (List.take (m - 4) l) kY)) ∧ ((.string (strOfNums (cN l)) : Value) = .string (strOfNums (yQ m l))) ∧ (((nS l) : Int) = (((kV (List.take (m - 4) l) (iH (List.take (m - 4) l) kY)) : Nat) : Int)) ∧ (((nR l) : Int) = (((kV (List.take (m - 4) l) (iG (List.take (m - 4) l) kY)) : Nat) : Int)) ∧ (((nQ l) : Int) = (u9 (List.take (m - 4) l) (iF (List.take (m - 4) l) kY))) ∧ (((nP l) : Int) = (((kV (List.take (m - 4) l) (iB (List.take (m - 4) l) kY)) : Nat) : Int)) ∧ (((nO l) : Int) = (((kV (List.take (m - 4) l) (iA (List.take (m - 4) l) kY)) : Nat) : Int)) ∧ (((qH (vL l)) : List D) = (qH (yV (List.take (m - 4) l) (aK (List.take (m - 4) l) kY)))) ∧ (((List.length (vL l)) : Nat) = (List.length (yV (List.take (m - 4) l) (aK (List.take (m - 4) l) kY)))) ∧ (((u4 l) : Int) = 0)) zk ⟨(by first | omega | rfl | exact hzN.symm | exact hzN | (rw [hzN]; done) | (rw [hzN]; rfl) | (rw [hzB]; done) | (rw [hzB]; rfl)), (congrArg (fun x9 => Value.string (strOfNums x9)) (show (cN l) = (yQ m l) from (by first | omega | rfl | exact hzN.symm | exact hzN | (rw [hzN]; done) | (rw [hzN]; rfl) | (rw [hzB]; done) | (rw [hzB]; rfl)))), (by first | omega | rfl | exact hzN.symm | exact hzN | (rw [hzN]; done) | (rw [hzN]; rfl) | (rw [hzB]; done) | (rw [hzB]; rfl)), (by first | omega | rfl | exact hzN.symm | exact hzN | (rw [hzN]; done) | (rw [hzN]; rfl) | (rw [hzB]; done) | (rw [hzB]; rfl)), (by first | omega | rfl | exact hzN.symm | exact hzN | (rw [hzN]; done) | (rw [hzN]; rfl) | (rw [hzB]; done) | (rw [hzB]; rfl)), (by first | omega | rfl | exact hzN.symm | exact hzN | (rw [hzN]; done) | (rw [hzN]; rfl) | (rw [hzB]; done) | (rw [hzB]; rfl)), (by first | omega | rfl | exact hzN.symm | exact hzN | (rw [hzN]; done) | (rw [hzN]; rfl) | (rw [hzB]; done) | (rw [hzB]; rfl)), (by first | omega | rfl | exact hzN.symm | exact hzN | (rw [hzN]; done) | (rw [hzN]; rfl) | (rw [hzB]; done) | (rw [hzB]; rfl)), (by first | omega | rfl | exact hzN.symm | exact hzN | (rw [hzN]; done) | (rw [hzN]; rfl) | (rw [hzB]; done) | (rw [hzB]; rfl)), (by first | omega | rfl | exact hzN.symm | exact hzN | (rw [hzN]; done) | (rw [hzN]; rfl) | (rw [hzB]; done) | (rw [hzB]; rfl))⟩
            · refine zr [.no, .call [] (bV false) [] 0 [] none, .no] [2, 9, 58] [0, 2] (Fun 14 [.agg [.d (D.lit (.int .u64 (vJ (List.take (m - 4) l) kY))), .d (D.lit (.string (strOfNums (yQ m l)))), iC (((kV (List.take (m - 4) l) (iH (List.take (m - 4) l) kY)) : Nat) : Int), iC (((kV (List.take (m - 4) l) (iG (List.take (m - 4) l) kY)) : Nat) : Int), iC (u9 (List.take (m - 4) l) (iF (List.take (m - 4) l) kY)), iC (((kV (List.take (m - 4) l) (iB (List.take (m - 4) l) kY)) : Nat) : Int), iC (((kV (List.take (m - 4) l) (iA (List.take (m - 4) l) kY)) : Nat) : Int), .d (D.sl (qH (yV (List.take (m - 4) l) (aK (List.take (m - 4) l) kY))) (List.length (yV (List.take (m - 4) l) (aK (List.take (m - 4) l) kY))))]] (kG []) 0 (bV false) (kG []) 0) [(2, rV 0 0), (9, rV 2 0), (58, bV true)] [(0, some (31, .ds [D.lit (.int .u64 0), D.lit (.string { data := #[] }), iD 0, iD 0, iD 0, iD 0, iD 0, qI])), (2, some (31, .ds [D.lit (.int .u64 (vJ (List.take (m - 4) l) kY)), D.lit (.string (strOfNums (yQ m l))), iD (((kV (List.take (m - 4) l) (iH (List.take (m - 4) l) kY)) : Nat) : Int), iD (((kV (List.take (m - 4) l) (iG (List.take (m - 4) l) kY)) : Nat) : Int), iD (u9 (List.take (m - 4) l) (iF (List.take (m - 4) l) kY)), iD (((kV (List.take (m - 4) l) (iB (List.take (m - 4) l) kY)) : Nat) : Int), iD (((kV (List.take (m - 4) l) (iA (List.take (m - 4) l) kY)) : Nat) : Int), D.sl (qH (yV (List.take (m - 4) l) (aK (List.take (m - 4) l) kY))) (List.length (yV (List.take (m - 4) l) (aK (List.take (m - 4) l) kY)))]))] 3 (by have h0 := (fZ (vJ (List.take (m - 4) l) kY) (yQ m l) (((kV (List.take (m - 4) l) (iH (List.take (m - 4) l) kY)) : Nat) : Int) (((kV (List.take (m - 4) l) (iG (List.take (m - 4) l) kY)) : Nat) : Int) (u9 (List.take (m - 4) l) (iF (List.take (m - 4) l) kY)) (((kV (List.take (m - 4) l) (iB (List.take (m - 4) l) kY)) : Nat) : Int) (((kV (List.take (m - 4) l) (iA (List.take (m - 4) l) kY)) : Nat) : Int) (yV (List.take (m - 4) l) (aK (List.take (m - 4) l) kY)) (List.length (yV (List.take (m - 4) l) (aK (List.take (m - 4) l) kY))) (tJ (Byt.take (kS : Byt l) _) _) qV rfl qV (kS : BsW (yV (List.take (m - 4) l) (aK (List.take (m - 4) l) kY)))); rw [hx15] at h0; exact h0) ?_
              refine zt ?_
              refine kK [.no, .no, .no] True [(2, rV 0 0), (3, iV 1)] [(0, some (31, .ds [D.lit (.int .u64 0), D.lit (.string { data := #[] }), iD 0, iD 0, iD 0, iD 0, iD 0, qI]))] 3 trivial ?_
              refine aJ (l' := [(2, rV 0 0), (3, iV 1)]) (g' := [(0, some (31, .ds [D.lit (.int .u64 0), D.lit (.string { data := #[] }), iD 0, iD 0, iD 0, iD 0, iD 0, D.sl ([] : List D) 0]))]) (NlS.cons rfl (.same _) (NlS.cons rfl (.same _) NlS.nil)) (NlG.to (bc := .ds [D.lit (.int .u64 0), D.lit (.string { data := #[] }), iD 0, iD 0, iD 0, iD 0, iD 0, qI]) rfl (NlL.cons (.same _) (NlL.cons (.same _) (NlL.cons (.same _) (NlL.cons (.same _) (NlL.cons (.same _) (NlL.cons (.same _) (NlL.cons (.same _) (NlL.cons (.nil) NlL.nil)))))))) NlG.nil) ?_
              have hz0 : u4 l = 1 := (u40 hm (by omega) (by omega) (by assumption) (by omega) hx15)
              obtain ⟨hzI, hzN, hz1, hz2, hz3, hz4, hz5, hzB⟩ := sX (l := l) zo
              refine AW.ret ?_
              exact kC (.inr rfl) [] (P := (((nN l) : Int) = 0) ∧ ((.string (strOfNums (cN l)) : Value) = .string { data := #[] }) ∧ (((nS l) : Int) = 0) ∧ (((nR l) : Int) = 0) ∧ (((nQ l) : Int) = 0) ∧ (((nP l) : Int) = 0) ∧ (((nO l) : Int) = 0) ∧ (((qH (vL l)) : List D) = ([] : List D)) ∧ (((List.length (vL l)) : Nat) = 0) ∧ (((u4 l) : Int) = 1)) zk ⟨(by first | omega | rfl | exact hzN.symm | exact hzN | (rw [hzN]; done) | (rw [hzN]; rfl) | (rw [hzB]; done) | (rw [hzB]; rfl)), (by rw [hzN]; rfl), (by first | omega | rfl | exact hzN.symm | exact hzN | (rw [hzN]; done) | (rw [hzN]; rfl) | (rw [hzB]; done) | (rw [hzB]; rfl)), (by first | omega | rfl | exact hzN.symm | exact hzN | (rw [hzN]; done) | (rw [hzN]; rfl) | (rw [hzB]; done) | (rw [hzB]; rfl)), (by first | omega | rfl | exact hzN.symm | exact hzN | (rw [hzN]; done) | (rw [hzN]; rfl) | (rw [hzB]; done) | (rw [hzB]; rfl)), (by first | omega | rfl | exact hzN.symm | exact hzN | (rw [hzN]; done) | (rw [hzN]; rfl) | (rw [hzB]; done) | (rw [hzB]; rfl)), (by first | omega | rfl | exact hzN.symm | exact hzN | (rw [hzN]; done) | (rw [hzN]; rfl) | (rw [hzB]; done) | (rw [hzB]; rfl)), (by first | omega | rfl | exact hzN.symm | exact hzN | (rw [hzN]; done) | (rw [hzN]; rfl) | (rw [hzB]; done) | (rw [hzB]; rfl)), (by first | omega | rfl | exact hzN.symm | exact hzN | (rw [hzN]; done) | (rw [hzN]; rfl) | (rw [hzB]; done) | (rw [hzB]; rfl)), (by first | omega | rfl | exact hzN.symm | exact hzN | (rw [hzN]; done) | (rw [hzN]; rfl) | (rw [hzB]; done) | (rw [hzB]; rfl))⟩
      · refine zr [.no, .sls 0 4 4 (dI .u8 (List.take 4 l)), .st none (List.take 4 l), .b true] [0, 2, 4, 33] [0] ((kM 0) ∧ (kN 4) ∧ ((0 : Nat) ≤ 4) ∧ ((4 : Nat) ≤ m) ∧ ((4 : Nat) - 0 = 4) ∧ (List.take (4 * 1) (List.drop (0 * 1) (dI .u8 l)) = (dI .u8 (List.take 4 l))) ∧ ((dI .u8 (List.take 4 l)).length = 4 * 1) ∧ (k8 (dI .u8 (List.take 4 l))) ∧ ((!(ByteArray.toList (strOfNums (List.take 4 l)) == ByteArray.toList (ByteArray.mk #[83, 78, 68, 49]))) = true)) [(0, sV .u8 l m), (2, rV 0 0), (4, iV (↑m - 4)), (33, bV true)] [(0, some (31, .ds [D.lit (.int .u64 0), D.lit (.string { data := #[] }), iD 0, iD 0, iD 0, iD 0, iD 0, qI]))] 1 ⟨rfl, rfl, zo, zo, zo, gA, (by first | omega | (simp only [kR, kQ, pbL_len, qL, List.length_append, List.length_cons, List.length_nil, List.length_take, List.length_drop, List.length_replicate, List.length_set, List.length_map, List.length_reverse, Nat.mul_one] <;> omega) | rfl), rfl, (by rw [show (ByteArray.toList (strOfNums (List.take 4 l)) == ByteArray.toList (ByteArray.mk #[83, 78, 68, 49])) = false from (u1i (Byt.take (kS : Byt l) _) (by assumption))]; rfl)⟩ ?_
        refine zt ?_
        refine kK [.no, .no, .no] True [(2, rV 0 0), (3, iV 5)] [(0, some (31, .ds [D.lit (.int .u64 0), D.lit (.string { data := #[] }), iD 0, iD 0, iD 0, iD 0, iD 0, qI]))] 1 trivial ?_
        refine aJ (l' := [(2, rV 0 0), (3, iV 5)]) (g' := [(0, some (31, .ds [D.lit (.int .u64 0), D.lit (.string { data := #[] }), iD 0, iD 0, iD 0, iD 0, iD 0, D.sl ([] : List D) 0]))]) (NlS.cons rfl (.same _) (NlS.cons rfl (.same _) NlS.nil)) (NlG.to (bc := .ds [D.lit (.int .u64 0), D.lit (.string { data := #[] }), iD 0, iD 0, iD 0, iD 0, iD 0, qI]) rfl (NlL.cons (.same _) (NlL.cons (.same _) (NlL.cons (.same _) (NlL.cons (.same _) (NlL.cons (.same _) (NlL.cons (.same _) (NlL.cons (.same _) (NlL.cons (.nil) NlL.nil)))))))) NlG.nil) ?_
        have hz0 : u4 l = 5 := (u1v hm (by omega) (by omega) (by assumption))
        obtain ⟨hzI, hzN, hz1, hz2, hz3, hz4, hz5, hzB⟩ := sX (l := l) zo
        refine AW.ret ?_
        exact kC (.inr rfl) [] (P := (((nN l) : Int) = 0) ∧ ((.string (strOfNums (cN l)) : Value) = .string { data := #[] }) ∧ (((nS l) : Int) = 0) ∧ (((nR l) : Int) = 0) ∧ (((nQ l) : Int) = 0) ∧ (((nP l) : Int) = 0) ∧ (((nO l) : Int) = 0) ∧ (((qH (vL l)) : List D) = ([] : List D)) ∧ (((List.length (vL l)) : Nat) = 0) ∧ (((u4 l) : Int) = 5)) zk ⟨(by first | omega | rfl | exact hzN.symm | exact hzN | (rw [hzN]; done) | (rw [hzN]; rfl) | (rw [hzB]; done) | (rw [hzB]; rfl)), (by rw [hzN]; rfl), (by first | omega | rfl | exact hzN.symm | exact hzN | (rw [hzN]; done) | (rw [hzN]; rfl) | (rw [hzB]; done) | (rw [hzB]; rfl)), (by first | omega | rfl | exact hzN.symm | exact hzN | (rw [hzN]; done) | (rw [hzN]; rfl) | (rw [hzB]; done) | (rw [hzB]; rfl)), (by first | omega | rfl | exact hzN.symm | exact hzN | (rw [hzN]; done) | (rw [hzN]; rfl) | (rw [hzB]; done) | (rw [hzB]; rfl)), (by first | omega | rfl | exact hzN.symm | exact hzN | (rw [hzN]; done) | (rw [hzN]; rfl) | (rw [hzB]; done) | (rw [hzB]; rfl)), (by first | omega | rfl | exact hzN.symm | exact hzN | (rw [hzN]; done) | (rw [hzN]; rfl) | (rw [hzB]; done) | (rw [hzB]; rfl)), (by first | omega | rfl | exact hzN.symm | exact hzN | (rw [hzN]; done) | (rw [hzN]; rfl) | (rw [hzB]; done) | (rw [hzB]; rfl)), (by first | omega | rfl | exact hzN.symm | exact hzN | (rw [hzN]; done) | (rw [hzN]; rfl) | (rw [hzB]; done) | (rw [hzB]; rfl)), (by first | omega | rfl | exact hzN.symm | exact hzN | (rw [hzN]; done) | (rw [hzN]; rfl) | (rw [hzB]; done) | (rw [hzB]; rfl))⟩
end Go.Proofs.Ytalbpleglapihaa
