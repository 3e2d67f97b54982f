/- Names, descriptors. No statement is proved here. -/
import Derived.Test.YtdbjebdomdnbkaaGreatZD11C
namespace Go.Proofs.YtdbjebdomdnbkaaGreat
open Go.ChangeShapes Go.WideShapes Go.ChangeAt Go.RowKit
open Bool renaming and_eq_true → kb7, and_false → ke3, eq_false_or_eq_true → kb0
open List renaming drop → ka5, getD → ka0, getD_eq_getElem?_getD → ka8, getElem?_eq_getElem → ka9, length → ka1, length_append → ka4, length_cons → kb3, length_drop → kb9, length_map → kc8, length_nil → kb6, length_replicate → kb8, length_reverse → kc6, length_set → kc4, length_take → kb4, take → ka2
open Nat renaming le_of_ble_eq_true → ka3, mul_one → kd0
set_option linter.unusedVariables false
set_option linter.unusedSimpArgs false
set_option maxHeartbeats 4000000
set_option maxRecDepth 100000
theorem f0 {l : List Int} (h : ∀ j, j < l.length → 0 ≤ ka0 l j 0 ∧ ka0 l j 0 ≤ 255) {k : Nat} (hk : k < l.length) : dN (strOfNums l) (k : Int) = some (ka0 l k 0) := by
  have h9 := h k hk
  unfold dN
  rw [if_pos (by omega), strOfNums_data, Int.toNat_natCast, List.getElem?_map, ka9 hk]
  rw [ka8, ka9 hk, Option.getD_some] at *
  simp only [Option.map_some, UInt8.toNat_ofNat', Option.some.injEq]
  omega
theorem u07 {l : List Int} (h : l.length = 0) : (ByteArray.toList (strOfNums l) == ByteArray.toList (ByteArray.mk #[])) = true := by
  have : l = [] := List.length_eq_zero_iff.1 h
  subst this; rw [ByteArray.toList_eq, ByteArray.toList_eq]; rfl
theorem jQ {l : List Int} (h : ¬ l.length = 0) : (ByteArray.toList (strOfNums l) == ByteArray.toList (ByteArray.mk #[])) = false := by
  rw [beq_eq_false_iff_ne]
  intro e
  have e2 := congrArg ka1 e
  rw [ByteArray.toList_eq, ByteArray.toList_eq, strOfNums_data, kc8] at e2
  exact h (by rw [e2]; rfl)
/-! chapter 11: names, descriptors -/
theorem u3o {l : List Int} {p : Int → Bool} (h : ∀ j, j < l.length → p (ka0 l j 0) = true) : l.all p = true := by
  rw [List.all_eq_true]
  intro x hx
  obtain ⟨j, hj, e⟩ := List.mem_iff_getElem.1 hx
  have h1 := h j hj
  rw [ka8, ka9 hj] at h1
  rw [← e]; exact h1
theorem u3p {l : List Int} {p : Int → Bool} (h : l.all p = true) (j : Nat) (hj : j < l.length) : p (ka0 l j 0) = true := by
  rw [ka8, ka9 hj]
  exact List.all_eq_true.1 h _ (List.getElem_mem hj)
def l7 (x : Int) : Bool := decide ((97 ≤ x ∧ x ≤ 122) ∨ (65 ≤ x ∧ x ≤ 90))
def nG (x : Int) : Bool := decide (((97 ≤ x ∧ x ≤ 122) ∨ (65 ≤ x ∧ x ≤ 90)) ∨ (48 ≤ x ∧ x ≤ 57) ∨ x = 45 ∨ x = 46 ∨ x = 95)
theorem u0m {x : Int} (h : l7 x = true) : nG x = true := decide_eq_true (.inl (of_decide_eq_true h))
theorem tG {x : Int} (h : (48 ≤ x ∧ x ≤ 57) ∨ x = 45 ∨ x = 46 ∨ x = 95) : nG x = true := decide_eq_true (.inr h)
theorem k8f {x : Int} (h : l7 x = false) (h2 : ¬ ((48 ≤ x ∧ x ≤ 57) ∨ x = 45 ∨ x = 46 ∨ x = 95)) : nG x = false := decide_eq_false (fun h9 => h9.elim (of_decide_eq_false h) h2)
theorem u0l : ByteArray.mk #[83, 78, 68, 49] = strOfNums [83, 78, 68, 49] := by first | rfl | kernel_rfl
theorem u0j {a : List Int} (h : a = [83, 78, 68, 49]) : (ByteArray.toList (strOfNums a) == ByteArray.toList (ByteArray.mk #[83, 78, 68, 49])) = true := by rw [u0l]; exact u52 h
theorem u0k {a : List Int} (ha : Byt a) (h : ¬ a = [83, 78, 68, 49]) : (ByteArray.toList (strOfNums a) == ByteArray.toList (ByteArray.mk #[83, 78, 68, 49])) = false := by
  rw [u0l]; exact u53 ha (Byt.cons (by omega) (Byt.cons (by omega) (Byt.cons (by omega) (Byt.cons (by omega) Byt.nil)))) h
def u5 (l : List Int) : Bool := decide (1 ≤ l.length ∧ l.length ≤ 64) && l7 (ka0 l 0 0) && l.all nG
theorem k3h {l : List Int} (h : 1 ≤ l.length ∧ l.length ≤ 64) (h1 : l7 (ka0 l 0 0) = true) (h2 : ∀ j, j < l.length → nG (ka0 l j 0) = true) : u5 l = true := by unfold u5; rw [decide_eq_true h, h1, u3o h2]; rfl
theorem o5 {l : List Int} (h : ¬ (1 ≤ l.length ∧ l.length ≤ 64)) : u5 l = false := by unfold u5; rw [decide_eq_false h]; rfl
theorem k3j {l : List Int} (h : l7 (ka0 l 0 0) = false) : u5 l = false := by unfold u5; rw [h, ke3]; rfl
theorem xC {l : List Int} {k : Nat} (hk : k < l.length) (h : nG (ka0 l k 0) = false) : u5 l = false := by
  unfold u5
  rw [Bool.and_eq_false_iff]
  right
  cases e : l.all nG with
  | false => rfl
  | true => have := u3p e k hk; rw [h] at this; cases this
theorem k3i {l : List Int} (h : u5 l = true) : 1 ≤ l.length ∧ l.length ≤ 64 := by
  unfold u5 at h
  rw [kb7, kb7] at h
  exact of_decide_eq_true h.1.1
def vS (nm : List Int) (d1 d2 d3 d4 d5 : Int) (bs : List Bx) : Bool := u5 nm && (decide ((d1 = 1 ∨ d1 = 2) ∧ (0 ≤ d2 ∧ d2 ≤ 65535) ∧ (0 ≤ d3 ∧ d3 ≤ 1048576) ∧ (0 ≤ d4 ∧ d4 ≤ 2048) ∧ (0 ≤ d5 ∧ d5 ≤ 4096) ∧ 1 ≤ bs.length ∧ bs.length ≤ 8) && iP bs)
theorem u4k {nm : List Int} {d1 d2 d3 d4 d5 : Int} {bs : List Bx} (h : u5 nm = false) : vS nm d1 d2 d3 d4 d5 bs = false := by unfold vS; rw [h]; rfl
theorem y8 {nm : List Int} {d1 d2 d3 d4 d5 : Int} {bs : List Bx} (h : ¬ ((d1 = 1 ∨ d1 = 2) ∧ (0 ≤ d2 ∧ d2 ≤ 65535) ∧ (0 ≤ d3 ∧ d3 ≤ 1048576) ∧ (0 ≤ d4 ∧ d4 ≤ 2048) ∧ (0 ≤ d5 ∧ d5 ≤ 4096) ∧ 1 ≤ bs.length ∧ bs.length ≤ 8)) : vS nm d1 d2 d3 d4 d5 bs = false := by unfold vS; rw [decide_eq_false h, Bool.false_and, ke3]
theorem k7a {nm : List Int} {d1 d2 d3 d4 d5 : Int} {bs : List Bx} (h : iP bs = false) : vS nm d1 d2 d3 d4 d5 bs = false := by unfold vS; rw [h, ke3, ke3]
theorem k24 {nm : List Int} {d1 d2 d3 d4 d5 : Int} {bs : List Bx} (h0 : u5 nm = true) (h : (d1 = 1 ∨ d1 = 2) ∧ (0 ≤ d2 ∧ d2 ≤ 65535) ∧ (0 ≤ d3 ∧ d3 ≤ 1048576) ∧ (0 ≤ d4 ∧ d4 ≤ 2048) ∧ (0 ≤ d5 ∧ d5 ≤ 4096) ∧ 1 ≤ bs.length ∧ bs.length ≤ 8) (h2 : iP bs = true) : vS nm d1 d2 d3 d4 d5 bs = true := by unfold vS; rw [h0, decide_eq_true h, h2]; rfl
def dz1 (l : List Int) (u : RS) : RS := kE 8 l u
def gR (l : List Int) (u : RS) : RS := uA l (dz1 l u)
def gQ (l : List Int) (u : RS) : RS := kE 2 l (gR l u)
def gP (l : List Int) (u : RS) : RS := kE 2 l (gQ l u)
def gO (l : List Int) (u : RS) : RS := kE 4 l (gP l u)
def gN (l : List Int) (u : RS) : RS := kE 2 l (gO l u)
def bJ (l : List Int) (u : RS) : RS := kE 2 l (gN l u)
def cP (l : List Int) (u : RS) : RS := mM l (bJ l u)
theorem u3l {m : Nat} {l : List Int} {u : RS} (hm : l.length = m) (hu : kT u ≤ m) : kT (cP l u) ≤ m := k61 hm (yG hm (yG hm (yG hm (yG hm (yG hm (u01 hm (yG hm hu)))))))
def deV (l : List Int) : Bool := vS (aP l (dz1 l qE)) ((kK l (gR l qE) : Nat) : Int) ((kK l (gQ l qE) : Nat) : Int) (qU l (gP l qE)) ((kK l (gO l qE) : Nat) : Int) ((kK l (gN l qE) : Nat) : Int) (vD l (bJ l qE))
def qR (l : List Int) : Int :=
  if l.length < 8 then 4
  else if ¬ g32 l (l.length - 4) = kI (ka2 (l.length - 4) l) then 6
  else if ¬ ka2 4 l = [83, 78, 68, 49] then 5
  else if ¬ (qC (cP (ka2 (l.length - 4) l) qE) = 0 ∧ kT (cP (ka2 (l.length - 4) l) qE) = l.length - 4) then 5
  else if deV (ka2 (l.length - 4) l) = false then 1 else 0
theorem u3j {l : List Int} {m : Nat} (hm : l.length = m) (h : m < 8) : qR l = 4 := by subst hm; exact if_pos h
theorem u3k {l : List Int} {m : Nat} (hm : l.length = m) (h : ¬ m < 8) (h1 : ¬ g32 l (m - 4) = kI (ka2 (m - 4) l)) : qR l = 6 := by subst hm; unfold qR; rw [if_neg h, if_pos h1]
theorem u6t {l : List Int} {m : Nat} (hm : l.length = m) (h : ¬ m < 8) (h1 : g32 l (m - 4) = kI (ka2 (m - 4) l)) (h2 : ¬ ka2 4 l = [83, 78, 68, 49]) : qR l = 5 := by subst hm; unfold qR; rw [if_neg h, if_neg (not_not_intro h1), if_pos h2]
theorem k95 {l : List Int} {m : Nat} (hm : l.length = m) (h : ¬ m < 8) (h1 : g32 l (m - 4) = kI (ka2 (m - 4) l)) (h2 : ka2 4 l = [83, 78, 68, 49]) (h3 : ¬ (qC (cP (ka2 (m - 4) l) qE) = 0 ∧ kT (cP (ka2 (m - 4) l) qE) = m - 4)) : qR l = 5 := by subst hm; unfold qR; rw [if_neg h, if_neg (not_not_intro h1), if_neg (not_not_intro h2), if_pos h3]
theorem u6r {l : List Int} {m : Nat} (hm : l.length = m) (h : ¬ m < 8) (h1 : g32 l (m - 4) = kI (ka2 (m - 4) l)) (h2 : ka2 4 l = [83, 78, 68, 49]) (h3 : qC (cP (ka2 (m - 4) l) qE) = 0 ∧ kT (cP (ka2 (m - 4) l) qE) = m - 4) (h4 : deV (ka2 (m - 4) l) = false) : qR l = 1 := by subst hm; unfold qR; rw [if_neg h, if_neg (not_not_intro h1), if_neg (not_not_intro h2), if_neg (not_not_intro h3), if_pos h4]
theorem u6q {l : List Int} {m : Nat} (hm : l.length = m) (h : ¬ m < 8) (h1 : g32 l (m - 4) = kI (ka2 (m - 4) l)) (h2 : ka2 4 l = [83, 78, 68, 49]) (h3 : qC (cP (ka2 (m - 4) l) qE) = 0 ∧ kT (cP (ka2 (m - 4) l) qE) = m - 4) (h4 : deV (ka2 (m - 4) l) = true) : qR l = 0 := by subst hm; unfold qR; rw [if_neg h, if_neg (not_not_intro h1), if_neg (not_not_intro h2), if_neg (not_not_intro h3), if_neg (by rw [h4]; decide)]
theorem vQ (l : List Int) : 0 ≤ qR l ∧ qR l ≤ 6 := by unfold qR; repeat' split <;> omega
def wV (l : List Int) : List Int := ka2 (l.length - 4) l
def yK (l : List Int) : Int := if qR l = 0 then uW (wV l) qE else 0
def uX (l : List Int) : List Int := if qR l = 0 then aP (wV l) (dz1 (wV l) qE) else []
def yP (l : List Int) : Int := if qR l = 0 then ((kK (wV l) (gR (wV l) qE) : Nat) : Int) else 0
def yO (l : List Int) : Int := if qR l = 0 then ((kK (wV l) (gQ (wV l) qE) : Nat) : Int) else 0
def yN (l : List Int) : Int := if qR l = 0 then qU (wV l) (gP (wV l) qE) else 0
def yM (l : List Int) : Int := if qR l = 0 then ((kK (wV l) (gO (wV l) qE) : Nat) : Int) else 0
def yL (l : List Int) : Int := if qR l = 0 then ((kK (wV l) (gN (wV l) qE) : Nat) : Int) else 0
def qK (l : List Int) : List Bx := if qR l = 0 then vD (wV l) (bJ (wV l) qE) else []
theorem iA {l : List Int} (h : ¬ qR l = 0) : yK l = 0 ∧ uX l = [] ∧ yP l = 0 ∧ yO l = 0 ∧ yN l = 0 ∧ yM l = 0 ∧ yL l = 0 ∧ qK l = [] := ⟨if_neg h, if_neg h, if_neg h, if_neg h, if_neg h, if_neg h, if_neg h, if_neg h⟩
theorem u6p {l p : List Int} {m : Nat} (hm : l.length = m) (hp : ka2 (m - 4) l = p) (h : qR l = 0) : yK l = uW p qE ∧ uX l = aP p (dz1 p qE) ∧ yP l = ((kK p (gR p qE) : Nat) : Int) ∧ yO l = ((kK p (gQ p qE) : Nat) : Int) ∧ yN l = qU p (gP p qE) ∧ yM l = ((kK p (gO p qE) : Nat) : Int) ∧ yL l = ((kK p (gN p qE) : Nat) : Int) ∧ qK l = vD p (bJ p qE) := by
  subst hp; subst hm
  exact ⟨if_pos h, if_pos h, if_pos h, if_pos h, if_pos h, if_pos h, if_pos h, if_pos h⟩
theorem dG {l : List Int} (hy : Byt l) : BsW (qK l) := by
  unfold qK; split
  · exact k60 (hy.take _) _
  · exact BsW.nil
theorem vP {l : List Int} (hy : Byt l) : ka1 (qK l) ≤ 65535 := by
  unfold qK; split
  · exact pY (hy.take _) _
  · exact Nat.zero_le _
theorem aI {l : List Int} (hy : Byt l) : Byt (uX l) := by
  unfold uX; split
  · exact oF (hy.take _) _
  · exact Byt.nil
theorem vO (l : List Int) : ka1 (uX l) ≤ 64 := by
  unfold uX; split
  · exact oE _ _
  · exact Nat.zero_le _
attribute [local irreducible] qR yK uX yP yO yN yM yL qK kE uA aP kK qU uW yD eX bP aW dD mM vD kI
theorem jH {p : Prop} (h : p := by exact decide_eq_false (by omega)) : p := h
theorem gM (x : Int) (hx : 0 ≤ x ∧ x ≤ 255) : Fun 65 [.c (.d (D.lit (.int .u8 x)))] (kD []) 0 (kP (D.lit (.bool (l7 x)))) (kD []) 0 := by
  refine Fun.mk (n := 17) Tryz.func65 rfl rfl (ka3 rfl) ?_
  intro cx hcx
  refine kG [.no] True [(0, kP (D.lit (.int .u8 x)))] [] 0 trivial ?_
  by_cases hx1 : ((97 : Int) ≤ x)
  · by_cases hx2 : (x ≤ 122)
    · refine zr [.no, .b true, .no, .no, .b true, .no, .no, .no, .no] [2] [] ((((97 : Int) ≤ x)) ∧ ((x ≤ 122))) [(2, bV true)] [] 0 ⟨zo, zo⟩ ?_
      refine AW.ret ?_
      exact kB (.inr rfl) [] (P := ((l7 x) = true)) zk (by exact decide_eq_true zo)
    · refine zr [.no, .b true, .no, .no, .b false, .no, .no, .no, .b true, .no, .no, .b false, .no, .no, .no] [2] [] ((((97 : Int) ≤ x)) ∧ (¬ (x ≤ 122)) ∧ (((65 : Int) ≤ x)) ∧ (¬ (x ≤ 90))) [(2, bV false)] [] 0 ⟨zo, zo, zo, zo⟩ ?_
      refine AW.ret ?_
      exact kB (.inr rfl) [] (P := ((l7 x) = false)) zk jH
  · by_cases hx3 : ((65 : Int) ≤ x)
    · by_cases hx4 : (x ≤ 90)
      · refine zr (.no :: .b false :: kJ 4 [.b true, .no, .no, .b true, .no, .no, .no]) [2] [] ((¬ ((97 : Int) ≤ x)) ∧ (((65 : Int) ≤ x)) ∧ ((x ≤ 90))) [(2, bV true)] [] 0 ⟨zo, zo, zo⟩ ?_
        refine AW.ret ?_
        exact kB (.inr rfl) [] (P := ((l7 x) = true)) zk (by exact decide_eq_true zo)
      · refine zr (.no :: .b false :: kJ 4 [.b true, .no, .no, .b false, .no, .no, .no]) [2] [] ((¬ ((97 : Int) ≤ x)) ∧ (((65 : Int) ≤ x)) ∧ (¬ (x ≤ 90))) [(2, bV false)] [] 0 ⟨zo, zo, zo⟩ ?_
        refine AW.ret ?_
        exact kB (.inr rfl) [] (P := ((l7 x) = false)) zk jH
    · refine zr (.no :: .b false :: kJ 4 (.b false :: kJ 4 [])) [2] [] ((¬ ((97 : Int) ≤ x)) ∧ (¬ ((65 : Int) ≤ x))) [(2, bV false)] [] 0 ⟨zo, zo⟩ ?_
      refine AW.ret ?_
      exact kB (.inr rfl) [] (P := ((l7 x) = false)) zk jH
theorem u1g (x : Int) (hx : 0 ≤ x ∧ x ≤ 255) : Fun 66 [.c (.d (D.lit (.int .u8 x)))] (kD []) 0 (kP (D.lit (.bool (nG x)))) (kD []) 0 := by
  refine Fun.mk (n := 25) Tryz.func66 rfl rfl (ka3 rfl) ?_
  intro cx hcx
  refine kG [.no] True [(0, kP (D.lit (.int .u8 x)))] [] 0 trivial ?_
  rcases kb0 (l7 x) with hx1 | hx1
  · refine zr (.no :: .call [] (bV true) [] 0 [] none :: kJ 9 []) [2] [] (Fun 65 [.c (.d (D.lit (.int .u8 x)))] (kD []) 0 (bV true) (kD []) 0) [(2, bV true)] [] 0 (by have h0 := (gM x zo); rw [hx1] at h0; exact h0) ?_
    refine AW.ret ?_
    exact kB (.inr rfl) [] (P := ((nG x) = true)) zk (by exact u0m (by assumption))
  · by_cases hx2 : ((48 : Int) ≤ x)
    · by_cases hx3 : (x ≤ 57)
      · refine zr (.no :: .call [] (bV false) [] 0 [] none :: .no :: .no :: .b true :: .no :: .no :: .b true :: kJ 9 []) [2] [] ((Fun 65 [.c (.d (D.lit (.int .u8 x)))] (kD []) 0 (bV false) (kD []) 0) ∧ (((48 : Int) ≤ x)) ∧ ((x ≤ 57))) [(2, bV true)] [] 0 ⟨(by have h0 := (gM x zo); rw [hx1] at h0; exact h0), zo, zo⟩ ?_
        refine AW.ret ?_
        exact kB (.inr rfl) [] (P := ((nG x) = true)) zk (by exact tG zo)
      · by_cases hx4 : (x = 95)
        · refine zr [.no, .call [] (bV false) [] 0 [] none, .no, .no, .b true, .no, .no, .b false, .no, .no, .no, .no, .b false, .no, .no, .no, .b false, .no, .no, .no, .b true, .no, .no] [2] [] ((Fun 65 [.c (.d (D.lit (.int .u8 x)))] (kD []) 0 (bV false) (kD []) 0) ∧ (((48 : Int) ≤ x)) ∧ (¬ (x ≤ 57)) ∧ (¬ (x = 45)) ∧ (¬ (x = 46)) ∧ ((x = 95))) [(2, bV true)] [] 0 ⟨(by have h0 := (gM x zo); rw [hx1] at h0; exact h0), zo, zo, zo, zo, zo⟩ ?_
          refine AW.ret ?_
          exact kB (.inr rfl) [] (P := ((nG x) = true)) zk (by exact tG zo)
        · refine zr [.no, .call [] (bV false) [] 0 [] none, .no, .no, .b true, .no, .no, .b false, .no, .no, .no, .no, .b false, .no, .no, .no, .b false, .no, .no, .no, .b false, .no, .no] [2] [] ((Fun 65 [.c (.d (D.lit (.int .u8 x)))] (kD []) 0 (bV false) (kD []) 0) ∧ (((48 : Int) ≤ x)) ∧ (¬ (x ≤ 57)) ∧ (¬ (x = 45)) ∧ (¬ (x = 46)) ∧ (¬ (x = 95))) [(2, bV false)] [] 0 ⟨(by have h0 := (gM x zo); rw [hx1] at h0; exact h0), zo, zo, zo, zo, zo⟩ ?_
          refine AW.ret ?_
          exact kB (.inr rfl) [] (P := ((nG x) = false)) zk (by exact k8f (by assumption) zo)
    · by_cases hx5 : (x = 45)
      · refine zr (.no :: .call [] (bV false) [] 0 [] none :: .no :: .no :: .b false :: kJ 5 (.b true :: kJ 6 [])) [2] [] ((Fun 65 [.c (.d (D.lit (.int .u8 x)))] (kD []) 0 (bV false) (kD []) 0) ∧ (¬ ((48 : Int) ≤ x)) ∧ ((x = 45))) [(2, bV true)] [] 0 ⟨(by have h0 := (gM x zo); rw [hx1] at h0; exact h0), zo, zo⟩ ?_
        refine AW.ret ?_
        exact kB (.inr rfl) [] (P := ((nG x) = true)) zk (by exact tG zo)
      · by_cases hx6 : (x = 46)
        · refine zr (.no :: .call [] (bV false) [] 0 [] none :: .no :: .no :: .b false :: kJ 5 (.b false :: .no :: .no :: .no :: .b true :: kJ 4 [])) [2] [] ((Fun 65 [.c (.d (D.lit (.int .u8 x)))] (kD []) 0 (bV false) (kD []) 0) ∧ (¬ ((48 : Int) ≤ x)) ∧ (¬ (x = 45)) ∧ ((x = 46))) [(2, bV true)] [] 0 ⟨(by have h0 := (gM x zo); rw [hx1] at h0; exact h0), zo, zo, zo⟩ ?_
          refine AW.ret ?_
          exact kB (.inr rfl) [] (P := ((nG x) = true)) zk (by exact tG zo)
        · refine zr (.no :: .call [] (bV false) [] 0 [] none :: .no :: .no :: .b false :: kJ 5 [.b false, .no, .no, .no, .b false, .no, .no, .no, .b false, .no, .no]) [2] [] ((Fun 65 [.c (.d (D.lit (.int .u8 x)))] (kD []) 0 (bV false) (kD []) 0) ∧ (¬ ((48 : Int) ≤ x)) ∧ (¬ (x = 45)) ∧ (¬ (x = 46)) ∧ (¬ (x = 95))) [(2, bV false)] [] 0 ⟨(by have h0 := (gM x zo); rw [hx1] at h0; exact h0), zo, zo, zo, zo⟩ ?_
          refine AW.ret ?_
          exact kB (.inr rfl) [] (P := ((nG x) = false)) zk (by exact k8f (by assumption) zo)
theorem rL (l : List Int) (hy : Byt l) (hb : ka1 l ≤ 9223372036854775807) : Fun 42 [.c (.d (D.lit (.string (strOfNums l))))] (kD []) 0 (kP (D.lit (.bool (u5 l)))) (kD []) 0 := by
  refine Fun.mk (n := 28) Tryz.func42 rfl rfl (ka3 rfl) ?_
  intro cx hcx
  refine kG [.no] True [(0, kP (D.lit (.string (strOfNums l))))] [] 0 trivial ?_
  refine AW.seq ?_
  by_cases hx1 : ((ka1 l) = 0)
  · refine zr (.no :: .b true :: kJ 4 []) [0, 16] [] ((ByteArray.toList (strOfNums l) == ByteArray.toList (ByteArray.mk #[])) = true) [(0, kP (D.lit (.string (strOfNums l)))), (16, bV true)] [] 0 (u07 zo) ?_
    refine zt ?_
    refine kG [.no] True [(2, bV false)] [] 0 trivial ?_
    refine AW.ret ?_
    exact kB (.inr rfl) [] (P := ((u5 l) = false)) zk (by exact o5 zo)
  · by_cases hx2 : ((64 : Int) < (((ka1 l) : Nat) : Int))
    · refine zr [.no, .b false, .no, .no, .i (ka1 l : Int), .b true, .no, .no, .no] [0, 16] [] (((ByteArray.toList (strOfNums l) == ByteArray.toList (ByteArray.mk #[])) = false) ∧ ((ByteArray.size (strOfNums l) : Int) = ((ka1 l : Int) : Int)) ∧ (((64 : Int) < (ka1 l : Int)))) [(0, kP (D.lit (.string (strOfNums l)))), (16, bV true)] [] 0 ⟨(jQ zo), (by rw [strOfNums_size]), zo⟩ ?_
      refine zt ?_
      refine kG [.no] True [(2, bV false)] [] 0 trivial ?_
      refine AW.ret ?_
      exact kB (.inr rfl) [] (P := ((u5 l) = false)) zk (by exact o5 zo)
    · rcases kb0 (l7 (ka0 l 0 0)) with hx4 | hx4
      · have hx5 : 0 ≤ (ka0 l 0 0) ∧ (ka0 l 0 0) ≤ 255 := Byt.at (kL : Byt l) _ zo
        refine kG [.no, .b false, .no, .no, .i (ka1 l : Int), .b false, .no, .no, .no, .i (ka0 l 0 0), .call [] (bV true) [] 0 [] none, .no, .no] (((ByteArray.toList (strOfNums l) == ByteArray.toList (ByteArray.mk #[])) = false) ∧ ((ByteArray.size (strOfNums l) : Int) = ((ka1 l : Int) : Int)) ∧ (¬ ((64 : Int) < (ka1 l : Int))) ∧ (dN (strOfNums l) (0 : Int) = some ((ka0 l 0 0) : Int)) ∧ (Fun 65 [.c (.d (D.lit (.int .u8 (ka0 l 0 0))))] (kD []) 0 (bV true) (kD []) 0)) [(0, kP (D.lit (.string (strOfNums l)))), (16, bV false)] [] 0 ⟨(jQ zo), (by rw [strOfNums_size]), zo, (by have h9 := f0 (l := l) (Byt.at (kL : Byt l)) (k := 0) zo; exact h9), (by have h0 := (gM (ka0 l 0 0) zo); rw [hx4] at h0; exact h0)⟩ ?_
        refine uM ?_
        refine AW.seq ?_
        refine kV [.no, .i (ka1 l : Int), .no] ((ByteArray.size (strOfNums l) : Int) = ((ka1 l : Int) : Int)) [(0, kP (D.lit (.string (strOfNums l)))), (18, uV (ka1 l)), (19, iV 0)] (by rw [strOfNums_size]) ?_
        refine AW.block ?_
        refine kU 0 hcx (fun (x : {x : Nat // match x with | k => (k ≤ ka1 l) ∧ (∀ j, j < k → nG (ka0 l j 0) = true)}) => match x with | ⟨k, _⟩ => (⟨[(0, kP (D.lit (.string (strOfNums l)))), (18, uV (ka1 l)), (19, uV k)], [], 0⟩ : ES)) (fun x => match x with | ⟨k, _⟩ => ka1 l - k) ⟨(0 : Nat), ⟨zo, (fun j hj => absurd hj (Nat.not_lt_zero j))⟩⟩ [] (P := ((.string (strOfNums l) : Value) = .string (strOfNums l)) ∧ (kM (ka1 l : Int)) ∧ (kM 0)) zk ⟨rfl, rfl, rfl⟩ ?_
        rintro ⟨k, hinv0⟩
        obtain ⟨hk, ha⟩ : (k ≤ ka1 l) ∧ (∀ j, j < k → nG (ka0 l j 0) = true) := hinv0
        refine qV (l := [(0, kP (D.lit (.string (strOfNums l)))), (18, uV (ka1 l)), (19, uV k)]) (g := []) (nx := 0) rfl rfl rfl ?_
        by_cases hx6 : (((k : Nat) : Int) < (((ka1 l) : Nat) : Int))
        · refine zr [.b true] [0, 18, 19, 20] [] (((k : Int) < (ka1 l : Int))) [(0, kP (D.lit (.string (strOfNums l)))), (18, uV (ka1 l)), (19, uV k), (20, bV true)] [] 0 zo ?_
          refine AW.seq ?_
          refine u1 ?_
          refine AW.seq ?_
          refine AW.block ?_
          refine kG [.no, .no] True [(0, kP (D.lit (.string (strOfNums l)))), (3, uV k), (18, uV (ka1 l)), (19, uV k)] [] 0 trivial ?_
          rcases kb0 (nG (ka0 l k 0)) with hx8 | hx8
          · have hx9 : 0 ≤ (ka0 l k 0) ∧ (ka0 l k 0) ≤ 255 := Byt.at (kL : Byt l) _ zo
            refine kG [.no, .no, .i (ka0 l k 0), .call [] (bV true) [] 0 [] none, .no] ((dN (strOfNums l) ((k : Int) : Int) = some ((ka0 l k 0) : Int)) ∧ (Fun 66 [.c (.d (D.lit (.int .u8 (ka0 l k 0))))] (kD []) 0 (bV true) (kD []) 0)) [(0, kP (D.lit (.string (strOfNums l)))), (18, uV (ka1 l)), (19, uV k), (26, bV false)] [] 0 ⟨(by have h9 := f0 (l := l) (Byt.at (kL : Byt l)) (k := k) zo; exact h9), (by have h0 := (u1g (ka0 l k 0) zo); rw [hx8] at h0; exact h0)⟩ ?_
            refine uM ?_
            refine uG [.w, .no] (qB ((k : Int) + 1)) [(0, kP (D.lit (.string (strOfNums l)))), (18, uV (ka1 l)), (19, iV (↑k + 1))] ⟨by omega, by omega⟩ ?_
            exact qH ⟨((k + 1) : Nat), ⟨zo, (fun j hj => (Nat.lt_succ_iff_lt_or_eq.1 hj).elim (ha j) (fun e9 => by subst e9; assumption))⟩⟩ [] (P := ((.string (strOfNums l) : Value) = .string (strOfNums l)) ∧ (kM (ka1 l : Int)) ∧ (q1S k)) zk ⟨rfl, rfl, (by rfl)⟩ (show ka1 l - (k + 1) < ka1 l - k from zo)
          · have hx10 : 0 ≤ (ka0 l k 0) ∧ (ka0 l k 0) ≤ 255 := Byt.at (kL : Byt l) _ zo
            refine kG [.no, .no, .i (ka0 l k 0), .call [] (bV false) [] 0 [] none, .no] ((dN (strOfNums l) ((k : Int) : Int) = some ((ka0 l k 0) : Int)) ∧ (Fun 66 [.c (.d (D.lit (.int .u8 (ka0 l k 0))))] (kD []) 0 (bV false) (kD []) 0)) [(0, kP (D.lit (.string (strOfNums l)))), (18, uV (ka1 l)), (19, uV k), (26, bV true)] [] 0 ⟨(by have h9 := f0 (l := l) (Byt.at (kL : Byt l)) (k := k) zo; exact h9), (by have h0 := (u1g (ka0 l k 0) zo); rw [hx8] at h0; exact h0)⟩ ?_
            refine zt ?_
            refine kV [.no] True [(2, bV false)] trivial ?_
            refine AW.ret ?_
            exact kB (.inr rfl) [] (P := ((u5 l) = false)) zk (by exact xC (k := k) zo (by assumption))
        · refine zr [.b false] [0, 18, 19, 20] [] (¬ ((k : Int) < (ka1 l : Int))) [(0, kP (D.lit (.string (strOfNums l)))), (18, uV (ka1 l)), (19, uV k), (20, bV false)] [] 0 zo ?_
          refine AW.seq ?_
          refine zf ?_
          refine AW.exit ?_
          refine kG [.no] True [(2, bV true)] [] 0 trivial ?_
          refine AW.ret ?_
          exact kB (.inr rfl) [] (P := ((u5 l) = true)) zk (by exact k3h zo (by assumption) (fun j hj => ha j zo))
      · have hx11 : 0 ≤ (ka0 l 0 0) ∧ (ka0 l 0 0) ≤ 255 := Byt.at (kL : Byt l) _ zo
        refine kG [.no, .b false, .no, .no, .i (ka1 l : Int), .b false, .no, .no, .no, .i (ka0 l 0 0), .call [] (bV false) [] 0 [] none, .no, .no] (((ByteArray.toList (strOfNums l) == ByteArray.toList (ByteArray.mk #[])) = false) ∧ ((ByteArray.size (strOfNums l) : Int) = ((ka1 l : Int) : Int)) ∧ (¬ ((64 : Int) < (ka1 l : Int))) ∧ (dN (strOfNums l) (0 : Int) = some ((ka0 l 0 0) : Int)) ∧ (Fun 65 [.c (.d (D.lit (.int .u8 (ka0 l 0 0))))] (kD []) 0 (bV false) (kD []) 0)) [(0, kP (D.lit (.string (strOfNums l)))), (16, bV true)] [] 0 ⟨(jQ zo), (by rw [strOfNums_size]), zo, (by have h9 := f0 (l := l) (Byt.at (kL : Byt l)) (k := 0) zo; exact h9), (by have h0 := (gM (ka0 l 0 0) zo); rw [hx4] at h0; exact h0)⟩ ?_
        refine zt ?_
        refine kV [.no] True [(2, bV false)] trivial ?_
        refine AW.ret ?_
        exact kB (.inr rfl) [] (P := ((u5 l) = false)) zk (by exact k3j (by assumption))
theorem qQ (x y : Int)  : Fun 43 [iE x, iE y] (kD []) 0 (kP (D.lit (.bool (decide (0 ≤ x ∧ x ≤ y))))) (kD []) 0 := by
  refine Fun.mk (n := 12) Tryz.func43 rfl rfl (ka3 rfl) ?_
  intro cx hcx
  refine kG [.no] True [(0, iV x), (1, iV y)] [] 0 trivial ?_
  by_cases hx1 : ((0 : Int) ≤ x)
  · by_cases hx2 : (x ≤ y)
    · refine zr [.no, .b true, .no, .no, .no, .b true, .no, .no] [4] [] ((((0 : Int) ≤ x)) ∧ ((x ≤ y))) [(4, bV true)] [] 0 ⟨zo, zo⟩ ?_
      refine AW.ret ?_
      exact kB (.inr rfl) [] (P := ((decide (0 ≤ x ∧ x ≤ y)) = true)) zk (by exact decide_eq_true zo)
    · refine zr [.no, .b true, .no, .no, .no, .b false, .no, .no] [4] [] ((((0 : Int) ≤ x)) ∧ (¬ (x ≤ y))) [(4, bV false)] [] 0 ⟨zo, zo⟩ ?_
      refine AW.ret ?_
      exact kB (.inr rfl) [] (P := ((decide (0 ≤ x ∧ x ≤ y)) = false)) zk jH
  · refine zr [.no, .b false, .no, .no, .no] [4] [] (¬ ((0 : Int) ≤ x)) [(4, bV false)] [] 0 zo ?_
    refine AW.ret ?_
    exact kB (.inr rfl) [] (P := ((decide (0 ≤ x ∧ x ≤ y)) = false)) zk jH
theorem jE (id : Int) (nm : List Int) (d1 d2 d3 d4 d5 : Int) (bs : List Bx) (n : Nat) (hy : Byt nm) (hl : ka1 nm ≤ 1000000) (hn : ka1 bs = n) (h1 : n ≤ 1000000) (hW : BsW bs) : Fun 14 [.agg [.d (D.lit (.int .u64 id)), .d (D.lit (.string (strOfNums nm))), iC d1, iC d2, iC d3, iC d4, iC d5, .d (D.sl (kX bs) n)]] (kD []) 0 (kP (D.lit (.bool (vS nm d1 d2 d3 d4 d5 bs)))) (kD []) 0 := by
  refine Fun.mk (n := 54) Tryz.func14 rfl rfl (ka3 rfl) ?_
  intro cx hcx
  refine kG [.no, .no] True [(1, rV 0 0)] [(0, some (31, .ds [D.lit (.int .u64 id), D.lit (.string (strOfNums nm)), iD d1, iD d2, iD d3, iD d4, iD d5, D.sl (kX bs) n]))] 1 trivial ?_
  refine AW.seq ?_
  rcases kb0 (u5 nm) with hx1 | hx1
  · by_cases hx2 : (d1 ≠ 1)
    · by_cases hx3 : (d1 ≠ 2)
      · refine zr (.no :: .no :: .call [] (bV true) [] 0 [] none :: kJ 4 [.b true, .no, .no, .no, .b true, .no, .no]) [1, 16] [0] ((Fun 42 [.c (.d (D.lit (.string (strOfNums nm))))] (kD []) 0 (bV true) (kD []) 0) ∧ ((d1 ≠ 1)) ∧ ((d1 ≠ 2))) [(1, rV 0 0), (16, bV true)] [(0, some (31, .ds [D.lit (.int .u64 id), D.lit (.string (strOfNums nm)), iD d1, iD d2, iD d3, iD d4, iD d5, D.sl (kX bs) n]))] 1 ⟨(by have h0 := (rL nm (kL : Byt nm) zo); rw [hx1] at h0; exact h0), zo, zo⟩ ?_
        refine zt ?_
        refine kG [.no] True [(2, bV false)] [] 1 trivial ?_
        refine AW.ret ?_
        exact kB (.inr rfl) [] (P := ((vS nm d1 d2 d3 d4 d5 bs) = false)) zk (by exact y8 zo)
      · refine zr (.no :: .no :: .call [] (bV true) [] 0 [] none :: kJ 4 [.b true, .no, .no, .no, .b false, .no, .no]) [1, 16] [0] ((Fun 42 [.c (.d (D.lit (.string (strOfNums nm))))] (kD []) 0 (bV true) (kD []) 0) ∧ ((d1 ≠ 1)) ∧ (¬ (d1 ≠ 2))) [(1, rV 0 0), (16, bV false)] [(0, some (31, .ds [D.lit (.int .u64 id), D.lit (.string (strOfNums nm)), iD d1, iD d2, iD d3, iD d4, iD d5, D.sl (kX bs) n]))] 1 ⟨(by have h0 := (rL nm (kL : Byt nm) zo); rw [hx1] at h0; exact h0), zo, zo⟩ ?_
        refine uM ?_
        refine AW.seq ?_
        rcases kb0 (decide (0 ≤ d2 ∧ d2 ≤ 65535)) with hx4 | hx4
        · have hx5 : (((0 : Int) ≤ d2) ∧ (d2 ≤ 65535)) := of_decide_eq_true hx4
          rcases kb0 (decide (0 ≤ d3 ∧ d3 ≤ 1048576)) with hx6 | hx6
          · have hx7 : (((0 : Int) ≤ d3) ∧ (d3 ≤ 1048576)) := of_decide_eq_true hx6
            rcases kb0 (decide (0 ≤ d4 ∧ d4 ≤ 2048)) with hx8 | hx8
            · have hx9 : (((0 : Int) ≤ d4) ∧ (d4 ≤ 2048)) := of_decide_eq_true hx8
              rcases kb0 (decide (0 ≤ d5 ∧ d5 ≤ 4096)) with hx10 | hx10
              · have hx11 : (((0 : Int) ≤ d5) ∧ (d5 ≤ 4096)) := of_decide_eq_true hx10
                refine kG (.no :: .no :: .call [] (bV true) [] 0 [] none :: kJ 4 (.call [] (bV true) [] 0 [] none :: kJ 5 (.call [] (bV true) [] 0 [] none :: kJ 5 [.call [] (bV true) [] 0 [] none, .no, .no]))) ((Fun 43 [iE d2, iE 65535] (kD []) 0 (bV true) (kD []) 0) ∧ (Fun 43 [iE d3, iE 1048576] (kD []) 0 (bV true) (kD []) 0) ∧ (Fun 43 [iE d4, iE 2048] (kD []) 0 (bV true) (kD []) 0) ∧ (Fun 43 [iE d5, iE 4096] (kD []) 0 (bV true) (kD []) 0)) [(1, rV 0 0), (38, bV false)] [(0, some (31, .ds [D.lit (.int .u64 id), D.lit (.string (strOfNums nm)), iD d1, iD d2, iD d3, iD d4, iD d5, D.sl (kX bs) n]))] 1 ⟨(by have h0 := (qQ d2 65535); rw [hx4] at h0; exact h0), (by have h0 := (qQ d3 1048576); rw [hx6] at h0; exact h0), (by have h0 := (qQ d4 2048); rw [hx8] at h0; exact h0), (by have h0 := (qQ d5 4096); rw [hx10] at h0; exact h0)⟩ ?_
                refine uM ?_
                by_cases hx12 : ((1 : Int) ≤ ((n : Nat) : Int))
                · by_cases hx13 : (((n : Nat) : Int) ≤ 8)
                  · rcases kb0 (iP bs) with hx14 | hx14
                    · refine zr (.no :: .no :: .no :: .b true :: kJ 4 (.b true :: kJ 4 [.call [] (bV true) [] 0 [] none, .no, .no])) [2] [] ((((1 : Int) ≤ (n : Int))) ∧ (((n : Int) ≤ 8)) ∧ (Fun 44 [.c (.d (D.sl (kX bs) n))] (kD []) 0 (bV true) (kD []) 0)) [(2, bV true)] [] 1 ⟨zo, zo, (by have h0 := (jD bs n zo zo (kL : BsW bs)); rw [hx14] at h0; exact h0)⟩ ?_
                      refine AW.ret ?_
                      exact kB (.inr rfl) [] (P := ((vS nm d1 d2 d3 d4 d5 bs) = true)) zk (by exact k24 (by assumption) zo (by assumption))
                    · refine zr (.no :: .no :: .no :: .b true :: kJ 4 (.b true :: kJ 4 [.call [] (bV false) [] 0 [] none, .no, .no])) [2] [] ((((1 : Int) ≤ (n : Int))) ∧ (((n : Int) ≤ 8)) ∧ (Fun 44 [.c (.d (D.sl (kX bs) n))] (kD []) 0 (bV false) (kD []) 0)) [(2, bV false)] [] 1 ⟨zo, zo, (by have h0 := (jD bs n zo zo (kL : BsW bs)); rw [hx14] at h0; exact h0)⟩ ?_
                      refine AW.ret ?_
                      exact kB (.inr rfl) [] (P := ((vS nm d1 d2 d3 d4 d5 bs) = false)) zk (by exact k7a (by assumption))
                  · refine zr (.no :: .no :: .no :: .b true :: kJ 4 (.b false :: kJ 4 [])) [2] [] ((((1 : Int) ≤ (n : Int))) ∧ (¬ ((n : Int) ≤ 8))) [(2, bV false)] [] 1 ⟨zo, zo⟩ ?_
                    refine AW.ret ?_
                    exact kB (.inr rfl) [] (P := ((vS nm d1 d2 d3 d4 d5 bs) = false)) zk (by exact y8 zo)
                · refine zr (.no :: .no :: .no :: .b false :: kJ 5 []) [2] [] (¬ ((1 : Int) ≤ (n : Int))) [(2, bV false)] [] 1 zo ?_
                  refine AW.ret ?_
                  exact kB (.inr rfl) [] (P := ((vS nm d1 d2 d3 d4 d5 bs) = false)) zk (by exact y8 zo)
              · have hx15 : ¬ (((0 : Int) ≤ d5) ∧ (d5 ≤ 4096)) := of_decide_eq_false hx10
                refine kG (.no :: .no :: .call [] (bV true) [] 0 [] none :: kJ 4 (.call [] (bV true) [] 0 [] none :: kJ 5 (.call [] (bV true) [] 0 [] none :: kJ 5 [.call [] (bV false) [] 0 [] none, .no, .no]))) ((Fun 43 [iE d2, iE 65535] (kD []) 0 (bV true) (kD []) 0) ∧ (Fun 43 [iE d3, iE 1048576] (kD []) 0 (bV true) (kD []) 0) ∧ (Fun 43 [iE d4, iE 2048] (kD []) 0 (bV true) (kD []) 0) ∧ (Fun 43 [iE d5, iE 4096] (kD []) 0 (bV false) (kD []) 0)) [(1, rV 0 0), (38, bV true)] [(0, some (31, .ds [D.lit (.int .u64 id), D.lit (.string (strOfNums nm)), iD d1, iD d2, iD d3, iD d4, iD d5, D.sl (kX bs) n]))] 1 ⟨(by have h0 := (qQ d2 65535); rw [hx4] at h0; exact h0), (by have h0 := (qQ d3 1048576); rw [hx6] at h0; exact h0), (by have h0 := (qQ d4 2048); rw [hx8] at h0; exact h0), (by have h0 := (qQ d5 4096); rw [hx10] at h0; exact h0)⟩ ?_
                refine zt ?_
                refine kG [.no] True [(2, bV false)] [] 1 trivial ?_
                refine AW.ret ?_
                exact kB (.inr rfl) [] (P := ((vS nm d1 d2 d3 d4 d5 bs) = false)) zk (by exact y8 zo)
            · have hx16 : ¬ (((0 : Int) ≤ d4) ∧ (d4 ≤ 2048)) := of_decide_eq_false hx8
              refine kG (.no :: .no :: .call [] (bV true) [] 0 [] none :: kJ 4 (.call [] (bV true) [] 0 [] none :: kJ 5 (.call [] (bV false) [] 0 [] none :: kJ 4 []))) ((Fun 43 [iE d2, iE 65535] (kD []) 0 (bV true) (kD []) 0) ∧ (Fun 43 [iE d3, iE 1048576] (kD []) 0 (bV true) (kD []) 0) ∧ (Fun 43 [iE d4, iE 2048] (kD []) 0 (bV false) (kD []) 0)) [(1, rV 0 0), (38, bV true)] [(0, some (31, .ds [D.lit (.int .u64 id), D.lit (.string (strOfNums nm)), iD d1, iD d2, iD d3, iD d4, iD d5, D.sl (kX bs) n]))] 1 ⟨(by have h0 := (qQ d2 65535); rw [hx4] at h0; exact h0), (by have h0 := (qQ d3 1048576); rw [hx6] at h0; exact h0), (by have h0 := (qQ d4 2048); rw [hx8] at h0; exact h0)⟩ ?_
              refine zt ?_
              refine kG [.no] True [(2, bV false)] [] 1 trivial ?_
              refine AW.ret ?_
              exact kB (.inr rfl) [] (P := ((vS nm d1 d2 d3 d4 d5 bs) = false)) zk (by exact y8 zo)
          · have hx17 : ¬ (((0 : Int) ≤ d3) ∧ (d3 ≤ 1048576)) := of_decide_eq_false hx6
            refine kG (.no :: .no :: .call [] (bV true) [] 0 [] none :: kJ 4 (.call [] (bV false) [] 0 [] none :: kJ 6 [])) ((Fun 43 [iE d2, iE 65535] (kD []) 0 (bV true) (kD []) 0) ∧ (Fun 43 [iE d3, iE 1048576] (kD []) 0 (bV false) (kD []) 0)) [(1, rV 0 0), (38, bV true)] [(0, some (31, .ds [D.lit (.int .u64 id), D.lit (.string (strOfNums nm)), iD d1, iD d2, iD d3, iD d4, iD d5, D.sl (kX bs) n]))] 1 ⟨(by have h0 := (qQ d2 65535); rw [hx4] at h0; exact h0), (by have h0 := (qQ d3 1048576); rw [hx6] at h0; exact h0)⟩ ?_
            refine zt ?_
            refine kG [.no] True [(2, bV false)] [] 1 trivial ?_
            refine AW.ret ?_
            exact kB (.inr rfl) [] (P := ((vS nm d1 d2 d3 d4 d5 bs) = false)) zk (by exact y8 zo)
        · have hx18 : ¬ (((0 : Int) ≤ d2) ∧ (d2 ≤ 65535)) := of_decide_eq_false hx4
          refine kG (.no :: .no :: .call [] (bV false) [] 0 [] none :: kJ 7 []) (Fun 43 [iE d2, iE 65535] (kD []) 0 (bV false) (kD []) 0) [(1, rV 0 0), (38, bV true)] [(0, some (31, .ds [D.lit (.int .u64 id), D.lit (.string (strOfNums nm)), iD d1, iD d2, iD d3, iD d4, iD d5, D.sl (kX bs) n]))] 1 (by have h0 := (qQ d2 65535); rw [hx4] at h0; exact h0) ?_
          refine zt ?_
          refine kG [.no] True [(2, bV false)] [] 1 trivial ?_
          refine AW.ret ?_
          exact kB (.inr rfl) [] (P := ((vS nm d1 d2 d3 d4 d5 bs) = false)) zk (by exact y8 zo)
    · refine zr (.no :: .no :: .call [] (bV true) [] 0 [] none :: kJ 4 [.b false, .no, .no, .no]) [1, 16] [0] ((Fun 42 [.c (.d (D.lit (.string (strOfNums nm))))] (kD []) 0 (bV true) (kD []) 0) ∧ (¬ (d1 ≠ 1))) [(1, rV 0 0), (16, bV false)] [(0, some (31, .ds [D.lit (.int .u64 id), D.lit (.string (strOfNums nm)), iD d1, iD d2, iD d3, iD d4, iD d5, D.sl (kX bs) n]))] 1 ⟨(by have h0 := (rL nm (kL : Byt nm) zo); rw [hx1] at h0; exact h0), zo⟩ ?_
      refine uM ?_
      refine AW.seq ?_
      rcases kb0 (decide (0 ≤ d2 ∧ d2 ≤ 65535)) with hx19 | hx19
      · have hx20 : (((0 : Int) ≤ d2) ∧ (d2 ≤ 65535)) := of_decide_eq_true hx19
        rcases kb0 (decide (0 ≤ d3 ∧ d3 ≤ 1048576)) with hx21 | hx21
        · have hx22 : (((0 : Int) ≤ d3) ∧ (d3 ≤ 1048576)) := of_decide_eq_true hx21
          rcases kb0 (decide (0 ≤ d4 ∧ d4 ≤ 2048)) with hx23 | hx23
          · have hx24 : (((0 : Int) ≤ d4) ∧ (d4 ≤ 2048)) := of_decide_eq_true hx23
            rcases kb0 (decide (0 ≤ d5 ∧ d5 ≤ 4096)) with hx25 | hx25
            · have hx26 : (((0 : Int) ≤ d5) ∧ (d5 ≤ 4096)) := of_decide_eq_true hx25
              refine kG (.no :: .no :: .call [] (bV true) [] 0 [] none :: kJ 4 (.call [] (bV true) [] 0 [] none :: kJ 5 (.call [] (bV true) [] 0 [] none :: kJ 5 [.call [] (bV true) [] 0 [] none, .no, .no]))) ((Fun 43 [iE d2, iE 65535] (kD []) 0 (bV true) (kD []) 0) ∧ (Fun 43 [iE d3, iE 1048576] (kD []) 0 (bV true) (kD []) 0) ∧ (Fun 43 [iE d4, iE 2048] (kD []) 0 (bV true) (kD []) 0) ∧ (Fun 43 [iE d5, iE 4096] (kD []) 0 (bV true) (kD []) 0)) [(1, rV 0 0), (38, bV false)] [(0, some (31, .ds [D.lit (.int .u64 id), D.lit (.string (strOfNums nm)), iD d1, iD d2, iD d3, iD d4, iD d5, D.sl (kX bs) n]))] 1 ⟨(by have h0 := (qQ d2 65535); rw [hx19] at h0; exact h0), (by have h0 := (qQ d3 1048576); rw [hx21] at h0; exact h0), (by have h0 := (qQ d4 2048); rw [hx23] at h0; exact h0), (by have h0 := (qQ d5 4096); rw [hx25] at h0; exact h0)⟩ ?_
              refine uM ?_
              by_cases hx27 : ((1 : Int) ≤ ((n : Nat) : Int))
              · by_cases hx28 : (((n : Nat) : Int) ≤ 8)
                · rcases kb0 (iP bs) with hx29 | hx29
                  · refine zr (.no :: .no :: .no :: .b true :: kJ 4 (.b true :: kJ 4 [.call [] (bV true) [] 0 [] none, .no, .no])) [2] [] ((((1 : Int) ≤ (n : Int))) ∧ (((n : Int) ≤ 8)) ∧ (Fun 44 [.c (.d (D.sl (kX bs) n))] (kD []) 0 (bV true) (kD []) 0)) [(2, bV true)] [] 1 ⟨zo, zo, (by have h0 := (jD bs n zo zo (kL : BsW bs)); rw [hx29] at h0; exact h0)⟩ ?_
                    refine AW.ret ?_
                    exact kB (.inr rfl) [] (P := ((vS nm d1 d2 d3 d4 d5 bs) = true)) zk (by exact k24 (by assumption) zo (by assumption))
                  · refine zr (.no :: .no :: .no :: .b true :: kJ 4 (.b true :: kJ 4 [.call [] (bV false) [] 0 [] none, .no, .no])) [2] [] ((((1 : Int) ≤ (n : Int))) ∧ (((n : Int) ≤ 8)) ∧ (Fun 44 [.c (.d (D.sl (kX bs) n))] (kD []) 0 (bV false) (kD []) 0)) [(2, bV false)] [] 1 ⟨zo, zo, (by have h0 := (jD bs n zo zo (kL : BsW bs)); rw [hx29] at h0; exact h0)⟩ ?_
                    refine AW.ret ?_
                    exact kB (.inr rfl) [] (P := ((vS nm d1 d2 d3 d4 d5 bs) = false)) zk (by exact k7a (by assumption))
                · refine zr (.no :: .no :: .no :: .b true :: kJ 4 (.b false :: kJ 4 [])) [2] [] ((((1 : Int) ≤ (n : Int))) ∧ (¬ ((n : Int) ≤ 8))) [(2, bV false)] [] 1 ⟨zo, zo⟩ ?_
                  refine AW.ret ?_
                  exact kB (.inr rfl) [] (P := ((vS nm d1 d2 d3 d4 d5 bs) = false)) zk (by exact y8 zo)
              · refine zr (.no :: .no :: .no :: .b false :: kJ 5 []) [2] [] (¬ ((1 : Int) ≤ (n : Int))) [(2, bV false)] [] 1 zo ?_
                refine AW.ret ?_
                exact kB (.inr rfl) [] (P := ((vS nm d1 d2 d3 d4 d5 bs) = false)) zk (by exact y8 zo)
            · have hx30 : ¬ (((0 : Int) ≤ d5) ∧ (d5 ≤ 4096)) := of_decide_eq_false hx25
              refine kG (.no :: .no :: .call [] (bV true) [] 0 [] none :: kJ 4 (.call [] (bV true) [] 0 [] none :: kJ 5 (.call [] (bV true) [] 0 [] none :: kJ 5 [.call [] (bV false) [] 0 [] none, .no, .no]))) ((Fun 43 [iE d2, iE 65535] (kD []) 0 (bV true) (kD []) 0) ∧ (Fun 43 [iE d3, iE 1048576] (kD []) 0 (bV true) (kD []) 0) ∧ (Fun 43 [iE d4, iE 2048] (kD []) 0 (bV true) (kD []) 0) ∧ (Fun 43 [iE d5, iE 4096] (kD []) 0 (bV false) (kD []) 0)) [(1, rV 0 0), (38, bV true)] [(0, some (31, .ds [D.lit (.int .u64 id), D.lit (.string (strOfNums nm)), iD d1, iD d2, iD d3, iD d4, iD d5, D.sl (kX bs) n]))] 1 ⟨(by have h0 := (qQ d2 65535); rw [hx19] at h0; exact h0), (by have h0 := (qQ d3 1048576); rw [hx21] at h0; exact h0), (by have h0 := (qQ d4 2048); rw [hx23] at h0; exact h0), (by have h0 := (qQ d5 4096); rw [hx25] at h0; exact h0)⟩ ?_
              refine zt ?_
              refine kG [.no] True [(2, bV false)] [] 1 trivial ?_
              refine AW.ret ?_
              exact kB (.inr rfl) [] (P := ((vS nm d1 d2 d3 d4 d5 bs) = false)) zk (by exact y8 zo)
          · have hx31 : ¬ (((0 : Int) ≤ d4) ∧ (d4 ≤ 2048)) := of_decide_eq_false hx23
            refine kG (.no :: .no :: .call [] (bV true) [] 0 [] none :: kJ 4 (.call [] (bV true) [] 0 [] none :: kJ 5 (.call [] (bV false) [] 0 [] none :: kJ 4 []))) ((Fun 43 [iE d2, iE 65535] (kD []) 0 (bV true) (kD []) 0) ∧ (Fun 43 [iE d3, iE 1048576] (kD []) 0 (bV true) (kD []) 0) ∧ (Fun 43 [iE d4, iE 2048] (kD []) 0 (bV false) (kD []) 0)) [(1, rV 0 0), (38, bV true)] [(0, some (31, .ds [D.lit (.int .u64 id), D.lit (.string (strOfNums nm)), iD d1, iD d2, iD d3, iD d4, iD d5, D.sl (kX bs) n]))] 1 ⟨(by have h0 := (qQ d2 65535); rw [hx19] at h0; exact h0), (by have h0 := (qQ d3 1048576); rw [hx21] at h0; exact h0), (by have h0 := (qQ d4 2048); rw [hx23] at h0; exact h0)⟩ ?_
            refine zt ?_
            refine kG [.no] True [(2, bV false)] [] 1 trivial ?_
            refine AW.ret ?_
            exact kB (.inr rfl) [] (P := ((vS nm d1 d2 d3 d4 d5 bs) = false)) zk (by exact y8 zo)
        · have hx32 : ¬ (((0 : Int) ≤ d3) ∧ (d3 ≤ 1048576)) := of_decide_eq_false hx21
          refine kG (.no :: .no :: .call [] (bV true) [] 0 [] none :: kJ 4 (.call [] (bV false) [] 0 [] none :: kJ 6 [])) ((Fun 43 [iE d2, iE 65535] (kD []) 0 (bV true) (kD []) 0) ∧ (Fun 43 [iE d3, iE 1048576] (kD []) 0 (bV false) (kD []) 0)) [(1, rV 0 0), (38, bV true)] [(0, some (31, .ds [D.lit (.int .u64 id), D.lit (.string (strOfNums nm)), iD d1, iD d2, iD d3, iD d4, iD d5, D.sl (kX bs) n]))] 1 ⟨(by have h0 := (qQ d2 65535); rw [hx19] at h0; exact h0), (by have h0 := (qQ d3 1048576); rw [hx21] at h0; exact h0)⟩ ?_
          refine zt ?_
          refine kG [.no] True [(2, bV false)] [] 1 trivial ?_
          refine AW.ret ?_
          exact kB (.inr rfl) [] (P := ((vS nm d1 d2 d3 d4 d5 bs) = false)) zk (by exact y8 zo)
      · have hx33 : ¬ (((0 : Int) ≤ d2) ∧ (d2 ≤ 65535)) := of_decide_eq_false hx19
        refine kG (.no :: .no :: .call [] (bV false) [] 0 [] none :: kJ 7 []) (Fun 43 [iE d2, iE 65535] (kD []) 0 (bV false) (kD []) 0) [(1, rV 0 0), (38, bV true)] [(0, some (31, .ds [D.lit (.int .u64 id), D.lit (.string (strOfNums nm)), iD d1, iD d2, iD d3, iD d4, iD d5, D.sl (kX bs) n]))] 1 (by have h0 := (qQ d2 65535); rw [hx19] at h0; exact h0) ?_
        refine zt ?_
        refine kG [.no] True [(2, bV false)] [] 1 trivial ?_
        refine AW.ret ?_
        exact kB (.inr rfl) [] (P := ((vS nm d1 d2 d3 d4 d5 bs) = false)) zk (by exact y8 zo)
  · refine zr [.no, .no, .call [] (bV false) [] 0 [] none, .no, .no, .no] [1, 16] [0] (Fun 42 [.c (.d (D.lit (.string (strOfNums nm))))] (kD []) 0 (bV false) (kD []) 0) [(1, rV 0 0), (16, bV true)] [(0, some (31, .ds [D.lit (.int .u64 id), D.lit (.string (strOfNums nm)), iD d1, iD d2, iD d3, iD d4, iD d5, D.sl (kX bs) n]))] 1 (by have h0 := (rL nm (kL : Byt nm) zo); rw [hx1] at h0; exact h0) ?_
    refine zt ?_
    refine kG [.no] True [(2, bV false)] [] 1 trivial ?_
    refine AW.ret ?_
    exact kB (.inr rfl) [] (P := ((vS nm d1 d2 d3 d4 d5 bs) = false)) zk (by exact u4k (by assumption))
abbrev wM (l : List Int) (m : Nat) (u : RS) : BC := .ds [D.sl (dI .u8 l) m, iD (((kT (mM l (kE 2 l (kE 2 l (kE 4 l (kE 2 l (kE 2 l (uA l (kE 8 l u))))))))) : Nat) : Int), iD (qC (mM l (kE 2 l (kE 2 l (kE 4 l (kE 2 l (kE 2 l (uA l (kE 8 l u)))))))))]
theorem u3y (l : List Int) (m : Nat) (u : RS) (hm : ka1 l = m) (hb : m ≤ 1000000) (hy : Byt l) (hu : kT u ≤ m) : Fun 26 [.c (.ptr 0 0)] (kD [(0, some (62, .ds [D.sl (dI .u8 l) m, iD (((kT u) : Nat) : Int), iD (qC u)]))]) 1 (.e (.agg [.d (D.lit (.int .u64 (uW l u))), .d (D.lit (.string (strOfNums (aP l (dz1 l u))))), iC (((kK l (gR l u)) : Nat) : Int), iC (((kK l (gQ l u)) : Nat) : Int), iC (qU l (gP l u)), iC (((kK l (gO l u)) : Nat) : Int), iC (((kK l (gN l u)) : Nat) : Int), .d (D.sl (kX (vD l (bJ l u))) (ka1 (vD l (bJ l u))))])) (kD [(0, some (62, .ds [D.sl (dI .u8 l) m, iD (((kT (cP l u)) : Nat) : Int), iD (qC (cP l u))]))]) 1 := by
  refine Fun.mk (n := 29) Tryz.func26 rfl rfl (ka3 rfl) ?_
  intro cx hcx
  refine kG [.no] True [(0, rV 0 0), (2, rV 1 0)] [(0, some (62, .ds [db l m, uD (kT u), iD (qC u)])), (1, some (31, .ds [D.lit (.int .u64 0), D.lit (.string { data := #[] }), iD 0, iD 0, iD 0, iD 0, iD 0, k9]))] 2 trivial ?_
  have hx1 : ((kT (kE 8 l u)) ≤ m) := (yG (zo) (zo))
  have hx2 : (((0 : Int) ≤ (uW l u)) ∧ ((uW l u) ≤ 18446744073709551615)) := (oD (kL : Byt l) u)
  refine kG [.no, .call [0] (kP (D.lit (.int .u64 (uW l u)))) [(0, some (62, .ds [db l m, uD (kT (kE 8 l u)), iD (qC (kE 8 l u))]))] 1 [] none, .no, .no, .no] _ [(0, rV 0 0), (2, rV 1 0), (3, rV 2 0)] [(0, some (62, .ds [db l m, uD (kT (kE 8 l u)), iD (qC (kE 8 l u))])), (1, some (31, .ds [D.lit (.int .u64 0), D.lit (.string { data := #[] }), iD 0, iD 0, iD 0, iD 0, iD 0, k9])), (2, some (31, .ds [D.lit (.int .u64 (uW l u)), D.lit (.string { data := #[] }), iD 0, iD 0, iD 0, iD 0, iD 0, k9]))] 3 (k9k l m u zo zo (kL : Byt l) zo) ?_
  have hx3 : ((kT (uA l (kE 8 l u))) ≤ m) := (u01 (zo) (zo))
  have hx4 : ((ka1 (aP l (kE 8 l u))) ≤ 64) := (oE _ _)
  refine kG [.no, .call [0] (kP (D.lit (.string (strOfNums (aP l (kE 8 l u)))))) [(0, some (62, .ds [db l m, uD (kT (uA l (kE 8 l u))), iD (qC (uA l (kE 8 l u)))]))] 1 [] none, .no, .no] _ [(0, rV 0 0), (2, rV 1 0), (3, rV 2 0)] [(0, some (62, .ds [db l m, uD (kT (uA l (kE 8 l u))), iD (qC (uA l (kE 8 l u)))])), (1, some (31, .ds [D.lit (.int .u64 0), D.lit (.string { data := #[] }), iD 0, iD 0, iD 0, iD 0, iD 0, k9])), (2, some (31, .ds [D.lit (.int .u64 (uW l u)), D.lit (.string (strOfNums (aP l (kE 8 l u)))), iD 0, iD 0, iD 0, iD 0, iD 0, k9]))] 3 (u3v l m (kE 8 l u) zo zo (kL : Byt l) zo) ?_
  have hx5 : ((kT (kE 2 l (uA l (kE 8 l u)))) ≤ m) := (yG (zo) (zo))
  have hx6 : ((kK l (uA l (kE 8 l u))) ≤ 65535) := (qY (kL : Byt l) (uA l (kE 8 l u)))
  refine kG [.no, .call [0] (uV (kK l (uA l (kE 8 l u)))) [(0, some (62, .ds [db l m, iD (kT (kE 2 l (uA l (kE 8 l u))) : Int), iD (qC (kE 2 l (uA l (kE 8 l u))))]))] 1 [] none, .no, .no] _ [(0, rV 0 0), (2, rV 1 0), (3, rV 2 0)] [(0, some (62, .ds [db l m, iD (kT (kE 2 l (uA l (kE 8 l u))) : Int), iD (qC (kE 2 l (uA l (kE 8 l u))))])), (1, some (31, .ds [D.lit (.int .u64 0), D.lit (.string { data := #[] }), iD 0, iD 0, iD 0, iD 0, iD 0, k9])), (2, some (31, .ds [D.lit (.int .u64 (uW l u)), D.lit (.string (strOfNums (aP l (kE 8 l u)))), uD (kK l (uA l (kE 8 l u))), iD 0, iD 0, iD 0, iD 0, k9]))] 3 (aL l m (uA l (kE 8 l u)) zo zo (kL : Byt l) zo) ?_
  have hx7 : ((kT (kE 2 l (kE 2 l (uA l (kE 8 l u))))) ≤ m) := (yG (zo) (zo))
  have hx8 : ((kK l (kE 2 l (uA l (kE 8 l u)))) ≤ 65535) := (qY (kL : Byt l) (kE 2 l (uA l (kE 8 l u))))
  refine kG [.no, .call [0] (iV (kK l (kE 2 l (uA l (kE 8 l u))) : Int)) [(0, some (62, .ds [db l m, iD (((kT (kE 2 l (kE 2 l (uA l (kE 8 l u))))) : Nat) : Int), iD (qC (kE 2 l (kE 2 l (uA l (kE 8 l u)))))]))] 1 [] none, .no, .no] _ [(0, rV 0 0), (2, rV 1 0), (3, rV 2 0)] [(0, some (62, .ds [db l m, iD (((kT (kE 2 l (kE 2 l (uA l (kE 8 l u))))) : Nat) : Int), iD (qC (kE 2 l (kE 2 l (uA l (kE 8 l u)))))])), (1, some (31, .ds [D.lit (.int .u64 0), D.lit (.string { data := #[] }), iD 0, iD 0, iD 0, iD 0, iD 0, k9])), (2, some (31, .ds [D.lit (.int .u64 (uW l u)), D.lit (.string (strOfNums (aP l (kE 8 l u)))), uD (kK l (uA l (kE 8 l u))), iD (kK l (kE 2 l (uA l (kE 8 l u))) : Int), iD 0, iD 0, iD 0, k9]))] 3 (aL l m (kE 2 l (uA l (kE 8 l u))) zo zo (kL : Byt l) zo) ?_
  have hx9 : ((kT (kE 4 l (kE 2 l (kE 2 l (uA l (kE 8 l u)))))) ≤ m) := (yG (zo) (zo))
  have hx10 : (((0 : Int) ≤ (qU l (kE 2 l (kE 2 l (uA l (kE 8 l u)))))) ∧ ((qU l (kE 2 l (kE 2 l (uA l (kE 8 l u))))) ≤ 4294967295)) := (d9 (kL : Byt l) (kE 2 l (kE 2 l (uA l (kE 8 l u)))))
  refine kG [.no, .call [0] (iV (qU l (kE 2 l (kE 2 l (uA l (kE 8 l u)))))) [(0, some (62, .ds [db l m, iD (((kT (kE 4 l (kE 2 l (kE 2 l (uA l (kE 8 l u)))))) : Nat) : Int), iD (qC (kE 4 l (kE 2 l (kE 2 l (uA l (kE 8 l u))))))]))] 1 [] none, .no, .no] _ [(0, rV 0 0), (2, rV 1 0), (3, rV 2 0)] [(0, some (62, .ds [db l m, iD (((kT (kE 4 l (kE 2 l (kE 2 l (uA l (kE 8 l u)))))) : Nat) : Int), iD (qC (kE 4 l (kE 2 l (kE 2 l (uA l (kE 8 l u))))))])), (1, some (31, .ds [D.lit (.int .u64 0), D.lit (.string { data := #[] }), iD 0, iD 0, iD 0, iD 0, iD 0, k9])), (2, some (31, .ds [D.lit (.int .u64 (uW l u)), D.lit (.string (strOfNums (aP l (kE 8 l u)))), uD (kK l (uA l (kE 8 l u))), iD (kK l (kE 2 l (uA l (kE 8 l u))) : Int), iD (qU l (kE 2 l (kE 2 l (uA l (kE 8 l u))))), iD 0, iD 0, k9]))] 3 (rM l m (kE 2 l (kE 2 l (uA l (kE 8 l u)))) zo zo (kL : Byt l) zo) ?_
  have hx11 : ((kT (kE 2 l (kE 4 l (kE 2 l (kE 2 l (uA l (kE 8 l u))))))) ≤ m) := (yG (zo) (zo))
  have hx12 : ((kK l (kE 4 l (kE 2 l (kE 2 l (uA l (kE 8 l u)))))) ≤ 65535) := (qY (kL : Byt l) (kE 4 l (kE 2 l (kE 2 l (uA l (kE 8 l u))))))
  refine kG [.no, .call [0] (iV (((kK l (kE 4 l (kE 2 l (kE 2 l (uA l (kE 8 l u)))))) : Nat) : Int)) [(0, some (62, .ds [db l m, iD (((kT (kE 2 l (kE 4 l (kE 2 l (kE 2 l (uA l (kE 8 l u))))))) : Nat) : Int), iD (qC (kE 2 l (kE 4 l (kE 2 l (kE 2 l (uA l (kE 8 l u)))))))]))] 1 [] none, .no, .no] _ [(0, rV 0 0), (2, rV 1 0), (3, rV 2 0)] [(0, some (62, .ds [db l m, iD (((kT (kE 2 l (kE 4 l (kE 2 l (kE 2 l (uA l (kE 8 l u))))))) : Nat) : Int), iD (qC (kE 2 l (kE 4 l (kE 2 l (kE 2 l (uA l (kE 8 l u)))))))])), (1, some (31, .ds [D.lit (.int .u64 0), D.lit (.string { data := #[] }), iD 0, iD 0, iD 0, iD 0, iD 0, k9])), (2, some (31, .ds [D.lit (.int .u64 (uW l u)), D.lit (.string (strOfNums (aP l (kE 8 l u)))), uD (kK l (uA l (kE 8 l u))), iD (kK l (kE 2 l (uA l (kE 8 l u))) : Int), iD (qU l (kE 2 l (kE 2 l (uA l (kE 8 l u))))), iD (((kK l (kE 4 l (kE 2 l (kE 2 l (uA l (kE 8 l u)))))) : Nat) : Int), iD 0, k9]))] 3 (aL l m (kE 4 l (kE 2 l (kE 2 l (uA l (kE 8 l u))))) zo zo (kL : Byt l) zo) ?_
  have hx13 : ((kT (kE 2 l (kE 2 l (kE 4 l (kE 2 l (kE 2 l (uA l (kE 8 l u)))))))) ≤ m) := (yG (zo) (zo))
  have hx14 : ((kK l (kE 2 l (kE 4 l (kE 2 l (kE 2 l (uA l (kE 8 l u))))))) ≤ 65535) := (qY (kL : Byt l) (kE 2 l (kE 4 l (kE 2 l (kE 2 l (uA l (kE 8 l u)))))))
  refine kG [.no, .call [0] (iV (((kK l (kE 2 l (kE 4 l (kE 2 l (kE 2 l (uA l (kE 8 l u))))))) : Nat) : Int)) [(0, some (62, .ds [db l m, iD (((kT (kE 2 l (kE 2 l (kE 4 l (kE 2 l (kE 2 l (uA l (kE 8 l u)))))))) : Nat) : Int), iD (qC (kE 2 l (kE 2 l (kE 4 l (kE 2 l (kE 2 l (uA l (kE 8 l u))))))))]))] 1 [] none, .no, .no] _ [(0, rV 0 0), (2, rV 1 0), (3, rV 2 0)] [(0, some (62, .ds [db l m, iD (((kT (kE 2 l (kE 2 l (kE 4 l (kE 2 l (kE 2 l (uA l (kE 8 l u)))))))) : Nat) : Int), iD (qC (kE 2 l (kE 2 l (kE 4 l (kE 2 l (kE 2 l (uA l (kE 8 l u))))))))])), (1, some (31, .ds [D.lit (.int .u64 0), D.lit (.string { data := #[] }), iD 0, iD 0, iD 0, iD 0, iD 0, k9])), (2, some (31, .ds [D.lit (.int .u64 (uW l u)), D.lit (.string (strOfNums (aP l (kE 8 l u)))), uD (kK l (uA l (kE 8 l u))), iD (kK l (kE 2 l (uA l (kE 8 l u))) : Int), iD (qU l (kE 2 l (kE 2 l (uA l (kE 8 l u))))), iD (((kK l (kE 4 l (kE 2 l (kE 2 l (uA l (kE 8 l u)))))) : Nat) : Int), iD (((kK l (kE 2 l (kE 4 l (kE 2 l (kE 2 l (uA l (kE 8 l u))))))) : Nat) : Int), k9]))] 3 (aL l m (kE 2 l (kE 4 l (kE 2 l (kE 2 l (uA l (kE 8 l u)))))) zo zo (kL : Byt l) zo) ?_
  have hx15 : ((kT (mM l (kE 2 l (kE 2 l (kE 4 l (kE 2 l (kE 2 l (uA l (kE 8 l u))))))))) ≤ m) := (k61 (zo) (zo))
  have hx16 : ((ka1 (vD l (kE 2 l (kE 2 l (kE 4 l (kE 2 l (kE 2 l (uA l (kE 8 l u))))))))) ≤ 65535) := (pY (kL : Byt l) (kE 2 l (kE 2 l (kE 4 l (kE 2 l (kE 2 l (uA l (kE 8 l u))))))))
  have hx17 : (BsW (vD l (kE 2 l (kE 2 l (kE 4 l (kE 2 l (kE 2 l (uA l (kE 8 l u))))))))) := (k60 (kL : Byt l) (kE 2 l (kE 2 l (kE 4 l (kE 2 l (kE 2 l (uA l (kE 8 l u))))))))
  refine kG [.no, .call [0] (qX (kX (vD l (kE 2 l (kE 2 l (kE 4 l (kE 2 l (kE 2 l (uA l (kE 8 l u))))))))) (ka1 (vD l (kE 2 l (kE 2 l (kE 4 l (kE 2 l (kE 2 l (uA l (kE 8 l u)))))))))) [(0, some (62, (wM l m u)))] 1 [] none, .no, .no] _ [(2, rV 1 0), (3, rV 2 0)] [(0, some (62, (wM l m u))), (1, some (31, .ds [D.lit (.int .u64 0), D.lit (.string { data := #[] }), iD 0, iD 0, iD 0, iD 0, iD 0, k9])), (2, some (31, .ds [D.lit (.int .u64 (uW l u)), D.lit (.string (strOfNums (aP l (kE 8 l u)))), uD (kK l (uA l (kE 8 l u))), iD (kK l (kE 2 l (uA l (kE 8 l u))) : Int), iD (qU l (kE 2 l (kE 2 l (uA l (kE 8 l u))))), iD (((kK l (kE 4 l (kE 2 l (kE 2 l (uA l (kE 8 l u)))))) : Nat) : Int), iD (((kK l (kE 2 l (kE 4 l (kE 2 l (kE 2 l (uA l (kE 8 l u))))))) : Nat) : Int), D.sl (kX (vD l (kE 2 l (kE 2 l (kE 4 l (kE 2 l (kE 2 l (uA l (kE 8 l u))))))))) (ka1 (vD l (kE 2 l (kE 2 l (kE 4 l (kE 2 l (kE 2 l (uA l (kE 8 l u)))))))))]))] 3 (k9l l m (kE 2 l (kE 2 l (kE 4 l (kE 2 l (kE 2 l (uA l (kE 8 l u))))))) zo zo (kL : Byt l) zo) ?_
  refine kG [.no, .no] True [(2, rV 1 0)] [(0, some (62, (wM l m u))), (1, some (31, .ds [D.lit (.int .u64 (uW l u)), D.lit (.string (strOfNums (aP l (kE 8 l u)))), uD (kK l (uA l (kE 8 l u))), iD (kK l (kE 2 l (uA l (kE 8 l u))) : Int), iD (qU l (kE 2 l (kE 2 l (uA l (kE 8 l u))))), iD (((kK l (kE 4 l (kE 2 l (kE 2 l (uA l (kE 8 l u)))))) : Nat) : Int), iD (((kK l (kE 2 l (kE 4 l (kE 2 l (kE 2 l (uA l (kE 8 l u))))))) : Nat) : Int), D.sl (kX (vD l (kE 2 l (kE 2 l (kE 4 l (kE 2 l (kE 2 l (uA l (kE 8 l u))))))))) (ka1 (vD l (kE 2 l (kE 2 l (kE 4 l (kE 2 l (kE 2 l (uA l (kE 8 l u)))))))))]))] 3 trivial ?_
  refine AW.ret ?_
  exact kB (.inr rfl) [] (P := (kM (uW l u)) ∧ ((.string (strOfNums (aP l (dz1 l u))) : Value) = .string (strOfNums (aP l (kE 8 l u)))) ∧ (((kK l (gR l u) : Int) : Int) = (kK l (uA l (kE 8 l u)) : Int)) ∧ (((kK l (gQ l u) : Int) : Int) = (kK l (kE 2 l (uA l (kE 8 l u))) : Int)) ∧ (((qU l (gP l u)) : Int) = (qU l (kE 2 l (kE 2 l (uA l (kE 8 l u)))))) ∧ (((kK l (gO l u) : Int) : Int) = (((kK l (kE 4 l (kE 2 l (kE 2 l (uA l (kE 8 l u)))))) : Nat) : Int)) ∧ (((kK l (gN l u) : Int) : Int) = (((kK l (kE 2 l (kE 4 l (kE 2 l (kE 2 l (uA l (kE 8 l u))))))) : Nat) : Int)) ∧ (((kX (vD l (bJ l u))) : List D) = (kX (vD l (kE 2 l (kE 2 l (kE 4 l (kE 2 l (kE 2 l (uA l (kE 8 l u)))))))))) ∧ (((ka1 (vD l (bJ l u))) : Nat) = (ka1 (vD l (kE 2 l (kE 2 l (kE 4 l (kE 2 l (kE 2 l (uA l (kE 8 l u)))))))))) ∧ (([db l m, uD (kT (cP l u)), iD (qC (cP l u))] : List D) = [db l m, iD (((kT (mM l (kE 2 l (kE 2 l (kE 4 l (kE 2 l (kE 2 l (uA l (kE 8 l u))))))))) : Nat) : Int), iD (qC (mM l (kE 2 l (kE 2 l (kE 4 l (kE 2 l (kE 2 l (uA l (kE 8 l u)))))))))])) zk ⟨rfl, (congrArg (fun x9 => Value.string (strOfNums x9)) (show (aP l (dz1 l u)) = (aP l (kE 8 l u)) from rfl)), (by rfl), (by rfl), (by rfl), (by rfl), (by rfl), rfl, (by rfl), rfl⟩
abbrev vH (m : Nat) (l : List Int) := aP (ka2 (m - 4) l) (dz1 (ka2 (m - 4) l) qE)
theorem jI {p : Prop} (h : p := by (simp only [c9, bY, uK, kd0, Nat.zero_mul, List.drop_zero, List.nil_append, List.append_nil]; done)) : p := h
theorem nS {p : Prop} (h : p := by (simp only [qA, k8, pbL_len, ka4, kb3, kb6, kb4, kb9, kb8, kc4] <;> omega)) : p := h
theorem yU (l : List Int) (m : Nat) (hm : ka1 l = m) (hb : m ≤ 1000000) (hy : Byt l) : Fun 8 [.c (.d (D.sl (dI .u8 l) m))] (kD []) 0 (.tup [.agg [.d (D.lit (.int .u64 (yK l))), .d (D.lit (.string (strOfNums (uX l)))), iC (yP l), iC (yO l), iC (yN l), iC (yM l), iC (yL l), .d (D.sl (kX (qK l)) (ka1 (qK l)))], iE (qR l)]) (kD []) 0 := by
  have h4a : kT qE = 4 := rfl
  have h4q : qC qE = 0 := rfl
  refine Fun.mk (n := 61) Tryz.func8 rfl rfl (ka3 rfl) ?_
  intro cx hcx
  refine kG [.no, .no] True [(0, sV .u8 l m), (2, rV 0 0)] [(0, some (31, .ds [D.lit (.int .u64 0), D.lit (.string { data := #[] }), iD 0, iD 0, iD 0, iD 0, iD 0, k9]))] 1 trivial ?_
  refine kV [.no, .no, .w, .no] (qB ((m : Int) - 4)) [(0, sV .u8 l m), (2, rV 0 0), (4, iV (↑m - 4))] ⟨by omega, by omega⟩ ?_
  refine AW.seq ?_
  by_cases hx1 : ((((m : Nat) : Int) - 4) < 4)
  · refine zr [.no, .b true] [0, 2, 4, 14] [0] ((((m : Int) - 4) < 4)) [(0, sV .u8 l m), (2, rV 0 0), (4, iV (↑m - 4)), (14, bV true)] [(0, some (31, .ds [D.lit (.int .u64 0), D.lit (.string { data := #[] }), iD 0, iD 0, iD 0, iD 0, iD 0, k9]))] 1 zo ?_
    refine zt ?_
    refine kG [.no, .no, .no] True [(2, rV 0 0), (3, iV 4)] [(0, some (31, .ds [D.lit (.int .u64 0), D.lit (.string { data := #[] }), iD 0, iD 0, iD 0, iD 0, iD 0, k9]))] 1 trivial ?_
    refine y6 (l' := [(2, rV 0 0), (3, iV 4)]) (g' := [(0, some (31, .ds [D.lit (.int .u64 0), D.lit (.string { data := #[] }), iD 0, iD 0, iD 0, iD 0, iD 0, D.sl ([] : List D) 0]))]) (NlS.cons rfl (.same _) (NlS.cons rfl (.same _) NlS.nil)) (NlG.to (bc := .ds [D.lit (.int .u64 0), D.lit (.string { data := #[] }), iD 0, iD 0, iD 0, iD 0, iD 0, k9]) rfl (NlL.cons (.same _) (NlL.cons (.same _) (NlL.cons (.same _) (NlL.cons (.same _) (NlL.cons (.same _) (NlL.cons (.same _) (NlL.cons (.same _) (NlL.cons (.nil) NlL.nil)))))))) NlG.nil) ?_
    have hz0 : qR l = 4 := (u3j hm (by omega))
    obtain ⟨hzI, hzN, hz1, hz2, hz3, hz4, hz5, hzB⟩ := iA (l := l) zo
    refine AW.ret ?_
    exact kB (.inr rfl) [] (P := (((yK l) : Int) = 0) ∧ ((.string (strOfNums (uX l)) : Value) = .string { data := #[] }) ∧ (((yP l) : Int) = 0) ∧ (((yO l) : Int) = 0) ∧ (((yN l) : Int) = 0) ∧ (((yM l) : Int) = 0) ∧ (((yL l) : Int) = 0) ∧ (((kX (qK l)) : List D) = ([] : List D)) ∧ (((ka1 (qK l)) : Nat) = 0) ∧ (((qR l) : Int) = 4)) zk ⟨zo, (by rw [hzN]; rfl), zo, zo, zo, zo, zo, (by (rw [hzB]; rfl)), (by (rw [hzB]; rfl)), zo⟩
  · refine zr [.no, .b false] [0, 2, 4, 14] [0] (¬ (((m : Int) - 4) < 4)) [(0, sV .u8 l m), (2, rV 0 0), (4, iV (↑m - 4)), (14, bV false)] [(0, some (31, .ds [D.lit (.int .u64 0), D.lit (.string { data := #[] }), iD 0, iD 0, iD 0, iD 0, iD 0, k9]))] 1 zo ?_
    refine uM ?_
    refine AW.seq ?_
    have hx2 : (((0 : Int) ≤ (g32 l (m - 4))) ∧ ((g32 l (m - 4)) ≤ 4294967295)) := g32_rng (kL : Byt l) zo
    refine kG (.no :: .no :: .call [] (.tup [.c (.d (D.lit (.int .u32 (g32 l (m - 4))))), uE ((m - 4) + 4), iE 0]) [] 0 [] (some [.c (.d (db l m)), uE (m - 4)]) :: kJ 7 []) ((kY (dI .u8 l)) ∧ (kQ m) ∧ (((((m - 4) : Nat) : Int) : Int) = ((m : Int) - 4)) ∧ (_)) [(0, sV .u8 l m), (2, rV 0 0), (4, iV (↑m - 4)), (5, kP (D.lit (.int .u32 (g32 l (m - 4)))))] [(0, some (31, .ds [D.lit (.int .u64 0), D.lit (.string { data := #[] }), iD 0, iD 0, iD 0, iD 0, iD 0, k9]))] 1 ⟨rfl, rfl, zo, (W_Get32 l m (m - 4) zo zo (kL : Byt l) zo)⟩ ?_
    by_cases hx4 : ((g32 l (m - 4)) ≠ (kI (ka2 (m - 4) l)))
    · have hx5 : (((0 : Int) ≤ (kI (ka2 (m - 4) l))) ∧ ((kI (ka2 (m - 4) l)) ≤ 4294967295)) := cY _
      refine kG [.no, .no, .no, .sls 0 (m - 4) (m - 4) (dI .u8 (ka2 (m - 4) l)), .call [] (kP (D.lit (.int .u32 (kI (ka2 (m - 4) l))))) [] 0 [] none, .b true] ((kQ 0) ∧ ((((m : Int) - 4) : Int) = (((m - 4) : Nat) : Int)) ∧ ((0 : Nat) ≤ (m - 4)) ∧ ((m - 4) ≤ m) ∧ ((m - 4) - 0 = (m - 4)) ∧ (ka2 ((m - 4) * 1) (ka5 (0 * 1) (dI .u8 l)) = (dI .u8 (ka2 (m - 4) l))) ∧ (_) ∧ (((g32 l (m - 4)) ≠ (kI (ka2 (m - 4) l))))) [(0, sV .u8 l m), (2, rV 0 0), (4, iV (↑m - 4)), (28, bV true)] [(0, some (31, .ds [D.lit (.int .u64 0), D.lit (.string { data := #[] }), iD 0, iD 0, iD 0, iD 0, iD 0, k9]))] 1 ⟨rfl, zo, zo, zo, zo, jI, (k6y (ka2 (m - 4) l) (m - 4) nS zo (Byt.take (kL : Byt l) _)), zo⟩ ?_
      refine zt ?_
      refine kV [.no, .no, .no] True [(2, rV 0 0), (3, iV 6)] trivial ?_
      refine y6 (l' := [(2, rV 0 0), (3, iV 6)]) (g' := [(0, some (31, .ds [D.lit (.int .u64 0), D.lit (.string { data := #[] }), iD 0, iD 0, iD 0, iD 0, iD 0, D.sl ([] : List D) 0]))]) (NlS.cons rfl (.same _) (NlS.cons rfl (.same _) NlS.nil)) (NlG.to (bc := .ds [D.lit (.int .u64 0), D.lit (.string { data := #[] }), iD 0, iD 0, iD 0, iD 0, iD 0, k9]) rfl (NlL.cons (.same _) (NlL.cons (.same _) (NlL.cons (.same _) (NlL.cons (.same _) (NlL.cons (.same _) (NlL.cons (.same _) (NlL.cons (.same _) (NlL.cons (.nil) NlL.nil)))))))) NlG.nil) ?_
      have hz0 : qR l = 6 := (u3k hm (by omega) (by omega))
      obtain ⟨hzI, hzN, hz1, hz2, hz3, hz4, hz5, hzB⟩ := iA (l := l) zo
      refine AW.ret ?_
      exact kB (.inr rfl) [] (P := (((yK l) : Int) = 0) ∧ ((.string (strOfNums (uX l)) : Value) = .string { data := #[] }) ∧ (((yP l) : Int) = 0) ∧ (((yO l) : Int) = 0) ∧ (((yN l) : Int) = 0) ∧ (((yM l) : Int) = 0) ∧ (((yL l) : Int) = 0) ∧ (((kX (qK l)) : List D) = ([] : List D)) ∧ (((ka1 (qK l)) : Nat) = 0) ∧ (((qR l) : Int) = 6)) zk ⟨zo, (by rw [hzN]; rfl), zo, zo, zo, zo, zo, (by (rw [hzB]; rfl)), (by (rw [hzB]; rfl)), zo⟩
    · have hx6 : (((0 : Int) ≤ (kI (ka2 (m - 4) l))) ∧ ((kI (ka2 (m - 4) l)) ≤ 4294967295)) := cY _
      refine kG [.no, .no, .no, .sls 0 (m - 4) (m - 4) (dI .u8 (ka2 (m - 4) l)), .call [] (kP (D.lit (.int .u32 (kI (ka2 (m - 4) l))))) [] 0 [] none, .b false] ((kQ 0) ∧ ((((m : Int) - 4) : Int) = (((m - 4) : Nat) : Int)) ∧ ((0 : Nat) ≤ (m - 4)) ∧ ((m - 4) ≤ m) ∧ ((m - 4) - 0 = (m - 4)) ∧ (ka2 ((m - 4) * 1) (ka5 (0 * 1) (dI .u8 l)) = (dI .u8 (ka2 (m - 4) l))) ∧ (_) ∧ (¬ ((g32 l (m - 4)) ≠ (kI (ka2 (m - 4) l))))) [(0, sV .u8 l m), (2, rV 0 0), (4, iV (↑m - 4)), (28, bV false)] [(0, some (31, .ds [D.lit (.int .u64 0), D.lit (.string { data := #[] }), iD 0, iD 0, iD 0, iD 0, iD 0, k9]))] 1 ⟨rfl, zo, zo, zo, zo, jI, (k6y (ka2 (m - 4) l) (m - 4) nS zo (Byt.take (kL : Byt l) _)), zo⟩ ?_
      refine uM ?_
      refine AW.seq ?_
      by_cases hx7 : ((ka2 4 l) = ([83, 78, 68, 49] : List Int))
      · refine zr [.no, .sls 0 4 4 (dI .u8 (ka2 4 l)), .st none (ka2 4 l), .b false] [0, 2, 4, 33] [0] ((kQ 0) ∧ (kM 4) ∧ ((0 : Nat) ≤ 4) ∧ ((4 : Nat) ≤ m) ∧ ((4 : Nat) - 0 = 4) ∧ (ka2 (4 * 1) (ka5 (0 * 1) (dI .u8 l)) = (dI .u8 (ka2 4 l))) ∧ ((dI .u8 (ka2 4 l)).length = 4 * 1) ∧ (kY (dI .u8 (ka2 4 l))) ∧ ((!(ByteArray.toList (strOfNums (ka2 4 l)) == ByteArray.toList (ByteArray.mk #[83, 78, 68, 49]))) = false)) [(0, sV .u8 l m), (2, rV 0 0), (4, iV (↑m - 4)), (33, bV false)] [(0, some (31, .ds [D.lit (.int .u64 0), D.lit (.string { data := #[] }), iD 0, iD 0, iD 0, iD 0, iD 0, k9]))] 1 ⟨rfl, rfl, zo, zo, zo, jI, (by (simp only [qA, k8, pbL_len, uF, ka4, kb3, kb6, kb4, kb9, kb8, kc4, kc8, kc6, kd0] <;> omega)), rfl, (by rw [show (ByteArray.toList (strOfNums (ka2 4 l)) == ByteArray.toList (ByteArray.mk #[83, 78, 68, 49])) = true from (u0j (by assumption))]; rfl)⟩ ?_
        refine uM ?_
        refine kG [.no, .no, .sls 0 (m - 4) (m - 4) (dI .u8 (ka2 (m - 4) l)), .no, .no, .no] ((kQ 0) ∧ ((((m : Int) - 4) : Int) = (((m - 4) : Nat) : Int)) ∧ ((0 : Nat) ≤ (m - 4)) ∧ ((m - 4) ≤ m) ∧ ((m - 4) - 0 = (m - 4)) ∧ (ka2 ((m - 4) * 1) (ka5 (0 * 1) (dI .u8 l)) = (dI .u8 (ka2 (m - 4) l)))) [(2, rV 0 0), (4, iV (↑m - 4)), (8, rV 1 0)] [(0, some (31, .ds [D.lit (.int .u64 0), D.lit (.string { data := #[] }), iD 0, iD 0, iD 0, iD 0, iD 0, k9])), (1, some (62, .ds [db (ka2 (m - 4) l) (m - 4), iD 4, iD 0]))] 2 ⟨rfl, zo, zo, zo, zo, jI⟩ ?_
        have hx8 : ((kT (cP (ka2 (m - 4) l) qE)) ≤ (m - 4)) := (u3l (nS) (zo))
        have hx9 : (((0 : Int) ≤ (uW (ka2 (m - 4) l) qE)) ∧ ((uW (ka2 (m - 4) l) qE) ≤ 18446744073709551615)) := (oD ((Byt.take (kL : Byt l) _)) _)
        have hx10 : ((ka1 (vH m l)) ≤ 64) := (oE _ _)
        have hx11 : ((ka1 (vD (ka2 (m - 4) l) (bJ (ka2 (m - 4) l) qE))) ≤ 65535) := (pY ((Byt.take (kL : Byt l) _)) _)
        have hx12 : (BsW (vD (ka2 (m - 4) l) (bJ (ka2 (m - 4) l) qE))) := (k60 ((Byt.take (kL : Byt l) _)) _)
        refine kG [.no, .call [1] (.e (.agg [.d (D.lit (.int .u64 (uW (ka2 (m - 4) l) qE))), .d (D.lit (.string (strOfNums (vH m l)))), iC (((kK (ka2 (m - 4) l) (gR (ka2 (m - 4) l) qE)) : Nat) : Int), iC (((kK (ka2 (m - 4) l) (gQ (ka2 (m - 4) l) qE)) : Nat) : Int), iC (qU (ka2 (m - 4) l) (gP (ka2 (m - 4) l) qE)), iC (((kK (ka2 (m - 4) l) (gO (ka2 (m - 4) l) qE)) : Nat) : Int), iC (((kK (ka2 (m - 4) l) (gN (ka2 (m - 4) l) qE)) : Nat) : Int), .d (D.sl (kX (vD (ka2 (m - 4) l) (bJ (ka2 (m - 4) l) qE))) (ka1 (vD (ka2 (m - 4) l) (bJ (ka2 (m - 4) l) qE))))])) [(0, some (62, .ds [db (ka2 (m - 4) l) (m - 4), iD (((kT (cP (ka2 (m - 4) l) qE)) : Nat) : Int), iD (qC (cP (ka2 (m - 4) l) qE))]))] 1 [] (some [.c (.ptr 0 0)]), .no, .no] ((kQ 0) ∧ (_)) [(2, rV 0 0), (4, iV (↑m - 4)), (8, rV 1 0), (9, rV 2 0)] [(0, some (31, .ds [D.lit (.int .u64 0), D.lit (.string { data := #[] }), iD 0, iD 0, iD 0, iD 0, iD 0, k9])), (1, some (62, .ds [db (ka2 (m - 4) l) (m - 4), iD (((kT (cP (ka2 (m - 4) l) qE)) : Nat) : Int), iD (qC (cP (ka2 (m - 4) l) qE))])), (2, some (31, .ds [D.lit (.int .u64 (uW (ka2 (m - 4) l) qE)), D.lit (.string (strOfNums (vH m l))), iD (((kK (ka2 (m - 4) l) (gR (ka2 (m - 4) l) qE)) : Nat) : Int), iD (((kK (ka2 (m - 4) l) (gQ (ka2 (m - 4) l) qE)) : Nat) : Int), iD (qU (ka2 (m - 4) l) (gP (ka2 (m - 4) l) qE)), iD (((kK (ka2 (m - 4) l) (gO (ka2 (m - 4) l) qE)) : Nat) : Int), iD (((kK (ka2 (m - 4) l) (gN (ka2 (m - 4) l) qE)) : Nat) : Int), D.sl (kX (vD (ka2 (m - 4) l) (bJ (ka2 (m - 4) l) qE))) (ka1 (vD (ka2 (m - 4) l) (bJ (ka2 (m - 4) l) qE)))]))] 3 ⟨rfl, (u3y (ka2 (m - 4) l) (m - 4) qE nS zo (Byt.take (kL : Byt l) _) zo)⟩ ?_
        refine AW.seq ?_
        by_cases hx13 : ((qC (cP (ka2 (m - 4) l) qE)) ≠ 0)
        · refine zr (kJ 4 [.b true, .no, .no]) [2, 9, 54] [0, 2] (((qC (cP (ka2 (m - 4) l) qE)) ≠ 0)) [(2, rV 0 0), (9, rV 2 0), (54, bV true)] [(0, some (31, .ds [D.lit (.int .u64 0), D.lit (.string { data := #[] }), iD 0, iD 0, iD 0, iD 0, iD 0, k9])), (2, some (31, .ds [D.lit (.int .u64 (uW (ka2 (m - 4) l) qE)), D.lit (.string (strOfNums (vH m l))), iD (((kK (ka2 (m - 4) l) (gR (ka2 (m - 4) l) qE)) : Nat) : Int), iD (((kK (ka2 (m - 4) l) (gQ (ka2 (m - 4) l) qE)) : Nat) : Int), iD (qU (ka2 (m - 4) l) (gP (ka2 (m - 4) l) qE)), iD (((kK (ka2 (m - 4) l) (gO (ka2 (m - 4) l) qE)) : Nat) : Int), iD (((kK (ka2 (m - 4) l) (gN (ka2 (m - 4) l) qE)) : Nat) : Int), D.sl (kX (vD (ka2 (m - 4) l) (bJ (ka2 (m - 4) l) qE))) (ka1 (vD (ka2 (m - 4) l) (bJ (ka2 (m - 4) l) qE)))]))] 3 zo ?_
          refine zt ?_
          refine kG [.no, .no, .no] True [(2, rV 0 0), (3, iV 5)] [(0, some (31, .ds [D.lit (.int .u64 0), D.lit (.string { data := #[] }), iD 0, iD 0, iD 0, iD 0, iD 0, k9]))] 3 trivial ?_
          refine y6 (l' := [(2, rV 0 0), (3, iV 5)]) (g' := [(0, some (31, .ds [D.lit (.int .u64 0), D.lit (.string { data := #[] }), iD 0, iD 0, iD 0, iD 0, iD 0, D.sl ([] : List D) 0]))]) (NlS.cons rfl (.same _) (NlS.cons rfl (.same _) NlS.nil)) (NlG.to (bc := .ds [D.lit (.int .u64 0), D.lit (.string { data := #[] }), iD 0, iD 0, iD 0, iD 0, iD 0, k9]) rfl (NlL.cons (.same _) (NlL.cons (.same _) (NlL.cons (.same _) (NlL.cons (.same _) (NlL.cons (.same _) (NlL.cons (.same _) (NlL.cons (.same _) (NlL.cons (.nil) NlL.nil)))))))) NlG.nil) ?_
          have hz0 : qR l = 5 := (k95 hm (by omega) (by omega) (by assumption) (by omega))
          obtain ⟨hzI, hzN, hz1, hz2, hz3, hz4, hz5, hzB⟩ := iA (l := l) zo
          refine AW.ret ?_
          exact kB (.inr rfl) [] (P := (((yK l) : Int) = 0) ∧ ((.string (strOfNums (uX l)) : Value) = .string { data := #[] }) ∧ (((yP l) : Int) = 0) ∧ (((yO l) : Int) = 0) ∧ (((yN l) : Int) = 0) ∧ (((yM l) : Int) = 0) ∧ (((yL l) : Int) = 0) ∧ (((kX (qK l)) : List D) = ([] : List D)) ∧ (((ka1 (qK l)) : Nat) = 0) ∧ (((qR l) : Int) = 5)) zk ⟨zo, (by rw [hzN]; rfl), zo, zo, zo, zo, zo, (by (rw [hzB]; rfl)), (by (rw [hzB]; rfl)), zo⟩
        · by_cases hx14 : ((((kT (cP (ka2 (m - 4) l) qE)) : Nat) : Int) ≠ (((m : Nat) : Int) - 4))
          · refine zr (kJ 4 (.b false :: kJ 6 [.b true, .no])) [2, 9, 54] [0, 2] ((¬ ((qC (cP (ka2 (m - 4) l) qE)) ≠ 0)) ∧ (((((kT (cP (ka2 (m - 4) l) qE)) : Nat) : Int) ≠ ((m : Int) - 4)))) [(2, rV 0 0), (9, rV 2 0), (54, bV true)] [(0, some (31, .ds [D.lit (.int .u64 0), D.lit (.string { data := #[] }), iD 0, iD 0, iD 0, iD 0, iD 0, k9])), (2, some (31, .ds [D.lit (.int .u64 (uW (ka2 (m - 4) l) qE)), D.lit (.string (strOfNums (vH m l))), iD (((kK (ka2 (m - 4) l) (gR (ka2 (m - 4) l) qE)) : Nat) : Int), iD (((kK (ka2 (m - 4) l) (gQ (ka2 (m - 4) l) qE)) : Nat) : Int), iD (qU (ka2 (m - 4) l) (gP (ka2 (m - 4) l) qE)), iD (((kK (ka2 (m - 4) l) (gO (ka2 (m - 4) l) qE)) : Nat) : Int), iD (((kK (ka2 (m - 4) l) (gN (ka2 (m - 4) l) qE)) : Nat) : Int), D.sl (kX (vD (ka2 (m - 4) l) (bJ (ka2 (m - 4) l) qE))) (ka1 (vD (ka2 (m - 4) l) (bJ (ka2 (m - 4) l) qE)))]))] 3 ⟨zo, zo⟩ ?_
            refine zt ?_
            refine kG [.no, .no, .no] True [(2, rV 0 0), (3, iV 5)] [(0, some (31, .ds [D.lit (.int .u64 0), D.lit (.string { data := #[] }), iD 0, iD 0, iD 0, iD 0, iD 0, k9]))] 3 trivial ?_
            refine y6 (l' := [(2, rV 0 0), (3, iV 5)]) (g' := [(0, some (31, .ds [D.lit (.int .u64 0), D.lit (.string { data := #[] }), iD 0, iD 0, iD 0, iD 0, iD 0, D.sl ([] : List D) 0]))]) (NlS.cons rfl (.same _) (NlS.cons rfl (.same _) NlS.nil)) (NlG.to (bc := .ds [D.lit (.int .u64 0), D.lit (.string { data := #[] }), iD 0, iD 0, iD 0, iD 0, iD 0, k9]) rfl (NlL.cons (.same _) (NlL.cons (.same _) (NlL.cons (.same _) (NlL.cons (.same _) (NlL.cons (.same _) (NlL.cons (.same _) (NlL.cons (.same _) (NlL.cons (.nil) NlL.nil)))))))) NlG.nil) ?_
            have hz0 : qR l = 5 := (k95 hm (by omega) (by omega) (by assumption) (by omega))
            obtain ⟨hzI, hzN, hz1, hz2, hz3, hz4, hz5, hzB⟩ := iA (l := l) zo
            refine AW.ret ?_
            exact kB (.inr rfl) [] (P := (((yK l) : Int) = 0) ∧ ((.string (strOfNums (uX l)) : Value) = .string { data := #[] }) ∧ (((yP l) : Int) = 0) ∧ (((yO l) : Int) = 0) ∧ (((yN l) : Int) = 0) ∧ (((yM l) : Int) = 0) ∧ (((yL l) : Int) = 0) ∧ (((kX (qK l)) : List D) = ([] : List D)) ∧ (((ka1 (qK l)) : Nat) = 0) ∧ (((qR l) : Int) = 5)) zk ⟨zo, (by rw [hzN]; rfl), zo, zo, zo, zo, zo, (by (rw [hzB]; rfl)), (by (rw [hzB]; rfl)), zo⟩
          · refine zr (kJ 4 (.b false :: kJ 6 [.b false, .no])) [2, 9, 54] [0, 2] ((¬ ((qC (cP (ka2 (m - 4) l) qE)) ≠ 0)) ∧ (¬ ((((kT (cP (ka2 (m - 4) l) qE)) : Nat) : Int) ≠ ((m : Int) - 4)))) [(2, rV 0 0), (9, rV 2 0), (54, bV false)] [(0, some (31, .ds [D.lit (.int .u64 0), D.lit (.string { data := #[] }), iD 0, iD 0, iD 0, iD 0, iD 0, k9])), (2, some (31, .ds [D.lit (.int .u64 (uW (ka2 (m - 4) l) qE)), D.lit (.string (strOfNums (vH m l))), iD (((kK (ka2 (m - 4) l) (gR (ka2 (m - 4) l) qE)) : Nat) : Int), iD (((kK (ka2 (m - 4) l) (gQ (ka2 (m - 4) l) qE)) : Nat) : Int), iD (qU (ka2 (m - 4) l) (gP (ka2 (m - 4) l) qE)), iD (((kK (ka2 (m - 4) l) (gO (ka2 (m - 4) l) qE)) : Nat) : Int), iD (((kK (ka2 (m - 4) l) (gN (ka2 (m - 4) l) qE)) : Nat) : Int), D.sl (kX (vD (ka2 (m - 4) l) (bJ (ka2 (m - 4) l) qE))) (ka1 (vD (ka2 (m - 4) l) (bJ (ka2 (m - 4) l) qE)))]))] 3 ⟨zo, zo⟩ ?_
            refine uM ?_
            refine AW.seq ?_
            rcases kb0 (vS (vH m l) (((kK (ka2 (m - 4) l) (gR (ka2 (m - 4) l) qE)) : Nat) : Int) (((kK (ka2 (m - 4) l) (gQ (ka2 (m - 4) l) qE)) : Nat) : Int) (qU (ka2 (m - 4) l) (gP (ka2 (m - 4) l) qE)) (((kK (ka2 (m - 4) l) (gO (ka2 (m - 4) l) qE)) : Nat) : Int) (((kK (ka2 (m - 4) l) (gN (ka2 (m - 4) l) qE)) : Nat) : Int) (vD (ka2 (m - 4) l) (bJ (ka2 (m - 4) l) qE))) with hx15 | hx15
            · refine zr [.no, .call [] (bV true) [] 0 [] none, .no] [2, 9, 58] [0, 2] (Fun 14 [.agg [.d (D.lit (.int .u64 (uW (ka2 (m - 4) l) qE))), .d (D.lit (.string (strOfNums (vH m l)))), iC (((kK (ka2 (m - 4) l) (gR (ka2 (m - 4) l) qE)) : Nat) : Int), iC (((kK (ka2 (m - 4) l) (gQ (ka2 (m - 4) l) qE)) : Nat) : Int), iC (qU (ka2 (m - 4) l) (gP (ka2 (m - 4) l) qE)), iC (((kK (ka2 (m - 4) l) (gO (ka2 (m - 4) l) qE)) : Nat) : Int), iC (((kK (ka2 (m - 4) l) (gN (ka2 (m - 4) l) qE)) : Nat) : Int), .d (D.sl (kX (vD (ka2 (m - 4) l) (bJ (ka2 (m - 4) l) qE))) (ka1 (vD (ka2 (m - 4) l) (bJ (ka2 (m - 4) l) qE))))]] (kD []) 0 (bV true) (kD []) 0) [(2, rV 0 0), (9, rV 2 0), (58, bV false)] [(0, some (31, .ds [D.lit (.int .u64 0), D.lit (.string { data := #[] }), iD 0, iD 0, iD 0, iD 0, iD 0, k9])), (2, some (31, .ds [D.lit (.int .u64 (uW (ka2 (m - 4) l) qE)), D.lit (.string (strOfNums (vH m l))), iD (((kK (ka2 (m - 4) l) (gR (ka2 (m - 4) l) qE)) : Nat) : Int), iD (((kK (ka2 (m - 4) l) (gQ (ka2 (m - 4) l) qE)) : Nat) : Int), iD (qU (ka2 (m - 4) l) (gP (ka2 (m - 4) l) qE)), iD (((kK (ka2 (m - 4) l) (gO (ka2 (m - 4) l) qE)) : Nat) : Int), iD (((kK (ka2 (m - 4) l) (gN (ka2 (m - 4) l) qE)) : Nat) : Int), D.sl (kX (vD (ka2 (m - 4) l) (bJ (ka2 (m - 4) l) qE))) (ka1 (vD (ka2 (m - 4) l) (bJ (ka2 (m - 4) l) qE)))]))] 3 (by have h0 := (jE (uW (ka2 (m - 4) l) qE) (vH m l) (((kK (ka2 (m - 4) l) (gR (ka2 (m - 4) l) qE)) : Nat) : Int) (((kK (ka2 (m - 4) l) (gQ (ka2 (m - 4) l) qE)) : Nat) : Int) (qU (ka2 (m - 4) l) (gP (ka2 (m - 4) l) qE)) (((kK (ka2 (m - 4) l) (gO (ka2 (m - 4) l) qE)) : Nat) : Int) (((kK (ka2 (m - 4) l) (gN (ka2 (m - 4) l) qE)) : Nat) : Int) (vD (ka2 (m - 4) l) (bJ (ka2 (m - 4) l) qE)) (ka1 (vD (ka2 (m - 4) l) (bJ (ka2 (m - 4) l) qE))) (oF (Byt.take (kL : Byt l) _) _) zo rfl zo (kL : BsW (vD (ka2 (m - 4) l) (bJ (ka2 (m - 4) l) qE)))); rw [hx15] at h0; exact h0) ?_
              refine uM ?_
              refine kG [.no, .no, .no] True [(2, rV 0 0), (3, iV 0)] [(0, some (31, .ds [D.lit (.int .u64 (uW (ka2 (m - 4) l) qE)), D.lit (.string (strOfNums (vH m l))), iD (((kK (ka2 (m - 4) l) (gR (ka2 (m - 4) l) qE)) : Nat) : Int), iD (((kK (ka2 (m - 4) l) (gQ (ka2 (m - 4) l) qE)) : Nat) : Int), iD (qU (ka2 (m - 4) l) (gP (ka2 (m - 4) l) qE)), iD (((kK (ka2 (m - 4) l) (gO (ka2 (m - 4) l) qE)) : Nat) : Int), iD (((kK (ka2 (m - 4) l) (gN (ka2 (m - 4) l) qE)) : Nat) : Int), D.sl (kX (vD (ka2 (m - 4) l) (bJ (ka2 (m - 4) l) qE))) (ka1 (vD (ka2 (m - 4) l) (bJ (ka2 (m - 4) l) qE)))]))] 3 trivial ?_
              have hz0 : qR l = 0 := (u6q hm (by omega) (by omega) (by assumption) (by omega) hx15)
              obtain ⟨hzI, hzN, hz1, hz2, hz3, hz4, hz5, hzB⟩ := u6p hm rfl hz0
              refine AW.ret ?_
              exact kB (.inr rfl) [] (P := (((yK l) : Int) = (uW (ka2 (m - 4) l) qE)) ∧ ((.string (strOfNums (uX l)) : Value) = .string (strOfNums (vH m l))) ∧ (((yP l) : Int) = (((kK (ka2 (m - 4) l) (gR (ka2 (m - 4) l) qE)) : Nat) : Int)) ∧ (((yO l) : Int) = (((kK (ka2 (m - 4) l) (gQ (ka2 (m - 4) l) qE)) : Nat) : Int)) ∧ (((yN l) : Int) = (qU (ka2 (m - 4) l) (gP (ka2 (m - 4) l) qE))) ∧ (((yM l) : Int) = (((kK (ka2 (m - 4) l) (gO (ka2 (m - 4) l) qE)) : Nat) : Int)) ∧ (((yL l) : Int) = (((kK (ka2 (m - 4) l) (gN (ka2 (m - 4) l) qE)) : Nat) : Int)) ∧ (((kX (qK l)) : List D) = (kX (vD (ka2 (m - 4) l) (bJ (ka2 (m - 4) l) qE)))) ∧ (((ka1 (qK l)) : Nat) = (ka1 (vD (ka2 (m - 4) l) (bJ (ka2 (m - 4) l) qE)))) ∧ (((qR l) : Int) = 0)) zk ⟨zo, (congrArg (fun x9 => Value.string (strOfNums x9)) (show (uX l) = (vH m l) from zo)), zo, zo, zo, zo, zo, (by (rw [hzB]; done)), (by (rw [hzB]; done)), zo⟩
            · refine zr [.no, .call [] (bV false) [] 0 [] none, .no] [2, 9, 58] [0, 2] (Fun 14 [.agg [.d (D.lit (.int .u64 (uW (ka2 (m - 4) l) qE))), .d (D.lit (.string (strOfNums (vH m l)))), iC (((kK (ka2 (m - 4) l) (gR (ka2 (m - 4) l) qE)) : Nat) : Int), iC (((kK (ka2 (m - 4) l) (gQ (ka2 (m - 4) l) qE)) : Nat) : Int), iC (qU (ka2 (m - 4) l) (gP (ka2 (m - 4) l) qE)), iC (((kK (ka2 (m - 4) l) (gO (ka2 (m - 4) l) qE)) : Nat) : Int), iC (((kK (ka2 (m - 4) l) (gN (ka2 (m - 4) l) qE)) : Nat) : Int), .d (D.sl (kX (vD (ka2 (m - 4) l) (bJ (ka2 (m - 4) l) qE))) (ka1 (vD (ka2 (m - 4) l) (bJ (ka2 (m - 4) l) qE))))]] (kD []) 0 (bV false) (kD []) 0) [(2, rV 0 0), (9, rV 2 0), (58, bV true)] [(0, some (31, .ds [D.lit (.int .u64 0), D.lit (.string { data := #[] }), iD 0, iD 0, iD 0, iD 0, iD 0, k9])), (2, some (31, .ds [D.lit (.int .u64 (uW (ka2 (m - 4) l) qE)), D.lit (.string (strOfNums (vH m l))), iD (((kK (ka2 (m - 4) l) (gR (ka2 (m - 4) l) qE)) : Nat) : Int), iD (((kK (ka2 (m - 4) l) (gQ (ka2 (m - 4) l) qE)) : Nat) : Int), iD (qU (ka2 (m - 4) l) (gP (ka2 (m - 4) l) qE)), iD (((kK (ka2 (m - 4) l) (gO (ka2 (m - 4) l) qE)) : Nat) : Int), iD (((kK (ka2 (m - 4) l) (gN (ka2 (m - 4) l) qE)) : Nat) : Int), D.sl (kX (vD (ka2 (m - 4) l) (bJ (ka2 (m - 4) l) qE))) (ka1 (vD (ka2 (m - 4) l) (bJ (ka2 (m - 4) l) qE)))]))] 3 (by have h0 := (jE (uW (ka2 (m - 4) l) qE) (vH m l) (((kK (ka2 (m - 4) l) (gR (ka2 (m - 4) l) qE)) : Nat) : Int) (((kK (ka2 (m - 4) l) (gQ (ka2 (m - 4) l) qE)) : Nat) : Int) (qU (ka2 (m - 4) l) (gP (ka2 (m - 4) l) qE)) (((kK (ka2 (m - 4) l) (gO (ka2 (m - 4) l) qE)) : Nat) : Int) (((kK (ka2 (m - 4) l) (gN (ka2 (m - 4) l) qE)) : Nat) : Int) (vD (ka2 (m - 4) l) (bJ (ka2 (m - 4) l) qE)) (ka1 (vD (ka2 (m - 4) l) (bJ (ka2 (m - 4) l) qE))) (oF (Byt.take (kL : Byt l) _) _) zo rfl zo (kL : BsW (vD (ka2 (m - 4) l) (bJ (ka2 (m - 4) l) qE)))); rw [hx15] at h0; exact h0) ?_
              refine zt ?_
              refine kG [.no, .no, .no] True [(2, rV 0 0), (3, iV 1)] [(0, some (31, .ds [D.lit (.int .u64 0), D.lit (.string { data := #[] }), iD 0, iD 0, iD 0, iD 0, iD 0, k9]))] 3 trivial ?_
              refine y6 (l' := [(2, rV 0 0), (3, iV 1)]) (g' := [(0, some (31, .ds [D.lit (.int .u64 0), D.lit (.string { data := #[] }), iD 0, iD 0, iD 0, iD 0, iD 0, D.sl ([] : List D) 0]))]) (NlS.cons rfl (.same _) (NlS.cons rfl (.same _) NlS.nil)) (NlG.to (bc := .ds [D.lit (.int .u64 0), D.lit (.string { data := #[] }), iD 0, iD 0, iD 0, iD 0, iD 0, k9]) rfl (NlL.cons (.same _) (NlL.cons (.same _) (NlL.cons (.same _) (NlL.cons (.same _) (NlL.cons (.same _) (NlL.cons (.same _) (NlL.cons (.same _) (NlL.cons (.nil) NlL.nil)))))))) NlG.nil) ?_
              have hz0 : qR l = 1 := (u6r hm (by omega) (by omega) (by assumption) (by omega) hx15)
              obtain ⟨hzI, hzN, hz1, hz2, hz3, hz4, hz5, hzB⟩ := iA (l := l) zo
              refine AW.ret ?_
              exact kB (.inr rfl) [] (P := (((yK l) : Int) = 0) ∧ ((.string (strOfNums (uX l)) : Value) = .string { data := #[] }) ∧ (((yP l) : Int) = 0) ∧ (((yO l) : Int) = 0) ∧ (((yN l) : Int) = 0) ∧ (((yM l) : Int) = 0) ∧ (((yL l) : Int) = 0) ∧ (((kX (qK l)) : List D) = ([] : List D)) ∧ (((ka1 (qK l)) : Nat) = 0) ∧ (((qR l) : Int) = 1)) zk ⟨zo, (by rw [hzN]; rfl), zo, zo, zo, zo, zo, (by (rw [hzB]; rfl)), (by (rw [hzB]; rfl)), zo⟩
      · refine zr [.no, .sls 0 4 4 (dI .u8 (ka2 4 l)), .st none (ka2 4 l), .b true] [0, 2, 4, 33] [0] ((kQ 0) ∧ (kM 4) ∧ ((0 : Nat) ≤ 4) ∧ ((4 : Nat) ≤ m) ∧ ((4 : Nat) - 0 = 4) ∧ (ka2 (4 * 1) (ka5 (0 * 1) (dI .u8 l)) = (dI .u8 (ka2 4 l))) ∧ ((dI .u8 (ka2 4 l)).length = 4 * 1) ∧ (kY (dI .u8 (ka2 4 l))) ∧ ((!(ByteArray.toList (strOfNums (ka2 4 l)) == ByteArray.toList (ByteArray.mk #[83, 78, 68, 49]))) = true)) [(0, sV .u8 l m), (2, rV 0 0), (4, iV (↑m - 4)), (33, bV true)] [(0, some (31, .ds [D.lit (.int .u64 0), D.lit (.string { data := #[] }), iD 0, iD 0, iD 0, iD 0, iD 0, k9]))] 1 ⟨rfl, rfl, zo, zo, zo, jI, (by (simp only [qA, k8, pbL_len, uF, ka4, kb3, kb6, kb4, kb9, kb8, kc4, kc8, kc6, kd0] <;> omega)), rfl, (by rw [show (ByteArray.toList (strOfNums (ka2 4 l)) == ByteArray.toList (ByteArray.mk #[83, 78, 68, 49])) = false from (u0k (Byt.take (kL : Byt l) _) (by assumption))]; rfl)⟩ ?_
        refine zt ?_
        refine kG [.no, .no, .no] True [(2, rV 0 0), (3, iV 5)] [(0, some (31, .ds [D.lit (.int .u64 0), D.lit (.string { data := #[] }), iD 0, iD 0, iD 0, iD 0, iD 0, k9]))] 1 trivial ?_
        refine y6 (l' := [(2, rV 0 0), (3, iV 5)]) (g' := [(0, some (31, .ds [D.lit (.int .u64 0), D.lit (.string { data := #[] }), iD 0, iD 0, iD 0, iD 0, iD 0, D.sl ([] : List D) 0]))]) (NlS.cons rfl (.same _) (NlS.cons rfl (.same _) NlS.nil)) (NlG.to (bc := .ds [D.lit (.int .u64 0), D.lit (.string { data := #[] }), iD 0, iD 0, iD 0, iD 0, iD 0, k9]) rfl (NlL.cons (.same _) (NlL.cons (.same _) (NlL.cons (.same _) (NlL.cons (.same _) (NlL.cons (.same _) (NlL.cons (.same _) (NlL.cons (.same _) (NlL.cons (.nil) NlL.nil)))))))) NlG.nil) ?_
        have hz0 : qR l = 5 := (u6t hm (by omega) (by omega) (by assumption))
        obtain ⟨hzI, hzN, hz1, hz2, hz3, hz4, hz5, hzB⟩ := iA (l := l) zo
        refine AW.ret ?_
        exact kB (.inr rfl) [] (P := (((yK l) : Int) = 0) ∧ ((.string (strOfNums (uX l)) : Value) = .string { data := #[] }) ∧ (((yP l) : Int) = 0) ∧ (((yO l) : Int) = 0) ∧ (((yN l) : Int) = 0) ∧ (((yM l) : Int) = 0) ∧ (((yL l) : Int) = 0) ∧ (((kX (qK l)) : List D) = ([] : List D)) ∧ (((ka1 (qK l)) : Nat) = 0) ∧ (((qR l) : Int) = 5)) zk ⟨zo, (by rw [hzN]; rfl), zo, zo, zo, zo, zo, (by (rw [hzB]; rfl)), (by (rw [hzB]; rfl)), zo⟩
end Go.Proofs.YtdbjebdomdnbkaaGreat
