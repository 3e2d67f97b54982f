/- Names, descriptors. No statement is proved here. -/
import Derived.Test.YtdbjebdomdnbkaaZD11C
namespace Go.Proofs.Ytdbjebdomdnbkaa
open Go.ChangeShapes Go.WideShapes Go.ChangeAt Go.RowKit
open Bool renaming and_eq_true → kb9, and_false → ke3, eq_false_or_eq_true → kb4
open List renaming append_nil → kd0, drop → ka7, drop_zero → kd1, getD → ka0, getD_eq_getElem?_getD → ka8, getElem?_eq_getElem → ka9, length → ka1, length_append → ka3, length_cons → kb1, length_drop → kb2, length_map → kc3, length_nil → kb5, length_replicate → kb6, length_reverse → kc7, length_set → kc2, length_take → kb3, nil_append → ke6, take → ka2
open Nat renaming le_of_ble_eq_true → ka4, mul_one → kc6, zero_mul → kd9
set_option linter.unusedVariables false
set_option linter.unusedSimpArgs false
set_option maxHeartbeats 4000000
set_option maxRecDepth 100000
theorem gW {l : List Int} (h : ∀ j, j < l.length → 0 ≤ ka0 l j 0 ∧ ka0 l j 0 ≤ 255) {k : Nat} (hk : k < l.length) : eC (strOfNums l) (k : Int) = some (ka0 l k 0) := by
  have h9 := h k hk
  unfold eC
  rw [if_pos (by omega), strOfNums_data, Int.toNat_natCast, List.getElem?_map, ka9 hk]
  rw [ka8, ka9 hk, Option.getD_some] at *
  simp only [Option.map_some, UInt8.toNat_ofNat', Option.some.injEq]
  omega
theorem k9v {l : List Int} (h : l.length = 0) : (ByteArray.toList (strOfNums l) == ByteArray.toList (ByteArray.mk #[])) = true := by
  have : l = [] := List.length_eq_zero_iff.1 h
  subst this; rw [ByteArray.toList_eq, ByteArray.toList_eq]; rfl
theorem lL {l : List Int} (h : ¬ l.length = 0) : (ByteArray.toList (strOfNums l) == ByteArray.toList (ByteArray.mk #[])) = false := by
  rw [beq_eq_false_iff_ne]
  intro e
  have e2 := congrArg ka1 e
  rw [ByteArray.toList_eq, ByteArray.toList_eq, strOfNums_data, kc3] at e2
  exact h (by rw [e2]; rfl)
/-! chapter 11: names, descriptors -/
theorem u33 {l : List Int} {p : Int → Bool} (h : ∀ j, j < l.length → p (ka0 l j 0) = true) : l.all p = true := by
  rw [List.all_eq_true]
  intro x hx
  obtain ⟨j, hj, e⟩ := List.mem_iff_getElem.1 hx
  have h1 := h j hj
  rw [ka8, ka9 hj] at h1
  rw [← e]; exact h1
theorem u34 {l : List Int} {p : Int → Bool} (h : l.all p = true) (j : Nat) (hj : j < l.length) : p (ka0 l j 0) = true := by
  rw [ka8, ka9 hj]
  exact List.all_eq_true.1 h _ (List.getElem_mem hj)
def mY (x : Int) : Bool := decide ((97 ≤ x ∧ x ≤ 122) ∨ (65 ≤ x ∧ x ≤ 90))
def oH (x : Int) : Bool := decide (((97 ≤ x ∧ x ≤ 122) ∨ (65 ≤ x ∧ x ≤ 90)) ∨ (48 ≤ x ∧ x ≤ 57) ∨ x = 45 ∨ x = 46 ∨ x = 95)
theorem l7 {x : Int} (h : mY x = true) : oH x = true := decide_eq_true (.inl (of_decide_eq_true h))
theorem xQ {x : Int} (h : (48 ≤ x ∧ x ≤ 57) ∨ x = 45 ∨ x = 46 ∨ x = 95) : oH x = true := decide_eq_true (.inr h)
theorem xR {x : Int} (h : mY x = false) (h2 : ¬ ((48 ≤ x ∧ x ≤ 57) ∨ x = 45 ∨ x = 46 ∨ x = 95)) : oH x = false := decide_eq_false (fun h9 => h9.elim (of_decide_eq_false h) h2)
theorem u03 : ByteArray.mk #[83, 78, 68, 49] = strOfNums [83, 78, 68, 49] := by first | rfl | kernel_rfl
theorem u5s {a : List Int} (h : a = [83, 78, 68, 49]) : (ByteArray.toList (strOfNums a) == ByteArray.toList (ByteArray.mk #[83, 78, 68, 49])) = true := by rw [u03]; exact u4m h
theorem u5t {a : List Int} (ha : Byt a) (h : ¬ a = [83, 78, 68, 49]) : (ByteArray.toList (strOfNums a) == ByteArray.toList (ByteArray.mk #[83, 78, 68, 49])) = false := by
  rw [u03]; exact u4n ha (Byt.cons (by omega) (Byt.cons (by omega) (Byt.cons (by omega) (Byt.cons (by omega) Byt.nil)))) h
def uZ (l : List Int) : Bool := decide (1 ≤ l.length ∧ l.length ≤ 64) && mY (ka0 l 0 0) && l.all oH
theorem bH {l : List Int} (h : 1 ≤ l.length ∧ l.length ≤ 64) (h1 : mY (ka0 l 0 0) = true) (h2 : ∀ j, j < l.length → oH (ka0 l j 0) = true) : uZ l = true := by unfold uZ; rw [decide_eq_true h, h1, u33 h2]; rfl
theorem bI {l : List Int} (h : ¬ (1 ≤ l.length ∧ l.length ≤ 64)) : uZ l = false := by unfold uZ; rw [decide_eq_false h]; rfl
theorem bK {l : List Int} (h : mY (ka0 l 0 0) = false) : uZ l = false := by unfold uZ; rw [h, ke3]; rfl
theorem bJ {l : List Int} {k : Nat} (hk : k < l.length) (h : oH (ka0 l k 0) = false) : uZ l = false := by
  unfold uZ
  rw [Bool.and_eq_false_iff]
  right
  cases e : l.all oH with
  | false => rfl
  | true => have := u34 e k hk; rw [h] at this; cases this
theorem tP {l : List Int} (h : uZ l = true) : 1 ≤ l.length ∧ l.length ≤ 64 := by
  unfold uZ at h
  rw [kb9, kb9] at h
  exact of_decide_eq_true h.1.1
def yK (nm : List Int) (d1 d2 d3 d4 d5 : Int) (bs : List Bx) : Bool := uZ nm && (decide ((d1 = 1 ∨ d1 = 2) ∧ (0 ≤ d2 ∧ d2 ≤ 65535) ∧ (0 ≤ d3 ∧ d3 ≤ 1048576) ∧ (0 ≤ d4 ∧ d4 ≤ 2048) ∧ (0 ≤ d5 ∧ d5 ≤ 4096) ∧ 1 ≤ bs.length ∧ bs.length ≤ 8) && iI bs)
theorem u44 {nm : List Int} {d1 d2 d3 d4 d5 : Int} {bs : List Bx} (h : uZ nm = false) : yK nm d1 d2 d3 d4 d5 bs = false := by unfold yK; rw [h]; rfl
theorem u43 {nm : List Int} {d1 d2 d3 d4 d5 : Int} {bs : List Bx} (h : ¬ ((d1 = 1 ∨ d1 = 2) ∧ (0 ≤ d2 ∧ d2 ≤ 65535) ∧ (0 ≤ d3 ∧ d3 ≤ 1048576) ∧ (0 ≤ d4 ∧ d4 ≤ 2048) ∧ (0 ≤ d5 ∧ d5 ≤ 4096) ∧ 1 ≤ bs.length ∧ bs.length ≤ 8)) : yK nm d1 d2 d3 d4 d5 bs = false := by unfold yK; rw [decide_eq_false h, Bool.false_and, ke3]
theorem u45 {nm : List Int} {d1 d2 d3 d4 d5 : Int} {bs : List Bx} (h : iI bs = false) : yK nm d1 d2 d3 d4 d5 bs = false := by unfold yK; rw [h, ke3, ke3]
theorem u17 {nm : List Int} {d1 d2 d3 d4 d5 : Int} {bs : List Bx} (h0 : uZ nm = true) (h : (d1 = 1 ∨ d1 = 2) ∧ (0 ≤ d2 ∧ d2 ≤ 65535) ∧ (0 ≤ d3 ∧ d3 ≤ 1048576) ∧ (0 ≤ d4 ∧ d4 ≤ 2048) ∧ (0 ≤ d5 ∧ d5 ≤ 4096) ∧ 1 ≤ bs.length ∧ bs.length ≤ 8) (h2 : iI bs = true) : yK nm d1 d2 d3 d4 d5 bs = true := by unfold yK; rw [h0, decide_eq_true h, h2]; rfl
theorem u77 {nm : List Int} {d1 d2 d3 d4 d5 : Int} {bs : List Bx} (h : yK nm d1 d2 d3 d4 d5 bs = true) : uZ nm = true ∧ ((d1 = 1 ∨ d1 = 2) ∧ (0 ≤ d2 ∧ d2 ≤ 65535) ∧ (0 ≤ d3 ∧ d3 ≤ 1048576) ∧ (0 ≤ d4 ∧ d4 ≤ 2048) ∧ (0 ≤ d5 ∧ d5 ≤ 4096) ∧ 1 ≤ bs.length ∧ bs.length ≤ 8) ∧ iI bs = true := by
  unfold yK at h
  rw [kb9, kb9] at h
  exact ⟨h.1, of_decide_eq_true h.2.1, h.2.2⟩
def dz1 (l : List Int) (u : RS) : RS := kG 8 l u
def jX (l : List Int) (u : RS) : RS := qX l (dz1 l u)
def jW (l : List Int) (u : RS) : RS := kG 2 l (jX l u)
def jV (l : List Int) (u : RS) : RS := kG 2 l (jW l u)
def jU (l : List Int) (u : RS) : RS := kG 4 l (jV l u)
def jT (l : List Int) (u : RS) : RS := kG 2 l (jU l u)
def cG (l : List Int) (u : RS) : RS := kG 2 l (jT l u)
def fA (l : List Int) (u : RS) : RS := oM l (cG l u)
theorem u2z {m : Nat} {l : List Int} {u : RS} (hm : l.length = m) (hu : kV u ≤ m) : kV (fA l u) ≤ m := k6b hm (yF hm (yF hm (yF hm (yF hm (yF hm (k9u hm (yF hm hu)))))))
def deV (l : List Int) : Bool := yK (bC l (dz1 l qG)) ((k9 l (jX l qG) : Nat) : Int) ((k9 l (jW l qG) : Nat) : Int) (yG l (jV l qG)) ((k9 l (jU l qG) : Nat) : Int) ((k9 l (jT l qG) : Nat) : Int) (vR l (cG l qG))
def aB (l : List Int) : Int :=
  if l.length < 8 then 4
  else if ¬ g32 l (l.length - 4) = aR (ka2 (l.length - 4) l) then 6
  else if ¬ ka2 4 l = [83, 78, 68, 49] then 5
  else if ¬ (qA (fA (ka2 (l.length - 4) l) qG) = 0 ∧ kV (fA (ka2 (l.length - 4) l) qG) = l.length - 4) then 5
  else if deV (ka2 (l.length - 4) l) = false then 1 else 0
theorem u67 {l : List Int} {m : Nat} (hm : l.length = m) (h : m < 8) : aB l = 4 := by subst hm; exact if_pos h
theorem u6a {l : List Int} {m : Nat} (hm : l.length = m) (h : ¬ m < 8) (h1 : ¬ g32 l (m - 4) = aR (ka2 (m - 4) l)) : aB l = 6 := by subst hm; unfold aB; rw [if_neg h, if_pos h1]
theorem u7v {l : List Int} {m : Nat} (hm : l.length = m) (h : ¬ m < 8) (h1 : g32 l (m - 4) = aR (ka2 (m - 4) l)) (h2 : ¬ ka2 4 l = [83, 78, 68, 49]) : aB l = 5 := by subst hm; unfold aB; rw [if_neg h, if_neg (not_not_intro h1), if_pos h2]
theorem u68 {l : List Int} {m : Nat} (hm : l.length = m) (h : ¬ m < 8) (h1 : g32 l (m - 4) = aR (ka2 (m - 4) l)) (h2 : ka2 4 l = [83, 78, 68, 49]) (h3 : ¬ (qA (fA (ka2 (m - 4) l) qG) = 0 ∧ kV (fA (ka2 (m - 4) l) qG) = m - 4)) : aB l = 5 := by subst hm; unfold aB; rw [if_neg h, if_neg (not_not_intro h1), if_neg (not_not_intro h2), if_pos h3]
theorem u7u {l : List Int} {m : Nat} (hm : l.length = m) (h : ¬ m < 8) (h1 : g32 l (m - 4) = aR (ka2 (m - 4) l)) (h2 : ka2 4 l = [83, 78, 68, 49]) (h3 : qA (fA (ka2 (m - 4) l) qG) = 0 ∧ kV (fA (ka2 (m - 4) l) qG) = m - 4) (h4 : deV (ka2 (m - 4) l) = false) : aB l = 1 := by subst hm; unfold aB; rw [if_neg h, if_neg (not_not_intro h1), if_neg (not_not_intro h2), if_neg (not_not_intro h3), if_pos h4]
theorem u7t {l : List Int} {m : Nat} (hm : l.length = m) (h : ¬ m < 8) (h1 : g32 l (m - 4) = aR (ka2 (m - 4) l)) (h2 : ka2 4 l = [83, 78, 68, 49]) (h3 : qA (fA (ka2 (m - 4) l) qG) = 0 ∧ kV (fA (ka2 (m - 4) l) qG) = m - 4) (h4 : deV (ka2 (m - 4) l) = true) : aB l = 0 := by subst hm; unfold aB; rw [if_neg h, if_neg (not_not_intro h1), if_neg (not_not_intro h2), if_neg (not_not_intro h3), if_neg (by rw [h4]; decide)]
theorem k0t (l : List Int) : 0 ≤ aB l ∧ aB l ≤ 6 := by unfold aB; repeat' split <;> omega
def xE (l : List Int) : List Int := ka2 (l.length - 4) l
def dfI (l : List Int) : Int := if aB l = 0 then aO (xE l) qG else 0
def sW (l : List Int) : List Int := if aB l = 0 then bC (xE l) (dz1 (xE l) qG) else []
def df1 (l : List Int) : Int := if aB l = 0 then ((k9 (xE l) (jX (xE l) qG) : Nat) : Int) else 0
def df2 (l : List Int) : Int := if aB l = 0 then ((k9 (xE l) (jW (xE l) qG) : Nat) : Int) else 0
def df3 (l : List Int) : Int := if aB l = 0 then yG (xE l) (jV (xE l) qG) else 0
def df4 (l : List Int) : Int := if aB l = 0 then ((k9 (xE l) (jU (xE l) qG) : Nat) : Int) else 0
def df5 (l : List Int) : Int := if aB l = 0 then ((k9 (xE l) (jT (xE l) qG) : Nat) : Int) else 0
def f4 (l : List Int) : List Bx := if aB l = 0 then vR (xE l) (cG (xE l) qG) else []
theorem k26 {l : List Int} (h : ¬ aB l = 0) : dfI l = 0 ∧ sW l = [] ∧ df1 l = 0 ∧ df2 l = 0 ∧ df3 l = 0 ∧ df4 l = 0 ∧ df5 l = 0 ∧ f4 l = [] := ⟨if_neg h, if_neg h, if_neg h, if_neg h, if_neg h, if_neg h, if_neg h, if_neg h⟩
theorem u7s {l p : List Int} {m : Nat} (hm : l.length = m) (hp : ka2 (m - 4) l = p) (h : aB l = 0) : dfI l = aO p qG ∧ sW l = bC p (dz1 p qG) ∧ df1 l = ((k9 p (jX p qG) : Nat) : Int) ∧ df2 l = ((k9 p (jW p qG) : Nat) : Int) ∧ df3 l = yG p (jV p qG) ∧ df4 l = ((k9 p (jU p qG) : Nat) : Int) ∧ df5 l = ((k9 p (jT p qG) : Nat) : Int) ∧ f4 l = vR p (cG p qG) := by
  subst hp; subst hm
  exact ⟨if_pos h, if_pos h, if_pos h, if_pos h, if_pos h, if_pos h, if_pos h, if_pos h⟩
theorem u0i {l : List Int} (hy : Byt l) : BsW (f4 l) := by
  unfold f4; split
  · exact k6a (hy.take _) _
  · exact BsW.nil
theorem k0s {l : List Int} (hy : Byt l) : ka1 (f4 l) ≤ 65535 := by
  unfold f4; split
  · exact sB (hy.take _) _
  · exact Nat.zero_le _
theorem k0r (l : List Int) : ka1 (sW l) ≤ 64 := by
  unfold sW; split
  · exact pE _ _
  · exact Nat.zero_le _
attribute [local irreducible] aB dfI sW df1 df2 df3 df4 df5 f4 kG qX bC k9 yG aO yE f8 cB aX dW oM vR aR
theorem d8 {p : Prop} (h : p := by first | exact decide_eq_true (by omega) | exact decide_eq_false (by omega)) : p := h
theorem g8 (x : Int) (hx : 0 ≤ x ∧ x ≤ 255) : Fun 45 [.c (.d (D.lit (.int .u8 x)))] (kF []) 0 (kS (D.lit (.bool (mY x)))) (kF []) 0 := by
  refine Fun.mk (n := 17) Try.func45 rfl rfl (ka4 rfl) ?_
  intro cx hcx
  refine kI [.no] True [(0, kS (D.lit (.int .u8 x)))] [] 0 trivial ?_
  by_cases hx1 : ((97 : Int) ≤ x)
  · by_cases hx2 : (x ≤ 122)
    · refine zr [.no, .b true, .no, .no, .b true, .no, .no, .no, .no] [2] [] ((((97 : Int) ≤ x)) ∧ ((x ≤ 122))) [(2, bV true)] [] 0 ⟨zo, zo⟩ ?_
      refine AW.ret ?_
      exact kC (.inr rfl) [] (P := ((mY x) = true)) zk d8
    · refine zr [.no, .b true, .no, .no, .b false, .no, .no, .no, .b true, .no, .no, .b false, .no, .no, .no] [2] [] ((((97 : Int) ≤ x)) ∧ (¬ (x ≤ 122)) ∧ (((65 : Int) ≤ x)) ∧ (¬ (x ≤ 90))) [(2, bV false)] [] 0 ⟨zo, zo, zo, zo⟩ ?_
      refine AW.ret ?_
      exact kC (.inr rfl) [] (P := ((mY x) = false)) zk d8
  · by_cases hx3 : ((65 : Int) ≤ x)
    · by_cases hx4 : (x ≤ 90)
      · refine zr (.no :: .b false :: kJ 4 [.b true, .no, .no, .b true, .no, .no, .no]) [2] [] ((¬ ((97 : Int) ≤ x)) ∧ (((65 : Int) ≤ x)) ∧ ((x ≤ 90))) [(2, bV true)] [] 0 ⟨zo, zo, zo⟩ ?_
        refine AW.ret ?_
        exact kC (.inr rfl) [] (P := ((mY x) = true)) zk d8
      · refine zr (.no :: .b false :: kJ 4 [.b true, .no, .no, .b false, .no, .no, .no]) [2] [] ((¬ ((97 : Int) ≤ x)) ∧ (((65 : Int) ≤ x)) ∧ (¬ (x ≤ 90))) [(2, bV false)] [] 0 ⟨zo, zo, zo⟩ ?_
        refine AW.ret ?_
        exact kC (.inr rfl) [] (P := ((mY x) = false)) zk d8
    · refine zr (.no :: .b false :: kJ 4 (.b false :: kJ 4 [])) [2] [] ((¬ ((97 : Int) ≤ x)) ∧ (¬ ((65 : Int) ≤ x))) [(2, bV false)] [] 0 ⟨zo, zo⟩ ?_
      refine AW.ret ?_
      exact kC (.inr rfl) [] (P := ((mY x) = false)) zk d8
theorem fS {p : Prop} (h : p := by first | exact l7 (by assumption) | exact xQ (by omega) | exact xR (by assumption) (by omega)) : p := h
theorem u12 (x : Int) (hx : 0 ≤ x ∧ x ≤ 255) : Fun 46 [.c (.d (D.lit (.int .u8 x)))] (kF []) 0 (kS (D.lit (.bool (oH x)))) (kF []) 0 := by
  refine Fun.mk (n := 25) Try.func46 rfl rfl (ka4 rfl) ?_
  intro cx hcx
  refine kI [.no] True [(0, kS (D.lit (.int .u8 x)))] [] 0 trivial ?_
  rcases kb4 (mY x) with hx1 | hx1
  · refine zr (.no :: .call [] (bV true) [] 0 [] none :: kJ 9 []) [2] [] (Fun 45 [.c (.d (D.lit (.int .u8 x)))] (kF []) 0 (bV true) (kF []) 0) [(2, bV true)] [] 0 (by have h0 := (g8 x zo); rw [hx1] at h0; exact h0) ?_
    refine AW.ret ?_
    exact kC (.inr rfl) [] (P := ((oH x) = true)) zk fS
  · by_cases hx2 : ((48 : Int) ≤ x)
    · by_cases hx3 : (x ≤ 57)
      · refine zr (.no :: .call [] (bV false) [] 0 [] none :: .no :: .no :: .b true :: .no :: .no :: .b true :: kJ 9 []) [2] [] ((Fun 45 [.c (.d (D.lit (.int .u8 x)))] (kF []) 0 (bV false) (kF []) 0) ∧ (((48 : Int) ≤ x)) ∧ ((x ≤ 57))) [(2, bV true)] [] 0 ⟨(by have h0 := (g8 x zo); rw [hx1] at h0; exact h0), zo, zo⟩ ?_
        refine AW.ret ?_
        exact kC (.inr rfl) [] (P := ((oH x) = true)) zk fS
      · by_cases hx4 : (x = 95)
        · refine zr [.no, .call [] (bV false) [] 0 [] none, .no, .no, .b true, .no, .no, .b false, .no, .no, .no, .no, .b false, .no, .no, .no, .b false, .no, .no, .no, .b true, .no, .no] [2] [] ((Fun 45 [.c (.d (D.lit (.int .u8 x)))] (kF []) 0 (bV false) (kF []) 0) ∧ (((48 : Int) ≤ x)) ∧ (¬ (x ≤ 57)) ∧ (¬ (x = 45)) ∧ (¬ (x = 46)) ∧ ((x = 95))) [(2, bV true)] [] 0 ⟨(by have h0 := (g8 x zo); rw [hx1] at h0; exact h0), zo, zo, zo, zo, zo⟩ ?_
          refine AW.ret ?_
          exact kC (.inr rfl) [] (P := ((oH x) = true)) zk fS
        · refine zr [.no, .call [] (bV false) [] 0 [] none, .no, .no, .b true, .no, .no, .b false, .no, .no, .no, .no, .b false, .no, .no, .no, .b false, .no, .no, .no, .b false, .no, .no] [2] [] ((Fun 45 [.c (.d (D.lit (.int .u8 x)))] (kF []) 0 (bV false) (kF []) 0) ∧ (((48 : Int) ≤ x)) ∧ (¬ (x ≤ 57)) ∧ (¬ (x = 45)) ∧ (¬ (x = 46)) ∧ (¬ (x = 95))) [(2, bV false)] [] 0 ⟨(by have h0 := (g8 x zo); rw [hx1] at h0; exact h0), zo, zo, zo, zo, zo⟩ ?_
          refine AW.ret ?_
          exact kC (.inr rfl) [] (P := ((oH x) = false)) zk fS
    · by_cases hx5 : (x = 45)
      · refine zr (.no :: .call [] (bV false) [] 0 [] none :: .no :: .no :: .b false :: kJ 5 (.b true :: kJ 6 [])) [2] [] ((Fun 45 [.c (.d (D.lit (.int .u8 x)))] (kF []) 0 (bV false) (kF []) 0) ∧ (¬ ((48 : Int) ≤ x)) ∧ ((x = 45))) [(2, bV true)] [] 0 ⟨(by have h0 := (g8 x zo); rw [hx1] at h0; exact h0), zo, zo⟩ ?_
        refine AW.ret ?_
        exact kC (.inr rfl) [] (P := ((oH x) = true)) zk fS
      · by_cases hx6 : (x = 46)
        · refine zr (.no :: .call [] (bV false) [] 0 [] none :: .no :: .no :: .b false :: kJ 5 (.b false :: .no :: .no :: .no :: .b true :: kJ 4 [])) [2] [] ((Fun 45 [.c (.d (D.lit (.int .u8 x)))] (kF []) 0 (bV false) (kF []) 0) ∧ (¬ ((48 : Int) ≤ x)) ∧ (¬ (x = 45)) ∧ ((x = 46))) [(2, bV true)] [] 0 ⟨(by have h0 := (g8 x zo); rw [hx1] at h0; exact h0), zo, zo, zo⟩ ?_
          refine AW.ret ?_
          exact kC (.inr rfl) [] (P := ((oH x) = true)) zk fS
        · refine zr (.no :: .call [] (bV false) [] 0 [] none :: .no :: .no :: .b false :: kJ 5 [.b false, .no, .no, .no, .b false, .no, .no, .no, .b false, .no, .no]) [2] [] ((Fun 45 [.c (.d (D.lit (.int .u8 x)))] (kF []) 0 (bV false) (kF []) 0) ∧ (¬ ((48 : Int) ≤ x)) ∧ (¬ (x = 45)) ∧ (¬ (x = 46)) ∧ (¬ (x = 95))) [(2, bV false)] [] 0 ⟨(by have h0 := (g8 x zo); rw [hx1] at h0; exact h0), zo, zo, zo, zo⟩ ?_
          refine AW.ret ?_
          exact kC (.inr rfl) [] (P := ((oH x) = false)) zk fS
theorem d7 {p : Prop} (h : p := by first | omega | (simp only [kb2, kb3]; omega)) : p := h
theorem qZ {p : Prop} (h : p := by first | omega | with_reducible assumption | (simp only [kU, kT, pbL_len, ka3, kb1, kb5, kb3, kb2, kb6, kc2] <;> omega) | rfl | assumption) : p := h
theorem sM (l : List Int) (hy : Byt l) (hb : ka1 l ≤ 9223372036854775807) : Fun 30 [.c (.d (D.lit (.string (strOfNums l))))] (kF []) 0 (kS (D.lit (.bool (uZ l)))) (kF []) 0 := by
  refine Fun.mk (n := 28) Try.func30 rfl rfl (ka4 rfl) ?_
  intro cx hcx
  refine kI [.no] True [(0, kS (D.lit (.string (strOfNums l))))] [] 0 trivial ?_
  refine AW.seq ?_
  by_cases hx1 : ((ka1 l) = 0)
  · refine zr (.no :: .b true :: kJ 4 []) [0, 16] [] ((ByteArray.toList (strOfNums l) == ByteArray.toList (ByteArray.mk #[])) = true) [(0, kS (D.lit (.string (strOfNums l)))), (16, bV true)] [] 0 (k9v zo) ?_
    refine zt ?_
    refine kI [.no] True [(2, bV false)] [] 0 trivial ?_
    refine AW.ret ?_
    exact kC (.inr rfl) [] (P := ((uZ l) = false)) zk (by first | exact bI zo | exact bK (by assumption) | exact bJ (k := k) zo (by assumption) | exact bH zo (by assumption) (fun j hj => ha j zo))
  · by_cases hx2 : ((64 : Int) < (((ka1 l) : Nat) : Int))
    · refine zr [.no, .b false, .no, .no, .i (ka1 l : Int), .b true, .no, .no, .no] [0, 16] [] (((ByteArray.toList (strOfNums l) == ByteArray.toList (ByteArray.mk #[])) = false) ∧ ((ByteArray.size (strOfNums l) : Int) = ((ka1 l : Int) : Int)) ∧ (((64 : Int) < (ka1 l : Int)))) [(0, kS (D.lit (.string (strOfNums l)))), (16, bV true)] [] 0 ⟨(lL zo), (by rw [strOfNums_size]), zo⟩ ?_
      refine zt ?_
      refine kI [.no] True [(2, bV false)] [] 0 trivial ?_
      refine AW.ret ?_
      exact kC (.inr rfl) [] (P := ((uZ l) = false)) zk (by first | exact bI zo | exact bK (by assumption) | exact bJ (k := k) zo (by assumption) | exact bH zo (by assumption) (fun j hj => ha j zo))
    · rcases kb4 (mY (ka0 l 0 0)) with hx4 | hx4
      · have hx5 : 0 ≤ (ka0 l 0 0) ∧ (ka0 l 0 0) ≤ 255 := Byt.at (kQ : Byt l) _ d7
        refine kI [.no, .b false, .no, .no, .i (ka1 l : Int), .b false, .no, .no, .no, .i (ka0 l 0 0), .call [] (bV true) [] 0 [] none, .no, .no] (((ByteArray.toList (strOfNums l) == ByteArray.toList (ByteArray.mk #[])) = false) ∧ ((ByteArray.size (strOfNums l) : Int) = ((ka1 l : Int) : Int)) ∧ (¬ ((64 : Int) < (ka1 l : Int))) ∧ (eC (strOfNums l) (0 : Int) = some ((ka0 l 0 0) : Int)) ∧ (Fun 45 [.c (.d (D.lit (.int .u8 (ka0 l 0 0))))] (kF []) 0 (bV true) (kF []) 0)) [(0, kS (D.lit (.string (strOfNums l)))), (16, bV false)] [] 0 ⟨(lL zo), (by rw [strOfNums_size]), zo, (by have h9 := gW (l := l) (Byt.at (kQ : Byt l)) (k := 0) d7; exact h9), (by have h0 := (g8 (ka0 l 0 0) qZ); rw [hx4] at h0; exact h0)⟩ ?_
        refine yC ?_
        refine AW.seq ?_
        refine k8 [.no, .i (ka1 l : Int), .no] ((ByteArray.size (strOfNums l) : Int) = ((ka1 l : Int) : Int)) [(0, kS (D.lit (.string (strOfNums l)))), (18, uV (ka1 l)), (19, iV 0)] (by rw [strOfNums_size]) ?_
        refine AW.block ?_
        refine kX 0 hcx (fun (x : {x : Nat // match x with | k => (k ≤ ka1 l) ∧ (∀ j, j < k → oH (ka0 l j 0) = true)}) => match x with | ⟨k, _⟩ => (⟨[(0, kS (D.lit (.string (strOfNums l)))), (18, uV (ka1 l)), (19, uV k)], [], 0⟩ : ES)) (fun x => match x with | ⟨k, _⟩ => ka1 l - k) ⟨(0 : Nat), ⟨(by first | omega | assumption | simp), (fun j hj => absurd hj (Nat.not_lt_zero j))⟩⟩ [] (P := ((.string (strOfNums l) : Value) = .string (strOfNums l)) ∧ (kN (ka1 l : Int)) ∧ (kN 0)) zk ⟨rfl, rfl, rfl⟩ ?_
        rintro ⟨k, hinv0⟩
        obtain ⟨hk, ha⟩ : (k ≤ ka1 l) ∧ (∀ j, j < k → oH (ka0 l j 0) = true) := hinv0
        refine qU (l := [(0, kS (D.lit (.string (strOfNums l)))), (18, uV (ka1 l)), (19, uV k)]) (g := []) (nx := 0) rfl rfl rfl ?_
        by_cases hx6 : (((k : Nat) : Int) < (((ka1 l) : Nat) : Int))
        · refine zr [.b true] [0, 18, 19, 20] [] (((k : Int) < (ka1 l : Int))) [(0, kS (D.lit (.string (strOfNums l)))), (18, uV (ka1 l)), (19, uV k), (20, bV true)] [] 0 zo ?_
          refine AW.seq ?_
          refine vD ?_
          refine AW.seq ?_
          refine AW.block ?_
          refine kI [.no, .no] True [(0, kS (D.lit (.string (strOfNums l)))), (3, uV k), (18, uV (ka1 l)), (19, uV k)] [] 0 trivial ?_
          rcases kb4 (oH (ka0 l k 0)) with hx8 | hx8
          · have hx9 : 0 ≤ (ka0 l k 0) ∧ (ka0 l k 0) ≤ 255 := Byt.at (kQ : Byt l) _ d7
            refine kI [.no, .no, .i (ka0 l k 0), .call [] (bV true) [] 0 [] none, .no] ((eC (strOfNums l) ((k : Int) : Int) = some ((ka0 l k 0) : Int)) ∧ (Fun 46 [.c (.d (D.lit (.int .u8 (ka0 l k 0))))] (kF []) 0 (bV true) (kF []) 0)) [(0, kS (D.lit (.string (strOfNums l)))), (18, uV (ka1 l)), (19, uV k), (26, bV false)] [] 0 ⟨(by have h9 := gW (l := l) (Byt.at (kQ : Byt l)) (k := k) d7; exact h9), (by have h0 := (u12 (ka0 l k 0) qZ); rw [hx8] at h0; exact h0)⟩ ?_
            refine yC ?_
            refine yD [.w, .no] (qJ ((k : Int) + 1)) [(0, kS (D.lit (.string (strOfNums l)))), (18, uV (ka1 l)), (19, iV (↑k + 1))] ⟨by omega, by omega⟩ ?_
            exact qE ⟨((k + 1) : Nat), ⟨(by first | omega | assumption | simp), (fun j hj => (Nat.lt_succ_iff_lt_or_eq.1 hj).elim (ha j) (fun e9 => by subst e9; first | assumption | exact l7 (by assumption) | exact xQ zo))⟩⟩ [] (P := ((.string (strOfNums l) : Value) = .string (strOfNums l)) ∧ (kN (ka1 l : Int)) ∧ (q1S k)) zk ⟨rfl, rfl, (by first | rfl | omega | assumption | (simp; done) | (simp; omega))⟩ (show ka1 l - (k + 1) < ka1 l - k from (by first | omega | (show _ < _; simp; omega)))
          · have hx10 : 0 ≤ (ka0 l k 0) ∧ (ka0 l k 0) ≤ 255 := Byt.at (kQ : Byt l) _ d7
            refine kI [.no, .no, .i (ka0 l k 0), .call [] (bV false) [] 0 [] none, .no] ((eC (strOfNums l) ((k : Int) : Int) = some ((ka0 l k 0) : Int)) ∧ (Fun 46 [.c (.d (D.lit (.int .u8 (ka0 l k 0))))] (kF []) 0 (bV false) (kF []) 0)) [(0, kS (D.lit (.string (strOfNums l)))), (18, uV (ka1 l)), (19, uV k), (26, bV true)] [] 0 ⟨(by have h9 := gW (l := l) (Byt.at (kQ : Byt l)) (k := k) d7; exact h9), (by have h0 := (u12 (ka0 l k 0) qZ); rw [hx8] at h0; exact h0)⟩ ?_
            refine zt ?_
            refine k8 [.no] True [(2, bV false)] trivial ?_
            refine AW.ret ?_
            exact kC (.inr rfl) [] (P := ((uZ l) = false)) zk (by first | exact bI zo | exact bK (by assumption) | exact bJ (k := k) zo (by assumption) | exact bH zo (by assumption) (fun j hj => ha j zo))
        · refine zr [.b false] [0, 18, 19, 20] [] (¬ ((k : Int) < (ka1 l : Int))) [(0, kS (D.lit (.string (strOfNums l)))), (18, uV (ka1 l)), (19, uV k), (20, bV false)] [] 0 zo ?_
          refine AW.seq ?_
          refine zf ?_
          refine AW.exit ?_
          refine kI [.no] True [(2, bV true)] [] 0 trivial ?_
          refine AW.ret ?_
          exact kC (.inr rfl) [] (P := ((uZ l) = true)) zk (by first | exact bI zo | exact bK (by assumption) | exact bJ (k := k) zo (by assumption) | exact bH zo (by assumption) (fun j hj => ha j zo))
      · have hx11 : 0 ≤ (ka0 l 0 0) ∧ (ka0 l 0 0) ≤ 255 := Byt.at (kQ : Byt l) _ d7
        refine kI [.no, .b false, .no, .no, .i (ka1 l : Int), .b false, .no, .no, .no, .i (ka0 l 0 0), .call [] (bV false) [] 0 [] none, .no, .no] (((ByteArray.toList (strOfNums l) == ByteArray.toList (ByteArray.mk #[])) = false) ∧ ((ByteArray.size (strOfNums l) : Int) = ((ka1 l : Int) : Int)) ∧ (¬ ((64 : Int) < (ka1 l : Int))) ∧ (eC (strOfNums l) (0 : Int) = some ((ka0 l 0 0) : Int)) ∧ (Fun 45 [.c (.d (D.lit (.int .u8 (ka0 l 0 0))))] (kF []) 0 (bV false) (kF []) 0)) [(0, kS (D.lit (.string (strOfNums l)))), (16, bV true)] [] 0 ⟨(lL zo), (by rw [strOfNums_size]), zo, (by have h9 := gW (l := l) (Byt.at (kQ : Byt l)) (k := 0) d7; exact h9), (by have h0 := (g8 (ka0 l 0 0) qZ); rw [hx4] at h0; exact h0)⟩ ?_
        refine zt ?_
        refine k8 [.no] True [(2, bV false)] trivial ?_
        refine AW.ret ?_
        exact kC (.inr rfl) [] (P := ((uZ l) = false)) zk (by first | exact bI zo | exact bK (by assumption) | exact bJ (k := k) zo (by assumption) | exact bH zo (by assumption) (fun j hj => ha j zo))
theorem qL (x y : Int)  : Fun 31 [iE x, iE y] (kF []) 0 (kS (D.lit (.bool (decide (0 ≤ x ∧ x ≤ y))))) (kF []) 0 := by
  refine Fun.mk (n := 12) Try.func31 rfl rfl (ka4 rfl) ?_
  intro cx hcx
  refine kI [.no] True [(0, iV x), (1, iV y)] [] 0 trivial ?_
  by_cases hx1 : ((0 : Int) ≤ x)
  · by_cases hx2 : (x ≤ y)
    · refine zr [.no, .b true, .no, .no, .no, .b true, .no, .no] [4] [] ((((0 : Int) ≤ x)) ∧ ((x ≤ y))) [(4, bV true)] [] 0 ⟨zo, zo⟩ ?_
      refine AW.ret ?_
      exact kC (.inr rfl) [] (P := ((decide (0 ≤ x ∧ x ≤ y)) = true)) zk d8
    · refine zr [.no, .b true, .no, .no, .no, .b false, .no, .no] [4] [] ((((0 : Int) ≤ x)) ∧ (¬ (x ≤ y))) [(4, bV false)] [] 0 ⟨zo, zo⟩ ?_
      refine AW.ret ?_
      exact kC (.inr rfl) [] (P := ((decide (0 ≤ x ∧ x ≤ y)) = false)) zk d8
  · refine zr [.no, .b false, .no, .no, .no] [4] [] (¬ ((0 : Int) ≤ x)) [(4, bV false)] [] 0 zo ?_
    refine AW.ret ?_
    exact kC (.inr rfl) [] (P := ((decide (0 ≤ x ∧ x ≤ y)) = false)) zk d8
theorem yY {p : Prop} (h : p := by first | exact u44 (by assumption) | exact u17 (by assumption) (by omega) (by assumption) | exact u45 (by assumption) | exact u43 (by omega)) : p := h
theorem fF (id : Int) (nm : List Int) (d1 d2 d3 d4 d5 : Int) (bs : List Bx) (n : Nat) (hy : Byt nm) (hl : ka1 nm ≤ 1000000) (hn : ka1 bs = n) (h1 : n ≤ 1000000) (hW : BsW bs) : Fun 10 [.agg [.d (D.lit (.int .u64 id)), .d (D.lit (.string (strOfNums nm))), iC d1, iC d2, iC d3, iC d4, iC d5, .d (D.sl (kR bs) n)]] (kF []) 0 (kS (D.lit (.bool (yK nm d1 d2 d3 d4 d5 bs)))) (kF []) 0 := by
  refine Fun.mk (n := 54) Try.func10 rfl rfl (ka4 rfl) ?_
  intro cx hcx
  refine kI [.no, .no] True [(1, rV 0 0)] [(0, some (25, .ds [D.lit (.int .u64 id), D.lit (.string (strOfNums nm)), iD d1, iD d2, iD d3, iD d4, iD d5, D.sl (kR bs) n]))] 1 trivial ?_
  refine AW.seq ?_
  rcases kb4 (uZ nm) with hx1 | hx1
  · by_cases hx2 : (d1 ≠ 1)
    · by_cases hx3 : (d1 ≠ 2)
      · refine zr (.no :: .no :: .call [] (bV true) [] 0 [] none :: kJ 4 [.b true, .no, .no, .no, .b true, .no, .no]) [1, 16] [0] ((Fun 30 [.c (.d (D.lit (.string (strOfNums nm))))] (kF []) 0 (bV true) (kF []) 0) ∧ ((d1 ≠ 1)) ∧ ((d1 ≠ 2))) [(1, rV 0 0), (16, bV true)] [(0, some (25, .ds [D.lit (.int .u64 id), D.lit (.string (strOfNums nm)), iD d1, iD d2, iD d3, iD d4, iD d5, D.sl (kR bs) n]))] 1 ⟨(by have h0 := (sM nm (kQ : Byt nm) zo); rw [hx1] at h0; exact h0), zo, zo⟩ ?_
        refine zt ?_
        refine kI [.no] True [(2, bV false)] [] 1 trivial ?_
        refine AW.ret ?_
        exact kC (.inr rfl) [] (P := ((yK nm d1 d2 d3 d4 d5 bs) = false)) zk yY
      · refine zr (.no :: .no :: .call [] (bV true) [] 0 [] none :: kJ 4 [.b true, .no, .no, .no, .b false, .no, .no]) [1, 16] [0] ((Fun 30 [.c (.d (D.lit (.string (strOfNums nm))))] (kF []) 0 (bV true) (kF []) 0) ∧ ((d1 ≠ 1)) ∧ (¬ (d1 ≠ 2))) [(1, rV 0 0), (16, bV false)] [(0, some (25, .ds [D.lit (.int .u64 id), D.lit (.string (strOfNums nm)), iD d1, iD d2, iD d3, iD d4, iD d5, D.sl (kR bs) n]))] 1 ⟨(by have h0 := (sM nm (kQ : Byt nm) zo); rw [hx1] at h0; exact h0), zo, zo⟩ ?_
        refine yC ?_
        refine AW.seq ?_
        rcases kb4 (decide (0 ≤ d2 ∧ d2 ≤ 65535)) with hx4 | hx4
        · have hx5 : (((0 : Int) ≤ d2) ∧ (d2 ≤ 65535)) := of_decide_eq_true hx4
          rcases kb4 (decide (0 ≤ d3 ∧ d3 ≤ 1048576)) with hx6 | hx6
          · have hx7 : (((0 : Int) ≤ d3) ∧ (d3 ≤ 1048576)) := of_decide_eq_true hx6
            rcases kb4 (decide (0 ≤ d4 ∧ d4 ≤ 2048)) with hx8 | hx8
            · have hx9 : (((0 : Int) ≤ d4) ∧ (d4 ≤ 2048)) := of_decide_eq_true hx8
              rcases kb4 (decide (0 ≤ d5 ∧ d5 ≤ 4096)) with hx10 | hx10
              · have hx11 : (((0 : Int) ≤ d5) ∧ (d5 ≤ 4096)) := of_decide_eq_true hx10
                refine kI (.no :: .no :: .call [] (bV true) [] 0 [] none :: kJ 4 (.call [] (bV true) [] 0 [] none :: kJ 5 (.call [] (bV true) [] 0 [] none :: kJ 5 [.call [] (bV true) [] 0 [] none, .no, .no]))) ((Fun 31 [iE d2, iE 65535] (kF []) 0 (bV true) (kF []) 0) ∧ (Fun 31 [iE d3, iE 1048576] (kF []) 0 (bV true) (kF []) 0) ∧ (Fun 31 [iE d4, iE 2048] (kF []) 0 (bV true) (kF []) 0) ∧ (Fun 31 [iE d5, iE 4096] (kF []) 0 (bV true) (kF []) 0)) [(1, rV 0 0), (38, bV false)] [(0, some (25, .ds [D.lit (.int .u64 id), D.lit (.string (strOfNums nm)), iD d1, iD d2, iD d3, iD d4, iD d5, D.sl (kR bs) n]))] 1 ⟨(by have h0 := (qL d2 65535); rw [hx4] at h0; exact h0), (by have h0 := (qL d3 1048576); rw [hx6] at h0; exact h0), (by have h0 := (qL d4 2048); rw [hx8] at h0; exact h0), (by have h0 := (qL d5 4096); rw [hx10] at h0; exact h0)⟩ ?_
                refine yC ?_
                by_cases hx12 : ((1 : Int) ≤ ((n : Nat) : Int))
                · by_cases hx13 : (((n : Nat) : Int) ≤ 8)
                  · rcases kb4 (iI bs) with hx14 | hx14
                    · refine zr (.no :: .no :: .no :: .b true :: kJ 4 (.b true :: kJ 4 [.call [] (bV true) [] 0 [] none, .no, .no])) [2] [] ((((1 : Int) ≤ (n : Int))) ∧ (((n : Int) ≤ 8)) ∧ (Fun 32 [.c (.d (D.sl (kR bs) n))] (kF []) 0 (bV true) (kF []) 0)) [(2, bV true)] [] 1 ⟨zo, zo, (by have h0 := (j3 bs n zo zo (kQ : BsW bs)); rw [hx14] at h0; exact h0)⟩ ?_
                      refine AW.ret ?_
                      exact kC (.inr rfl) [] (P := ((yK nm d1 d2 d3 d4 d5 bs) = true)) zk yY
                    · refine zr (.no :: .no :: .no :: .b true :: kJ 4 (.b true :: kJ 4 [.call [] (bV false) [] 0 [] none, .no, .no])) [2] [] ((((1 : Int) ≤ (n : Int))) ∧ (((n : Int) ≤ 8)) ∧ (Fun 32 [.c (.d (D.sl (kR bs) n))] (kF []) 0 (bV false) (kF []) 0)) [(2, bV false)] [] 1 ⟨zo, zo, (by have h0 := (j3 bs n zo zo (kQ : BsW bs)); rw [hx14] at h0; exact h0)⟩ ?_
                      refine AW.ret ?_
                      exact kC (.inr rfl) [] (P := ((yK nm d1 d2 d3 d4 d5 bs) = false)) zk yY
                  · refine zr (.no :: .no :: .no :: .b true :: kJ 4 (.b false :: kJ 4 [])) [2] [] ((((1 : Int) ≤ (n : Int))) ∧ (¬ ((n : Int) ≤ 8))) [(2, bV false)] [] 1 ⟨zo, zo⟩ ?_
                    refine AW.ret ?_
                    exact kC (.inr rfl) [] (P := ((yK nm d1 d2 d3 d4 d5 bs) = false)) zk yY
                · refine zr (.no :: .no :: .no :: .b false :: kJ 5 []) [2] [] (¬ ((1 : Int) ≤ (n : Int))) [(2, bV false)] [] 1 zo ?_
                  refine AW.ret ?_
                  exact kC (.inr rfl) [] (P := ((yK nm d1 d2 d3 d4 d5 bs) = false)) zk yY
              · have hx15 : ¬ (((0 : Int) ≤ d5) ∧ (d5 ≤ 4096)) := of_decide_eq_false hx10
                refine kI (.no :: .no :: .call [] (bV true) [] 0 [] none :: kJ 4 (.call [] (bV true) [] 0 [] none :: kJ 5 (.call [] (bV true) [] 0 [] none :: kJ 5 [.call [] (bV false) [] 0 [] none, .no, .no]))) ((Fun 31 [iE d2, iE 65535] (kF []) 0 (bV true) (kF []) 0) ∧ (Fun 31 [iE d3, iE 1048576] (kF []) 0 (bV true) (kF []) 0) ∧ (Fun 31 [iE d4, iE 2048] (kF []) 0 (bV true) (kF []) 0) ∧ (Fun 31 [iE d5, iE 4096] (kF []) 0 (bV false) (kF []) 0)) [(1, rV 0 0), (38, bV true)] [(0, some (25, .ds [D.lit (.int .u64 id), D.lit (.string (strOfNums nm)), iD d1, iD d2, iD d3, iD d4, iD d5, D.sl (kR bs) n]))] 1 ⟨(by have h0 := (qL d2 65535); rw [hx4] at h0; exact h0), (by have h0 := (qL d3 1048576); rw [hx6] at h0; exact h0), (by have h0 := (qL d4 2048); rw [hx8] at h0; exact h0), (by have h0 := (qL d5 4096); rw [hx10] at h0; exact h0)⟩ ?_
                refine zt ?_
                refine kI [.no] True [(2, bV false)] [] 1 trivial ?_
                refine AW.ret ?_
                exact kC (.inr rfl) [] (P := ((yK nm d1 d2 d3 d4 d5 bs) = false)) zk yY
            · have hx16 : ¬ (((0 : Int) ≤ d4) ∧ (d4 ≤ 2048)) := of_decide_eq_false hx8
              refine kI (.no :: .no :: .call [] (bV true) [] 0 [] none :: kJ 4 (.call [] (bV true) [] 0 [] none :: kJ 5 (.call [] (bV false) [] 0 [] none :: kJ 4 []))) ((Fun 31 [iE d2, iE 65535] (kF []) 0 (bV true) (kF []) 0) ∧ (Fun 31 [iE d3, iE 1048576] (kF []) 0 (bV true) (kF []) 0) ∧ (Fun 31 [iE d4, iE 2048] (kF []) 0 (bV false) (kF []) 0)) [(1, rV 0 0), (38, bV true)] [(0, some (25, .ds [D.lit (.int .u64 id), D.lit (.string (strOfNums nm)), iD d1, iD d2, iD d3, iD d4, iD d5, D.sl (kR bs) n]))] 1 ⟨(by have h0 := (qL d2 65535); rw [hx4] at h0; exact h0), (by have h0 := (qL d3 1048576); rw [hx6] at h0; exact h0), (by have h0 := (qL d4 2048); rw [hx8] at h0; exact h0)⟩ ?_
              refine zt ?_
              refine kI [.no] True [(2, bV false)] [] 1 trivial ?_
              refine AW.ret ?_
              exact kC (.inr rfl) [] (P := ((yK nm d1 d2 d3 d4 d5 bs) = false)) zk yY
          · have hx17 : ¬ (((0 : Int) ≤ d3) ∧ (d3 ≤ 1048576)) := of_decide_eq_false hx6
            refine kI (.no :: .no :: .call [] (bV true) [] 0 [] none :: kJ 4 (.call [] (bV false) [] 0 [] none :: kJ 6 [])) ((Fun 31 [iE d2, iE 65535] (kF []) 0 (bV true) (kF []) 0) ∧ (Fun 31 [iE d3, iE 1048576] (kF []) 0 (bV false) (kF []) 0)) [(1, rV 0 0), (38, bV true)] [(0, some (25, .ds [D.lit (.int .u64 id), D.lit (.string (strOfNums nm)), iD d1, iD d2, iD d3, iD d4, iD d5, D.sl (kR bs) n]))] 1 ⟨(by have h0 := (qL d2 65535); rw [hx4] at h0; exact h0), (by have h0 := (qL d3 1048576); rw [hx6] at h0; exact h0)⟩ ?_
            refine zt ?_
            refine kI [.no] True [(2, bV false)] [] 1 trivial ?_
            refine AW.ret ?_
            exact kC (.inr rfl) [] (P := ((yK nm d1 d2 d3 d4 d5 bs) = false)) zk yY
        · have hx18 : ¬ (((0 : Int) ≤ d2) ∧ (d2 ≤ 65535)) := of_decide_eq_false hx4
          refine kI (.no :: .no :: .call [] (bV false) [] 0 [] none :: kJ 7 []) (Fun 31 [iE d2, iE 65535] (kF []) 0 (bV false) (kF []) 0) [(1, rV 0 0), (38, bV true)] [(0, some (25, .ds [D.lit (.int .u64 id), D.lit (.string (strOfNums nm)), iD d1, iD d2, iD d3, iD d4, iD d5, D.sl (kR bs) n]))] 1 (by have h0 := (qL d2 65535); rw [hx4] at h0; exact h0) ?_
          refine zt ?_
          refine kI [.no] True [(2, bV false)] [] 1 trivial ?_
          refine AW.ret ?_
          exact kC (.inr rfl) [] (P := ((yK nm d1 d2 d3 d4 d5 bs) = false)) zk yY
    · refine zr (.no :: .no :: .call [] (bV true) [] 0 [] none :: kJ 4 [.b false, .no, .no, .no]) [1, 16] [0] ((Fun 30 [.c (.d (D.lit (.string (strOfNums nm))))] (kF []) 0 (bV true) (kF []) 0) ∧ (¬ (d1 ≠ 1))) [(1, rV 0 0), (16, bV false)] [(0, some (25, .ds [D.lit (.int .u64 id), D.lit (.string (strOfNums nm)), iD d1, iD d2, iD d3, iD d4, iD d5, D.sl (kR bs) n]))] 1 ⟨(by have h0 := (sM nm (kQ : Byt nm) zo); rw [hx1] at h0; exact h0), zo⟩ ?_
      refine yC ?_
      refine AW.seq ?_
      rcases kb4 (decide (0 ≤ d2 ∧ d2 ≤ 65535)) with hx19 | hx19
      · have hx20 : (((0 : Int) ≤ d2) ∧ (d2 ≤ 65535)) := of_decide_eq_true hx19
        rcases kb4 (decide (0 ≤ d3 ∧ d3 ≤ 1048576)) with hx21 | hx21
        · have hx22 : (((0 : Int) ≤ d3) ∧ (d3 ≤ 1048576)) := of_decide_eq_true hx21
          rcases kb4 (decide (0 ≤ d4 ∧ d4 ≤ 2048)) with hx23 | hx23
          · have hx24 : (((0 : Int) ≤ d4) ∧ (d4 ≤ 2048)) := of_decide_eq_true hx23
            rcases kb4 (decide (0 ≤ d5 ∧ d5 ≤ 4096)) with hx25 | hx25
            · have hx26 : (((0 : Int) ≤ d5) ∧ (d5 ≤ 4096)) := of_decide_eq_true hx25
              refine kI (.no :: .no :: .call [] (bV true) [] 0 [] none :: kJ 4 (.call [] (bV true) [] 0 [] none :: kJ 5 (.call [] (bV true) [] 0 [] none :: kJ 5 [.call [] (bV true) [] 0 [] none, .no, .no]))) ((Fun 31 [iE d2, iE 65535] (kF []) 0 (bV true) (kF []) 0) ∧ (Fun 31 [iE d3, iE 1048576] (kF []) 0 (bV true) (kF []) 0) ∧ (Fun 31 [iE d4, iE 2048] (kF []) 0 (bV true) (kF []) 0) ∧ (Fun 31 [iE d5, iE 4096] (kF []) 0 (bV true) (kF []) 0)) [(1, rV 0 0), (38, bV false)] [(0, some (25, .ds [D.lit (.int .u64 id), D.lit (.string (strOfNums nm)), iD d1, iD d2, iD d3, iD d4, iD d5, D.sl (kR bs) n]))] 1 ⟨(by have h0 := (qL d2 65535); rw [hx19] at h0; exact h0), (by have h0 := (qL d3 1048576); rw [hx21] at h0; exact h0), (by have h0 := (qL d4 2048); rw [hx23] at h0; exact h0), (by have h0 := (qL d5 4096); rw [hx25] at h0; exact h0)⟩ ?_
              refine yC ?_
              by_cases hx27 : ((1 : Int) ≤ ((n : Nat) : Int))
              · by_cases hx28 : (((n : Nat) : Int) ≤ 8)
                · rcases kb4 (iI bs) with hx29 | hx29
                  · refine zr (.no :: .no :: .no :: .b true :: kJ 4 (.b true :: kJ 4 [.call [] (bV true) [] 0 [] none, .no, .no])) [2] [] ((((1 : Int) ≤ (n : Int))) ∧ (((n : Int) ≤ 8)) ∧ (Fun 32 [.c (.d (D.sl (kR bs) n))] (kF []) 0 (bV true) (kF []) 0)) [(2, bV true)] [] 1 ⟨zo, zo, (by have h0 := (j3 bs n zo zo (kQ : BsW bs)); rw [hx29] at h0; exact h0)⟩ ?_
                    refine AW.ret ?_
                    exact kC (.inr rfl) [] (P := ((yK nm d1 d2 d3 d4 d5 bs) = true)) zk yY
                  · refine zr (.no :: .no :: .no :: .b true :: kJ 4 (.b true :: kJ 4 [.call [] (bV false) [] 0 [] none, .no, .no])) [2] [] ((((1 : Int) ≤ (n : Int))) ∧ (((n : Int) ≤ 8)) ∧ (Fun 32 [.c (.d (D.sl (kR bs) n))] (kF []) 0 (bV false) (kF []) 0)) [(2, bV false)] [] 1 ⟨zo, zo, (by have h0 := (j3 bs n zo zo (kQ : BsW bs)); rw [hx29] at h0; exact h0)⟩ ?_
                    refine AW.ret ?_
                    exact kC (.inr rfl) [] (P := ((yK nm d1 d2 d3 d4 d5 bs) = false)) zk yY
                · refine zr (.no :: .no :: .no :: .b true :: kJ 4 (.b false :: kJ 4 [])) [2] [] ((((1 : Int) ≤ (n : Int))) ∧ (¬ ((n : Int) ≤ 8))) [(2, bV false)] [] 1 ⟨zo, zo⟩ ?_
                  refine AW.ret ?_
                  exact kC (.inr rfl) [] (P := ((yK nm d1 d2 d3 d4 d5 bs) = false)) zk yY
              · refine zr (.no :: .no :: .no :: .b false :: kJ 5 []) [2] [] (¬ ((1 : Int) ≤ (n : Int))) [(2, bV false)] [] 1 zo ?_
                refine AW.ret ?_
                exact kC (.inr rfl) [] (P := ((yK nm d1 d2 d3 d4 d5 bs) = false)) zk yY
            · have hx30 : ¬ (((0 : Int) ≤ d5) ∧ (d5 ≤ 4096)) := of_decide_eq_false hx25
              refine kI (.no :: .no :: .call [] (bV true) [] 0 [] none :: kJ 4 (.call [] (bV true) [] 0 [] none :: kJ 5 (.call [] (bV true) [] 0 [] none :: kJ 5 [.call [] (bV false) [] 0 [] none, .no, .no]))) ((Fun 31 [iE d2, iE 65535] (kF []) 0 (bV true) (kF []) 0) ∧ (Fun 31 [iE d3, iE 1048576] (kF []) 0 (bV true) (kF []) 0) ∧ (Fun 31 [iE d4, iE 2048] (kF []) 0 (bV true) (kF []) 0) ∧ (Fun 31 [iE d5, iE 4096] (kF []) 0 (bV false) (kF []) 0)) [(1, rV 0 0), (38, bV true)] [(0, some (25, .ds [D.lit (.int .u64 id), D.lit (.string (strOfNums nm)), iD d1, iD d2, iD d3, iD d4, iD d5, D.sl (kR bs) n]))] 1 ⟨(by have h0 := (qL d2 65535); rw [hx19] at h0; exact h0), (by have h0 := (qL d3 1048576); rw [hx21] at h0; exact h0), (by have h0 := (qL d4 2048); rw [hx23] at h0; exact h0), (by have h0 := (qL d5 4096); rw [hx25] at h0; exact h0)⟩ ?_
              refine zt ?_
              refine kI [.no] True [(2, bV false)] [] 1 trivial ?_
              refine AW.ret ?_
              exact kC (.inr rfl) [] (P := ((yK nm d1 d2 d3 d4 d5 bs) = false)) zk yY
          · have hx31 : ¬ (((0 : Int) ≤ d4) ∧ (d4 ≤ 2048)) := of_decide_eq_false hx23
            refine kI (.no :: .no :: .call [] (bV true) [] 0 [] none :: kJ 4 (.call [] (bV true) [] 0 [] none :: kJ 5 (.call [] (bV false) [] 0 [] none :: kJ 4 []))) ((Fun 31 [iE d2, iE 65535] (kF []) 0 (bV true) (kF []) 0) ∧ (Fun 31 [iE d3, iE 1048576] (kF []) 0 (bV true) (kF []) 0) ∧ (Fun 31 [iE d4, iE 2048] (kF []) 0 (bV false) (kF []) 0)) [(1, rV 0 0), (38, bV true)] [(0, some (25, .ds [D.lit (.int .u64 id), D.lit (.string (strOfNums nm)), iD d1, iD d2, iD d3, iD d4, iD d5, D.sl (kR bs) n]))] 1 ⟨(by have h0 := (qL d2 65535); rw [hx19] at h0; exact h0), (by have h0 := (qL d3 1048576); rw [hx21] at h0; exact h0), (by have h0 := (qL d4 2048); rw [hx23] at h0; exact h0)⟩ ?_
            refine zt ?_
            refine kI [.no] True [(2, bV false)] [] 1 trivial ?_
            refine AW.ret ?_
            exact kC (.inr rfl) [] (P := ((yK nm d1 d2 d3 d4 d5 bs) = false)) zk yY
        · have hx32 : ¬ (((0 : Int) ≤ d3) ∧ (d3 ≤ 1048576)) := of_decide_eq_false hx21
          refine kI (.no :: .no :: .call [] (bV true) [] 0 [] none :: kJ 4 (.call [] (bV false) [] 0 [] none :: kJ 6 [])) ((Fun 31 [iE d2, iE 65535] (kF []) 0 (bV true) (kF []) 0) ∧ (Fun 31 [iE d3, iE 1048576] (kF []) 0 (bV false) (kF []) 0)) [(1, rV 0 0), (38, bV true)] [(0, some (25, .ds [D.lit (.int .u64 id), D.lit (.string (strOfNums nm)), iD d1, iD d2, iD d3, iD d4, iD d5, D.sl (kR bs) n]))] 1 ⟨(by have h0 := (qL d2 65535); rw [hx19] at h0; exact h0), (by have h0 := (qL d3 1048576); rw [hx21] at h0; exact h0)⟩ ?_
          refine zt ?_
          refine kI [.no] True [(2, bV false)] [] 1 trivial ?_
          refine AW.ret ?_
          exact kC (.inr rfl) [] (P := ((yK nm d1 d2 d3 d4 d5 bs) = false)) zk yY
      · have hx33 : ¬ (((0 : Int) ≤ d2) ∧ (d2 ≤ 65535)) := of_decide_eq_false hx19
        refine kI (.no :: .no :: .call [] (bV false) [] 0 [] none :: kJ 7 []) (Fun 31 [iE d2, iE 65535] (kF []) 0 (bV false) (kF []) 0) [(1, rV 0 0), (38, bV true)] [(0, some (25, .ds [D.lit (.int .u64 id), D.lit (.string (strOfNums nm)), iD d1, iD d2, iD d3, iD d4, iD d5, D.sl (kR bs) n]))] 1 (by have h0 := (qL d2 65535); rw [hx19] at h0; exact h0) ?_
        refine zt ?_
        refine kI [.no] True [(2, bV false)] [] 1 trivial ?_
        refine AW.ret ?_
        exact kC (.inr rfl) [] (P := ((yK nm d1 d2 d3 d4 d5 bs) = false)) zk yY
  · refine zr [.no, .no, .call [] (bV false) [] 0 [] none, .no, .no, .no] [1, 16] [0] (Fun 30 [.c (.d (D.lit (.string (strOfNums nm))))] (kF []) 0 (bV false) (kF []) 0) [(1, rV 0 0), (16, bV true)] [(0, some (25, .ds [D.lit (.int .u64 id), D.lit (.string (strOfNums nm)), iD d1, iD d2, iD d3, iD d4, iD d5, D.sl (kR bs) n]))] 1 (by have h0 := (sM nm (kQ : Byt nm) zo); rw [hx1] at h0; exact h0) ?_
    refine zt ?_
    refine kI [.no] True [(2, bV false)] [] 1 trivial ?_
    refine AW.ret ?_
    exact kC (.inr rfl) [] (P := ((yK nm d1 d2 d3 d4 d5 bs) = false)) zk yY
abbrev w6 (l : List Int) (m : Nat) (u : RS) : BC := .ds [D.sl (dI .u8 l) m, iD (((kV (oM l (kG 2 l (kG 2 l (kG 4 l (kG 2 l (kG 2 l (qX l (kG 8 l u))))))))) : Nat) : Int), iD (qA (oM l (kG 2 l (kG 2 l (kG 4 l (kG 2 l (kG 2 l (qX l (kG 8 l u)))))))))]
theorem u3c (l : List Int) (m : Nat) (u : RS) (hm : ka1 l = m) (hb : m ≤ 1000000) (hy : Byt l) (hu : kV u ≤ m) : Fun 36 [.c (.ptr 0 0)] (kF [(0, some (73, .ds [D.sl (dI .u8 l) m, iD (((kV u) : Nat) : Int), iD (qA u)]))]) 1 (.e (.agg [.d (D.lit (.int .u64 (aO l u))), .d (D.lit (.string (strOfNums (bC l (dz1 l u))))), iC (((k9 l (jX l u)) : Nat) : Int), iC (((k9 l (jW l u)) : Nat) : Int), iC (yG l (jV l u)), iC (((k9 l (jU l u)) : Nat) : Int), iC (((k9 l (jT l u)) : Nat) : Int), .d (D.sl (kR (vR l (cG l u))) (ka1 (vR l (cG l u))))])) (kF [(0, some (73, .ds [D.sl (dI .u8 l) m, iD (((kV (fA l u)) : Nat) : Int), iD (qA (fA l u))]))]) 1 := by
  refine Fun.mk (n := 29) Try.func36 rfl rfl (ka4 rfl) ?_
  intro cx hcx
  refine kI [.no] True [(0, rV 0 0), (2, rV 1 0)] [(0, some (73, .ds [db l m, uD (kV u), iD (qA u)])), (1, some (25, .ds [D.lit (.int .u64 0), D.lit (.string { data := #[] }), iD 0, iD 0, iD 0, iD 0, iD 0, qF]))] 2 trivial ?_
  have hx1 : ((kV (kG 8 l u)) ≤ m) := (yF (zo) (qZ))
  have hx2 : (((0 : Int) ≤ (aO l u)) ∧ ((aO l u) ≤ 18446744073709551615)) := (zV (kQ : Byt l) u)
  refine kI [.no, .call [0] (kS (D.lit (.int .u64 (aO l u)))) [(0, some (73, .ds [db l m, uD (kV (kG 8 l u)), iD (qA (kG 8 l u))]))] 1 [] none, .no, .no, .no] _ [(0, rV 0 0), (2, rV 1 0), (3, rV 2 0)] [(0, some (73, .ds [db l m, uD (kV (kG 8 l u)), iD (qA (kG 8 l u))])), (1, some (25, .ds [D.lit (.int .u64 0), D.lit (.string { data := #[] }), iD 0, iD 0, iD 0, iD 0, iD 0, qF])), (2, some (25, .ds [D.lit (.int .u64 (aO l u)), D.lit (.string { data := #[] }), iD 0, iD 0, iD 0, iD 0, iD 0, qF]))] 3 (k9i l m u zo zo (kQ : Byt l) qZ) ?_
  have hx3 : ((kV (qX l (kG 8 l u))) ≤ m) := (k9u (zo) (qZ))
  have hx4 : ((ka1 (bC l (kG 8 l u))) ≤ 64) := (pE _ _)
  refine kI [.no, .call [0] (kS (D.lit (.string (strOfNums (bC l (kG 8 l u)))))) [(0, some (73, .ds [db l m, uD (kV (qX l (kG 8 l u))), iD (qA (qX l (kG 8 l u)))]))] 1 [] none, .no, .no] _ [(0, rV 0 0), (2, rV 1 0), (3, rV 2 0)] [(0, some (73, .ds [db l m, uD (kV (qX l (kG 8 l u))), iD (qA (qX l (kG 8 l u)))])), (1, some (25, .ds [D.lit (.int .u64 0), D.lit (.string { data := #[] }), iD 0, iD 0, iD 0, iD 0, iD 0, qF])), (2, some (25, .ds [D.lit (.int .u64 (aO l u)), D.lit (.string (strOfNums (bC l (kG 8 l u)))), iD 0, iD 0, iD 0, iD 0, iD 0, qF]))] 3 (u39 l m (kG 8 l u) zo zo (kQ : Byt l) qZ) ?_
  have hx5 : ((kV (kG 2 l (qX l (kG 8 l u)))) ≤ m) := (yF (zo) (qZ))
  have hx6 : ((k9 l (qX l (kG 8 l u))) ≤ 65535) := (vA (kQ : Byt l) (qX l (kG 8 l u)))
  refine kI [.no, .call [0] (uV (k9 l (qX l (kG 8 l u)))) [(0, some (73, .ds [db l m, iD (kV (kG 2 l (qX l (kG 8 l u))) : Int), iD (qA (kG 2 l (qX l (kG 8 l u))))]))] 1 [] none, .no, .no] _ [(0, rV 0 0), (2, rV 1 0), (3, rV 2 0)] [(0, some (73, .ds [db l m, iD (kV (kG 2 l (qX l (kG 8 l u))) : Int), iD (qA (kG 2 l (qX l (kG 8 l u))))])), (1, some (25, .ds [D.lit (.int .u64 0), D.lit (.string { data := #[] }), iD 0, iD 0, iD 0, iD 0, iD 0, qF])), (2, some (25, .ds [D.lit (.int .u64 (aO l u)), D.lit (.string (strOfNums (bC l (kG 8 l u)))), uD (k9 l (qX l (kG 8 l u))), iD 0, iD 0, iD 0, iD 0, qF]))] 3 (aJ l m (qX l (kG 8 l u)) zo zo (kQ : Byt l) qZ) ?_
  have hx7 : ((kV (kG 2 l (kG 2 l (qX l (kG 8 l u))))) ≤ m) := (yF (zo) (qZ))
  have hx8 : ((k9 l (kG 2 l (qX l (kG 8 l u)))) ≤ 65535) := (vA (kQ : Byt l) (kG 2 l (qX l (kG 8 l u))))
  refine kI [.no, .call [0] (iV (k9 l (kG 2 l (qX l (kG 8 l u))) : Int)) [(0, some (73, .ds [db l m, iD (((kV (kG 2 l (kG 2 l (qX l (kG 8 l u))))) : Nat) : Int), iD (qA (kG 2 l (kG 2 l (qX l (kG 8 l u)))))]))] 1 [] none, .no, .no] _ [(0, rV 0 0), (2, rV 1 0), (3, rV 2 0)] [(0, some (73, .ds [db l m, iD (((kV (kG 2 l (kG 2 l (qX l (kG 8 l u))))) : Nat) : Int), iD (qA (kG 2 l (kG 2 l (qX l (kG 8 l u)))))])), (1, some (25, .ds [D.lit (.int .u64 0), D.lit (.string { data := #[] }), iD 0, iD 0, iD 0, iD 0, iD 0, qF])), (2, some (25, .ds [D.lit (.int .u64 (aO l u)), D.lit (.string (strOfNums (bC l (kG 8 l u)))), uD (k9 l (qX l (kG 8 l u))), iD (k9 l (kG 2 l (qX l (kG 8 l u))) : Int), iD 0, iD 0, iD 0, qF]))] 3 (aJ l m (kG 2 l (qX l (kG 8 l u))) zo zo (kQ : Byt l) qZ) ?_
  have hx9 : ((kV (kG 4 l (kG 2 l (kG 2 l (qX l (kG 8 l u)))))) ≤ m) := (yF (zo) (qZ))
  have hx10 : (((0 : Int) ≤ (yG l (kG 2 l (kG 2 l (qX l (kG 8 l u)))))) ∧ ((yG l (kG 2 l (kG 2 l (qX l (kG 8 l u))))) ≤ 4294967295)) := (pD (kQ : Byt l) (kG 2 l (kG 2 l (qX l (kG 8 l u)))))
  refine kI [.no, .call [0] (iV (yG l (kG 2 l (kG 2 l (qX l (kG 8 l u)))))) [(0, some (73, .ds [db l m, iD (((kV (kG 4 l (kG 2 l (kG 2 l (qX l (kG 8 l u)))))) : Nat) : Int), iD (qA (kG 4 l (kG 2 l (kG 2 l (qX l (kG 8 l u))))))]))] 1 [] none, .no, .no] _ [(0, rV 0 0), (2, rV 1 0), (3, rV 2 0)] [(0, some (73, .ds [db l m, iD (((kV (kG 4 l (kG 2 l (kG 2 l (qX l (kG 8 l u)))))) : Nat) : Int), iD (qA (kG 4 l (kG 2 l (kG 2 l (qX l (kG 8 l u))))))])), (1, some (25, .ds [D.lit (.int .u64 0), D.lit (.string { data := #[] }), iD 0, iD 0, iD 0, iD 0, iD 0, qF])), (2, some (25, .ds [D.lit (.int .u64 (aO l u)), D.lit (.string (strOfNums (bC l (kG 8 l u)))), uD (k9 l (qX l (kG 8 l u))), iD (k9 l (kG 2 l (qX l (kG 8 l u))) : Int), iD (yG l (kG 2 l (kG 2 l (qX l (kG 8 l u))))), iD 0, iD 0, qF]))] 3 (sN l m (kG 2 l (kG 2 l (qX l (kG 8 l u)))) zo zo (kQ : Byt l) qZ) ?_
  have hx11 : ((kV (kG 2 l (kG 4 l (kG 2 l (kG 2 l (qX l (kG 8 l u))))))) ≤ m) := (yF (zo) (qZ))
  have hx12 : ((k9 l (kG 4 l (kG 2 l (kG 2 l (qX l (kG 8 l u)))))) ≤ 65535) := (vA (kQ : Byt l) (kG 4 l (kG 2 l (kG 2 l (qX l (kG 8 l u))))))
  refine kI [.no, .call [0] (iV (((k9 l (kG 4 l (kG 2 l (kG 2 l (qX l (kG 8 l u)))))) : Nat) : Int)) [(0, some (73, .ds [db l m, iD (((kV (kG 2 l (kG 4 l (kG 2 l (kG 2 l (qX l (kG 8 l u))))))) : Nat) : Int), iD (qA (kG 2 l (kG 4 l (kG 2 l (kG 2 l (qX l (kG 8 l u)))))))]))] 1 [] none, .no, .no] _ [(0, rV 0 0), (2, rV 1 0), (3, rV 2 0)] [(0, some (73, .ds [db l m, iD (((kV (kG 2 l (kG 4 l (kG 2 l (kG 2 l (qX l (kG 8 l u))))))) : Nat) : Int), iD (qA (kG 2 l (kG 4 l (kG 2 l (kG 2 l (qX l (kG 8 l u)))))))])), (1, some (25, .ds [D.lit (.int .u64 0), D.lit (.string { data := #[] }), iD 0, iD 0, iD 0, iD 0, iD 0, qF])), (2, some (25, .ds [D.lit (.int .u64 (aO l u)), D.lit (.string (strOfNums (bC l (kG 8 l u)))), uD (k9 l (qX l (kG 8 l u))), iD (k9 l (kG 2 l (qX l (kG 8 l u))) : Int), iD (yG l (kG 2 l (kG 2 l (qX l (kG 8 l u))))), iD (((k9 l (kG 4 l (kG 2 l (kG 2 l (qX l (kG 8 l u)))))) : Nat) : Int), iD 0, qF]))] 3 (aJ l m (kG 4 l (kG 2 l (kG 2 l (qX l (kG 8 l u))))) zo zo (kQ : Byt l) qZ) ?_
  have hx13 : ((kV (kG 2 l (kG 2 l (kG 4 l (kG 2 l (kG 2 l (qX l (kG 8 l u)))))))) ≤ m) := (yF (zo) (qZ))
  have hx14 : ((k9 l (kG 2 l (kG 4 l (kG 2 l (kG 2 l (qX l (kG 8 l u))))))) ≤ 65535) := (vA (kQ : Byt l) (kG 2 l (kG 4 l (kG 2 l (kG 2 l (qX l (kG 8 l u)))))))
  refine kI [.no, .call [0] (iV (((k9 l (kG 2 l (kG 4 l (kG 2 l (kG 2 l (qX l (kG 8 l u))))))) : Nat) : Int)) [(0, some (73, .ds [db l m, iD (((kV (kG 2 l (kG 2 l (kG 4 l (kG 2 l (kG 2 l (qX l (kG 8 l u)))))))) : Nat) : Int), iD (qA (kG 2 l (kG 2 l (kG 4 l (kG 2 l (kG 2 l (qX l (kG 8 l u))))))))]))] 1 [] none, .no, .no] _ [(0, rV 0 0), (2, rV 1 0), (3, rV 2 0)] [(0, some (73, .ds [db l m, iD (((kV (kG 2 l (kG 2 l (kG 4 l (kG 2 l (kG 2 l (qX l (kG 8 l u)))))))) : Nat) : Int), iD (qA (kG 2 l (kG 2 l (kG 4 l (kG 2 l (kG 2 l (qX l (kG 8 l u))))))))])), (1, some (25, .ds [D.lit (.int .u64 0), D.lit (.string { data := #[] }), iD 0, iD 0, iD 0, iD 0, iD 0, qF])), (2, some (25, .ds [D.lit (.int .u64 (aO l u)), D.lit (.string (strOfNums (bC l (kG 8 l u)))), uD (k9 l (qX l (kG 8 l u))), iD (k9 l (kG 2 l (qX l (kG 8 l u))) : Int), iD (yG l (kG 2 l (kG 2 l (qX l (kG 8 l u))))), iD (((k9 l (kG 4 l (kG 2 l (kG 2 l (qX l (kG 8 l u)))))) : Nat) : Int), iD (((k9 l (kG 2 l (kG 4 l (kG 2 l (kG 2 l (qX l (kG 8 l u))))))) : Nat) : Int), qF]))] 3 (aJ l m (kG 2 l (kG 4 l (kG 2 l (kG 2 l (qX l (kG 8 l u)))))) zo zo (kQ : Byt l) qZ) ?_
  have hx15 : ((kV (oM l (kG 2 l (kG 2 l (kG 4 l (kG 2 l (kG 2 l (qX l (kG 8 l u))))))))) ≤ m) := (k6b (zo) (qZ))
  have hx16 : ((ka1 (vR l (kG 2 l (kG 2 l (kG 4 l (kG 2 l (kG 2 l (qX l (kG 8 l u))))))))) ≤ 65535) := (sB (kQ : Byt l) (kG 2 l (kG 2 l (kG 4 l (kG 2 l (kG 2 l (qX l (kG 8 l u))))))))
  have hx17 : (BsW (vR l (kG 2 l (kG 2 l (kG 4 l (kG 2 l (kG 2 l (qX l (kG 8 l u))))))))) := (k6a (kQ : Byt l) (kG 2 l (kG 2 l (kG 4 l (kG 2 l (kG 2 l (qX l (kG 8 l u))))))))
  refine kI [.no, .call [0] (qP (kR (vR l (kG 2 l (kG 2 l (kG 4 l (kG 2 l (kG 2 l (qX l (kG 8 l u))))))))) (ka1 (vR l (kG 2 l (kG 2 l (kG 4 l (kG 2 l (kG 2 l (qX l (kG 8 l u)))))))))) [(0, some (73, (w6 l m u)))] 1 [] none, .no, .no] _ [(2, rV 1 0), (3, rV 2 0)] [(0, some (73, (w6 l m u))), (1, some (25, .ds [D.lit (.int .u64 0), D.lit (.string { data := #[] }), iD 0, iD 0, iD 0, iD 0, iD 0, qF])), (2, some (25, .ds [D.lit (.int .u64 (aO l u)), D.lit (.string (strOfNums (bC l (kG 8 l u)))), uD (k9 l (qX l (kG 8 l u))), iD (k9 l (kG 2 l (qX l (kG 8 l u))) : Int), iD (yG l (kG 2 l (kG 2 l (qX l (kG 8 l u))))), iD (((k9 l (kG 4 l (kG 2 l (kG 2 l (qX l (kG 8 l u)))))) : Nat) : Int), iD (((k9 l (kG 2 l (kG 4 l (kG 2 l (kG 2 l (qX l (kG 8 l u))))))) : Nat) : Int), D.sl (kR (vR l (kG 2 l (kG 2 l (kG 4 l (kG 2 l (kG 2 l (qX l (kG 8 l u))))))))) (ka1 (vR l (kG 2 l (kG 2 l (kG 4 l (kG 2 l (kG 2 l (qX l (kG 8 l u)))))))))]))] 3 (k9j l m (kG 2 l (kG 2 l (kG 4 l (kG 2 l (kG 2 l (qX l (kG 8 l u))))))) zo zo (kQ : Byt l) qZ) ?_
  refine kI [.no, .no] True [(2, rV 1 0)] [(0, some (73, (w6 l m u))), (1, some (25, .ds [D.lit (.int .u64 (aO l u)), D.lit (.string (strOfNums (bC l (kG 8 l u)))), uD (k9 l (qX l (kG 8 l u))), iD (k9 l (kG 2 l (qX l (kG 8 l u))) : Int), iD (yG l (kG 2 l (kG 2 l (qX l (kG 8 l u))))), iD (((k9 l (kG 4 l (kG 2 l (kG 2 l (qX l (kG 8 l u)))))) : Nat) : Int), iD (((k9 l (kG 2 l (kG 4 l (kG 2 l (kG 2 l (qX l (kG 8 l u))))))) : Nat) : Int), D.sl (kR (vR l (kG 2 l (kG 2 l (kG 4 l (kG 2 l (kG 2 l (qX l (kG 8 l u))))))))) (ka1 (vR l (kG 2 l (kG 2 l (kG 4 l (kG 2 l (kG 2 l (qX l (kG 8 l u)))))))))]))] 3 trivial ?_
  refine AW.ret ?_
  exact kC (.inr rfl) [] (P := (kN (aO l u)) ∧ ((.string (strOfNums (bC l (dz1 l u))) : Value) = .string (strOfNums (bC l (kG 8 l u)))) ∧ (((k9 l (jX l u) : Int) : Int) = (k9 l (qX l (kG 8 l u)) : Int)) ∧ (((k9 l (jW l u) : Int) : Int) = (k9 l (kG 2 l (qX l (kG 8 l u))) : Int)) ∧ (((yG l (jV l u)) : Int) = (yG l (kG 2 l (kG 2 l (qX l (kG 8 l u)))))) ∧ (((k9 l (jU l u) : Int) : Int) = (((k9 l (kG 4 l (kG 2 l (kG 2 l (qX l (kG 8 l u)))))) : Nat) : Int)) ∧ (((k9 l (jT l u) : Int) : Int) = (((k9 l (kG 2 l (kG 4 l (kG 2 l (kG 2 l (qX l (kG 8 l u))))))) : Nat) : Int)) ∧ (((kR (vR l (cG l u))) : List D) = (kR (vR l (kG 2 l (kG 2 l (kG 4 l (kG 2 l (kG 2 l (qX l (kG 8 l u)))))))))) ∧ (((ka1 (vR l (cG l u))) : Nat) = (ka1 (vR l (kG 2 l (kG 2 l (kG 4 l (kG 2 l (kG 2 l (qX l (kG 8 l u)))))))))) ∧ (([db l m, uD (kV (fA l u)), iD (qA (fA l u))] : List D) = [db l m, iD (((kV (oM l (kG 2 l (kG 2 l (kG 4 l (kG 2 l (kG 2 l (qX l (kG 8 l u))))))))) : Nat) : Int), iD (qA (oM l (kG 2 l (kG 2 l (kG 4 l (kG 2 l (kG 2 l (qX l (kG 8 l u)))))))))])) zk ⟨rfl, (congrArg (fun x9 => Value.string (strOfNums x9)) (show (bC l (dz1 l u)) = (bC l (kG 8 l u)) from rfl)), (by first | rfl | omega), (by first | rfl | omega), (by first | rfl | omega), (by first | rfl | omega), (by first | rfl | omega), rfl, (by first | rfl | omega), rfl⟩
abbrev vO (m : Nat) (l : List Int) := bC (ka2 (m - 4) l) (dz1 (ka2 (m - 4) l) qG)
theorem lB {p : Prop} (h : p := by first | rfl | with_reducible assumption | exact qT _ _ _ | exact dF _ _ _ | (simp only [yO, uA, qT, kc6, kd9, kd1, ke6, kd0]; done) | (simp only [yO, uA, qT, kc6, kd9, kd1, ke6, kd0]; rfl) | (rw [List.take_of_length_le (by simp only [kU, kT, pbL_len, qM, kb2, kb6, kc6] <;> omega)]; first | rfl | (simp only [uA, kc6, kd9, kd1]; done) | (simp only [uA, kc6, kd9, kd1]; rfl))) : p := h
theorem wT (l : List Int) (m : Nat) (hm : ka1 l = m) (hb : m ≤ 1000000) (hy : Byt l) : Fun 12 [.c (.d (D.sl (dI .u8 l) m))] (kF []) 0 (.tup [.agg [.d (D.lit (.int .u64 (dfI l))), .d (D.lit (.string (strOfNums (sW l)))), iC (df1 l), iC (df2 l), iC (df3 l), iC (df4 l), iC (df5 l), .d (D.sl (kR (f4 l)) (ka1 (f4 l)))], iE (aB l)]) (kF []) 0 := by
  have h4a : kV qG = 4 := rfl
  have h4q : qA qG = 0 := rfl
  refine Fun.mk (n := 61) Try.func12 rfl rfl (ka4 rfl) ?_
  intro cx hcx
  refine kI [.no, .no] True [(0, sV .u8 l m), (2, rV 0 0)] [(0, some (25, .ds [D.lit (.int .u64 0), D.lit (.string { data := #[] }), iD 0, iD 0, iD 0, iD 0, iD 0, qF]))] 1 trivial ?_
  refine k8 [.no, .no, .w, .no] (qJ ((m : Int) - 4)) [(0, sV .u8 l m), (2, rV 0 0), (4, iV (↑m - 4))] ⟨by omega, by omega⟩ ?_
  refine AW.seq ?_
  by_cases hx1 : ((((m : Nat) : Int) - 4) < 4)
  · refine zr [.no, .b true] [0, 2, 4, 14] [0] ((((m : Int) - 4) < 4)) [(0, sV .u8 l m), (2, rV 0 0), (4, iV (↑m - 4)), (14, bV true)] [(0, some (25, .ds [D.lit (.int .u64 0), D.lit (.string { data := #[] }), iD 0, iD 0, iD 0, iD 0, iD 0, qF]))] 1 zo ?_
    refine zt ?_
    refine kI [.no, .no, .no] True [(2, rV 0 0), (3, iV 4)] [(0, some (25, .ds [D.lit (.int .u64 0), D.lit (.string { data := #[] }), iD 0, iD 0, iD 0, iD 0, iD 0, qF]))] 1 trivial ?_
    refine aH (l' := [(2, rV 0 0), (3, iV 4)]) (g' := [(0, some (25, .ds [D.lit (.int .u64 0), D.lit (.string { data := #[] }), iD 0, iD 0, iD 0, iD 0, iD 0, D.sl ([] : List D) 0]))]) (NlS.cons rfl (.same _) (NlS.cons rfl (.same _) NlS.nil)) (NlG.to (bc := .ds [D.lit (.int .u64 0), D.lit (.string { data := #[] }), iD 0, iD 0, iD 0, iD 0, iD 0, qF]) rfl (NlL.cons (.same _) (NlL.cons (.same _) (NlL.cons (.same _) (NlL.cons (.same _) (NlL.cons (.same _) (NlL.cons (.same _) (NlL.cons (.same _) (NlL.cons (.nil) NlL.nil)))))))) NlG.nil) ?_
    have hz0 : aB l = 4 := (u67 hm (by omega))
    obtain ⟨hzI, hzN, hz1, hz2, hz3, hz4, hz5, hzB⟩ := k26 (l := l) zo
    refine AW.ret ?_
    exact kC (.inr rfl) [] (P := (((dfI l) : Int) = 0) ∧ ((.string (strOfNums (sW l)) : Value) = .string { data := #[] }) ∧ (((df1 l) : Int) = 0) ∧ (((df2 l) : Int) = 0) ∧ (((df3 l) : Int) = 0) ∧ (((df4 l) : Int) = 0) ∧ (((df5 l) : Int) = 0) ∧ (((kR (f4 l)) : List D) = ([] : List D)) ∧ (((ka1 (f4 l)) : Nat) = 0) ∧ (((aB l) : Int) = 4)) zk ⟨(by first | omega | rfl | exact hzN.symm | exact hzN | (rw [hzN]; done) | (rw [hzN]; rfl) | (rw [hzB]; done) | (rw [hzB]; rfl)), (by rw [hzN]; rfl), (by first | omega | rfl | exact hzN.symm | exact hzN | (rw [hzN]; done) | (rw [hzN]; rfl) | (rw [hzB]; done) | (rw [hzB]; rfl)), (by first | omega | rfl | exact hzN.symm | exact hzN | (rw [hzN]; done) | (rw [hzN]; rfl) | (rw [hzB]; done) | (rw [hzB]; rfl)), (by first | omega | rfl | exact hzN.symm | exact hzN | (rw [hzN]; done) | (rw [hzN]; rfl) | (rw [hzB]; done) | (rw [hzB]; rfl)), (by first | omega | rfl | exact hzN.symm | exact hzN | (rw [hzN]; done) | (rw [hzN]; rfl) | (rw [hzB]; done) | (rw [hzB]; rfl)), (by first | omega | rfl | exact hzN.symm | exact hzN | (rw [hzN]; done) | (rw [hzN]; rfl) | (rw [hzB]; done) | (rw [hzB]; rfl)), (by first | omega | rfl | exact hzN.symm | exact hzN | (rw [hzN]; done) | (rw [hzN]; rfl) | (rw [hzB]; done) | (rw [hzB]; rfl)), (by first | omega | rfl | exact hzN.symm | exact hzN | (rw [hzN]; done) | (rw [hzN]; rfl) | (rw [hzB]; done) | (rw [hzB]; rfl)), (by first | omega | rfl | exact hzN.symm | exact hzN | (rw [hzN]; done) | (rw [hzN]; rfl) | (rw [hzB]; done) | (rw [hzB]; rfl))⟩
  · refine zr [.no, .b false] [0, 2, 4, 14] [0] (¬ (((m : Int) - 4) < 4)) [(0, sV .u8 l m), (2, rV 0 0), (4, iV (↑m - 4)), (14, bV false)] [(0, some (25, .ds [D.lit (.int .u64 0), D.lit (.string { data := #[] }), iD 0, iD 0, iD 0, iD 0, iD 0, qF]))] 1 zo ?_
    refine yC ?_
    refine AW.seq ?_
    have hx2 : (((0 : Int) ≤ (g32 l (m - 4))) ∧ ((g32 l (m - 4)) ≤ 4294967295)) := g32_rng (kQ : Byt l) zo
    refine kI (.no :: .no :: .call [] (.tup [.c (.d (D.lit (.int .u32 (g32 l (m - 4))))), uE ((m - 4) + 4), iE 0]) [] 0 [] (some [.c (.d (db l m)), uE (m - 4)]) :: kJ 7 []) ((kZ (dI .u8 l)) ∧ (kP m) ∧ (((((m - 4) : Nat) : Int) : Int) = ((m : Int) - 4)) ∧ (_)) [(0, sV .u8 l m), (2, rV 0 0), (4, iV (↑m - 4)), (5, kS (D.lit (.int .u32 (g32 l (m - 4)))))] [(0, some (25, .ds [D.lit (.int .u64 0), D.lit (.string { data := #[] }), iD 0, iD 0, iD 0, iD 0, iD 0, qF]))] 1 ⟨rfl, rfl, zo, (W_Get32 l m (m - 4) zo zo (kQ : Byt l) zo)⟩ ?_
    by_cases hx4 : ((g32 l (m - 4)) ≠ (aR (ka2 (m - 4) l)))
    · have hx5 : (((0 : Int) ≤ (aR (ka2 (m - 4) l))) ∧ ((aR (ka2 (m - 4) l)) ≤ 4294967295)) := jN _
      refine kI [.no, .no, .no, .sls 0 (m - 4) (m - 4) (dI .u8 (ka2 (m - 4) l)), .call [] (kS (D.lit (.int .u32 (aR (ka2 (m - 4) l))))) [] 0 [] none, .b true] ((kP 0) ∧ ((((m : Int) - 4) : Int) = (((m - 4) : Nat) : Int)) ∧ ((0 : Nat) ≤ (m - 4)) ∧ ((m - 4) ≤ m) ∧ ((m - 4) - 0 = (m - 4)) ∧ (ka2 ((m - 4) * 1) (ka7 (0 * 1) (dI .u8 l)) = (dI .u8 (ka2 (m - 4) l))) ∧ (_) ∧ (((g32 l (m - 4)) ≠ (aR (ka2 (m - 4) l))))) [(0, sV .u8 l m), (2, rV 0 0), (4, iV (↑m - 4)), (28, bV true)] [(0, some (25, .ds [D.lit (.int .u64 0), D.lit (.string { data := #[] }), iD 0, iD 0, iD 0, iD 0, iD 0, qF]))] 1 ⟨rfl, (by first | rfl | omega), zo, zo, zo, lB, (k6z (ka2 (m - 4) l) (m - 4) qZ zo (Byt.take (kQ : Byt l) _)), zo⟩ ?_
      refine zt ?_
      refine k8 [.no, .no, .no] True [(2, rV 0 0), (3, iV 6)] trivial ?_
      refine aH (l' := [(2, rV 0 0), (3, iV 6)]) (g' := [(0, some (25, .ds [D.lit (.int .u64 0), D.lit (.string { data := #[] }), iD 0, iD 0, iD 0, iD 0, iD 0, D.sl ([] : List D) 0]))]) (NlS.cons rfl (.same _) (NlS.cons rfl (.same _) NlS.nil)) (NlG.to (bc := .ds [D.lit (.int .u64 0), D.lit (.string { data := #[] }), iD 0, iD 0, iD 0, iD 0, iD 0, qF]) rfl (NlL.cons (.same _) (NlL.cons (.same _) (NlL.cons (.same _) (NlL.cons (.same _) (NlL.cons (.same _) (NlL.cons (.same _) (NlL.cons (.same _) (NlL.cons (.nil) NlL.nil)))))))) NlG.nil) ?_
      have hz0 : aB l = 6 := (u6a hm (by omega) (by omega))
      obtain ⟨hzI, hzN, hz1, hz2, hz3, hz4, hz5, hzB⟩ := k26 (l := l) zo
      refine AW.ret ?_
      exact kC (.inr rfl) [] (P := (((dfI l) : Int) = 0) ∧ ((.string (strOfNums (sW l)) : Value) = .string { data := #[] }) ∧ (((df1 l) : Int) = 0) ∧ (((df2 l) : Int) = 0) ∧ (((df3 l) : Int) = 0) ∧ (((df4 l) : Int) = 0) ∧ (((df5 l) : Int) = 0) ∧ (((kR (f4 l)) : List D) = ([] : List D)) ∧ (((ka1 (f4 l)) : Nat) = 0) ∧ (((aB l) : Int) = 6)) zk ⟨(by first | omega | rfl | exact hzN.symm | exact hzN | (rw [hzN]; done) | (rw [hzN]; rfl) | (rw [hzB]; done) | (rw [hzB]; rfl)), (by rw [hzN]; rfl), (by first | omega | rfl | exact hzN.symm | exact hzN | (rw [hzN]; done) | (rw [hzN]; rfl) | (rw [hzB]; done) | (rw [hzB]; rfl)), (by first | omega | rfl | exact hzN.symm | exact hzN | (rw [hzN]; done) | (rw [hzN]; rfl) | (rw [hzB]; done) | (rw [hzB]; rfl)), (by first | omega | rfl | exact hzN.symm | exact hzN | (rw [hzN]; done) | (rw [hzN]; rfl) | (rw [hzB]; done) | (rw [hzB]; rfl)), (by first | omega | rfl | exact hzN.symm | exact hzN | (rw [hzN]; done) | (rw [hzN]; rfl) | (rw [hzB]; done) | (rw [hzB]; rfl)), (by first | omega | rfl | exact hzN.symm | exact hzN | (rw [hzN]; done) | (rw [hzN]; rfl) | (rw [hzB]; done) | (rw [hzB]; rfl)), (by first | omega | rfl | exact hzN.symm | exact hzN | (rw [hzN]; done) | (rw [hzN]; rfl) | (rw [hzB]; done) | (rw [hzB]; rfl)), (by first | omega | rfl | exact hzN.symm | exact hzN | (rw [hzN]; done) | (rw [hzN]; rfl) | (rw [hzB]; done) | (rw [hzB]; rfl)), (by first | omega | rfl | exact hzN.symm | exact hzN | (rw [hzN]; done) | (rw [hzN]; rfl) | (rw [hzB]; done) | (rw [hzB]; rfl))⟩
    · have hx6 : (((0 : Int) ≤ (aR (ka2 (m - 4) l))) ∧ ((aR (ka2 (m - 4) l)) ≤ 4294967295)) := jN _
      refine kI [.no, .no, .no, .sls 0 (m - 4) (m - 4) (dI .u8 (ka2 (m - 4) l)), .call [] (kS (D.lit (.int .u32 (aR (ka2 (m - 4) l))))) [] 0 [] none, .b false] ((kP 0) ∧ ((((m : Int) - 4) : Int) = (((m - 4) : Nat) : Int)) ∧ ((0 : Nat) ≤ (m - 4)) ∧ ((m - 4) ≤ m) ∧ ((m - 4) - 0 = (m - 4)) ∧ (ka2 ((m - 4) * 1) (ka7 (0 * 1) (dI .u8 l)) = (dI .u8 (ka2 (m - 4) l))) ∧ (_) ∧ (¬ ((g32 l (m - 4)) ≠ (aR (ka2 (m - 4) l))))) [(0, sV .u8 l m), (2, rV 0 0), (4, iV (↑m - 4)), (28, bV false)] [(0, some (25, .ds [D.lit (.int .u64 0), D.lit (.string { data := #[] }), iD 0, iD 0, iD 0, iD 0, iD 0, qF]))] 1 ⟨rfl, (by first | rfl | omega), zo, zo, zo, lB, (k6z (ka2 (m - 4) l) (m - 4) qZ zo (Byt.take (kQ : Byt l) _)), zo⟩ ?_
      refine yC ?_
      refine AW.seq ?_
      by_cases hx7 : ((ka2 4 l) = ([83, 78, 68, 49] : List Int))
      · refine zr [.no, .sls 0 4 4 (dI .u8 (ka2 4 l)), .st none (ka2 4 l), .b false] [0, 2, 4, 33] [0] ((kP 0) ∧ (kN 4) ∧ ((0 : Nat) ≤ 4) ∧ ((4 : Nat) ≤ m) ∧ ((4 : Nat) - 0 = 4) ∧ (ka2 (4 * 1) (ka7 (0 * 1) (dI .u8 l)) = (dI .u8 (ka2 4 l))) ∧ ((dI .u8 (ka2 4 l)).length = 4 * 1) ∧ (kZ (dI .u8 (ka2 4 l))) ∧ ((!(ByteArray.toList (strOfNums (ka2 4 l)) == ByteArray.toList (ByteArray.mk #[83, 78, 68, 49]))) = false)) [(0, sV .u8 l m), (2, rV 0 0), (4, iV (↑m - 4)), (33, bV false)] [(0, some (25, .ds [D.lit (.int .u64 0), D.lit (.string { data := #[] }), iD 0, iD 0, iD 0, iD 0, iD 0, qF]))] 1 ⟨rfl, rfl, zo, zo, zo, lB, (by first | omega | (simp only [kU, kT, pbL_len, qM, ka3, kb1, kb5, kb3, kb2, kb6, kc2, kc3, kc7, kc6] <;> omega) | rfl), rfl, (by rw [show (ByteArray.toList (strOfNums (ka2 4 l)) == ByteArray.toList (ByteArray.mk #[83, 78, 68, 49])) = true from (u5s (by assumption))]; rfl)⟩ ?_
        refine yC ?_
        refine kI [.no, .no, .sls 0 (m - 4) (m - 4) (dI .u8 (ka2 (m - 4) l)), .no, .no, .no] ((kP 0) ∧ ((((m : Int) - 4) : Int) = (((m - 4) : Nat) : Int)) ∧ ((0 : Nat) ≤ (m - 4)) ∧ ((m - 4) ≤ m) ∧ ((m - 4) - 0 = (m - 4)) ∧ (ka2 ((m - 4) * 1) (ka7 (0 * 1) (dI .u8 l)) = (dI .u8 (ka2 (m - 4) l)))) [(2, rV 0 0), (4, iV (↑m - 4)), (8, rV 1 0)] [(0, some (25, .ds [D.lit (.int .u64 0), D.lit (.string { data := #[] }), iD 0, iD 0, iD 0, iD 0, iD 0, qF])), (1, some (73, .ds [db (ka2 (m - 4) l) (m - 4), iD 4, iD 0]))] 2 ⟨rfl, (by first | rfl | omega), zo, zo, zo, lB⟩ ?_
        have hx8 : ((kV (fA (ka2 (m - 4) l) qG)) ≤ (m - 4)) := (u2z (qZ) (qZ))
        have hx9 : (((0 : Int) ≤ (aO (ka2 (m - 4) l) qG)) ∧ ((aO (ka2 (m - 4) l) qG) ≤ 18446744073709551615)) := (zV ((Byt.take (kQ : Byt l) _)) _)
        have hx10 : ((ka1 (vO m l)) ≤ 64) := (pE _ _)
        have hx11 : ((ka1 (vR (ka2 (m - 4) l) (cG (ka2 (m - 4) l) qG))) ≤ 65535) := (sB ((Byt.take (kQ : Byt l) _)) _)
        have hx12 : (BsW (vR (ka2 (m - 4) l) (cG (ka2 (m - 4) l) qG))) := (k6a ((Byt.take (kQ : Byt l) _)) _)
        refine kI [.no, .call [1] (.e (.agg [.d (D.lit (.int .u64 (aO (ka2 (m - 4) l) qG))), .d (D.lit (.string (strOfNums (vO m l)))), iC (((k9 (ka2 (m - 4) l) (jX (ka2 (m - 4) l) qG)) : Nat) : Int), iC (((k9 (ka2 (m - 4) l) (jW (ka2 (m - 4) l) qG)) : Nat) : Int), iC (yG (ka2 (m - 4) l) (jV (ka2 (m - 4) l) qG)), iC (((k9 (ka2 (m - 4) l) (jU (ka2 (m - 4) l) qG)) : Nat) : Int), iC (((k9 (ka2 (m - 4) l) (jT (ka2 (m - 4) l) qG)) : Nat) : Int), .d (D.sl (kR (vR (ka2 (m - 4) l) (cG (ka2 (m - 4) l) qG))) (ka1 (vR (ka2 (m - 4) l) (cG (ka2 (m - 4) l) qG))))])) [(0, some (73, .ds [db (ka2 (m - 4) l) (m - 4), iD (((kV (fA (ka2 (m - 4) l) qG)) : Nat) : Int), iD (qA (fA (ka2 (m - 4) l) qG))]))] 1 [] (some [.c (.ptr 0 0)]), .no, .no] ((kP 0) ∧ (_)) [(2, rV 0 0), (4, iV (↑m - 4)), (8, rV 1 0), (9, rV 2 0)] [(0, some (25, .ds [D.lit (.int .u64 0), D.lit (.string { data := #[] }), iD 0, iD 0, iD 0, iD 0, iD 0, qF])), (1, some (73, .ds [db (ka2 (m - 4) l) (m - 4), iD (((kV (fA (ka2 (m - 4) l) qG)) : Nat) : Int), iD (qA (fA (ka2 (m - 4) l) qG))])), (2, some (25, .ds [D.lit (.int .u64 (aO (ka2 (m - 4) l) qG)), D.lit (.string (strOfNums (vO m l))), iD (((k9 (ka2 (m - 4) l) (jX (ka2 (m - 4) l) qG)) : Nat) : Int), iD (((k9 (ka2 (m - 4) l) (jW (ka2 (m - 4) l) qG)) : Nat) : Int), iD (yG (ka2 (m - 4) l) (jV (ka2 (m - 4) l) qG)), iD (((k9 (ka2 (m - 4) l) (jU (ka2 (m - 4) l) qG)) : Nat) : Int), iD (((k9 (ka2 (m - 4) l) (jT (ka2 (m - 4) l) qG)) : Nat) : Int), D.sl (kR (vR (ka2 (m - 4) l) (cG (ka2 (m - 4) l) qG))) (ka1 (vR (ka2 (m - 4) l) (cG (ka2 (m - 4) l) qG)))]))] 3 ⟨rfl, (u3c (ka2 (m - 4) l) (m - 4) qG qZ zo (Byt.take (kQ : Byt l) _) qZ)⟩ ?_
        refine AW.seq ?_
        by_cases hx13 : ((qA (fA (ka2 (m - 4) l) qG)) ≠ 0)
        · refine zr (kJ 4 [.b true, .no, .no]) [2, 9, 54] [0, 2] (((qA (fA (ka2 (m - 4) l) qG)) ≠ 0)) [(2, rV 0 0), (9, rV 2 0), (54, bV true)] [(0, some (25, .ds [D.lit (.int .u64 0), D.lit (.string { data := #[] }), iD 0, iD 0, iD 0, iD 0, iD 0, qF])), (2, some (25, .ds [D.lit (.int .u64 (aO (ka2 (m - 4) l) qG)), D.lit (.string (strOfNums (vO m l))), iD (((k9 (ka2 (m - 4) l) (jX (ka2 (m - 4) l) qG)) : Nat) : Int), iD (((k9 (ka2 (m - 4) l) (jW (ka2 (m - 4) l) qG)) : Nat) : Int), iD (yG (ka2 (m - 4) l) (jV (ka2 (m - 4) l) qG)), iD (((k9 (ka2 (m - 4) l) (jU (ka2 (m - 4) l) qG)) : Nat) : Int), iD (((k9 (ka2 (m - 4) l) (jT (ka2 (m - 4) l) qG)) : Nat) : Int), D.sl (kR (vR (ka2 (m - 4) l) (cG (ka2 (m - 4) l) qG))) (ka1 (vR (ka2 (m - 4) l) (cG (ka2 (m - 4) l) qG)))]))] 3 zo ?_
          refine zt ?_
          refine kI [.no, .no, .no] True [(2, rV 0 0), (3, iV 5)] [(0, some (25, .ds [D.lit (.int .u64 0), D.lit (.string { data := #[] }), iD 0, iD 0, iD 0, iD 0, iD 0, qF]))] 3 trivial ?_
          refine aH (l' := [(2, rV 0 0), (3, iV 5)]) (g' := [(0, some (25, .ds [D.lit (.int .u64 0), D.lit (.string { data := #[] }), iD 0, iD 0, iD 0, iD 0, iD 0, D.sl ([] : List D) 0]))]) (NlS.cons rfl (.same _) (NlS.cons rfl (.same _) NlS.nil)) (NlG.to (bc := .ds [D.lit (.int .u64 0), D.lit (.string { data := #[] }), iD 0, iD 0, iD 0, iD 0, iD 0, qF]) rfl (NlL.cons (.same _) (NlL.cons (.same _) (NlL.cons (.same _) (NlL.cons (.same _) (NlL.cons (.same _) (NlL.cons (.same _) (NlL.cons (.same _) (NlL.cons (.nil) NlL.nil)))))))) NlG.nil) ?_
          have hz0 : aB l = 5 := (u68 hm (by omega) (by omega) (by assumption) (by omega))
          obtain ⟨hzI, hzN, hz1, hz2, hz3, hz4, hz5, hzB⟩ := k26 (l := l) zo
          refine AW.ret ?_
          exact kC (.inr rfl) [] (P := (((dfI l) : Int) = 0) ∧ ((.string (strOfNums (sW l)) : Value) = .string { data := #[] }) ∧ (((df1 l) : Int) = 0) ∧ (((df2 l) : Int) = 0) ∧ (((df3 l) : Int) = 0) ∧ (((df4 l) : Int) = 0) ∧ (((df5 l) : Int) = 0) ∧ (((kR (f4 l)) : List D) = ([] : List D)) ∧ (((ka1 (f4 l)) : Nat) = 0) ∧ (((aB l) : Int) = 5)) zk ⟨(by first | omega | rfl | exact hzN.symm | exact hzN | (rw [hzN]; done) | (rw [hzN]; rfl) | (rw [hzB]; done) | (rw [hzB]; rfl)), (by rw [hzN]; rfl), (by first | omega | rfl | exact hzN.symm | exact hzN | (rw [hzN]; done) | (rw [hzN]; rfl) | (rw [hzB]; done) | (rw [hzB]; rfl)), (by first | omega | rfl | exact hzN.symm | exact hzN | (rw [hzN]; done) | (rw [hzN]; rfl) | (rw [hzB]; done) | (rw [hzB]; rfl)), (by first | omega | rfl | exact hzN.symm | exact hzN | (rw [hzN]; done) | (rw [hzN]; rfl) | (rw [hzB]; done) | (rw [hzB]; rfl)), (by first | omega | rfl | exact hzN.symm | exact hzN | (rw [hzN]; done) | (rw [hzN]; rfl) | (rw [hzB]; done) | (rw [hzB]; rfl)), (by first | omega | rfl | exact hzN.symm | exact hzN | (rw [hzN]; done) | (rw [hzN]; rfl) | (rw [hzB]; done) | (rw [hzB]; rfl)), (by first | omega | rfl | exact hzN.symm | exact hzN | (rw [hzN]; done) | (rw [hzN]; rfl) | (rw [hzB]; done) | (rw [hzB]; rfl)), (by first | omega | rfl | exact hzN.symm | exact hzN | (rw [hzN]; done) | (rw [hzN]; rfl) | (rw [hzB]; done) | (rw [hzB]; rfl)), (by first | omega | rfl | exact hzN.symm | exact hzN | (rw [hzN]; done) | (rw [hzN]; rfl) | (rw [hzB]; done) | (rw [hzB]; rfl))⟩
        · by_cases hx14 : ((((kV (fA (ka2 (m - 4) l) qG)) : Nat) : Int) ≠ (((m : Nat) : Int) - 4))
          · refine zr (kJ 4 (.b false :: kJ 6 [.b true, .no])) [2, 9, 54] [0, 2] ((¬ ((qA (fA (ka2 (m - 4) l) qG)) ≠ 0)) ∧ (((((kV (fA (ka2 (m - 4) l) qG)) : Nat) : Int) ≠ ((m : Int) - 4)))) [(2, rV 0 0), (9, rV 2 0), (54, bV true)] [(0, some (25, .ds [D.lit (.int .u64 0), D.lit (.string { data := #[] }), iD 0, iD 0, iD 0, iD 0, iD 0, qF])), (2, some (25, .ds [D.lit (.int .u64 (aO (ka2 (m - 4) l) qG)), D.lit (.string (strOfNums (vO m l))), iD (((k9 (ka2 (m - 4) l) (jX (ka2 (m - 4) l) qG)) : Nat) : Int), iD (((k9 (ka2 (m - 4) l) (jW (ka2 (m - 4) l) qG)) : Nat) : Int), iD (yG (ka2 (m - 4) l) (jV (ka2 (m - 4) l) qG)), iD (((k9 (ka2 (m - 4) l) (jU (ka2 (m - 4) l) qG)) : Nat) : Int), iD (((k9 (ka2 (m - 4) l) (jT (ka2 (m - 4) l) qG)) : Nat) : Int), D.sl (kR (vR (ka2 (m - 4) l) (cG (ka2 (m - 4) l) qG))) (ka1 (vR (ka2 (m - 4) l) (cG (ka2 (m - 4) l) qG)))]))] 3 ⟨zo, zo⟩ ?_
            refine zt ?_
            refine kI [.no, .no, .no] True [(2, rV 0 0), (3, iV 5)] [(0, some (25, .ds [D.lit (.int .u64 0), D.lit (.string { data := #[] }), iD 0, iD 0, iD 0, iD 0, iD 0, qF]))] 3 trivial ?_
            refine aH (l' := [(2, rV 0 0), (3, iV 5)]) (g' := [(0, some (25, .ds [D.lit (.int .u64 0), D.lit (.string { data := #[] }), iD 0, iD 0, iD 0, iD 0, iD 0, D.sl ([] : List D) 0]))]) (NlS.cons rfl (.same _) (NlS.cons rfl (.same _) NlS.nil)) (NlG.to (bc := .ds [D.lit (.int .u64 0), D.lit (.string { data := #[] }), iD 0, iD 0, iD 0, iD 0, iD 0, qF]) rfl (NlL.cons (.same _) (NlL.cons (.same _) (NlL.cons (.same _) (NlL.cons (.same _) (NlL.cons (.same _) (NlL.cons (.same _) (NlL.cons (.same _) (NlL.cons (.nil) NlL.nil)))))))) NlG.nil) ?_
            have hz0 : aB l = 5 := (u68 hm (by omega) (by omega) (by assumption) (by omega))
            obtain ⟨hzI, hzN, hz1, hz2, hz3, hz4, hz5, hzB⟩ := k26 (l := l) zo
            refine AW.ret ?_
            exact kC (.inr rfl) [] (P := (((dfI l) : Int) = 0) ∧ ((.string (strOfNums (sW l)) : Value) = .string { data := #[] }) ∧ (((df1 l) : Int) = 0) ∧ (((df2 l) : Int) = 0) ∧ (((df3 l) : Int) = 0) ∧ (((df4 l) : Int) = 0) ∧ (((df5 l) : Int) = 0) ∧ (((kR (f4 l)) : List D) = ([] : List D)) ∧ (((ka1 (f4 l)) : Nat) = 0) ∧ (((aB l) : Int) = 5)) zk ⟨(by first | omega | rfl | exact hzN.symm | exact hzN | (rw [hzN]; done) | (rw [hzN]; rfl) | (rw [hzB]; done) | (rw [hzB]; rfl)), (by rw [hzN]; rfl), (by first | omega | rfl | exact hzN.symm | exact hzN | (rw [hzN]; done) | (rw [hzN]; rfl) | (rw [hzB]; done) | (rw [hzB]; rfl)), (by first | omega | rfl | exact hzN.symm | exact hzN | (rw [hzN]; done) | (rw [hzN]; rfl) | (rw [hzB]; done) | (rw [hzB]; rfl)), (by first | omega | rfl | exact hzN.symm | exact hzN | (rw [hzN]; done) | (rw [hzN]; rfl) | (rw [hzB]; done) | (rw [hzB]; rfl)), (by first | omega | rfl | exact hzN.symm | exact hzN | (rw [hzN]; done) | (rw [hzN]; rfl) | (rw [hzB]; done) | (rw [hzB]; rfl)), (by first | omega | rfl | exact hzN.symm | exact hzN | (rw [hzN]; done) | (rw [hzN]; rfl) | (rw [hzB]; done) | (rw [hzB]; rfl)), (by first | omega | rfl | exact hzN.symm | exact hzN | (rw [hzN]; done) | (rw [hzN]; rfl) | (rw [hzB]; done) | (rw [hzB]; rfl)), (by first | omega | rfl | exact hzN.symm | exact hzN | (rw [hzN]; done) | (rw [hzN]; rfl) | (rw [hzB]; done) | (rw [hzB]; rfl)), (by first | omega | rfl | exact hzN.symm | exact hzN | (rw [hzN]; done) | (rw [hzN]; rfl) | (rw [hzB]; done) | (rw [hzB]; rfl))⟩
          · refine zr (kJ 4 (.b false :: kJ 6 [.b false, .no])) [2, 9, 54] [0, 2] ((¬ ((qA (fA (ka2 (m - 4) l) qG)) ≠ 0)) ∧ (¬ ((((kV (fA (ka2 (m - 4) l) qG)) : Nat) : Int) ≠ ((m : Int) - 4)))) [(2, rV 0 0), (9, rV 2 0), (54, bV false)] [(0, some (25, .ds [D.lit (.int .u64 0), D.lit (.string { data := #[] }), iD 0, iD 0, iD 0, iD 0, iD 0, qF])), (2, some (25, .ds [D.lit (.int .u64 (aO (ka2 (m - 4) l) qG)), D.lit (.string (strOfNums (vO m l))), iD (((k9 (ka2 (m - 4) l) (jX (ka2 (m - 4) l) qG)) : Nat) : Int), iD (((k9 (ka2 (m - 4) l) (jW (ka2 (m - 4) l) qG)) : Nat) : Int), iD (yG (ka2 (m - 4) l) (jV (ka2 (m - 4) l) qG)), iD (((k9 (ka2 (m - 4) l) (jU (ka2 (m - 4) l) qG)) : Nat) : Int), iD (((k9 (ka2 (m - 4) l) (jT (ka2 (m - 4) l) qG)) : Nat) : Int), D.sl (kR (vR (ka2 (m - 4) l) (cG (ka2 (m - 4) l) qG))) (ka1 (vR (ka2 (m - 4) l) (cG (ka2 (m - 4) l) qG)))]))] 3 ⟨zo, zo⟩ ?_
            refine yC ?_
            refine AW.seq ?_
            rcases kb4 (yK (vO m l) (((k9 (ka2 (m - 4) l) (jX (ka2 (m - 4) l) qG)) : Nat) : Int) (((k9 (ka2 (m - 4) l) (jW (ka2 (m - 4) l) qG)) : Nat) : Int) (yG (ka2 (m - 4) l) (jV (ka2 (m - 4) l) qG)) (((k9 (ka2 (m - 4) l) (jU (ka2 (m - 4) l) qG)) : Nat) : Int) (((k9 (ka2 (m - 4) l) (jT (ka2 (m - 4) l) qG)) : Nat) : Int) (vR (ka2 (m - 4) l) (cG (ka2 (m - 4) l) qG))) with hx15 | hx15
            · refine zr [.no, .call [] (bV true) [] 0 [] none, .no] [2, 9, 58] [0, 2] (Fun 10 [.agg [.d (D.lit (.int .u64 (aO (ka2 (m - 4) l) qG))), .d (D.lit (.string (strOfNums (vO m l)))), iC (((k9 (ka2 (m - 4) l) (jX (ka2 (m - 4) l) qG)) : Nat) : Int), iC (((k9 (ka2 (m - 4) l) (jW (ka2 (m - 4) l) qG)) : Nat) : Int), iC (yG (ka2 (m - 4) l) (jV (ka2 (m - 4) l) qG)), iC (((k9 (ka2 (m - 4) l) (jU (ka2 (m - 4) l) qG)) : Nat) : Int), iC (((k9 (ka2 (m - 4) l) (jT (ka2 (m - 4) l) qG)) : Nat) : Int), .d (D.sl (kR (vR (ka2 (m - 4) l) (cG (ka2 (m - 4) l) qG))) (ka1 (vR (ka2 (m - 4) l) (cG (ka2 (m - 4) l) qG))))]] (kF []) 0 (bV true) (kF []) 0) [(2, rV 0 0), (9, rV 2 0), (58, bV false)] [(0, some (25, .ds [D.lit (.int .u64 0), D.lit (.string { data := #[] }), iD 0, iD 0, iD 0, iD 0, iD 0, qF])), (2, some (25, .ds [D.lit (.int .u64 (aO (ka2 (m - 4) l) qG)), D.lit (.string (strOfNums (vO m l))), iD (((k9 (ka2 (m - 4) l) (jX (ka2 (m - 4) l) qG)) : Nat) : Int), iD (((k9 (ka2 (m - 4) l) (jW (ka2 (m - 4) l) qG)) : Nat) : Int), iD (yG (ka2 (m - 4) l) (jV (ka2 (m - 4) l) qG)), iD (((k9 (ka2 (m - 4) l) (jU (ka2 (m - 4) l) qG)) : Nat) : Int), iD (((k9 (ka2 (m - 4) l) (jT (ka2 (m - 4) l) qG)) : Nat) : Int), D.sl (kR (vR (ka2 (m - 4) l) (cG (ka2 (m - 4) l) qG))) (ka1 (vR (ka2 (m - 4) l) (cG (ka2 (m - 4) l) qG)))]))] 3 (by have h0 := (fF (aO (ka2 (m - 4) l) qG) (vO m l) (((k9 (ka2 (m - 4) l) (jX (ka2 (m - 4) l) qG)) : Nat) : Int) (((k9 (ka2 (m - 4) l) (jW (ka2 (m - 4) l) qG)) : Nat) : Int) (yG (ka2 (m - 4) l) (jV (ka2 (m - 4) l) qG)) (((k9 (ka2 (m - 4) l) (jU (ka2 (m - 4) l) qG)) : Nat) : Int) (((k9 (ka2 (m - 4) l) (jT (ka2 (m - 4) l) qG)) : Nat) : Int) (vR (ka2 (m - 4) l) (cG (ka2 (m - 4) l) qG)) (ka1 (vR (ka2 (m - 4) l) (cG (ka2 (m - 4) l) qG))) (zY (Byt.take (kQ : Byt l) _) _) qZ rfl qZ (kQ : BsW (vR (ka2 (m - 4) l) (cG (ka2 (m - 4) l) qG)))); rw [hx15] at h0; exact h0) ?_
              refine yC ?_
              refine kI [.no, .no, .no] True [(2, rV 0 0), (3, iV 0)] [(0, some (25, .ds [D.lit (.int .u64 (aO (ka2 (m - 4) l) qG)), D.lit (.string (strOfNums (vO m l))), iD (((k9 (ka2 (m - 4) l) (jX (ka2 (m - 4) l) qG)) : Nat) : Int), iD (((k9 (ka2 (m - 4) l) (jW (ka2 (m - 4) l) qG)) : Nat) : Int), iD (yG (ka2 (m - 4) l) (jV (ka2 (m - 4) l) qG)), iD (((k9 (ka2 (m - 4) l) (jU (ka2 (m - 4) l) qG)) : Nat) : Int), iD (((k9 (ka2 (m - 4) l) (jT (ka2 (m - 4) l) qG)) : Nat) : Int), D.sl (kR (vR (ka2 (m - 4) l) (cG (ka2 (m - 4) l) qG))) (ka1 (vR (ka2 (m - 4) l) (cG (ka2 (m - 4) l) qG)))]))] 3 trivial ?_
              have hz0 : aB l = 0 := (u7t hm (by omega) (by omega) (by assumption) (by omega) hx15)
              obtain ⟨hzI, hzN, hz1, hz2, hz3, hz4, hz5, hzB⟩ := u7s hm rfl hz0
              refine AW.ret ?_
              exact kC (.inr rfl) [] (P := (((dfI l) : Int) = (aO (ka2 (m - 4) l) qG)) ∧ ((.string (strOfNums (sW l)) : Value) = .string (strOfNums (vO m l))) ∧ (((df1 l) : Int) = (((k9 (ka2 (m - 4) l) (jX (ka2 (m - 4) l) qG)) : Nat) : Int)) ∧ (((df2 l) : Int) = (((k9 (ka2 (m - 4) l) (jW (ka2 (m - 4) l) qG)) : Nat) : Int)) ∧ (((df3 l) : Int) = (yG (ka2 (m - 4) l) (jV (ka2 (m - 4) l) qG))) ∧ (((df4 l) : Int) = (((k9 (ka2 (m - 4) l) (jU (ka2 (m - 4) l) qG)) : Nat) : Int)) ∧ (((df5 l) : Int) = (((k9 (ka2 (m - 4) l) (jT (ka2 (m - 4) l) qG)) : Nat) : Int)) ∧ (((kR (f4 l)) : List D) = (kR (vR (ka2 (m - 4) l) (cG (ka2 (m - 4) l) qG)))) ∧ (((ka1 (f4 l)) : Nat) = (ka1 (vR (ka2 (m - 4) l) (cG (ka2 (m - 4) l) qG)))) ∧ (((aB l) : Int) = 0)) zk ⟨(by first | omega | rfl | exact hzN.symm | exact hzN | (rw [hzN]; done) | (rw [hzN]; rfl) | (rw [hzB]; done) | (rw [hzB]; rfl)), (congrArg (fun x9 => Value.string (strOfNums x9)) (show (sW l) = (vO m l) from (by first | omega | rfl | exact hzN.symm | exact hzN | (rw [hzN]; done) | (rw [hzN]; rfl) | (rw [hzB]; done) | (rw [hzB]; rfl)))), (by first | omega | rfl | exact hzN.symm | exact hzN | (rw [hzN]; done) | (rw [hzN]; rfl) | (rw [hzB]; done) | (rw [hzB]; rfl)), (by first | omega | rfl | exact hzN.symm | exact hzN | (rw [hzN]; done) | (rw [hzN]; rfl) | (rw [hzB]; done) | (rw [hzB]; rfl)), (by first | omega | rfl | exact hzN.symm | exact hzN | (rw [hzN]; done) | (rw [hzN]; rfl) | (rw [hzB]; done) | (rw [hzB]; rfl)), (by first | omega | rfl | exact hzN.symm | exact hzN | (rw [hzN]; done) | (rw [hzN]; rfl) | (rw [hzB]; done) | (rw [hzB]; rfl)), (by first | omega | rfl | exact hzN.symm | exact hzN | (rw [hzN]; done) | (rw [hzN]; rfl) | (rw [hzB]; done) | (rw [hzB]; rfl)), (by first | omega | rfl | exact hzN.symm | exact hzN | (rw [hzN]; done) | (rw [hzN]; rfl) | (rw [hzB]; done) | (rw [hzB]; rfl)), (by first | omega | rfl | exact hzN.symm | exact hzN | (rw [hzN]; done) | (rw [hzN]; rfl) | (rw [hzB]; done) | (rw [hzB]; rfl)), (by first | omega | rfl | exact hzN.symm | exact hzN | (rw [hzN]; done) | (rw [hzN]; rfl) | (rw [hzB]; done) | (rw [hzB]; rfl))⟩
            · refine zr [.no, .call [] (bV false) [] 0 [] none, .no] [2, 9, 58] [0, 2] (Fun 10 [.agg [.d (D.lit (.int .u64 (aO (ka2 (m - 4) l) qG))), .d (D.lit (.string (strOfNums (vO m l)))), iC (((k9 (ka2 (m - 4) l) (jX (ka2 (m - 4) l) qG)) : Nat) : Int), iC (((k9 (ka2 (m - 4) l) (jW (ka2 (m - 4) l) qG)) : Nat) : Int), iC (yG (ka2 (m - 4) l) (jV (ka2 (m - 4) l) qG)), iC (((k9 (ka2 (m - 4) l) (jU (ka2 (m - 4) l) qG)) : Nat) : Int), iC (((k9 (ka2 (m - 4) l) (jT (ka2 (m - 4) l) qG)) : Nat) : Int), .d (D.sl (kR (vR (ka2 (m - 4) l) (cG (ka2 (m - 4) l) qG))) (ka1 (vR (ka2 (m - 4) l) (cG (ka2 (m - 4) l) qG))))]] (kF []) 0 (bV false) (kF []) 0) [(2, rV 0 0), (9, rV 2 0), (58, bV true)] [(0, some (25, .ds [D.lit (.int .u64 0), D.lit (.string { data := #[] }), iD 0, iD 0, iD 0, iD 0, iD 0, qF])), (2, some (25, .ds [D.lit (.int .u64 (aO (ka2 (m - 4) l) qG)), D.lit (.string (strOfNums (vO m l))), iD (((k9 (ka2 (m - 4) l) (jX (ka2 (m - 4) l) qG)) : Nat) : Int), iD (((k9 (ka2 (m - 4) l) (jW (ka2 (m - 4) l) qG)) : Nat) : Int), iD (yG (ka2 (m - 4) l) (jV (ka2 (m - 4) l) qG)), iD (((k9 (ka2 (m - 4) l) (jU (ka2 (m - 4) l) qG)) : Nat) : Int), iD (((k9 (ka2 (m - 4) l) (jT (ka2 (m - 4) l) qG)) : Nat) : Int), D.sl (kR (vR (ka2 (m - 4) l) (cG (ka2 (m - 4) l) qG))) (ka1 (vR (ka2 (m - 4) l) (cG (ka2 (m - 4) l) qG)))]))] 3 (by have h0 := (fF (aO (ka2 (m - 4) l) qG) (vO m l) (((k9 (ka2 (m - 4) l) (jX (ka2 (m - 4) l) qG)) : Nat) : Int) (((k9 (ka2 (m - 4) l) (jW (ka2 (m - 4) l) qG)) : Nat) : Int) (yG (ka2 (m - 4) l) (jV (ka2 (m - 4) l) qG)) (((k9 (ka2 (m - 4) l) (jU (ka2 (m - 4) l) qG)) : Nat) : Int) (((k9 (ka2 (m - 4) l) (jT (ka2 (m - 4) l) qG)) : Nat) : Int) (vR (ka2 (m - 4) l) (cG (ka2 (m - 4) l) qG)) (ka1 (vR (ka2 (m - 4) l) (cG (ka2 (m - 4) l) qG))) (zY (Byt.take (kQ : Byt l) _) _) qZ rfl qZ (kQ : BsW (vR (ka2 (m - 4) l) (cG (ka2 (m - 4) l) qG)))); rw [hx15] at h0; exact h0) ?_
              refine zt ?_
              refine kI [.no, .no, .no] True [(2, rV 0 0), (3, iV 1)] [(0, some (25, .ds [D.lit (.int .u64 0), D.lit (.string { data := #[] }), iD 0, iD 0, iD 0, iD 0, iD 0, qF]))] 3 trivial ?_
              refine aH (l' := [(2, rV 0 0), (3, iV 1)]) (g' := [(0, some (25, .ds [D.lit (.int .u64 0), D.lit (.string { data := #[] }), iD 0, iD 0, iD 0, iD 0, iD 0, D.sl ([] : List D) 0]))]) (NlS.cons rfl (.same _) (NlS.cons rfl (.same _) NlS.nil)) (NlG.to (bc := .ds [D.lit (.int .u64 0), D.lit (.string { data := #[] }), iD 0, iD 0, iD 0, iD 0, iD 0, qF]) rfl (NlL.cons (.same _) (NlL.cons (.same _) (NlL.cons (.same _) (NlL.cons (.same _) (NlL.cons (.same _) (NlL.cons (.same _) (NlL.cons (.same _) (NlL.cons (.nil) NlL.nil)))))))) NlG.nil) ?_
              have hz0 : aB l = 1 := (u7u hm (by omega) (by omega) (by assumption) (by omega) hx15)
              obtain ⟨hzI, hzN, hz1, hz2, hz3, hz4, hz5, hzB⟩ := k26 (l := l) zo
              refine AW.ret ?_
              exact kC (.inr rfl) [] (P := (((dfI l) : Int) = 0) ∧ ((.string (strOfNums (sW l)) : Value) = .string { data := #[] }) ∧ (((df1 l) : Int) = 0) ∧ (((df2 l) : Int) = 0) ∧ (((df3 l) : Int) = 0) ∧ (((df4 l) : Int) = 0) ∧ (((df5 l) : Int) = 0) ∧ (((kR (f4 l)) : List D) = ([] : List D)) ∧ (((ka1 (f4 l)) : Nat) = 0) ∧ (((aB l) : Int) = 1)) zk ⟨(by first | omega | rfl | exact hzN.symm | exact hzN | (rw [hzN]; done) | (rw [hzN]; rfl) | (rw [hzB]; done) | (rw [hzB]; rfl)), (by rw [hzN]; rfl), (by first | omega | rfl | exact hzN.symm | exact hzN | (rw [hzN]; done) | (rw [hzN]; rfl) | (rw [hzB]; done) | (rw [hzB]; rfl)), (by first | omega | rfl | exact hzN.symm | exact hzN | (rw [hzN]; done) | (rw [hzN]; rfl) | (rw [hzB]; done) | (rw [hzB]; rfl)), (by first | omega | rfl | exact hzN.symm | exact hzN | (rw [hzN]; done) | (rw [hzN]; rfl) | (rw [hzB]; done) | (rw [hzB]; rfl)), (by first | omega | rfl | exact hzN.symm | exact hzN | (rw [hzN]; done) | (rw [hzN]; rfl) | (rw [hzB]; done) | (rw [hzB]; rfl)), (by first | omega | rfl | exact hzN.symm | exact hzN | (rw [hzN]; done) | (rw [hzN]; rfl) | (rw [hzB]; done) | (rw [hzB]; rfl)), (by first | omega | rfl | exact hzN.symm | exact hzN | (rw [hzN]; done) | (rw [hzN]; rfl) | (rw [hzB]; done) | (rw [hzB]; rfl)), (by first | omega | rfl | exact hzN.symm | exact hzN | (rw [hzN]; done) | (rw [hzN]; rfl) | (rw [hzB]; done) | (rw [hzB]; rfl)), (by first | omega | rfl | exact hzN.symm | exact hzN | (rw [hzN]; done) | (rw [hzN]; rfl) | (rw [hzB]; done) | (rw [hzB]; rfl))⟩
      · refine zr [.no, .sls 0 4 4 (dI .u8 (ka2 4 l)), .st none (ka2 4 l), .b true] [0, 2, 4, 33] [0] ((kP 0) ∧ (kN 4) ∧ ((0 : Nat) ≤ 4) ∧ ((4 : Nat) ≤ m) ∧ ((4 : Nat) - 0 = 4) ∧ (ka2 (4 * 1) (ka7 (0 * 1) (dI .u8 l)) = (dI .u8 (ka2 4 l))) ∧ ((dI .u8 (ka2 4 l)).length = 4 * 1) ∧ (kZ (dI .u8 (ka2 4 l))) ∧ ((!(ByteArray.toList (strOfNums (ka2 4 l)) == ByteArray.toList (ByteArray.mk #[83, 78, 68, 49]))) = true)) [(0, sV .u8 l m), (2, rV 0 0), (4, iV (↑m - 4)), (33, bV true)] [(0, some (25, .ds [D.lit (.int .u64 0), D.lit (.string { data := #[] }), iD 0, iD 0, iD 0, iD 0, iD 0, qF]))] 1 ⟨rfl, rfl, zo, zo, zo, lB, (by first | omega | (simp only [kU, kT, pbL_len, qM, ka3, kb1, kb5, kb3, kb2, kb6, kc2, kc3, kc7, kc6] <;> omega) | rfl), rfl, (by rw [show (ByteArray.toList (strOfNums (ka2 4 l)) == ByteArray.toList (ByteArray.mk #[83, 78, 68, 49])) = false from (u5t (Byt.take (kQ : Byt l) _) (by assumption))]; rfl)⟩ ?_
        refine zt ?_
        refine kI [.no, .no, .no] True [(2, rV 0 0), (3, iV 5)] [(0, some (25, .ds [D.lit (.int .u64 0), D.lit (.string { data := #[] }), iD 0, iD 0, iD 0, iD 0, iD 0, qF]))] 1 trivial ?_
        refine aH (l' := [(2, rV 0 0), (3, iV 5)]) (g' := [(0, some (25, .ds [D.lit (.int .u64 0), D.lit (.string { data := #[] }), iD 0, iD 0, iD 0, iD 0, iD 0, D.sl ([] : List D) 0]))]) (NlS.cons rfl (.same _) (NlS.cons rfl (.same _) NlS.nil)) (NlG.to (bc := .ds [D.lit (.int .u64 0), D.lit (.string { data := #[] }), iD 0, iD 0, iD 0, iD 0, iD 0, qF]) rfl (NlL.cons (.same _) (NlL.cons (.same _) (NlL.cons (.same _) (NlL.cons (.same _) (NlL.cons (.same _) (NlL.cons (.same _) (NlL.cons (.same _) (NlL.cons (.nil) NlL.nil)))))))) NlG.nil) ?_
        have hz0 : aB l = 5 := (u7v hm (by omega) (by omega) (by assumption))
        obtain ⟨hzI, hzN, hz1, hz2, hz3, hz4, hz5, hzB⟩ := k26 (l := l) zo
        refine AW.ret ?_
        exact kC (.inr rfl) [] (P := (((dfI l) : Int) = 0) ∧ ((.string (strOfNums (sW l)) : Value) = .string { data := #[] }) ∧ (((df1 l) : Int) = 0) ∧ (((df2 l) : Int) = 0) ∧ (((df3 l) : Int) = 0) ∧ (((df4 l) : Int) = 0) ∧ (((df5 l) : Int) = 0) ∧ (((kR (f4 l)) : List D) = ([] : List D)) ∧ (((ka1 (f4 l)) : Nat) = 0) ∧ (((aB l) : Int) = 5)) zk ⟨(by first | omega | rfl | exact hzN.symm | exact hzN | (rw [hzN]; done) | (rw [hzN]; rfl) | (rw [hzB]; done) | (rw [hzB]; rfl)), (by rw [hzN]; rfl), (by first | omega | rfl | exact hzN.symm | exact hzN | (rw [hzN]; done) | (rw [hzN]; rfl) | (rw [hzB]; done) | (rw [hzB]; rfl)), (by first | omega | rfl | exact hzN.symm | exact hzN | (rw [hzN]; done) | (rw [hzN]; rfl) | (rw [hzB]; done) | (rw [hzB]; rfl)), (by first | omega | rfl | exact hzN.symm | exact hzN | (rw [hzN]; done) | (rw [hzN]; rfl) | (rw [hzB]; done) | (rw [hzB]; rfl)), (by first | omega | rfl | exact hzN.symm | exact hzN | (rw [hzN]; done) | (rw [hzN]; rfl) | (rw [hzB]; done) | (rw [hzB]; rfl)), (by first | omega | rfl | exact hzN.symm | exact hzN | (rw [hzN]; done) | (rw [hzN]; rfl) | (rw [hzB]; done) | (rw [hzB]; rfl)), (by first | omega | rfl | exact hzN.symm | exact hzN | (rw [hzN]; done) | (rw [hzN]; rfl) | (rw [hzB]; done) | (rw [hzB]; rfl)), (by first | omega | rfl | exact hzN.symm | exact hzN | (rw [hzN]; done) | (rw [hzN]; rfl) | (rw [hzB]; done) | (rw [hzB]; rfl)), (by first | omega | rfl | exact hzN.symm | exact hzN | (rw [hzN]; done) | (rw [hzN]; rfl) | (rw [hzB]; done) | (rw [hzB]; rfl))⟩
end Go.Proofs.Ytdbjebdomdnbkaa
