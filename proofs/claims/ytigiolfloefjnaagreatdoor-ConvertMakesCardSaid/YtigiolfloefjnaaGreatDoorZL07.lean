/- Matrices. No statement is proved here. -/
import Derived.Test.YtigiolfloefjnaaGreatDoorZL04
namespace Go.Proofs.YtigiolfloefjnaaGreatDoor
open Go.ChangeShapes Go.WideShapes Go.ChangeAt Go.RowKit
set_option linter.unusedVariables false
set_option linter.unusedSimpArgs false
set_option maxHeartbeats 4000000
set_option maxRecDepth 100000
def coefB (c : Int) : Bool := decide (-131072 ≤ c ∧ c ≤ 131072)
def matB (i o : Int) (l : List Int) : Bool := decide (1 ≤ i ∧ i ≤ 8 ∧ 1 ≤ o ∧ o ≤ 8 ∧ (l.length : Int) = i * o) && l.all coefB
structure MV (i o : Nat) (l : List Int) : Prop where
 i1 : 1 ≤ i
 i8 : i ≤ 8
 o1 : 1 ≤ o
 o8 : o ≤ 8
 len : List.length l = i * o
 co : ∀ j, j < List.length l → -131072 ≤ List.getD l j 0 ∧ List.getD l j 0 ≤ 131072
theorem matB_t {i o : Int} {l : List Int} {q : Nat} (hn : List.length l = q) (h1 : 1 ≤ i ∧ i ≤ 8) (h2 : 1 ≤ o ∧ o ≤ 8) (h3 : (q : Int) = i * o) (h : ∀ j, j < q → coefB (List.getD l j 0) = true) : matB i o l = true := by
 unfold matB
 rw [Bool.and_eq_true]
 exact ⟨decide_eq_true ⟨h1.1, h1.2, h2.1, h2.2, by rw [hn]; exact h3⟩, all_of (fun j hj => h j (by omega))⟩
theorem matB_f {i o : Int} {l : List Int} {q : Nat} (hn : List.length l = q) (h : ¬ (1 ≤ i ∧ i ≤ 8 ∧ 1 ≤ o ∧ o ≤ 8 ∧ (q : Int) = i * o)) : matB i o l = false := by
 unfold matB
 rw [hn, decide_eq_false h]; rfl
theorem matB_s {i o : Int} {l : List Int} {q k : Nat} (hn : List.length l = q) (hk : k < q) (h : coefB (List.getD l k 0) = false) : matB i o l = false := by
 cases hb : matB i o l with
 | false => rfl
 | true =>
  unfold matB at hb
  rw [Bool.and_eq_true] at hb
  have := all_at hb.2 k (by omega)
  rw [h] at this; cases this
theorem MV.ok {i o : Nat} {l : List Int} (h : MV i o l) : matB ((i : Nat) : Int) ((o : Nat) : Int) l = true := by
 obtain ⟨h1, h2, h3, h4, h5, h6⟩ := h
 exact matB_t rfl (by omega) (by omega) (by rw [h5, Int.natCast_mul]) (fun j hj => decide_eq_true (h6 j hj))
theorem MV.of {i o : Int} {l : List Int} (h : matB i o l = true) : (1 ≤ i ∧ i ≤ 8) ∧ (1 ≤ o ∧ o ≤ 8) ∧ MV i.toNat o.toNat l := by
 unfold matB at h
 rw [Bool.and_eq_true] at h
 obtain ⟨h1, h2, h3, h4, h5⟩ := of_decide_eq_true h.1
 refine ⟨⟨h1, h2⟩, ⟨h3, h4⟩, by omega, by omega, by omega, by omega, ?_, fun j hj => of_decide_eq_true (all_at h.2 j hj)⟩
 have e : ((i.toNat * o.toNat : Nat) : Int) = i * o := by rw [Int.natCast_mul, Int.toNat_of_nonneg (by omega), Int.toNat_of_nonneg (by omega)]
 omega
theorem MV.big {i o : Nat} {l : List Int} (h : MV i o l) : i * o ≤ 64 := Nat.mul_le_mul h.i8 h.o8
def dotV (l da : List Int) (a b : Nat) : Nat → Int
 | 0 => 0
 | k + 1 => dotV l da a b k + List.getD l (a + k) 0 * List.getD da (b + k) 0
theorem prod_in {x y : Int} (h1 : -131072 ≤ x ∧ x ≤ 131072) (h2 : -8388608 ≤ y ∧ y ≤ 8388607) : -1099511627776 ≤ x * y ∧ x * y ≤ 1099511627776 := by
 have e1 : x * y ≤ 131072 * 8388608 ∧ -(131072 * 8388608) ≤ x * y := by
  by_cases hx : 0 ≤ x
  ·have a1 := Int.mul_le_mul_of_nonneg_left (show y ≤ 8388608 by omega) hx
   have a2 := Int.mul_le_mul_of_nonneg_left (show -8388608 ≤ y by omega) hx
   have a3 := Int.mul_le_mul_of_nonneg_right h1.2 (show (0 : Int) ≤ 8388608 by omega)
   have a4 : x * (-8388608) = -(x * 8388608) := Int.mul_neg _ _
   omega
  ·have a1 : x * 8388608 ≤ x * y := Int.mul_le_mul_of_nonpos_left (by omega) (by omega)
   have a2 : x * y ≤ x * (-8388608) := Int.mul_le_mul_of_nonpos_left (by omega) (by omega)
   have a3 := Int.mul_le_mul_of_nonneg_right h1.1 (show (0 : Int) ≤ 8388608 by omega)
   have a4 : x * (-8388608) = -(x * 8388608) := Int.mul_neg _ _
   omega
 omega
theorem dotV_in {l da : List Int} {a b n : Nat} (h : ∀ k, k < n → (-131072 ≤ List.getD l (a + k) 0 ∧ List.getD l (a + k) 0 ≤ 131072) ∧ (-8388608 ≤ List.getD da (b + k) 0 ∧ List.getD da (b + k) 0 ≤ 8388607)) : ∀ k, k ≤ n → -((k : Int) * 1099511627776) ≤ dotV l da a b k ∧ dotV l da a b k ≤ (k : Int) * 1099511627776
 | 0, _ => by simp [dotV]
 | k + 1, hk => by
  have h1 := dotV_in h k (by omega)
  have h2 := prod_in (h k (by omega)).1 (h k (by omega)).2
  show -(((k + 1 : Nat) : Int) * 1099511627776) ≤ dotV l da a b k + _ ∧ dotV l da a b k + _ ≤ ((k + 1 : Nat) : Int) * 1099511627776
  omega
def apE (l da : List Int) (i r f : Nat) : Int := satI ((dotV l da (r * i) (f * i) i + 16384) / 32768)
def apA (l da : List Int) (i o n : Nat) : List Int := (List.range n).map fun j => apE l da i (j % o) (j / o)
def apP (l da : List Int) (i o r f n : Nat) : List Int := (List.range n).map fun j => if j % o < r ∨ (j % o = r ∧ j / o < f) then apE l da i (j % o) (j / o) else 0
theorem apA_len (l da : List Int) (i o n : Nat) : List.length (apA l da i o n) = n := by simp [apA]
theorem apP_len (l da : List Int) (i o r f n : Nat) : List.length (apP l da i o r f n) = n := by simp [apP]
theorem map_getD {g : Nat → Int} {n j : Nat} (h : j < n) : List.getD ((List.range n).map g) j 0 = g j := by
 rw [List.getD_eq_getElem?_getD, List.getElem?_map, List.getElem?_range h]; rfl
theorem ext_len {l m : List Int} (h : List.length l = List.length m) (h2 : ∀ j, j < List.length l → List.getD l j 0 = List.getD m j 0) : l = m := sameL_of (sameL_y h h2)
theorem at_div {f o r : Nat} (h : r < o) : (f * o + r) / o = f := by rw [Nat.mul_comm, Nat.mul_add_div (by omega), Nat.div_eq_of_lt h, Nat.add_zero]
theorem at_mod {f o r : Nat} (h : r < o) : (f * o + r) % o = r := by rw [Nat.mul_comm, Nat.mul_add_mod, Nat.mod_eq_of_lt h]
theorem apP_set {l da : List Int} {i o f r n F : Nat} {v : Int} (hr : r < o) (hn : n = F * o) (hf : f < F) (hv : v = apE l da i r f) : dI .i32 (apP l da i o r (f + 1) n) = dI .i32 (List.set (apP l da i o r f n) (f * o + r) v) := by
 subst hv
 congr 1
 refine ext_len (by rw [List.length_set, apP_len, apP_len]) fun j hj => ?_
 rw [apP_len] at hj
 have hlt : f * o + r < n := by have := Nat.mul_le_mul_right o (show f + 1 ≤ F from hf); rw [Nat.succ_mul] at this; omega
 have e : List.getD (List.set (apP l da i o r f n) (f * o + r) (apE l da i r f)) j 0 = if f * o + r = j then apE l da i r f else List.getD (apP l da i o r f n) j 0 := by
  rw [List.getD_eq_getElem?_getD, List.getElem?_set, apP_len]
  by_cases h9 : f * o + r = j
  ·rw [if_pos h9, if_pos (by omega), if_pos h9]; rfl
  ·rw [if_neg h9, if_neg h9, List.getD_eq_getElem?_getD]
 rw [e]
 unfold apP
 rw [map_getD hj, map_getD hj]
 by_cases h9 : f * o + r = j
 ·subst h9
  rw [if_pos rfl, at_div hr, at_mod hr, if_pos (.inr ⟨rfl, by omega⟩)]
 ·rw [if_neg h9]
  have h8 : ¬ (j % o = r ∧ j / o = f) := by
   rintro ⟨e1, e2⟩
   have := Nat.div_add_mod j o
   rw [e1, e2, Nat.mul_comm] at this
   exact h9 this
  generalize apE l da i (j % o) (j / o) = w
  generalize j % o = a at *
  generalize j / o = b at *
  by_cases h7 : a < r ∨ (a = r ∧ b < f)
  ·rw [if_pos h7, if_pos (by omega)]
  ·rw [if_neg h7, if_neg (by omega)]
theorem apP_roll {l da : List Int} {i o r n F : Nat} (hn : n = F * o) (ho : 0 < o) : apP l da i o r F n = apP l da i o (r + 1) 0 n := by
 refine ext_len (by rw [apP_len, apP_len]) fun j hj => ?_
 rw [apP_len] at hj
 unfold apP
 rw [map_getD hj, map_getD hj]
 have h1 : j / o < F := by rw [Nat.div_lt_iff_lt_mul ho, ← hn]; exact hj
 generalize apE l da i (j % o) (j / o) = w
 generalize j % o = a at *
 generalize j / o = b at *
 by_cases h7 : a < r ∨ (a = r ∧ b < F)
 ·rw [if_pos h7, if_pos (by omega)]
 ·rw [if_neg h7, if_neg (by omega)]
theorem apP_zero (l da : List Int) (i o n : Nat) : apP l da i o 0 0 n = List.replicate n 0 := by
 refine ext_len (by rw [apP_len, List.length_replicate]) fun j hj => ?_
 rw [apP_len] at hj
 unfold apP
 rw [map_getD hj, getD_rep]
 generalize apE l da i (j % o) (j / o) = w
 generalize j % o = a
 generalize j / o = b
 rw [if_neg (by omega)]
theorem apP_all {l da : List Int} {i o n : Nat} (ho : 0 < o) : apP l da i o o 0 n = apA l da i o n := by
 refine ext_len (by rw [apP_len, apA_len]) fun j hj => ?_
 rw [apP_len] at hj
 unfold apP apA
 rw [map_getD hj, map_getD hj, if_pos (.inl (Nat.mod_lt _ ho))]
theorem rowm_at {l : List Int} {i r k : Nat} (hk : k < i) (h : -131072 ≤ List.getD l (r * i + k) 0 ∧ List.getD l (r * i + k) 0 ≤ 131072) : List.getD (List.take i (List.drop (r * i) l)) k 0 = List.getD l (r * i + k) 0 ∧ (-131072 ≤ List.getD (List.take i (List.drop (r * i) l)) k 0 ∧ List.getD (List.take i (List.drop (r * i) l)) k 0 ≤ 131072) := by
 rw [getD_take hk, getD_drop]; exact ⟨rfl, h⟩
theorem zl070 {p : Prop} (h : p := by first | exact decide_eq_true (by omega) | exact decide_eq_false (by omega)) : p := h
theorem M_isCount (n : Int)  : Fun 124 [iE n] (toG []) 0 (.e (.c (.d (D.lit (.bool (decide (1 ≤ n ∧ n ≤ 8))))))) (toG []) 0 := by
 refine Fun.mk (n := 9) Tryz.func124 rfl rfl (Nat.le_of_ble_eq_true rfl) ?_
 intro cx hcx
 refine zr [.no] [0] [] True [(0, iV n)] [] 0 trivial ?_
 by_cases hx1 : ((1 : Int) ≤ n)
 ·by_cases hx2 : (n ≤ 8)
  ·refine zr [.no, .b true, .no, .no, .b true, .no, .no] [2] [] ((((1 : Int) ≤ n)) ∧ ((n ≤ 8))) [(2, .e (.c (.d (D.lit (.bool true)))))] [] 0 ⟨zo, zo⟩ ?_
   refine AW.ret ?_
   exact EndP.of (.inr rfl) [] (P := ((decide (1 ≤ n ∧ n ≤ 8)) = true)) zk zl070
  ·refine zr [.no, .b true, .no, .no, .b false, .no, .no] [2] [] ((((1 : Int) ≤ n)) ∧ (¬ (n ≤ 8))) [(2, .e (.c (.d (D.lit (.bool false)))))] [] 0 ⟨zo, zo⟩ ?_
   refine AW.ret ?_
   exact EndP.of (.inr rfl) [] (P := ((decide (1 ≤ n ∧ n ≤ 8)) = false)) zk zl070
 ·refine zr [.no, .b false, .no, .no, .no] [2] [] (¬ ((1 : Int) ≤ n)) [(2, .e (.c (.d (D.lit (.bool false)))))] [] 0 zo ?_
  refine AW.ret ?_
  exact EndP.of (.inr rfl) [] (P := ((decide (1 ≤ n ∧ n ≤ 8)) = false)) zk zl070
theorem M_isCoef (n : Int)  : Fun 125 [iE n] (toG []) 0 (.e (.c (.d (D.lit (.bool (coefB n)))))) (toG []) 0 := by
 refine Fun.mk (n := 9) Tryz.func125 rfl rfl (Nat.le_of_ble_eq_true rfl) ?_
 intro cx hcx
 refine zr [.no] [0] [] True [(0, iV n)] [] 0 trivial ?_
 by_cases hx1 : (((-131072) : Int) ≤ n)
 ·by_cases hx2 : (n ≤ 131072)
  ·refine zr [.no, .b true, .no, .no, .b true, .no, .no] [2] [] (((((-131072) : Int) ≤ n)) ∧ ((n ≤ 131072))) [(2, .e (.c (.d (D.lit (.bool true)))))] [] 0 ⟨zo, zo⟩ ?_
   refine AW.ret ?_
   exact EndP.of (.inr rfl) [] (P := ((coefB n) = true)) zk zl070
  ·refine zr [.no, .b true, .no, .no, .b false, .no, .no] [2] [] (((((-131072) : Int) ≤ n)) ∧ (¬ (n ≤ 131072))) [(2, .e (.c (.d (D.lit (.bool false)))))] [] 0 ⟨zo, zo⟩ ?_
   refine AW.ret ?_
   exact EndP.of (.inr rfl) [] (P := ((coefB n) = false)) zk zl070
 ·refine zr [.no, .b false, .no, .no, .no] [2] [] (¬ (((-131072) : Int) ≤ n)) [(2, .e (.c (.d (D.lit (.bool false)))))] [] 0 zo ?_
  refine AW.ret ?_
  exact EndP.of (.inr rfl) [] (P := ((coefB n) = false)) zk zl070
theorem M_scaled (n : Int) (h : -17592186044416 ≤ n ∧ n ≤ 17592186044416) : Fun 112 [iE n] (toG []) 0 (iV ((n + 16384) / 32768)) (toG []) 0 := by
 refine Fun.mk (n := 6) Tryz.func112 rfl rfl (Nat.le_of_ble_eq_true rfl) ?_
 intro cx hcx
 refine zr [.no] [0] [] True [(0, iV n)] [] 0 trivial ?_
 refine zr [.no, .w, .n 15, .no] [2] [] (((-9223372036854775808) ≤ (n + 16384) ∧ (n + 16384) ≤ 9223372036854775807) ∧ ((15 : Int) = 15) ∧ ((15 : Nat) ≤ 64)) [(2, iV ((n + 16384) / 32768))] [] 0 ⟨⟨by omega, by omega⟩, rfl, zo⟩ ?_
 refine AW.ret ?_
 exact EndP.of (.inr rfl) [] (P := ((((n + 16384) / 32768) : Int) = ((n + 16384) / 32768))) zk rfl
theorem zl073 {p : Prop} (h : p := by first | assumption | exact decide_eq_false (by omega)) : p := h
theorem zl074 {p : Prop} (h : p := by first | omega | assumption | simp) : p := h
theorem zl071 {p : Prop} (h : p := by first | omega | (rw [dI_len]; omega) | (simp [dI_len] <;> omega) | rfl) : p := h
theorem zl072 {p : Prop} (h : p := by first | rfl | omega | assumption | (simp; done) | (simp; omega)) : p := h
theorem M_Valid (i o : Int) (l : List Int) (q : Nat) (hn : List.length l = q) (hm : q ≤ 100000000000000) : Fun 110 [.agg [iC i, iC o, .d (D.sl (dI .i64 l) q)]] (toG []) 0 (.e (.c (.d (D.lit (.bool (matB i o l)))))) (toG []) 0 := by
 have hpo : 1 ≤ i ∧ i ≤ 8 ∧ 1 ≤ o ∧ o ≤ 8 → 1 ≤ i * o ∧ i * o ≤ 64 := fun h9 => ⟨by have := Int.mul_le_mul_of_nonneg_right h9.1 (show 0 ≤ o by omega); omega, by have := Int.mul_le_mul_of_nonneg_right h9.2.1 (show 0 ≤ o by omega); omega⟩
 refine Fun.mk (n := 37) Tryz.func110 rfl rfl (Nat.le_of_ble_eq_true rfl) ?_
 intro cx hcx
 refine zr [.no, .no] [1] [0] True [(1, rV 0 0)] [(0, some (27, .ds [iD i, iD o, dl l q]))] 1 trivial ?_
 refine AW.seq ?_
 rcases Bool.eq_false_or_eq_true (decide (1 ≤ i ∧ i ≤ 8)) with hx1 | hx1
 ·have hx2 : (((1 : Int) ≤ i) ∧ (i ≤ 8)) := of_decide_eq_true hx1
  rcases Bool.eq_false_or_eq_true (decide (1 ≤ o ∧ o ≤ 8)) with hx3 | hx3
  ·have hx4 : (((1 : Int) ≤ o) ∧ (o ≤ 8)) := of_decide_eq_true hx3
   by_cases hx6 : (((q : Nat) : Int) ≠ (i * o))
   ·have hx7 : 1 ≤ i * o ∧ i * o ≤ 64 := hpo zo
    refine zr [.no, .no, .call [] (.e (.c (.d (D.lit (.bool true))))) [] 0 [] none, .no, .no, .no, .no, .call [] (.e (.c (.d (D.lit (.bool true))))) [] 0 [] none, .no, .no, .no, .no, .no, .no, .no, .no, .no, .no, .w, .b true, .no] [1, 25] [0] ((Fun 124 [iE i] (toG []) 0 (.e (.c (.d (D.lit (.bool true))))) (toG []) 0) ∧ (Fun 124 [iE o] (toG []) 0 (.e (.c (.d (D.lit (.bool true))))) (toG []) 0) ∧ ((-9223372036854775808) ≤ (i * o) ∧ (i * o) ≤ 9223372036854775807) ∧ ((((q : Nat) : Int) ≠ (i * o)))) [(1, rV 0 0), (25, .e (.c (.d (D.lit (.bool true)))))] [(0, some (27, .ds [iD i, iD o, dl l q]))] 1 ⟨(by have h0 := (M_isCount i); rw [hx1] at h0; exact h0), (by have h0 := (M_isCount o); rw [hx3] at h0; exact h0), ⟨by omega, by omega⟩, zo⟩ ?_
    refine zt ?_
    refine zr [.no] [2] [] True [(2, .e (.c (.d (D.lit (.bool false)))))] [] 1 trivial ?_
    refine AW.ret ?_
    exact EndP.of (.inr rfl) [] (P := ((matB i o l) = false)) zk (by first | exact matB_t hn zo zo zo (fun j hj => ha j zo) | exact matB_f hn zo | exact matB_s (k := k) hn zo zl073)
   ·have hx8 : 1 ≤ i * o ∧ i * o ≤ 64 := hpo zo
    refine zr [.no, .no, .call [] (.e (.c (.d (D.lit (.bool true))))) [] 0 [] none, .no, .no, .no, .no, .call [] (.e (.c (.d (D.lit (.bool true))))) [] 0 [] none, .no, .no, .no, .no, .no, .no, .no, .no, .no, .no, .w, .b false, .no] [1, 25] [0] ((Fun 124 [iE i] (toG []) 0 (.e (.c (.d (D.lit (.bool true))))) (toG []) 0) ∧ (Fun 124 [iE o] (toG []) 0 (.e (.c (.d (D.lit (.bool true))))) (toG []) 0) ∧ ((-9223372036854775808) ≤ (i * o) ∧ (i * o) ≤ 9223372036854775807) ∧ (¬ (((q : Nat) : Int) ≠ (i * o)))) [(1, rV 0 0), (25, .e (.c (.d (D.lit (.bool false)))))] [(0, some (27, .ds [iD i, iD o, dl l q]))] 1 ⟨(by have h0 := (M_isCount i); rw [hx1] at h0; exact h0), (by have h0 := (M_isCount o); rw [hx3] at h0; exact h0), ⟨by omega, by omega⟩, zo⟩ ?_
    refine zfs ?_
    refine AW.seq ?_
    refine zr [.no, .no, .no, .no] [27, 28, 29] [] True [(27, .e (.c (.d (dl l q)))), (28, uV q), (29, iV 0)] [] 1 trivial ?_
    refine AW.block ?_
    refine AW.loopE 0 hcx (fun (x : {x : Nat // match x with | k => (k ≤ q) ∧ (∀ j, j < k → coefB (List.getD l j 0) = true)}) => match x with | ⟨k, _⟩ => (⟨[(27, .e (.c (.d (dl l q)))), (28, uV q), (29, uV k)], [], 1⟩ : ES)) (fun (x : {x : Nat // match x with | k => (k ≤ q) ∧ (∀ j, j < k → coefB (List.getD l j 0) = true)}) => match x with | ⟨k, _⟩ => q - k) ⟨(0 : Nat), (show ((0 : Nat) ≤ q) ∧ (∀ j, j < (0 : Nat) → coefB (List.getD l j 0) = true) from ⟨zl074, (fun j hj => absurd hj (Nat.not_lt_zero j))⟩)⟩ [] (P := (((dI .i64 l) : List D) = (dI .i64 l)) ∧ ((q : Nat) = q) ∧ ((((q : Nat) : Int) : Int) = ((q : Nat) : Int)) ∧ ((0 : Int) = 0)) zk ⟨rfl, rfl, rfl, rfl⟩ ?_
    rintro ⟨k, hinv0⟩
    obtain ⟨hk, ha⟩ : (k ≤ q) ∧ (∀ j, j < k → coefB (List.getD l j 0) = true) := hinv0
    refine AW.es (l := [(27, .e (.c (.d (dl l q)))), (28, uV q), (29, uV k)]) (g := []) (nx := 1) rfl rfl rfl ?_
    by_cases hx9 : (((k : Nat) : Int) < ((q : Nat) : Int))
    ·refine zr [.b true] [27, 28, 29, 30] [] ((((k : Nat) : Int) < ((q : Nat) : Int))) [(27, .e (.c (.d (dl l q)))), (28, uV q), (29, uV k), (30, .e (.c (.d (D.lit (.bool true)))))] [] 1 zo ?_
     refine AW.seq ?_
     refine zts ?_
     refine AW.seq ?_
     refine AW.block ?_
     refine zr [.n k, .d (D.lit (.int .i64 (List.getD l k 0))), .no] [4, 27, 28, 29] [] (((((k : Nat) : Int) : Int) = ((k : Nat) : Int)) ∧ (k < q) ∧ ((List.drop k (dI .i64 l))[0]? = some (D.lit (.int .i64 (List.getD l k 0))))) [(4, iV (List.getD l k 0)), (27, .e (.c (.d (dl l q)))), (28, uV q), (29, uV k)] [] 1 ⟨rfl, zo, (dI_at _ _ _ zl071)⟩ ?_
     rcases Bool.eq_false_or_eq_true (coefB (List.getD l k 0)) with hx10 | hx10
     ·refine zr [.no, .call [] (.e (.c (.d (D.lit (.bool true))))) [] 0 [] none, .no] [27, 28, 29, 35] [] (Fun 125 [iE (List.getD l k 0)] (toG []) 0 (.e (.c (.d (D.lit (.bool true))))) (toG []) 0) [(27, .e (.c (.d (dl l q)))), (28, uV q), (29, uV k), (35, .e (.c (.d (D.lit (.bool false)))))] [] 1 (by have h0 := (M_isCoef (List.getD l k 0)); rw [hx10] at h0; exact h0) ?_
      refine zfs ?_
      refine zg [.w, .no] [27, 28, 29] [] ((-9223372036854775808) ≤ (((k : Nat) : Int) + 1) ∧ (((k : Nat) : Int) + 1) ≤ 9223372036854775807) [(27, .e (.c (.d (dl l q)))), (28, uV q), (29, iV (↑k + 1))] [] 1 ⟨by omega, by omega⟩ ?_
      exact Rd.of ⟨((k + 1) : Nat), (show ((k + 1) ≤ q) ∧ (∀ j, j < (k + 1) → coefB (List.getD l j 0) = true) from ⟨zl074, (fun j hj => (Nat.lt_succ_iff_lt_or_eq.1 hj).elim (ha j) (fun e9 => by subst e9; first | assumption | exact decide_eq_true zo))⟩)⟩ [] (P := (((dI .i64 l) : List D) = (dI .i64 l)) ∧ ((q : Nat) = q) ∧ ((((q : Nat) : Int) : Int) = ((q : Nat) : Int)) ∧ (((((k + 1) : Nat) : Int) : Int) = (((k : Nat) : Int) + 1))) zk ⟨rfl, rfl, rfl, zl072⟩ (show q - (k + 1) < q - k from (by first | omega | (show _ < _; simp; omega)))
     ·refine zr [.no, .call [] (.e (.c (.d (D.lit (.bool false))))) [] 0 [] none, .no] [27, 28, 29, 35] [] (Fun 125 [iE (List.getD l k 0)] (toG []) 0 (.e (.c (.d (D.lit (.bool false))))) (toG []) 0) [(27, .e (.c (.d (dl l q)))), (28, uV q), (29, uV k), (35, .e (.c (.d (D.lit (.bool true)))))] [] 1 (by have h0 := (M_isCoef (List.getD l k 0)); rw [hx10] at h0; exact h0) ?_
      refine zt ?_
      refine zr [.no] [2] [] True [(2, .e (.c (.d (D.lit (.bool false)))))] [] 1 trivial ?_
      refine AW.ret ?_
      exact EndP.of (.inr rfl) [] (P := ((matB i o l) = false)) zk (by first | exact matB_t hn zo zo zo (fun j hj => ha j zo) | exact matB_f hn zo | exact matB_s (k := k) hn zo zl073)
    ·refine zr [.b false] [27, 28, 29, 30] [] (¬ (((k : Nat) : Int) < ((q : Nat) : Int))) [(27, .e (.c (.d (dl l q)))), (28, uV q), (29, uV k), (30, .e (.c (.d (D.lit (.bool false)))))] [] 1 zo ?_
     refine AW.seq ?_
     refine zf ?_
     refine AW.exit ?_
     refine zr [.no] [2] [] True [(2, .e (.c (.d (D.lit (.bool true)))))] [] 1 trivial ?_
     refine AW.ret ?_
     exact EndP.of (.inr rfl) [] (P := ((matB i o l) = true)) zk (by first | exact matB_t hn zo zo zo (fun j hj => ha j zo) | exact matB_f hn zo | exact matB_s (k := k) hn zo zl073)
  ·have hx11 : ¬ (((1 : Int) ≤ o) ∧ (o ≤ 8)) := of_decide_eq_false hx3
   refine zr [.no, .no, .call [] (.e (.c (.d (D.lit (.bool true))))) [] 0 [] none, .no, .no, .no, .no, .call [] (.e (.c (.d (D.lit (.bool false))))) [] 0 [] none, .no, .no, .no, .no] [1, 25] [0] ((Fun 124 [iE i] (toG []) 0 (.e (.c (.d (D.lit (.bool true))))) (toG []) 0) ∧ (Fun 124 [iE o] (toG []) 0 (.e (.c (.d (D.lit (.bool false))))) (toG []) 0)) [(1, rV 0 0), (25, .e (.c (.d (D.lit (.bool true)))))] [(0, some (27, .ds [iD i, iD o, dl l q]))] 1 ⟨(by have h0 := (M_isCount i); rw [hx1] at h0; exact h0), (by have h0 := (M_isCount o); rw [hx3] at h0; exact h0)⟩ ?_
   refine zt ?_
   refine zr [.no] [2] [] True [(2, .e (.c (.d (D.lit (.bool false)))))] [] 1 trivial ?_
   refine AW.ret ?_
   exact EndP.of (.inr rfl) [] (P := ((matB i o l) = false)) zk (by first | exact matB_t hn zo zo zo (fun j hj => ha j zo) | exact matB_f hn zo | exact matB_s (k := k) hn zo zl073)
 ·have hx12 : ¬ (((1 : Int) ≤ i) ∧ (i ≤ 8)) := of_decide_eq_false hx1
  refine zr [.no, .no, .call [] (.e (.c (.d (D.lit (.bool false))))) [] 0 [] none, .no, .no, .no, .no, .no] [1, 25] [0] (Fun 124 [iE i] (toG []) 0 (.e (.c (.d (D.lit (.bool false))))) (toG []) 0) [(1, rV 0 0), (25, .e (.c (.d (D.lit (.bool true)))))] [(0, some (27, .ds [iD i, iD o, dl l q]))] 1 (by have h0 := (M_isCount i); rw [hx1] at h0; exact h0) ?_
  refine zt ?_
  refine zr [.no] [2] [] True [(2, .e (.c (.d (D.lit (.bool false)))))] [] 1 trivial ?_
  refine AW.ret ?_
  exact EndP.of (.inr rfl) [] (P := ((matB i o l) = false)) zk (by first | exact matB_t hn zo zo zo (fun j hj => ha j zo) | exact matB_f hn zo | exact matB_s (k := k) hn zo zl073)
theorem M_rowo (i o : Nat) (r : Nat) (l : List Int) (q : Nat) (hn : List.length l = q) (hi : i ≤ 8) (hr : r < 8) (hq : (r + 1) * i ≤ q) : Fun 55 [.agg [iC ((i : Nat) : Int), iC ((o : Nat) : Int), .own 0 0 q 1 true], iE ((r : Nat) : Int)] (toG [(0, some (3, .ds (dI .i64 l)))]) 1 (.e (.c (.own 0 (r * i) i 1 false))) (toG [(0, some (3, .ds (dI .i64 l)))]) 1 := by
 have hsm : (r + 1) * i = r * i + i := Nat.succ_mul r i
 have hsi : ((r : Int) + 1) * (i : Int) = (r : Int) * (i : Int) + (i : Int) := by rw [Int.add_mul, Int.one_mul]
 have hb0 : r * i ≤ 64 := Nat.le_trans (Nat.mul_le_mul (show r ≤ 8 by omega) hi) (by omega)
 refine Fun.mk (n := 22) Tryz.func55 rfl rfl (Nat.le_of_ble_eq_true rfl) ?_
 intro cx hcx
 refine zr [.no, .no] [1, 2] [0, 1] True [(1, uV r), (2, rV 1 0)] [(0, some (3, .ds (dI .i64 l))), (1, some (27, .cs [uC i, uC o, .own 0 0 q 1 true]))] 2 trivial ?_
 refine zr [.no, .no, .no, .no, .no, .w, .no, .w, .no, .no, .wi ((((r * i) : Nat) : Int) + ((i : Nat) : Int)), .no, .w, .no, .no, .wi ((((r * i) : Nat) : Int) + ((i : Nat) : Int)), .sl (r * i) ((r * i) + i) (r * i) i, .no] [4] [0] (((-9223372036854775808) ≤ (((r : Nat) : Int) * ((i : Nat) : Int)) ∧ (((r : Nat) : Int) * ((i : Nat) : Int)) ≤ 9223372036854775807) ∧ ((-9223372036854775808) ≤ (((r : Nat) : Int) + 1) ∧ (((r : Nat) : Int) + 1) ≤ 9223372036854775807) ∧ ((-9223372036854775808) ≤ ((((r : Nat) : Int) + 1) * ((i : Nat) : Int)) ∧ ((((r : Nat) : Int) + 1) * ((i : Nat) : Int)) ≤ 9223372036854775807) ∧ ((((((r : Nat) : Int) + 1) * ((i : Nat) : Int)) : Int) = ((((r * i) : Nat) : Int) + ((i : Nat) : Int))) ∧ ((-9223372036854775808) ≤ (((r : Nat) : Int) + 1) ∧ (((r : Nat) : Int) + 1) ≤ 9223372036854775807) ∧ ((-9223372036854775808) ≤ ((((r : Nat) : Int) + 1) * ((i : Nat) : Int)) ∧ ((((r : Nat) : Int) + 1) * ((i : Nat) : Int)) ≤ 9223372036854775807) ∧ ((((((r : Nat) : Int) + 1) * ((i : Nat) : Int)) : Int) = ((((r * i) : Nat) : Int) + ((i : Nat) : Int))) ∧ (((((r : Nat) : Int) * ((i : Nat) : Int)) : Int) = (((r * i) : Nat) : Int)) ∧ ((((((r * i) : Nat) : Int) + ((i : Nat) : Int)) : Int) = ((((r * i) + i) : Nat) : Int)) ∧ ((((((r * i) : Nat) : Int) + ((i : Nat) : Int)) : Int) = ((((r * i) + i) : Nat) : Int)) ∧ ((r * i) ≤ ((r * i) + i)) ∧ (((r * i) + i) ≤ q) ∧ ((0 : Nat) + (r * i) * 1 = (r * i)) ∧ (((r * i) + i) - (r * i) = i)) [(4, .e (.c (.own 0 (r * i) i 1 false)))] [(0, some (3, .ds (dI .i64 l)))] 2 ⟨⟨by omega, by omega⟩, ⟨by omega, by omega⟩, ⟨by omega, by omega⟩, zo, ⟨by omega, by omega⟩, ⟨by omega, by omega⟩, zo, (by first | rfl | omega), (by first | rfl | omega), (by first | rfl | omega), zo, zo, zo, zo⟩ ?_
 refine AW.ret ?_
 exact EndP.of (.inr rfl) [] (P := (((r * i) : Nat) = (r * i)) ∧ ((i : Nat) = i) ∧ (((dI .i64 l) : List D) = (dI .i64 l))) zk ⟨rfl, rfl, rfl⟩
theorem M_row (i o : Nat) (r : Nat) (l : List Int) (q : Nat) (hn : List.length l = q) (hi : i ≤ 8) (hr : r < 8) (hq : (r + 1) * i ≤ q) : Fun 55 [.agg [iC ((i : Nat) : Int), iC ((o : Nat) : Int), .d (D.sl (dI .i64 l) q)], iE ((r : Nat) : Int)] (toG []) 0 (.e (.c (.d (D.sl (dI .i64 (List.take i (List.drop (r * i) l))) i)))) (toG []) 0 := by
 have hsm : (r + 1) * i = r * i + i := Nat.succ_mul r i
 have hsi : ((r : Int) + 1) * (i : Int) = (r : Int) * (i : Int) + (i : Int) := by rw [Int.add_mul, Int.one_mul]
 have hb0 : r * i ≤ 64 := Nat.le_trans (Nat.mul_le_mul (show r ≤ 8 by omega) hi) (by omega)
 refine Fun.mk (n := 22) Tryz.func55 rfl rfl (Nat.le_of_ble_eq_true rfl) ?_
 intro cx hcx
 refine zr [.no, .no] [1, 2] [0] True [(1, uV r), (2, rV 0 0)] [(0, some (27, .ds [uD i, uD o, dl l q]))] 1 trivial ?_
 refine zr [.no, .no, .no, .no, .no, .w, .no, .w, .no, .no, .wi ((((r * i) : Nat) : Int) + ((i : Nat) : Int)), .no, .w, .no, .no, .wi ((((r * i) : Nat) : Int) + ((i : Nat) : Int)), .sls (r * i) ((r * i) + i) i (dI .i64 (List.take i (List.drop (r * i) l))), .no] [4] [] (((-9223372036854775808) ≤ (((r : Nat) : Int) * ((i : Nat) : Int)) ∧ (((r : Nat) : Int) * ((i : Nat) : Int)) ≤ 9223372036854775807) ∧ ((-9223372036854775808) ≤ (((r : Nat) : Int) + 1) ∧ (((r : Nat) : Int) + 1) ≤ 9223372036854775807) ∧ ((-9223372036854775808) ≤ ((((r : Nat) : Int) + 1) * ((i : Nat) : Int)) ∧ ((((r : Nat) : Int) + 1) * ((i : Nat) : Int)) ≤ 9223372036854775807) ∧ ((((((r : Nat) : Int) + 1) * ((i : Nat) : Int)) : Int) = ((((r * i) : Nat) : Int) + ((i : Nat) : Int))) ∧ ((-9223372036854775808) ≤ (((r : Nat) : Int) + 1) ∧ (((r : Nat) : Int) + 1) ≤ 9223372036854775807) ∧ ((-9223372036854775808) ≤ ((((r : Nat) : Int) + 1) * ((i : Nat) : Int)) ∧ ((((r : Nat) : Int) + 1) * ((i : Nat) : Int)) ≤ 9223372036854775807) ∧ ((((((r : Nat) : Int) + 1) * ((i : Nat) : Int)) : Int) = ((((r * i) : Nat) : Int) + ((i : Nat) : Int))) ∧ (((((r : Nat) : Int) * ((i : Nat) : Int)) : Int) = (((r * i) : Nat) : Int)) ∧ ((((((r * i) : Nat) : Int) + ((i : Nat) : Int)) : Int) = ((((r * i) + i) : Nat) : Int)) ∧ ((((((r * i) : Nat) : Int) + ((i : Nat) : Int)) : Int) = ((((r * i) + i) : Nat) : Int)) ∧ ((r * i) ≤ ((r * i) + i)) ∧ (((r * i) + i) ≤ q) ∧ (((r * i) + i) - (r * i) = i) ∧ (List.take (i * 1) (List.drop ((r * i) * 1) (dI .i64 l)) = (dI .i64 (List.take i (List.drop (r * i) l))))) [(4, .e (.c (.d (dl (List.take i (List.drop (r * i) l)) i))))] [] 1 ⟨⟨by omega, by omega⟩, ⟨by omega, by omega⟩, ⟨by omega, by omega⟩, zo, ⟨by omega, by omega⟩, ⟨by omega, by omega⟩, zo, (by first | rfl | omega), (by first | rfl | omega), (by first | rfl | omega), zo, zo, zo, (by first | rfl | with_reducible assumption | exact dI_app _ _ _ | exact dI_rep _ _ _ | (simp only [dI_take, dI_drop, dI_app, Nat.mul_one, Nat.zero_mul, List.drop_zero, List.nil_append, List.append_nil]; done) | (simp only [dI_take, dI_drop, dI_app, Nat.mul_one, Nat.zero_mul, List.drop_zero, List.nil_append, List.append_nil]; rfl) | (rw [List.take_of_length_le (by simp only [dI_len, List.length_drop, List.length_replicate, Nat.mul_one]; omega)]; first | rfl | (simp only [dI_drop, Nat.mul_one, Nat.zero_mul, List.drop_zero]; done) | (simp only [dI_drop, Nat.mul_one, Nat.zero_mul, List.drop_zero]; rfl)))⟩ ?_
 refine AW.ret ?_
 exact EndP.of (.inr rfl) [] (P := (((dI .i64 (List.take i (List.drop (r * i) l))) : List D) = (dI .i64 (List.take i (List.drop (r * i) l)))) ∧ ((i : Nat) = i)) zk ⟨rfl, rfl⟩
theorem M_zero (i o : Nat) (hi : i ≤ 8) (ho : o ≤ 8) : Fun 53 [iE ((i : Nat) : Int), iE ((o : Nat) : Int)] (toG []) 0 (.e (.agg [iC ((i : Nat) : Int), iC ((o : Nat) : Int), .own 0 0 (i * o) 1 true])) (toG [(0, some (3, .ds (dI .i64 (List.replicate (i * o) 0))))]) 1 := by
 have hb : i * o ≤ 64 := Nat.mul_le_mul hi ho
 refine Fun.mk (n := 12) Tryz.func53 rfl rfl (Nat.le_of_ble_eq_true rfl) ?_
 intro cx hcx
 refine zr [.no] [0, 1, 4] [0] True [(0, uV i), (1, uV o), (4, rV 0 0)] [(0, some (27, .ds [iD 0, iD 0, nl9]))] 1 trivial ?_
 refine zr [.no, .no, .no, .no, .w, .mk (i * o) (i * o) (dI .i64 (List.replicate (i * o) 0)), .no, .no] [4] [0, 1] (((-9223372036854775808) ≤ (((i : Nat) : Int) * ((o : Nat) : Int)) ∧ (((i : Nat) : Int) * ((o : Nat) : Int)) ≤ 9223372036854775807) ∧ (((((i : Nat) : Int) * ((o : Nat) : Int)) : Int) = (((i * o) : Nat) : Int)) ∧ (((((i : Nat) : Int) * ((o : Nat) : Int)) : Int) = (((i * o) : Nat) : Int)) ∧ ((i * o) ≤ (i * o)) ∧ (8 * (i * o) ≤ 281474976710656) ∧ (List.replicate (i * o) (D.lit (.int .i64 0)) = dI .i64 (List.replicate (i * o) 0))) [(4, rV 0 0)] [(0, some (27, .cs [uC i, uC o, .own 1 0 (i * o) 1 true])), (1, some (3, .ds (dI .i64 (List.replicate (i * o) 0))))] 2 ⟨⟨by omega, by omega⟩, (by first | rfl | omega), (by first | rfl | omega), zo, zo, (dI_rep _ _ _)⟩ ?_
 refine AW.ret ?_
 exact EndP.of (.inr rfl) [(0, 1)] (P := ((((i : Nat) : Int) : Int) = ((i : Nat) : Int)) ∧ ((((o : Nat) : Int) : Int) = ((o : Nat) : Int)) ∧ ((0 : Nat) = 0) ∧ (((i * o) : Nat) = (i * o)) ∧ (((dI .i64 (List.replicate (i * o) 0)) : List D) = (dI .i64 (List.replicate (i * o) 0)))) zk ⟨rfl, rfl, rfl, rfl, rfl⟩
theorem M_Apply (i o f : Nat) (l : List Int) (q : Nat) (da : List Int) (n : Nat) (hl : List.length l = q) (hm : MV i o l) (hn : List.length da = n) (hv : BV i f da) : Fun 77 [.agg [iC ((i : Nat) : Int), iC ((o : Nat) : Int), .d (D.sl (dI .i64 l) q)], .agg [iC ((i : Nat) : Int), .d (D.sl (dI .i32 da) n)]] (toG []) 0 (.tup [.agg [iC ((o : Nat) : Int), .own 0 0 (f * o) 1 true], iE 0]) (toG [(0, some (21, .ds (dI .i32 (apA l da i o (f * o)))))]) 1 := by
 have hok : matB ((i : Nat) : Int) ((o : Nat) : Int) l = true := hm.ok
 have hob : okB ((i : Nat) : Int) da = true := hv.ok
 have hi1 : 1 ≤ i := hm.i1
 have hi8 : i ≤ 8 := hm.i8
 have ho1 : 1 ≤ o := hm.o1
 have ho8 : o ≤ 8 := hm.o8
 have hlq : q = i * o := hl.symm.trans hm.len
 have hlen : n = f * i := hn.symm.trans hv.len
 have hbig : f * i ≤ 524288 := hv.big
 have hq : (n : Int) / (i : Int) = f := by rw [hlen]; exact hv.quo
 have hfit : f ≤ 65536 := hv.fit
 have hfo : f * o ≤ 524288 := Nat.le_trans (Nat.mul_le_mul hfit ho8) (by omega)
 have hio : i * o ≤ 64 := hm.big
 refine Fun.mk (n := 93) Tryz.func77 rfl rfl (Nat.le_of_ble_eq_true rfl) ?_
 intro cx hcx
 refine zr [.no, .no, .no, .no] [2, 3, 4] [0, 1, 2] True [(2, rV 0 0), (3, rV 1 0), (4, rV 2 0)] [(0, some (27, .ds [uD i, uD o, dl l q])), (1, some (77, .ds [uD i, dm da n])), (2, some (77, .ds [iD 0, nl9]))] 3 trivial ?_
 refine AW.seq ?_
 refine zr [.no, .call [] (.e (.c (.d (D.lit (.bool true))))) [] 0 [] none, .no, .no, .no, .call [] (.e (.c (.d (D.lit (.bool true))))) [] 0 [] none, .no, .no] [2, 3, 4, 21] [0, 1, 2] ((Fun 110 [.agg [uC i, uC o, .d (dl l q)]] (toG []) 0 (.e (.c (.d (D.lit (.bool true))))) (toG []) 0) ∧ (Fun 70 [.agg [uC i, .d (dm da n)]] (toG []) 0 (.e (.c (.d (D.lit (.bool true))))) (toG []) 0)) [(2, rV 0 0), (3, rV 1 0), (4, rV 2 0), (21, .e (.c (.d (D.lit (.bool false)))))] [(0, some (27, .ds [uD i, uD o, dl l q])), (1, some (77, .ds [uD i, dm da n])), (2, some (77, .ds [iD 0, nl9]))] 3 ⟨(by have h0 := (M_Valid ((i : Nat) : Int) ((o : Nat) : Int) l q zo zo); rw [hok] at h0; exact h0), (by have h0 := (G_Valid ((i : Nat) : Int) da n zo zo); rw [hob] at h0; exact h0)⟩ ?_
 refine zfs ?_
 refine AW.seq ?_
 refine zr [.no, .no, .no, .no, .b false] [2, 3, 4, 27] [0, 1, 2] (¬ (((i : Nat) : Int) ≠ ((i : Nat) : Int))) [(2, rV 0 0), (3, rV 1 0), (4, rV 2 0), (27, .e (.c (.d (D.lit (.bool false)))))] [(0, some (27, .ds [uD i, uD o, dl l q])), (1, some (77, .ds [uD i, dm da n])), (2, some (77, .ds [iD 0, nl9]))] 3 zo ?_
 refine zfs ?_
 refine zr [.no, .no, .no, .no, .no, .wi ((f : Nat) : Int), .no] [2, 3, 4, 6] [0, 1, 2] ((¬ (((i : Nat) : Int) : Int) = 0) ∧ ((-9223372036854775808) ≤ (Int.tdiv ((n : Nat) : Int) ((i : Nat) : Int)) ∧ (Int.tdiv ((n : Nat) : Int) ((i : Nat) : Int)) ≤ 9223372036854775807) ∧ (((Int.tdiv ((n : Nat) : Int) ((i : Nat) : Int)) : Int) = ((f : Nat) : Int))) [(2, rV 0 0), (3, rV 1 0), (4, rV 2 0), (6, uV f)] [(0, some (27, .ds [uD i, uD o, dl l q])), (1, some (77, .ds [uD i, dm da n])), (2, some (77, .ds [iD 0, nl9]))] 3 ⟨zo, ⟨by rw [Int.tdiv_eq_ediv_of_nonneg (by omega)]; omega, by rw [Int.tdiv_eq_ediv_of_nonneg (by omega)]; omega⟩, (by rw [Int.tdiv_eq_ediv_of_nonneg (by omega)]; omega)⟩ ?_
 refine zr [.no, .no, .no, .no, .no, .w, .mk (f * o) (f * o) (dI .i32 (List.replicate (f * o) 0)), .no, .no, .no] [2, 3, 4, 6, 7] [0, 1, 2, 3, 4] (((-9223372036854775808) ≤ (((f : Nat) : Int) * ((o : Nat) : Int)) ∧ (((f : Nat) : Int) * ((o : Nat) : Int)) ≤ 9223372036854775807) ∧ (((((f : Nat) : Int) * ((o : Nat) : Int)) : Int) = (((f * o) : Nat) : Int)) ∧ (((((f : Nat) : Int) * ((o : Nat) : Int)) : Int) = (((f * o) : Nat) : Int)) ∧ ((f * o) ≤ (f * o)) ∧ (4 * (f * o) ≤ 281474976710656) ∧ (List.replicate (f * o) (D.lit (.int .i32 0)) = dI .i32 (List.replicate (f * o) 0))) [(2, rV 0 0), (3, rV 1 0), (4, rV 2 0), (6, uV f), (7, rV 4 0)] [(0, some (27, .ds [uD i, uD o, dl l q])), (1, some (77, .ds [uD i, dm da n])), (2, some (77, .ds [iD 0, nl9])), (3, some (21, .ds (dI .i32 (List.replicate (f * o) 0)))), (4, some (77, .cs [uC o, .own 3 0 (f * o) 1 true]))] 5 ⟨⟨by omega, by omega⟩, (by first | rfl | omega), (by first | rfl | omega), zo, zo, (dI_rep _ _ _)⟩ ?_
 refine AW.seq ?_
 refine zr [.no, .no, .no] [2, 3, 4, 6, 7, 44, 45] [0, 1, 2, 3, 4] True [(2, rV 0 0), (3, rV 1 0), (4, rV 2 0), (6, uV f), (7, rV 4 0), (44, uV o), (45, iV 0)] [(0, some (27, .ds [uD i, uD o, dl l q])), (1, some (77, .ds [uD i, dm da n])), (2, some (77, .ds [iD 0, nl9])), (3, some (21, .ds (dI .i32 (List.replicate (f * o) 0)))), (4, some (77, .cs [uC o, .own 3 0 (f * o) 1 true]))] 5 trivial ?_
 refine AW.block ?_
 refine AW.loopE 0 hcx (fun (x : {x : Nat // match x with | r => (r ≤ o)}) => match x with | ⟨r, _⟩ => (⟨[(2, rV 0 0), (3, rV 1 0), (4, rV 2 0), (6, uV f), (7, rV 4 0), (44, uV o), (45, uV r)], [(0, some (27, .ds [uD i, uD o, dl l q])), (1, some (77, .ds [uD i, dm da n])), (2, some (77, .ds [iD 0, nl9])), (3, some (21, .ds (dI .i32 (apP l da i o r 0 (f * o))))), (4, some (77, .cs [uC o, .own 3 0 (f * o) 1 true]))], 5⟩ : ES)) (fun (x : {x : Nat // match x with | r => (r ≤ o)}) => match x with | ⟨r, _⟩ => o - r) ⟨(0 : Nat), (show ((0 : Nat) ≤ o) from zl074)⟩ [] (P := ((0 : Nat) = 0) ∧ ((0 : Nat) = 0) ∧ ((0 : Nat) = 0) ∧ ((((f : Nat) : Int) : Int) = ((f : Nat) : Int)) ∧ ((0 : Nat) = 0) ∧ ((((o : Nat) : Int) : Int) = ((o : Nat) : Int)) ∧ ((0 : Int) = 0) ∧ (([uD i, uD o, dl l q] : List D) = [uD i, uD o, dl l q]) ∧ (([uD i, dm da n] : List D) = [uD i, dm da n]) ∧ (([iD 0, nl9] : List D) = [iD 0, nl9]) ∧ (((dI .i32 (apP l da i o 0 0 (f * o))) : List D) = (dI .i32 (List.replicate (f * o) 0))) ∧ ((((o : Nat) : Int) : Int) = ((o : Nat) : Int)) ∧ ((0 : Nat) = 0) ∧ (((f * o) : Nat) = (f * o))) zk ⟨rfl, rfl, rfl, rfl, rfl, rfl, rfl, rfl, rfl, rfl, (by first | rfl | exact congrArg (dI .i32) (apP_zero l da i o (f * o)) | exact congrArg (dI .i32) (apP_roll rfl zo).symm), rfl, rfl, rfl⟩ ?_
 rintro ⟨r, hinv0⟩
 have hr : (r ≤ o) := hinv0
 refine AW.es (l := [(2, rV 0 0), (3, rV 1 0), (4, rV 2 0), (6, uV f), (7, rV 4 0), (44, uV o), (45, uV r)]) (g := [(0, some (27, .ds [uD i, uD o, dl l q])), (1, some (77, .ds [uD i, dm da n])), (2, some (77, .ds [iD 0, nl9])), (3, some (21, .ds (dI .i32 (apP l da i o r 0 (f * o))))), (4, some (77, .cs [uC o, .own 3 0 (f * o) 1 true]))]) (nx := 5) rfl rfl rfl ?_
 have hsr : (r + 1) * i = r * i + i := Nat.succ_mul r i
 have hpl : List.length (apP l da i o r 0 (f * o)) = f * o := apP_len _ _ _ _ _ _ _
 by_cases hx1 : (((r : Nat) : Int) < ((o : Nat) : Int))
 ·have hx2 : (r + 1) * i ≤ i * o := (by have := Nat.mul_le_mul_right i (show r + 1 ≤ o by omega); rw [Nat.mul_comm i o]; exact this)
  refine zr [.b true] [2, 3, 4, 6, 7, 44, 45, 46] [0, 1, 2, 3, 4] ((((r : Nat) : Int) < ((o : Nat) : Int))) [(2, rV 0 0), (3, rV 1 0), (4, rV 2 0), (6, uV f), (7, rV 4 0), (44, uV o), (45, uV r), (46, .e (.c (.d (D.lit (.bool true)))))] [(0, some (27, .ds [uD i, uD o, dl l q])), (1, some (77, .ds [uD i, dm da n])), (2, some (77, .ds [iD 0, nl9])), (3, some (21, .ds (dI .i32 (apP l da i o r 0 (f * o))))), (4, some (77, .cs [uC o, .own 3 0 (f * o) 1 true]))] 5 zo ?_
  refine AW.seq ?_
  refine zts ?_
  refine AW.seq ?_
  refine AW.block ?_
  refine zr [.no, .no] [2, 3, 4, 6, 7, 8, 44, 45] [0, 1, 2, 3, 4] True [(2, rV 0 0), (3, rV 1 0), (4, rV 2 0), (6, uV f), (7, rV 4 0), (8, uV r), (44, uV o), (45, uV r)] [(0, some (27, .ds [uD i, uD o, dl l q])), (1, some (77, .ds [uD i, dm da n])), (2, some (77, .ds [iD 0, nl9])), (3, some (21, .ds (dI .i32 (apP l da i o r 0 (f * o))))), (4, some (77, .cs [uC o, .own 3 0 (f * o) 1 true]))] 5 trivial ?_
  refine zr [.no, .no, .call [] (.e (.c (.d (dl (List.take i (List.drop (r * i) l)) i)))) [] 0 [] none, .no] [2, 3, 4, 6, 7, 8, 9, 44, 45] [0, 1, 2, 3, 4] _ [(2, rV 0 0), (3, rV 1 0), (4, rV 2 0), (6, uV f), (7, rV 4 0), (8, uV r), (9, .e (.c (.d (dl (List.take i (List.drop (r * i) l)) i)))), (44, uV o), (45, uV r)] [(0, some (27, .ds [uD i, uD o, dl l q])), (1, some (77, .ds [uD i, dm da n])), (2, some (77, .ds [iD 0, nl9])), (3, some (21, .ds (dI .i32 (apP l da i o r 0 (f * o))))), (4, some (77, .cs [uC o, .own 3 0 (f * o) 1 true]))] 5 (M_row i o r l q zo zo zo zo) ?_
  refine zr [.no, .no] [2, 3, 4, 6, 7, 8, 9, 44, 45, 51, 52] [0, 1, 2, 3, 4] True [(2, rV 0 0), (3, rV 1 0), (4, rV 2 0), (6, uV f), (7, rV 4 0), (8, uV r), (9, .e (.c (.d (dl (List.take i (List.drop (r * i) l)) i)))), (44, uV o), (45, uV r), (51, uV f), (52, iV 0)] [(0, some (27, .ds [uD i, uD o, dl l q])), (1, some (77, .ds [uD i, dm da n])), (2, some (77, .ds [iD 0, nl9])), (3, some (21, .ds (dI .i32 (apP l da i o r 0 (f * o))))), (4, some (77, .cs [uC o, .own 3 0 (f * o) 1 true]))] 5 trivial ?_
  refine AW.block ?_
  refine AW.loopE 0 hcx (fun (x : {x : Nat // match x with | g => (g ≤ f)}) => match x with | ⟨g, _⟩ => (⟨[(2, rV 0 0), (3, rV 1 0), (4, rV 2 0), (6, uV f), (7, rV 4 0), (8, uV r), (9, .e (.c (.d (dl (List.take i (List.drop (r * i) l)) i)))), (44, uV o), (45, uV r), (51, uV f), (52, uV g)], [(0, some (27, .ds [uD i, uD o, dl l q])), (1, some (77, .ds [uD i, dm da n])), (2, some (77, .ds [iD 0, nl9])), (3, some (21, .ds (dI .i32 (apP l da i o r g (f * o))))), (4, some (77, .cs [uC o, .own 3 0 (f * o) 1 true]))], 5⟩ : ES)) (fun (x : {x : Nat // match x with | g => (g ≤ f)}) => match x with | ⟨g, _⟩ => f - g) ⟨(0 : Nat), (show ((0 : Nat) ≤ f) from zl074)⟩ [] (P := ((0 : Nat) = 0) ∧ ((0 : Nat) = 0) ∧ ((0 : Nat) = 0) ∧ ((((f : Nat) : Int) : Int) = ((f : Nat) : Int)) ∧ ((0 : Nat) = 0) ∧ ((((r : Nat) : Int) : Int) = ((r : Nat) : Int)) ∧ (((dI .i64 (List.take i (List.drop (r * i) l))) : List D) = (dI .i64 (List.take i (List.drop (r * i) l)))) ∧ ((i : Nat) = i) ∧ ((((o : Nat) : Int) : Int) = ((o : Nat) : Int)) ∧ ((((r : Nat) : Int) : Int) = ((r : Nat) : Int)) ∧ ((((f : Nat) : Int) : Int) = ((f : Nat) : Int)) ∧ ((0 : Int) = 0) ∧ (([uD i, uD o, dl l q] : List D) = [uD i, uD o, dl l q]) ∧ (([uD i, dm da n] : List D) = [uD i, dm da n]) ∧ (([iD 0, nl9] : List D) = [iD 0, nl9]) ∧ (((dI .i32 (apP l da i o r 0 (f * o))) : List D) = (dI .i32 (apP l da i o r 0 (f * o)))) ∧ ((((o : Nat) : Int) : Int) = ((o : Nat) : Int)) ∧ ((0 : Nat) = 0) ∧ (((f * o) : Nat) = (f * o))) zk ⟨rfl, rfl, rfl, rfl, rfl, rfl, rfl, rfl, rfl, rfl, rfl, rfl, rfl, rfl, rfl, rfl, rfl, rfl, rfl⟩ ?_
  rintro ⟨g, hinv1⟩
  have hg : (g ≤ f) := hinv1
  refine AW.es (l := [(2, rV 0 0), (3, rV 1 0), (4, rV 2 0), (6, uV f), (7, rV 4 0), (8, uV r), (9, .e (.c (.d (dl (List.take i (List.drop (r * i) l)) i)))), (44, uV o), (45, uV r), (51, uV f), (52, uV g)]) (g := [(0, some (27, .ds [uD i, uD o, dl l q])), (1, some (77, .ds [uD i, dm da n])), (2, some (77, .ds [iD 0, nl9])), (3, some (21, .ds (dI .i32 (apP l da i o r g (f * o))))), (4, some (77, .cs [uC o, .own 3 0 (f * o) 1 true]))]) (nx := 5) rfl rfl rfl ?_
  have hsg : (g + 1) * i = g * i + i := Nat.succ_mul g i
  have hsgo : (g + 1) * o = g * o + o := Nat.succ_mul g o
  have hpg : List.length (apP l da i o r g (f * o)) = f * o := apP_len _ _ _ _ _ _ _
  by_cases hx3 : (((g : Nat) : Int) < ((f : Nat) : Int))
  ·have hx4 : (g + 1) * i ≤ f * i := (Nat.mul_le_mul_right _ (show g + 1 ≤ f by omega))
   have hx5 : (g + 1) * o ≤ f * o := (Nat.mul_le_mul_right _ (show g + 1 ≤ f by omega))
   refine zr [.b true] [2, 3, 4, 6, 7, 8, 9, 44, 45, 51, 52, 53] [0, 1, 2, 3, 4] ((((g : Nat) : Int) < ((f : Nat) : Int))) [(2, rV 0 0), (3, rV 1 0), (4, rV 2 0), (6, uV f), (7, rV 4 0), (8, uV r), (9, .e (.c (.d (dl (List.take i (List.drop (r * i) l)) i)))), (44, uV o), (45, uV r), (51, uV f), (52, uV g), (53, .e (.c (.d (D.lit (.bool true)))))] [(0, some (27, .ds [uD i, uD o, dl l q])), (1, some (77, .ds [uD i, dm da n])), (2, some (77, .ds [iD 0, nl9])), (3, some (21, .ds (dI .i32 (apP l da i o r g (f * o))))), (4, some (77, .cs [uC o, .own 3 0 (f * o) 1 true]))] 5 zo ?_
   refine AW.seq ?_
   refine zts ?_
   refine AW.seq ?_
   refine AW.block ?_
   refine zr [.no, .no] [2, 3, 4, 6, 7, 8, 9, 10, 44, 45, 51, 52] [0, 1, 2, 3, 4] True [(2, rV 0 0), (3, rV 1 0), (4, rV 2 0), (6, uV f), (7, rV 4 0), (8, uV r), (9, .e (.c (.d (dl (List.take i (List.drop (r * i) l)) i)))), (10, uV g), (44, uV o), (45, uV r), (51, uV f), (52, uV g)] [(0, some (27, .ds [uD i, uD o, dl l q])), (1, some (77, .ds [uD i, dm da n])), (2, some (77, .ds [iD 0, nl9])), (3, some (21, .ds (dI .i32 (apP l da i o r g (f * o))))), (4, some (77, .cs [uC o, .own 3 0 (f * o) 1 true]))] 5 trivial ?_
   refine zr [.no] [2, 3, 4, 6, 7, 8, 9, 10, 11, 44, 45, 51, 52] [0, 1, 2, 3, 4] True [(2, rV 0 0), (3, rV 1 0), (4, rV 2 0), (6, uV f), (7, rV 4 0), (8, uV r), (9, .e (.c (.d (dl (List.take i (List.drop (r * i) l)) i)))), (10, uV g), (11, iV 0), (44, uV o), (45, uV r), (51, uV f), (52, uV g)] [(0, some (27, .ds [uD i, uD o, dl l q])), (1, some (77, .ds [uD i, dm da n])), (2, some (77, .ds [iD 0, nl9])), (3, some (21, .ds (dI .i32 (apP l da i o r g (f * o))))), (4, some (77, .cs [uC o, .own 3 0 (f * o) 1 true]))] 5 trivial ?_
   refine AW.seq ?_
   refine zr [.no, .no, .no] [2, 3, 4, 6, 7, 8, 9, 10, 11, 44, 45, 51, 52, 55, 56, 57] [0, 1, 2, 3, 4] True [(2, rV 0 0), (3, rV 1 0), (4, rV 2 0), (6, uV f), (7, rV 4 0), (8, uV r), (9, .e (.c (.d (dl (List.take i (List.drop (r * i) l)) i)))), (10, uV g), (11, iV 0), (44, uV o), (45, uV r), (51, uV f), (52, uV g), (55, .e (.c (.d (dl (List.take i (List.drop (r * i) l)) i)))), (56, uV i), (57, iV 0)] [(0, some (27, .ds [uD i, uD o, dl l q])), (1, some (77, .ds [uD i, dm da n])), (2, some (77, .ds [iD 0, nl9])), (3, some (21, .ds (dI .i32 (apP l da i o r g (f * o))))), (4, some (77, .cs [uC o, .own 3 0 (f * o) 1 true]))] 5 trivial ?_
   refine AW.block ?_
   refine AW.loopE 0 hcx (fun (x : {x : Nat // match x with | k => (k ≤ i)}) => match x with | ⟨k, _⟩ => (⟨[(2, rV 0 0), (3, rV 1 0), (4, rV 2 0), (6, uV f), (7, rV 4 0), (8, uV r), (9, .e (.c (.d (dl (List.take i (List.drop (r * i) l)) i)))), (10, uV g), (11, iV (dotV l da (r * i) (g * i) k)), (44, uV o), (45, uV r), (51, uV f), (52, uV g), (55, .e (.c (.d (dl (List.take i (List.drop (r * i) l)) i)))), (56, uV i), (57, uV k)], [(0, some (27, .ds [uD i, uD o, dl l q])), (1, some (77, .ds [uD i, dm da n])), (2, some (77, .ds [iD 0, nl9])), (3, some (21, .ds (dI .i32 (apP l da i o r g (f * o))))), (4, some (77, .cs [uC o, .own 3 0 (f * o) 1 true]))], 5⟩ : ES)) (fun (x : {x : Nat // match x with | k => (k ≤ i)}) => match x with | ⟨k, _⟩ => i - k) ⟨(0 : Nat), (show ((0 : Nat) ≤ i) from zl074)⟩ [] (P := ((0 : Nat) = 0) ∧ ((0 : Nat) = 0) ∧ ((0 : Nat) = 0) ∧ ((((f : Nat) : Int) : Int) = ((f : Nat) : Int)) ∧ ((0 : Nat) = 0) ∧ ((((r : Nat) : Int) : Int) = ((r : Nat) : Int)) ∧ (((dI .i64 (List.take i (List.drop (r * i) l))) : List D) = (dI .i64 (List.take i (List.drop (r * i) l)))) ∧ ((i : Nat) = i) ∧ ((((g : Nat) : Int) : Int) = ((g : Nat) : Int)) ∧ (((dotV l da (r * i) (g * i) 0) : Int) = 0) ∧ ((((o : Nat) : Int) : Int) = ((o : Nat) : Int)) ∧ ((((r : Nat) : Int) : Int) = ((r : Nat) : Int)) ∧ ((((f : Nat) : Int) : Int) = ((f : Nat) : Int)) ∧ ((((g : Nat) : Int) : Int) = ((g : Nat) : Int)) ∧ (((dI .i64 (List.take i (List.drop (r * i) l))) : List D) = (dI .i64 (List.take i (List.drop (r * i) l)))) ∧ ((i : Nat) = i) ∧ ((((i : Nat) : Int) : Int) = ((i : Nat) : Int)) ∧ ((0 : Int) = 0) ∧ (([uD i, uD o, dl l q] : List D) = [uD i, uD o, dl l q]) ∧ (([uD i, dm da n] : List D) = [uD i, dm da n]) ∧ (([iD 0, nl9] : List D) = [iD 0, nl9]) ∧ (((dI .i32 (apP l da i o r g (f * o))) : List D) = (dI .i32 (apP l da i o r g (f * o)))) ∧ ((((o : Nat) : Int) : Int) = ((o : Nat) : Int)) ∧ ((0 : Nat) = 0) ∧ (((f * o) : Nat) = (f * o))) zk ⟨rfl, rfl, rfl, rfl, rfl, rfl, rfl, rfl, rfl, zl072, rfl, rfl, rfl, rfl, rfl, rfl, rfl, rfl, rfl, rfl, rfl, rfl, rfl, rfl, rfl⟩ ?_
   rintro ⟨k, hinv2⟩
   have hk : (k ≤ i) := hinv2
   refine AW.es (l := [(2, rV 0 0), (3, rV 1 0), (4, rV 2 0), (6, uV f), (7, rV 4 0), (8, uV r), (9, .e (.c (.d (dl (List.take i (List.drop (r * i) l)) i)))), (10, uV g), (11, iV (dotV l da (r * i) (g * i) k)), (44, uV o), (45, uV r), (51, uV f), (52, uV g), (55, .e (.c (.d (dl (List.take i (List.drop (r * i) l)) i)))), (56, uV i), (57, uV k)]) (g := [(0, some (27, .ds [uD i, uD o, dl l q])), (1, some (77, .ds [uD i, dm da n])), (2, some (77, .ds [iD 0, nl9])), (3, some (21, .ds (dI .i32 (apP l da i o r g (f * o))))), (4, some (77, .cs [uC o, .own 3 0 (f * o) 1 true]))]) (nx := 5) rfl rfl rfl ?_
   have hd1 : dotV l da (r * i) (g * i) (k + 1) = dotV l da (r * i) (g * i) k + (List.getD l (r * i + k) 0) * (List.getD da (g * i + k) 0) := rfl
   have hdb : -8796093022208 ≤ dotV l da (r * i) (g * i) k ∧ dotV l da (r * i) (g * i) k ≤ 8796093022208 := by have h9 := dotV_in (l := l) (da := da) (a := r * i) (b := g * i) (n := i) (fun j hj => ⟨hm.co _ (by omega), hv.at _ (by omega)⟩) k hk; omega
   by_cases hx6 : (((k : Nat) : Int) < ((i : Nat) : Int))
   ·have hx7 : -1099511627776 ≤ (List.getD l (r * i + k) 0) * (List.getD da (g * i + k) 0) ∧ (List.getD l (r * i + k) 0) * (List.getD da (g * i + k) 0) ≤ 1099511627776 := prod_in (hm.co _ zo) (hv.at _ zo)
    refine zr [.b true] [2, 3, 4, 6, 7, 8, 9, 10, 11, 44, 45, 51, 52, 55, 56, 57, 58] [0, 1, 2, 3, 4] ((((k : Nat) : Int) < ((i : Nat) : Int))) [(2, rV 0 0), (3, rV 1 0), (4, rV 2 0), (6, uV f), (7, rV 4 0), (8, uV r), (9, .e (.c (.d (dl (List.take i (List.drop (r * i) l)) i)))), (10, uV g), (11, iV (dotV l da (r * i) (g * i) k)), (44, uV o), (45, uV r), (51, uV f), (52, uV g), (55, .e (.c (.d (dl (List.take i (List.drop (r * i) l)) i)))), (56, uV i), (57, uV k), (58, .e (.c (.d (D.lit (.bool true)))))] [(0, some (27, .ds [uD i, uD o, dl l q])), (1, some (77, .ds [uD i, dm da n])), (2, some (77, .ds [iD 0, nl9])), (3, some (21, .ds (dI .i32 (apP l da i o r g (f * o))))), (4, some (77, .cs [uC o, .own 3 0 (f * o) 1 true]))] 5 zo ?_
    refine AW.seq ?_
    refine zts ?_
    refine AW.seq ?_
    refine AW.block ?_
    have hx8 : (List.getD (List.take i (List.drop (r * i) l)) k 0) = List.getD l (r * i + k) 0 ∧ (-131072 ≤ (List.getD (List.take i (List.drop (r * i) l)) k 0) ∧ (List.getD (List.take i (List.drop (r * i) l)) k 0) ≤ 131072) := rowm_at zo (hm.co _ zo)
    refine zr [.no, .n k, .d (D.lit (.int .i64 (List.getD l ((r * i) + k) 0))), .no, .no] [2, 3, 4, 6, 7, 8, 9, 10, 11, 12, 13, 44, 45, 51, 52, 55, 56, 57] [0, 1, 2, 3, 4] (((((k : Nat) : Int) : Int) = ((k : Nat) : Int)) ∧ (k < i) ∧ ((List.drop k (dI .i64 (List.take i (List.drop (r * i) l))))[0]? = some (D.lit (.int .i64 (List.getD l ((r * i) + k) 0))))) [(2, rV 0 0), (3, rV 1 0), (4, rV 2 0), (6, uV f), (7, rV 4 0), (8, uV r), (9, .e (.c (.d (dl (List.take i (List.drop (r * i) l)) i)))), (10, uV g), (11, iV (dotV l da (r * i) (g * i) k)), (12, uV k), (13, iV (List.getD l ((r * i) + k) 0)), (44, uV o), (45, uV r), (51, uV f), (52, uV g), (55, .e (.c (.d (dl (List.take i (List.drop (r * i) l)) i)))), (56, uV i), (57, uV k)] [(0, some (27, .ds [uD i, uD o, dl l q])), (1, some (77, .ds [uD i, dm da n])), (2, some (77, .ds [iD 0, nl9])), (3, some (21, .ds (dI .i32 (apP l da i o r g (f * o))))), (4, some (77, .cs [uC o, .own 3 0 (f * o) 1 true]))] 5 ⟨rfl, zo, (by rw [show (List.getD l ((r * i) + k) 0) = (List.getD (List.take i (List.drop (r * i) l)) k 0) by omega]; exact dI_at _ _ _ zl071)⟩ ?_
    have hx9 : -8388608 ≤ (List.getD da ((g * i) + k) 0) ∧ (List.getD da ((g * i) + k) 0) ≤ 8388607 := hv.at ((g * i) + k) zo
    refine zg [.no, .no, .no, .no, .no, .no, .no, .w, .no, .w, .n ((g * i) + k), .d (D.lit (.int .i32 (List.getD da ((g * i) + k) 0))), .w, .w, .wi (dotV l da (r * i) (g * i) (k + 1)), .no] [2, 3, 4, 6, 7, 8, 9, 10, 11, 44, 45, 51, 52, 55, 56, 57] [0, 1, 2, 3, 4] (((-9223372036854775808) ≤ (((g : Nat) : Int) * ((i : Nat) : Int)) ∧ (((g : Nat) : Int) * ((i : Nat) : Int)) ≤ 9223372036854775807) ∧ ((-9223372036854775808) ≤ ((((g : Nat) : Int) * ((i : Nat) : Int)) + ((k : Nat) : Int)) ∧ ((((g : Nat) : Int) * ((i : Nat) : Int)) + ((k : Nat) : Int)) ≤ 9223372036854775807) ∧ ((((((g : Nat) : Int) * ((i : Nat) : Int)) + ((k : Nat) : Int)) : Int) = ((((g * i) + k) : Nat) : Int)) ∧ (((g * i) + k) < n) ∧ ((List.drop ((g * i) + k) (dI .i32 da))[0]? = some (D.lit (.int .i32 (List.getD da ((g * i) + k) 0)))) ∧ ((-9223372036854775808) ≤ (List.getD da ((g * i) + k) 0) ∧ (List.getD da ((g * i) + k) 0) ≤ 9223372036854775807) ∧ ((-9223372036854775808) ≤ ((List.getD l ((r * i) + k) 0) * (List.getD da ((g * i) + k) 0)) ∧ ((List.getD l ((r * i) + k) 0) * (List.getD da ((g * i) + k) 0)) ≤ 9223372036854775807) ∧ ((-9223372036854775808) ≤ ((dotV l da (r * i) (g * i) k) + ((List.getD l ((r * i) + k) 0) * (List.getD da ((g * i) + k) 0))) ∧ ((dotV l da (r * i) (g * i) k) + ((List.getD l ((r * i) + k) 0) * (List.getD da ((g * i) + k) 0))) ≤ 9223372036854775807) ∧ ((((dotV l da (r * i) (g * i) k) + ((List.getD l ((r * i) + k) 0) * (List.getD da ((g * i) + k) 0))) : Int) = (dotV l da (r * i) (g * i) (k + 1)))) [(2, rV 0 0), (3, rV 1 0), (4, rV 2 0), (6, uV f), (7, rV 4 0), (8, uV r), (9, .e (.c (.d (dl (List.take i (List.drop (r * i) l)) i)))), (10, uV g), (11, iV (dotV l da (r * i) (g * i) (k + 1))), (44, uV o), (45, uV r), (51, uV f), (52, uV g), (55, .e (.c (.d (dl (List.take i (List.drop (r * i) l)) i)))), (56, uV i), (57, uV k)] [(0, some (27, .ds [uD i, uD o, dl l q])), (1, some (77, .ds [uD i, dm da n])), (2, some (77, .ds [iD 0, nl9])), (3, some (21, .ds (dI .i32 (apP l da i o r g (f * o))))), (4, some (77, .cs [uC o, .own 3 0 (f * o) 1 true]))] 5 ⟨⟨by omega, by omega⟩, ⟨by omega, by omega⟩, (by first | rfl | omega), zo, (dI_at _ _ _ zl071), ⟨by omega, by omega⟩, ⟨by omega, by omega⟩, ⟨by omega, by omega⟩, zo⟩ ?_
    refine zg [.w, .no] [2, 3, 4, 6, 7, 8, 9, 10, 11, 44, 45, 51, 52, 55, 56, 57] [0, 1, 2, 3, 4] ((-9223372036854775808) ≤ (((k : Nat) : Int) + 1) ∧ (((k : Nat) : Int) + 1) ≤ 9223372036854775807) [(2, rV 0 0), (3, rV 1 0), (4, rV 2 0), (6, uV f), (7, rV 4 0), (8, uV r), (9, .e (.c (.d (dl (List.take i (List.drop (r * i) l)) i)))), (10, uV g), (11, iV (dotV l da (r * i) (g * i) (k + 1))), (44, uV o), (45, uV r), (51, uV f), (52, uV g), (55, .e (.c (.d (dl (List.take i (List.drop (r * i) l)) i)))), (56, uV i), (57, iV (↑k + 1))] [(0, some (27, .ds [uD i, uD o, dl l q])), (1, some (77, .ds [uD i, dm da n])), (2, some (77, .ds [iD 0, nl9])), (3, some (21, .ds (dI .i32 (apP l da i o r g (f * o))))), (4, some (77, .cs [uC o, .own 3 0 (f * o) 1 true]))] 5 ⟨by omega, by omega⟩ ?_
    exact Rd.of ⟨((k + 1) : Nat), (show ((k + 1) ≤ i) from zl074)⟩ [] (P := ((0 : Nat) = 0) ∧ ((0 : Nat) = 0) ∧ ((0 : Nat) = 0) ∧ ((((f : Nat) : Int) : Int) = ((f : Nat) : Int)) ∧ ((0 : Nat) = 0) ∧ ((((r : Nat) : Int) : Int) = ((r : Nat) : Int)) ∧ (((dI .i64 (List.take i (List.drop (r * i) l))) : List D) = (dI .i64 (List.take i (List.drop (r * i) l)))) ∧ ((i : Nat) = i) ∧ ((((g : Nat) : Int) : Int) = ((g : Nat) : Int)) ∧ (((dotV l da (r * i) (g * i) (k + 1)) : Int) = (dotV l da (r * i) (g * i) (k + 1))) ∧ ((((o : Nat) : Int) : Int) = ((o : Nat) : Int)) ∧ ((((r : Nat) : Int) : Int) = ((r : Nat) : Int)) ∧ ((((f : Nat) : Int) : Int) = ((f : Nat) : Int)) ∧ ((((g : Nat) : Int) : Int) = ((g : Nat) : Int)) ∧ (((dI .i64 (List.take i (List.drop (r * i) l))) : List D) = (dI .i64 (List.take i (List.drop (r * i) l)))) ∧ ((i : Nat) = i) ∧ ((((i : Nat) : Int) : Int) = ((i : Nat) : Int)) ∧ (((((k + 1) : Nat) : Int) : Int) = (((k : Nat) : Int) + 1)) ∧ (([uD i, uD o, dl l q] : List D) = [uD i, uD o, dl l q]) ∧ (([uD i, dm da n] : List D) = [uD i, dm da n]) ∧ (([iD 0, nl9] : List D) = [iD 0, nl9]) ∧ (((dI .i32 (apP l da i o r g (f * o))) : List D) = (dI .i32 (apP l da i o r g (f * o)))) ∧ ((((o : Nat) : Int) : Int) = ((o : Nat) : Int)) ∧ ((0 : Nat) = 0) ∧ (((f * o) : Nat) = (f * o))) zk ⟨rfl, rfl, rfl, rfl, rfl, rfl, rfl, rfl, rfl, rfl, rfl, rfl, rfl, rfl, rfl, rfl, rfl, zl072, rfl, rfl, rfl, rfl, rfl, rfl, rfl⟩ (show i - (k + 1) < i - k from (by first | omega | (show _ < _; simp; omega)))
   ·obtain rfl : i = k := by omega
    refine zr [.b false] [2, 3, 4, 6, 7, 8, 9, 10, 11, 44, 45, 51, 52, 55, 56, 57, 58] [0, 1, 2, 3, 4] (¬ (((i : Nat) : Int) < ((i : Nat) : Int))) [(2, rV 0 0), (3, rV 1 0), (4, rV 2 0), (6, uV f), (7, rV 4 0), (8, uV r), (9, .e (.c (.d (dl (List.take i (List.drop (r * i) l)) i)))), (10, uV g), (11, iV (dotV l da (r * i) (g * i) i)), (44, uV o), (45, uV r), (51, uV f), (52, uV g), (55, .e (.c (.d (dl (List.take i (List.drop (r * i) l)) i)))), (56, uV i), (57, uV i), (58, .e (.c (.d (D.lit (.bool false)))))] [(0, some (27, .ds [uD i, uD o, dl l q])), (1, some (77, .ds [uD i, dm da n])), (2, some (77, .ds [iD 0, nl9])), (3, some (21, .ds (dI .i32 (apP l da i o r g (f * o))))), (4, some (77, .cs [uC o, .own 3 0 (f * o) 1 true]))] 5 zo ?_
    refine AW.seq ?_
    refine zf ?_
    refine AW.exit ?_
    have hx10 : ((((-8388608) : Int) ≤ (satI (((dotV l da (r * i) (g * i) i) + 16384) / 32768))) ∧ ((satI (((dotV l da (r * i) (g * i) i) + 16384) / 32768)) ≤ 8388607)) := satI_smp (((dotV l da (r * i) (g * i) i) + 16384) / 32768)
    refine zg [.no, .no, .no, .no, .no, .w, .no, .w, .no, .call [] (iV (((dotV l da (r * i) (g * i) i) + 16384) / 32768)) [] 0 [] none, .call [] (.e (.c (.d (D.lit (.int .i32 (satI (((dotV l da (r * i) (g * i) i) + 16384) / 32768))))))) [] 0 [] none, .n2 ((g * o) + r) ((g * o) + r), .ds (dI .i32 (List.set (apP l da i o r g (f * o)) ((g * o) + r) (satI (((dotV l da (r * i) (g * i) i) + 16384) / 32768))))] [2, 3, 4, 6, 7, 8, 9, 44, 45, 51, 52] [0, 1, 2, 3, 4] (((-9223372036854775808) ≤ (((g : Nat) : Int) * ((o : Nat) : Int)) ∧ (((g : Nat) : Int) * ((o : Nat) : Int)) ≤ 9223372036854775807) ∧ ((-9223372036854775808) ≤ ((((g : Nat) : Int) * ((o : Nat) : Int)) + ((r : Nat) : Int)) ∧ ((((g : Nat) : Int) * ((o : Nat) : Int)) + ((r : Nat) : Int)) ≤ 9223372036854775807) ∧ (_) ∧ (_) ∧ ((((((g : Nat) : Int) * ((o : Nat) : Int)) + ((r : Nat) : Int)) : Int) = ((((g * o) + r) : Nat) : Int)) ∧ (((g * o) + r) < (f * o)) ∧ ((0 : Nat) + ((g * o) + r) * 1 = ((g * o) + r)) ∧ (((g * o) + r) + 1 ≤ (dI .i32 (apP l da i o r g (f * o))).length) ∧ (updD (dI .i32 (apP l da i o r g (f * o))) ((g * o) + r) [D.lit (.int .i32 (satI (((dotV l da (r * i) (g * i) i) + 16384) / 32768)))] = dI .i32 (List.set (apP l da i o r g (f * o)) ((g * o) + r) (satI (((dotV l da (r * i) (g * i) i) + 16384) / 32768))))) [(2, rV 0 0), (3, rV 1 0), (4, rV 2 0), (6, uV f), (7, rV 4 0), (8, uV r), (9, .e (.c (.d (dl (List.take i (List.drop (r * i) l)) i)))), (44, uV o), (45, uV r), (51, uV f), (52, uV g)] [(0, some (27, .ds [uD i, uD o, dl l q])), (1, some (77, .ds [uD i, dm da n])), (2, some (77, .ds [iD 0, nl9])), (3, some (21, .ds (dI .i32 (List.set (apP l da i o r g (f * o)) ((g * o) + r) (satI (((dotV l da (r * i) (g * i) i) + 16384) / 32768)))))), (4, some (77, .cs [uC o, .own 3 0 (f * o) 1 true]))] 5 ⟨⟨by omega, by omega⟩, ⟨by omega, by omega⟩, (M_scaled (dotV l da (r * i) (g * i) i) (by first | omega | with_reducible assumption | (simp <;> omega) | rfl | assumption)), (G_Sat (((dotV l da (r * i) (g * i) i) + 16384) / 32768) (by first | omega | with_reducible assumption | (simp <;> omega) | rfl | assumption)), (by first | rfl | omega), zo, zo, zl071, (dI_set _ _ _ _)⟩ ?_
    refine zg [.w, .no] [2, 3, 4, 6, 7, 8, 9, 44, 45, 51, 52] [0, 1, 2, 3, 4] ((-9223372036854775808) ≤ (((g : Nat) : Int) + 1) ∧ (((g : Nat) : Int) + 1) ≤ 9223372036854775807) [(2, rV 0 0), (3, rV 1 0), (4, rV 2 0), (6, uV f), (7, rV 4 0), (8, uV r), (9, .e (.c (.d (dl (List.take i (List.drop (r * i) l)) i)))), (44, uV o), (45, uV r), (51, uV f), (52, iV (↑g + 1))] [(0, some (27, .ds [uD i, uD o, dl l q])), (1, some (77, .ds [uD i, dm da n])), (2, some (77, .ds [iD 0, nl9])), (3, some (21, .ds (dI .i32 (List.set (apP l da i o r g (f * o)) ((g * o) + r) (satI (((dotV l da (r * i) (g * i) i) + 16384) / 32768)))))), (4, some (77, .cs [uC o, .own 3 0 (f * o) 1 true]))] 5 ⟨by omega, by omega⟩ ?_
    exact Rd.of ⟨((g + 1) : Nat), (show ((g + 1) ≤ f) from zl074)⟩ [] (P := ((0 : Nat) = 0) ∧ ((0 : Nat) = 0) ∧ ((0 : Nat) = 0) ∧ ((((f : Nat) : Int) : Int) = ((f : Nat) : Int)) ∧ ((0 : Nat) = 0) ∧ ((((r : Nat) : Int) : Int) = ((r : Nat) : Int)) ∧ (((dI .i64 (List.take i (List.drop (r * i) l))) : List D) = (dI .i64 (List.take i (List.drop (r * i) l)))) ∧ ((i : Nat) = i) ∧ ((((o : Nat) : Int) : Int) = ((o : Nat) : Int)) ∧ ((((r : Nat) : Int) : Int) = ((r : Nat) : Int)) ∧ ((((f : Nat) : Int) : Int) = ((f : Nat) : Int)) ∧ (((((g + 1) : Nat) : Int) : Int) = (((g : Nat) : Int) + 1)) ∧ (([uD i, uD o, dl l q] : List D) = [uD i, uD o, dl l q]) ∧ (([uD i, dm da n] : List D) = [uD i, dm da n]) ∧ (([iD 0, nl9] : List D) = [iD 0, nl9]) ∧ (((dI .i32 (apP l da i o r (g + 1) (f * o))) : List D) = (dI .i32 (List.set (apP l da i o r g (f * o)) ((g * o) + r) (satI (((dotV l da (r * i) (g * i) i) + 16384) / 32768))))) ∧ ((((o : Nat) : Int) : Int) = ((o : Nat) : Int)) ∧ ((0 : Nat) = 0) ∧ (((f * o) : Nat) = (f * o))) zk ⟨rfl, rfl, rfl, rfl, rfl, rfl, rfl, rfl, rfl, rfl, rfl, zl072, rfl, rfl, rfl, (by first | rfl | exact apP_set zo rfl zo rfl), rfl, rfl, rfl⟩ (show f - (g + 1) < f - g from (by first | omega | (show _ < _; simp; omega)))
  ·refine zr [.b false] [2, 3, 4, 6, 7, 8, 9, 44, 45, 51, 52, 53] [0, 1, 2, 3, 4] (¬ (((g : Nat) : Int) < ((f : Nat) : Int))) [(2, rV 0 0), (3, rV 1 0), (4, rV 2 0), (6, uV f), (7, rV 4 0), (8, uV r), (9, .e (.c (.d (dl (List.take i (List.drop (r * i) l)) i)))), (44, uV o), (45, uV r), (51, uV f), (52, uV g), (53, .e (.c (.d (D.lit (.bool false)))))] [(0, some (27, .ds [uD i, uD o, dl l q])), (1, some (77, .ds [uD i, dm da n])), (2, some (77, .ds [iD 0, nl9])), (3, some (21, .ds (dI .i32 (apP l da i o r g (f * o))))), (4, some (77, .cs [uC o, .own 3 0 (f * o) 1 true]))] 5 zo ?_
   refine AW.seq ?_
   refine zf ?_
   refine AW.exit ?_
   refine zg [.w, .no] [2, 3, 4, 6, 7, 44, 45] [0, 1, 2, 3, 4] ((-9223372036854775808) ≤ (((r : Nat) : Int) + 1) ∧ (((r : Nat) : Int) + 1) ≤ 9223372036854775807) [(2, rV 0 0), (3, rV 1 0), (4, rV 2 0), (6, uV f), (7, rV 4 0), (44, uV o), (45, iV (↑r + 1))] [(0, some (27, .ds [uD i, uD o, dl l q])), (1, some (77, .ds [uD i, dm da n])), (2, some (77, .ds [iD 0, nl9])), (3, some (21, .ds (dI .i32 (apP l da i o r g (f * o))))), (4, some (77, .cs [uC o, .own 3 0 (f * o) 1 true]))] 5 ⟨by omega, by omega⟩ ?_
   obtain rfl : f = g := by omega
   exact Rd.of ⟨((r + 1) : Nat), (show ((r + 1) ≤ o) from zl074)⟩ [] (P := ((0 : Nat) = 0) ∧ ((0 : Nat) = 0) ∧ ((0 : Nat) = 0) ∧ ((((f : Nat) : Int) : Int) = ((f : Nat) : Int)) ∧ ((0 : Nat) = 0) ∧ ((((o : Nat) : Int) : Int) = ((o : Nat) : Int)) ∧ (((((r + 1) : Nat) : Int) : Int) = (((r : Nat) : Int) + 1)) ∧ (([uD i, uD o, dl l q] : List D) = [uD i, uD o, dl l q]) ∧ (([uD i, dm da n] : List D) = [uD i, dm da n]) ∧ (([iD 0, nl9] : List D) = [iD 0, nl9]) ∧ (((dI .i32 (apP l da i o (r + 1) 0 (f * o))) : List D) = (dI .i32 (apP l da i o r f (f * o)))) ∧ ((((o : Nat) : Int) : Int) = ((o : Nat) : Int)) ∧ ((0 : Nat) = 0) ∧ (((f * o) : Nat) = (f * o))) zk ⟨rfl, rfl, rfl, rfl, rfl, rfl, zl072, rfl, rfl, rfl, (by first | rfl | exact congrArg (dI .i32) (apP_zero l da i o (f * o)) | exact congrArg (dI .i32) (apP_roll rfl zo).symm), rfl, rfl, rfl⟩ (show o - (r + 1) < o - r from (by first | omega | (show _ < _; simp; omega)))
 ·refine zr [.b false] [2, 3, 4, 6, 7, 44, 45, 46] [0, 1, 2, 3, 4] (¬ (((r : Nat) : Int) < ((o : Nat) : Int))) [(2, rV 0 0), (3, rV 1 0), (4, rV 2 0), (6, uV f), (7, rV 4 0), (44, uV o), (45, uV r), (46, .e (.c (.d (D.lit (.bool false)))))] [(0, some (27, .ds [uD i, uD o, dl l q])), (1, some (77, .ds [uD i, dm da n])), (2, some (77, .ds [iD 0, nl9])), (3, some (21, .ds (dI .i32 (apP l da i o r 0 (f * o))))), (4, some (77, .cs [uC o, .own 3 0 (f * o) 1 true]))] 5 zo ?_
  refine AW.seq ?_
  refine zf ?_
  refine AW.exit ?_
  refine zr [.no, .no, .no] [4, 5] [2, 3] True [(4, rV 2 0), (5, iV 0)] [(2, some (77, .cs [uC o, .own 3 0 (f * o) 1 true])), (3, some (21, .ds (dI .i32 (apP l da i o r 0 (f * o)))))] 5 trivial ?_
  refine AW.ret ?_
  obtain rfl : o = r := by omega
  exact EndP.of (.inr rfl) [(0, 3)] (P := ((((o : Nat) : Int) : Int) = ((o : Nat) : Int)) ∧ ((0 : Nat) = 0) ∧ (((f * o) : Nat) = (f * o)) ∧ ((0 : Int) = 0) ∧ (((dI .i32 (apA l da i o (f * o))) : List D) = (dI .i32 (apP l da i o o 0 (f * o))))) zk ⟨rfl, rfl, rfl, rfl, (by first | rfl | exact congrArg (dI .i32) (apP_all zo).symm)⟩
end Go.Proofs.YtigiolfloefjnaaGreatDoor
