/- The example of the chapter. No statement is proved here. -/
import Derived.Test.YtcmldnahohmieaaDoorL02B
namespace Go.Proofs.YtcmldnahohmieaaDoor
open Go.ChangeShapes Go.WideShapes Go.ChangeAt Go.RowKit
set_option linter.unusedVariables false
set_option linter.unusedSimpArgs false

theorem spL_len (l : List Int) : (spL l).length ≤ 64 := by
  unfold spL
  split
  · rename_i h
    split
    · exact Nat.zero_le _
    · rename_i h0
      unfold spE at h
      split at h
      · cases h
      · split at h
        · cases h
        · rename_i xs hx
          split at h
          · cases h
          · rw [hx]; show xs.length ≤ 64; omega
  · exact Nat.zero_le _
theorem BytL.cons {l : List Int} {xs : List (List Int)} (h : Byt l) (hl : BytL xs) : BytL (l :: xs) := fun m hm => by
  rcases List.mem_cons.1 hm with rfl | hm
  · exact h
  · exact hl m hm
def ltB (x : Int) : Bool := decide ((97 ≤ x ∧ x ≤ 122) ∨ (65 ≤ x ∧ x ≤ 90))
def inB (x : Int) : Bool := decide (((97 ≤ x ∧ x ≤ 122) ∨ (65 ≤ x ∧ x ≤ 90)) ∨ (48 ≤ x ∧ x ≤ 57) ∨ x = 45 ∨ x = 46 ∨ x = 95)
theorem lt_in {x : Int} (h : ltB x = true) : inB x = true := decide_eq_true (.inl (of_decide_eq_true h))
theorem in_o {x : Int} (h : (48 ≤ x ∧ x ≤ 57) ∨ x = 45 ∨ x = 46 ∨ x = 95) : inB x = true := decide_eq_true (.inr h)
theorem in_n {x : Int} (h : ltB x = false) (h2 : ¬ ((48 ≤ x ∧ x ≤ 57) ∨ x = 45 ∨ x = 46 ∨ x = 95)) : inB x = false := decide_eq_false (fun h9 => h9.elim (of_decide_eq_false h) h2)
/-- is it a name -/
def nameB (l : List Int) : Bool := decide (1 ≤ l.length ∧ l.length ≤ 64) && ltB (List.getD l 0 0) && l.all inB
theorem name_t {l : List Int} (h : 1 ≤ l.length ∧ l.length ≤ 64) (h1 : ltB (List.getD l 0 0) = true) (h2 : ∀ j, j < l.length → inB (List.getD l j 0) = true) : nameB l = true := by unfold nameB; rw [decide_eq_true h, h1, all_of h2]; rfl
theorem name_l {l : List Int} (h : ¬ (1 ≤ l.length ∧ l.length ≤ 64)) : nameB l = false := by unfold nameB; rw [decide_eq_false h]; rfl
theorem name_0 {l : List Int} (h : ltB (List.getD l 0 0) = false) : nameB l = false := by unfold nameB; rw [h, Bool.and_false]; rfl
theorem name_k {l : List Int} {k : Nat} (hk : k < l.length) (h : inB (List.getD l k 0) = false) : nameB l = false := by
  unfold nameB
  cases hb : l.all inB with
  | false => rw [Bool.and_false]
  | true => have := all_at hb k hk; rw [h] at this; cases this
def samW (a b : List (List Int)) : Bool := decide (a = b)
theorem ss_l {a b : List (List Int)} (h : ¬ a.length = b.length) : samW a b = false := decide_eq_false (fun e => h (by rw [e]))
theorem ss_n {a b : List (List Int)} {k : Nat} (h : ¬ List.getD a k [] = List.getD b k []) : samW a b = false := decide_eq_false (fun e => h (by rw [e]))
theorem ss_y {a b : List (List Int)} (h : a.length = b.length) (h2 : ∀ j, j < a.length → List.getD a j [] = List.getD b j []) : samW a b = true := by
  refine decide_eq_true (List.ext_getElem? fun j => ?_)
  by_cases hj : j < a.length
  · have := h2 j hj
    rw [List.getD_eq_getElem?_getD, List.getD_eq_getElem?_getD, List.getElem?_eq_getElem hj, List.getElem?_eq_getElem (by omega)] at this
    rw [List.getElem?_eq_getElem hj, List.getElem?_eq_getElem (by omega)]
    exact congrArg some this
  · rw [List.getElem?_eq_none (by omega), List.getElem?_eq_none (by omega)]
theorem ss_rfl (a : List (List Int)) : samW a a = true := decide_eq_true rfl

set_option maxHeartbeats 4000000 in
set_option maxRecDepth 100000 in
theorem V_let (x : Int) (hx : 0 ≤ x ∧ x ≤ 255) : Fun 38 [.c (.d (D.lit (.int .u8 x)))] (toG []) 0 (.e (.c (.d (D.lit (.bool (ltB x)))))) (toG []) 0 := by
  refine Fun.mk (n := 17) Tryd.func38 rfl rfl (Nat.le_of_ble_eq_true rfl) ?_
  intro cx hcx
  refine AW.rgs [.no] [0] [] (P := True) (l' := [(0, .e (.c (.d (D.lit (.int .u8 x)))))]) (g' := []) (nx' := 0) (by kernel_rfl) trivial ?_
  by_cases hx1 : ((97 : Int) ≤ x)
  · by_cases hx2 : (x ≤ 122)
    · refine AW.rgs [.no, .b true, .no, .no, .b true, .no, .no, .no, .no] [2] [] (P := (((97 : Int) ≤ x)) ∧ ((x ≤ 122))) (l' := [(2, bV true)]) (g' := []) (nx' := 0) (by kernel_rfl) ⟨(by omega), (by omega)⟩ ?_
      refine AW.ret ?_
      exact EndP.of (.inr rfl) [] (P := ((ltB x) = true)) (by kernel_rfl) (by first | exact decide_eq_true (by omega) | exact decide_eq_false (by omega))
    · refine AW.rgs [.no, .b true, .no, .no, .b false, .no, .no, .no, .b true, .no, .no, .b false, .no, .no, .no] [2] [] (P := (((97 : Int) ≤ x)) ∧ (¬ (x ≤ 122)) ∧ (((65 : Int) ≤ x)) ∧ (¬ (x ≤ 90))) (l' := [(2, bV false)]) (g' := []) (nx' := 0) (by kernel_rfl) ⟨(by omega), (by omega), (by omega), (by omega)⟩ ?_
      refine AW.ret ?_
      exact EndP.of (.inr rfl) [] (P := ((ltB x) = false)) (by kernel_rfl) (by first | exact decide_eq_true (by omega) | exact decide_eq_false (by omega))
  · by_cases hx3 : ((65 : Int) ≤ x)
    · by_cases hx4 : (x ≤ 90)
      · refine AW.rgs [.no, .b false, .no, .no, .no, .no, .b true, .no, .no, .b true, .no, .no, .no] [2] [] (P := (¬ ((97 : Int) ≤ x)) ∧ (((65 : Int) ≤ x)) ∧ ((x ≤ 90))) (l' := [(2, bV true)]) (g' := []) (nx' := 0) (by kernel_rfl) ⟨(by omega), (by omega), (by omega)⟩ ?_
        refine AW.ret ?_
        exact EndP.of (.inr rfl) [] (P := ((ltB x) = true)) (by kernel_rfl) (by first | exact decide_eq_true (by omega) | exact decide_eq_false (by omega))
      · refine AW.rgs [.no, .b false, .no, .no, .no, .no, .b true, .no, .no, .b false, .no, .no, .no] [2] [] (P := (¬ ((97 : Int) ≤ x)) ∧ (((65 : Int) ≤ x)) ∧ (¬ (x ≤ 90))) (l' := [(2, bV false)]) (g' := []) (nx' := 0) (by kernel_rfl) ⟨(by omega), (by omega), (by omega)⟩ ?_
        refine AW.ret ?_
        exact EndP.of (.inr rfl) [] (P := ((ltB x) = false)) (by kernel_rfl) (by first | exact decide_eq_true (by omega) | exact decide_eq_false (by omega))
    · refine AW.rgs [.no, .b false, .no, .no, .no, .no, .b false, .no, .no, .no, .no] [2] [] (P := (¬ ((97 : Int) ≤ x)) ∧ (¬ ((65 : Int) ≤ x))) (l' := [(2, bV false)]) (g' := []) (nx' := 0) (by kernel_rfl) ⟨(by omega), (by omega)⟩ ?_
      refine AW.ret ?_
      exact EndP.of (.inr rfl) [] (P := ((ltB x) = false)) (by kernel_rfl) (by first | exact decide_eq_true (by omega) | exact decide_eq_false (by omega))

set_option maxHeartbeats 4000000 in
set_option maxRecDepth 100000 in
theorem V_rlet (x : Int) (hx : 0 ≤ x ∧ x ≤ 255) : Fun 40 [.c (.d (D.lit (.int .u8 x)))] (toG []) 0 (.e (.c (.d (D.lit (.bool (ltB x)))))) (toG []) 0 := by
  refine Fun.mk (n := 17) Tryd.func40 rfl rfl (Nat.le_of_ble_eq_true rfl) ?_
  intro cx hcx
  refine AW.rgs [.no] [0] [] (P := True) (l' := [(0, .e (.c (.d (D.lit (.int .u8 x)))))]) (g' := []) (nx' := 0) (by kernel_rfl) trivial ?_
  by_cases hx1 : ((97 : Int) ≤ x)
  · by_cases hx2 : (x ≤ 122)
    · refine AW.rgs [.no, .b true, .no, .no, .b true, .no, .no, .no, .no] [2] [] (P := (((97 : Int) ≤ x)) ∧ ((x ≤ 122))) (l' := [(2, bV true)]) (g' := []) (nx' := 0) (by kernel_rfl) ⟨(by omega), (by omega)⟩ ?_
      refine AW.ret ?_
      exact EndP.of (.inr rfl) [] (P := ((ltB x) = true)) (by kernel_rfl) (by first | exact decide_eq_true (by omega) | exact decide_eq_false (by omega))
    · refine AW.rgs [.no, .b true, .no, .no, .b false, .no, .no, .no, .b true, .no, .no, .b false, .no, .no, .no] [2] [] (P := (((97 : Int) ≤ x)) ∧ (¬ (x ≤ 122)) ∧ (((65 : Int) ≤ x)) ∧ (¬ (x ≤ 90))) (l' := [(2, bV false)]) (g' := []) (nx' := 0) (by kernel_rfl) ⟨(by omega), (by omega), (by omega), (by omega)⟩ ?_
      refine AW.ret ?_
      exact EndP.of (.inr rfl) [] (P := ((ltB x) = false)) (by kernel_rfl) (by first | exact decide_eq_true (by omega) | exact decide_eq_false (by omega))
  · by_cases hx3 : ((65 : Int) ≤ x)
    · by_cases hx4 : (x ≤ 90)
      · refine AW.rgs [.no, .b false, .no, .no, .no, .no, .b true, .no, .no, .b true, .no, .no, .no] [2] [] (P := (¬ ((97 : Int) ≤ x)) ∧ (((65 : Int) ≤ x)) ∧ ((x ≤ 90))) (l' := [(2, bV true)]) (g' := []) (nx' := 0) (by kernel_rfl) ⟨(by omega), (by omega), (by omega)⟩ ?_
        refine AW.ret ?_
        exact EndP.of (.inr rfl) [] (P := ((ltB x) = true)) (by kernel_rfl) (by first | exact decide_eq_true (by omega) | exact decide_eq_false (by omega))
      · refine AW.rgs [.no, .b false, .no, .no, .no, .no, .b true, .no, .no, .b false, .no, .no, .no] [2] [] (P := (¬ ((97 : Int) ≤ x)) ∧ (((65 : Int) ≤ x)) ∧ (¬ (x ≤ 90))) (l' := [(2, bV false)]) (g' := []) (nx' := 0) (by kernel_rfl) ⟨(by omega), (by omega), (by omega)⟩ ?_
        refine AW.ret ?_
        exact EndP.of (.inr rfl) [] (P := ((ltB x) = false)) (by kernel_rfl) (by first | exact decide_eq_true (by omega) | exact decide_eq_false (by omega))
    · refine AW.rgs [.no, .b false, .no, .no, .no, .no, .b false, .no, .no, .no, .no] [2] [] (P := (¬ ((97 : Int) ≤ x)) ∧ (¬ ((65 : Int) ≤ x))) (l' := [(2, bV false)]) (g' := []) (nx' := 0) (by kernel_rfl) ⟨(by omega), (by omega)⟩ ?_
      refine AW.ret ?_
      exact EndP.of (.inr rfl) [] (P := ((ltB x) = false)) (by kernel_rfl) (by first | exact decide_eq_true (by omega) | exact decide_eq_false (by omega))

set_option maxHeartbeats 4000000 in
set_option maxRecDepth 100000 in
theorem V_inn (x : Int) (hx : 0 ≤ x ∧ x ≤ 255) : Fun 39 [.c (.d (D.lit (.int .u8 x)))] (toG []) 0 (.e (.c (.d (D.lit (.bool (inB x)))))) (toG []) 0 := by
  refine Fun.mk (n := 25) Tryd.func39 rfl rfl (Nat.le_of_ble_eq_true rfl) ?_
  intro cx hcx
  refine AW.rgs [.no] [0] [] (P := True) (l' := [(0, .e (.c (.d (D.lit (.int .u8 x)))))]) (g' := []) (nx' := 0) (by kernel_rfl) trivial ?_
  rcases Bool.eq_false_or_eq_true (ltB x) with hx1 | hx1
  · refine AW.rgs [.no, .call [] (bV true) [] 0 [] none, .no, .no, .no, .no, .no, .no, .no, .no, .no] [2] [] (P := (Fun 38 [.c (.d (D.lit (.int .u8 x)))] (toG []) 0 (bV true) (toG []) 0)) (l' := [(2, bV true)]) (g' := []) (nx' := 0) (by kernel_rfl) (by have h0 := (V_let x (by omega)); rw [hx1] at h0; exact h0) ?_
    refine AW.ret ?_
    exact EndP.of (.inr rfl) [] (P := ((inB x) = true)) (by kernel_rfl) (by first | exact lt_in (by assumption) | exact in_o (by omega) | exact in_n (by assumption) (by omega))
  · by_cases hx2 : ((48 : Int) ≤ x)
    · by_cases hx3 : (x ≤ 57)
      · refine AW.rgs [.no, .call [] (bV false) [] 0 [] none, .no, .no, .b true, .no, .no, .b true, .no, .no, .no, .no, .no, .no, .no, .no, .no] [2] [] (P := (Fun 38 [.c (.d (D.lit (.int .u8 x)))] (toG []) 0 (bV false) (toG []) 0) ∧ (((48 : Int) ≤ x)) ∧ ((x ≤ 57))) (l' := [(2, bV true)]) (g' := []) (nx' := 0) (by kernel_rfl) ⟨(by have h0 := (V_let x (by omega)); rw [hx1] at h0; exact h0), (by omega), (by omega)⟩ ?_
        refine AW.ret ?_
        exact EndP.of (.inr rfl) [] (P := ((inB x) = true)) (by kernel_rfl) (by first | exact lt_in (by assumption) | exact in_o (by omega) | exact in_n (by assumption) (by omega))
      · by_cases hx4 : (x = 95)
        · refine AW.rgs [.no, .call [] (bV false) [] 0 [] none, .no, .no, .b true, .no, .no, .b false, .no, .no, .no, .no, .b false, .no, .no, .no, .b false, .no, .no, .no, .b true, .no, .no] [2] [] (P := (Fun 38 [.c (.d (D.lit (.int .u8 x)))] (toG []) 0 (bV false) (toG []) 0) ∧ (((48 : Int) ≤ x)) ∧ (¬ (x ≤ 57)) ∧ (¬ (x = 45)) ∧ (¬ (x = 46)) ∧ ((x = 95))) (l' := [(2, bV true)]) (g' := []) (nx' := 0) (by kernel_rfl) ⟨(by have h0 := (V_let x (by omega)); rw [hx1] at h0; exact h0), (by omega), (by omega), (by omega), (by omega), (by omega)⟩ ?_
          refine AW.ret ?_
          exact EndP.of (.inr rfl) [] (P := ((inB x) = true)) (by kernel_rfl) (by first | exact lt_in (by assumption) | exact in_o (by omega) | exact in_n (by assumption) (by omega))
        · refine AW.rgs [.no, .call [] (bV false) [] 0 [] none, .no, .no, .b true, .no, .no, .b false, .no, .no, .no, .no, .b false, .no, .no, .no, .b false, .no, .no, .no, .b false, .no, .no] [2] [] (P := (Fun 38 [.c (.d (D.lit (.int .u8 x)))] (toG []) 0 (bV false) (toG []) 0) ∧ (((48 : Int) ≤ x)) ∧ (¬ (x ≤ 57)) ∧ (¬ (x = 45)) ∧ (¬ (x = 46)) ∧ (¬ (x = 95))) (l' := [(2, bV false)]) (g' := []) (nx' := 0) (by kernel_rfl) ⟨(by have h0 := (V_let x (by omega)); rw [hx1] at h0; exact h0), (by omega), (by omega), (by omega), (by omega), (by omega)⟩ ?_
          refine AW.ret ?_
          exact EndP.of (.inr rfl) [] (P := ((inB x) = false)) (by kernel_rfl) (by first | exact lt_in (by assumption) | exact in_o (by omega) | exact in_n (by assumption) (by omega))
    · by_cases hx5 : (x = 45)
      · refine AW.rgs [.no, .call [] (bV false) [] 0 [] none, .no, .no, .b false, .no, .no, .no, .no, .no, .b true, .no, .no, .no, .no, .no, .no] [2] [] (P := (Fun 38 [.c (.d (D.lit (.int .u8 x)))] (toG []) 0 (bV false) (toG []) 0) ∧ (¬ ((48 : Int) ≤ x)) ∧ ((x = 45))) (l' := [(2, bV true)]) (g' := []) (nx' := 0) (by kernel_rfl) ⟨(by have h0 := (V_let x (by omega)); rw [hx1] at h0; exact h0), (by omega), (by omega)⟩ ?_
        refine AW.ret ?_
        exact EndP.of (.inr rfl) [] (P := ((inB x) = true)) (by kernel_rfl) (by first | exact lt_in (by assumption) | exact in_o (by omega) | exact in_n (by assumption) (by omega))
      · by_cases hx6 : (x = 46)
        · refine AW.rgs [.no, .call [] (bV false) [] 0 [] none, .no, .no, .b false, .no, .no, .no, .no, .no, .b false, .no, .no, .no, .b true, .no, .no, .no, .no] [2] [] (P := (Fun 38 [.c (.d (D.lit (.int .u8 x)))] (toG []) 0 (bV false) (toG []) 0) ∧ (¬ ((48 : Int) ≤ x)) ∧ (¬ (x = 45)) ∧ ((x = 46))) (l' := [(2, bV true)]) (g' := []) (nx' := 0) (by kernel_rfl) ⟨(by have h0 := (V_let x (by omega)); rw [hx1] at h0; exact h0), (by omega), (by omega), (by omega)⟩ ?_
          refine AW.ret ?_
          exact EndP.of (.inr rfl) [] (P := ((inB x) = true)) (by kernel_rfl) (by first | exact lt_in (by assumption) | exact in_o (by omega) | exact in_n (by assumption) (by omega))
        · refine AW.rgs [.no, .call [] (bV false) [] 0 [] none, .no, .no, .b false, .no, .no, .no, .no, .no, .b false, .no, .no, .no, .b false, .no, .no, .no, .b false, .no, .no] [2] [] (P := (Fun 38 [.c (.d (D.lit (.int .u8 x)))] (toG []) 0 (bV false) (toG []) 0) ∧ (¬ ((48 : Int) ≤ x)) ∧ (¬ (x = 45)) ∧ (¬ (x = 46)) ∧ (¬ (x = 95))) (l' := [(2, bV false)]) (g' := []) (nx' := 0) (by kernel_rfl) ⟨(by have h0 := (V_let x (by omega)); rw [hx1] at h0; exact h0), (by omega), (by omega), (by omega), (by omega)⟩ ?_
          refine AW.ret ?_
          exact EndP.of (.inr rfl) [] (P := ((inB x) = false)) (by kernel_rfl) (by first | exact lt_in (by assumption) | exact in_o (by omega) | exact in_n (by assumption) (by omega))

set_option maxHeartbeats 4000000 in
set_option maxRecDepth 100000 in
theorem V_name (l : List Int) (hy : Byt l) (hb : List.length l ≤ 9223372036854775807) : Fun 14 [.c (.d (D.lit (.string (strOfNums l))))] (toG []) 0 (.e (.c (.d (D.lit (.bool (nameB l)))))) (toG []) 0 := by
  refine Fun.mk (n := 28) Tryd.func14 rfl rfl (Nat.le_of_ble_eq_true rfl) ?_
  intro cx hcx
  refine AW.rgs [.no] [0] [] (P := True) (l' := [(0, .e (.c (.d (D.lit (.string (strOfNums l))))))]) (g' := []) (nx' := 0) (by kernel_rfl) trivial ?_
  refine AW.seq ?_
  by_cases hx1 : ((List.length l) = 0)
  · refine AW.rgs [.no, .b true, .no, .no, .no, .no] [0, 16] [] (P := ((ByteArray.toList (strOfNums l) == ByteArray.toList (ByteArray.mk #[])) = true)) (l' := [(0, .e (.c (.d (D.lit (.string (strOfNums l)))))), (16, bV true)]) (g' := []) (nx' := 0) (by kernel_rfl) (str_0 (by omega)) ?_
    refine AW.cond_t (.tmp (Look.of rfl)) ?_
    refine AW.rgs [.no] [2] [] (P := True) (l' := [(2, bV false)]) (g' := []) (nx' := 0) (by kernel_rfl) trivial ?_
    refine AW.ret ?_
    exact EndP.of (.inr rfl) [] (P := ((nameB l) = false)) (by kernel_rfl) (by first | exact name_l (by omega) | exact name_0 (by assumption) | exact name_k (k := k) (by omega) (by assumption) | exact name_t (by omega) (by assumption) (fun j hj => ha j (by omega)))
  · by_cases hx2 : ((64 : Int) < (((List.length l) : Nat) : Int))
    · refine AW.rgs [.no, .b false, .no, .no, .i (((List.length l) : Nat) : Int), .b true, .no, .no, .no] [0, 16] [] (P := ((ByteArray.toList (strOfNums l) == ByteArray.toList (ByteArray.mk #[])) = false) ∧ (((ByteArray.size (strOfNums l) : Nat) : Int) = ((((List.length l) : Nat) : Int) : Int)) ∧ (((64 : Int) < (((List.length l) : Nat) : Int)))) (l' := [(0, .e (.c (.d (D.lit (.string (strOfNums l)))))), (16, bV true)]) (g' := []) (nx' := 0) (by kernel_rfl) ⟨(str_n0 (by omega)), (by rw [strOfNums_size]), (by omega)⟩ ?_
      refine AW.cond_t (.tmp (Look.of rfl)) ?_
      refine AW.rgs [.no] [2] [] (P := True) (l' := [(2, bV false)]) (g' := []) (nx' := 0) (by kernel_rfl) trivial ?_
      refine AW.ret ?_
      exact EndP.of (.inr rfl) [] (P := ((nameB l) = false)) (by kernel_rfl) (by first | exact name_l (by omega) | exact name_0 (by assumption) | exact name_k (k := k) (by omega) (by assumption) | exact name_t (by omega) (by assumption) (fun j hj => ha j (by omega)))
    · rcases Bool.eq_false_or_eq_true (ltB (List.getD l 0 0)) with hx4 | hx4
      · have hx5 : 0 ≤ (List.getD l 0 0) ∧ (List.getD l 0 0) ≤ 255 := Byt.at (show Byt l by with_reducible assumption) _ (by first | omega | (simp only [List.length_drop, List.length_take]; omega))
        refine AW.rgs [.no, .b false, .no, .no, .i (((List.length l) : Nat) : Int), .b false, .no, .no, .no, .i (List.getD l 0 0), .call [] (bV true) [] 0 [] none, .no, .no] [0, 16] [] (P := ((ByteArray.toList (strOfNums l) == ByteArray.toList (ByteArray.mk #[])) = false) ∧ (((ByteArray.size (strOfNums l) : Nat) : Int) = ((((List.length l) : Nat) : Int) : Int)) ∧ (¬ ((64 : Int) < (((List.length l) : Nat) : Int))) ∧ (strAt (strOfNums l) (0 : Int) = some ((List.getD l 0 0) : Int)) ∧ (Fun 38 [.c (.d (D.lit (.int .u8 (List.getD l 0 0))))] (toG []) 0 (bV true) (toG []) 0)) (l' := [(0, .e (.c (.d (D.lit (.string (strOfNums l)))))), (16, bV false)]) (g' := []) (nx' := 0) (by kernel_rfl) ⟨(str_n0 (by omega)), (by rw [strOfNums_size]), (by omega), (by have h9 := byte_at (Byt.at (show Byt l by with_reducible assumption)) (k := 0) (by first | omega | (simp only [List.length_drop, List.length_take]; omega)); exact h9), (by have h0 := (V_let (List.getD l 0 0) (by first | omega | with_reducible assumption | (simp only [bsD_len, stD_len, List.length_append, List.length_cons, List.length_nil, List.length_take, List.length_drop, List.length_replicate, List.length_set] <;> omega) | rfl | assumption)); rw [hx4] at h0; exact h0)⟩ ?_
        refine AW.cond_f (.tmp (Look.of rfl)) ?_
        refine AW.skip ?_
        refine AW.seq ?_
        refine AW.rgs [.no, .i (((List.length l) : Nat) : Int), .no] [0, 18, 19] [] (P := (((ByteArray.size (strOfNums l) : Nat) : Int) = ((((List.length l) : Nat) : Int) : Int))) (l' := [(0, .e (.c (.d (D.lit (.string (strOfNums l)))))), (18, iV (((List.length l) : Nat) : Int)), (19, iV 0)]) (g' := []) (nx' := 0) (by kernel_rfl) (by rw [strOfNums_size]) ?_
        refine AW.block ?_
        refine AW.loopE 0 hcx (fun (x : {x : Nat // match x with | k => (k ≤ List.length l) ∧ (∀ j, j < k → inB (List.getD l j 0) = true)}) => match x with | ⟨k, _⟩ => (⟨[(0, .e (.c (.d (D.lit (.string (strOfNums l)))))), (18, iV (((List.length l) : Nat) : Int)), (19, iV ((k : Nat) : Int))], [], 0⟩ : ES)) (fun (x : {x : Nat // match x with | k => (k ≤ List.length l) ∧ (∀ j, j < k → inB (List.getD l j 0) = true)}) => match x with | ⟨k, _⟩ => List.length l - k) ⟨(0 : Nat), (show ((0 : Nat) ≤ List.length l) ∧ (∀ j, j < (0 : Nat) → inB (List.getD l j 0) = true) from ⟨(by first | omega | assumption | simp), (fun j hj => absurd hj (Nat.not_lt_zero j))⟩)⟩ [] (P := ((.string (strOfNums l) : Value) = .string (strOfNums l)) ∧ (((((List.length l) : Nat) : Int) : Int) = (((List.length l) : Nat) : Int)) ∧ ((0 : Int) = 0)) (by kernel_rfl) ⟨rfl, rfl, rfl⟩ ?_
        rintro ⟨k, hinv0⟩
        obtain ⟨hk, ha⟩ : (k ≤ List.length l) ∧ (∀ j, j < k → inB (List.getD l j 0) = true) := hinv0
        refine AW.es (l := [(0, .e (.c (.d (D.lit (.string (strOfNums l)))))), (18, iV (((List.length l) : Nat) : Int)), (19, iV ((k : Nat) : Int))]) (g := []) (nx := 0) rfl rfl rfl ?_
        by_cases hx6 : (((k : Nat) : Int) < (((List.length l) : Nat) : Int))
        · refine AW.rgs [.b true] [0, 18, 19, 20] [] (P := ((((k : Nat) : Int) < (((List.length l) : Nat) : Int)))) (l' := [(0, .e (.c (.d (D.lit (.string (strOfNums l)))))), (18, iV (((List.length l) : Nat) : Int)), (19, iV ↑k), (20, bV true)]) (g' := []) (nx' := 0) (by kernel_rfl) (by omega) ?_
          refine AW.seq ?_
          refine AW.cond_t (.tmp (Look.of rfl)) ?_
          refine AW.skip ?_
          refine AW.seq ?_
          refine AW.block ?_
          refine AW.rgs [.no, .no] [0, 3, 18, 19] [] (P := True) (l' := [(0, .e (.c (.d (D.lit (.string (strOfNums l)))))), (3, iV ↑k), (18, iV (((List.length l) : Nat) : Int)), (19, iV ↑k)]) (g' := []) (nx' := 0) (by kernel_rfl) trivial ?_
          rcases Bool.eq_false_or_eq_true (inB (List.getD l k 0)) with hx8 | hx8
          · have hx9 : 0 ≤ (List.getD l k 0) ∧ (List.getD l k 0) ≤ 255 := Byt.at (show Byt l by with_reducible assumption) _ (by first | omega | (simp only [List.length_drop, List.length_take]; omega))
            refine AW.rgs [.no, .no, .i (List.getD l k 0), .call [] (bV true) [] 0 [] none, .no] [0, 18, 19, 26] [] (P := (strAt (strOfNums l) (((k : Nat) : Int) : Int) = some ((List.getD l k 0) : Int)) ∧ (Fun 39 [.c (.d (D.lit (.int .u8 (List.getD l k 0))))] (toG []) 0 (bV true) (toG []) 0)) (l' := [(0, .e (.c (.d (D.lit (.string (strOfNums l)))))), (18, iV (((List.length l) : Nat) : Int)), (19, iV ↑k), (26, bV false)]) (g' := []) (nx' := 0) (by kernel_rfl) ⟨(by have h9 := byte_at (Byt.at (show Byt l by with_reducible assumption)) (k := k) (by first | omega | (simp only [List.length_drop, List.length_take]; omega)); exact h9), (by have h0 := (V_inn (List.getD l k 0) (by first | omega | with_reducible assumption | (simp only [bsD_len, stD_len, List.length_append, List.length_cons, List.length_nil, List.length_take, List.length_drop, List.length_replicate, List.length_set] <;> omega) | rfl | assumption)); rw [hx8] at h0; exact h0)⟩ ?_
            refine AW.cond_f (.tmp (Look.of rfl)) ?_
            refine AW.skip ?_
            refine AW.rg [.w, .no] [0, 18, 19] [] (P := ((-9223372036854775808) ≤ (((k : Nat) : Int) + 1) ∧ (((k : Nat) : Int) + 1) ≤ 9223372036854775807)) (l' := [(0, .e (.c (.d (D.lit (.string (strOfNums l)))))), (18, iV (((List.length l) : Nat) : Int)), (19, iV (↑k + 1))]) (g' := []) (nx' := 0) (by kernel_rfl) ⟨by omega, by omega⟩ ?_
            exact Rd.of ⟨((k + 1) : Nat), (show ((k + 1) ≤ List.length l) ∧ (∀ j, j < (k + 1) → inB (List.getD l j 0) = true) from ⟨(by first | omega | assumption | simp), (fun j hj => (Nat.lt_succ_iff_lt_or_eq.1 hj).elim (ha j) (fun e9 => by subst e9; first | assumption | exact lt_in (by assumption) | exact in_o (by omega)))⟩)⟩ [] (P := ((.string (strOfNums l) : Value) = .string (strOfNums l)) ∧ (((((List.length l) : Nat) : Int) : Int) = (((List.length l) : Nat) : Int)) ∧ (((((k + 1) : Nat) : Int) : Int) = (((k : Nat) : Int) + 1))) (by kernel_rfl) ⟨rfl, rfl, (by first | rfl | omega | assumption | (simp; done) | (simp; omega))⟩ (show List.length l - (k + 1) < List.length l - k from (by first | omega | (show _ < _; simp; omega)))
          · have hx10 : 0 ≤ (List.getD l k 0) ∧ (List.getD l k 0) ≤ 255 := Byt.at (show Byt l by with_reducible assumption) _ (by first | omega | (simp only [List.length_drop, List.length_take]; omega))
            refine AW.rgs [.no, .no, .i (List.getD l k 0), .call [] (bV false) [] 0 [] none, .no] [0, 18, 19, 26] [] (P := (strAt (strOfNums l) (((k : Nat) : Int) : Int) = some ((List.getD l k 0) : Int)) ∧ (Fun 39 [.c (.d (D.lit (.int .u8 (List.getD l k 0))))] (toG []) 0 (bV false) (toG []) 0)) (l' := [(0, .e (.c (.d (D.lit (.string (strOfNums l)))))), (18, iV (((List.length l) : Nat) : Int)), (19, iV ↑k), (26, bV true)]) (g' := []) (nx' := 0) (by kernel_rfl) ⟨(by have h9 := byte_at (Byt.at (show Byt l by with_reducible assumption)) (k := k) (by first | omega | (simp only [List.length_drop, List.length_take]; omega)); exact h9), (by have h0 := (V_inn (List.getD l k 0) (by first | omega | with_reducible assumption | (simp only [bsD_len, stD_len, List.length_append, List.length_cons, List.length_nil, List.length_take, List.length_drop, List.length_replicate, List.length_set] <;> omega) | rfl | assumption)); rw [hx8] at h0; exact h0)⟩ ?_
            refine AW.cond_t (.tmp (Look.of rfl)) ?_
            refine AW.rgs [.no] [2] [] (P := True) (l' := [(2, bV false)]) (g' := []) (nx' := 0) (by kernel_rfl) trivial ?_
            refine AW.ret ?_
            exact EndP.of (.inr rfl) [] (P := ((nameB l) = false)) (by kernel_rfl) (by first | exact name_l (by omega) | exact name_0 (by assumption) | exact name_k (k := k) (by omega) (by assumption) | exact name_t (by omega) (by assumption) (fun j hj => ha j (by omega)))
        · refine AW.rgs [.b false] [0, 18, 19, 20] [] (P := (¬ (((k : Nat) : Int) < (((List.length l) : Nat) : Int)))) (l' := [(0, .e (.c (.d (D.lit (.string (strOfNums l)))))), (18, iV (((List.length l) : Nat) : Int)), (19, iV ↑k), (20, bV false)]) (g' := []) (nx' := 0) (by kernel_rfl) (by omega) ?_
          refine AW.seq ?_
          refine AW.cond_f (.tmp (Look.of rfl)) ?_
          refine AW.exit ?_
          refine AW.rgs [.no] [2] [] (P := True) (l' := [(2, bV true)]) (g' := []) (nx' := 0) (by kernel_rfl) trivial ?_
          refine AW.ret ?_
          exact EndP.of (.inr rfl) [] (P := ((nameB l) = true)) (by kernel_rfl) (by first | exact name_l (by omega) | exact name_0 (by assumption) | exact name_k (k := k) (by omega) (by assumption) | exact name_t (by omega) (by assumption) (fun j hj => ha j (by omega)))
      · have hx11 : 0 ≤ (List.getD l 0 0) ∧ (List.getD l 0 0) ≤ 255 := Byt.at (show Byt l by with_reducible assumption) _ (by first | omega | (simp only [List.length_drop, List.length_take]; omega))
        refine AW.rgs [.no, .b false, .no, .no, .i (((List.length l) : Nat) : Int), .b false, .no, .no, .no, .i (List.getD l 0 0), .call [] (bV false) [] 0 [] none, .no, .no] [0, 16] [] (P := ((ByteArray.toList (strOfNums l) == ByteArray.toList (ByteArray.mk #[])) = false) ∧ (((ByteArray.size (strOfNums l) : Nat) : Int) = ((((List.length l) : Nat) : Int) : Int)) ∧ (¬ ((64 : Int) < (((List.length l) : Nat) : Int))) ∧ (strAt (strOfNums l) (0 : Int) = some ((List.getD l 0 0) : Int)) ∧ (Fun 38 [.c (.d (D.lit (.int .u8 (List.getD l 0 0))))] (toG []) 0 (bV false) (toG []) 0)) (l' := [(0, .e (.c (.d (D.lit (.string (strOfNums l)))))), (16, bV true)]) (g' := []) (nx' := 0) (by kernel_rfl) ⟨(str_n0 (by omega)), (by rw [strOfNums_size]), (by omega), (by have h9 := byte_at (Byt.at (show Byt l by with_reducible assumption)) (k := 0) (by first | omega | (simp only [List.length_drop, List.length_take]; omega)); exact h9), (by have h0 := (V_let (List.getD l 0 0) (by first | omega | with_reducible assumption | (simp only [bsD_len, stD_len, List.length_append, List.length_cons, List.length_nil, List.length_take, List.length_drop, List.length_replicate, List.length_set] <;> omega) | rfl | assumption)); rw [hx4] at h0; exact h0)⟩ ?_
        refine AW.cond_t (.tmp (Look.of rfl)) ?_
        refine AW.rgs [.no] [2] [] (P := True) (l' := [(2, bV false)]) (g' := []) (nx' := 0) (by kernel_rfl) trivial ?_
        refine AW.ret ?_
        exact EndP.of (.inr rfl) [] (P := ((nameB l) = false)) (by kernel_rfl) (by first | exact name_l (by omega) | exact name_0 (by assumption) | exact name_k (k := k) (by omega) (by assumption) | exact name_t (by omega) (by assumption) (fun j hj => ha j (by omega)))

set_option maxHeartbeats 4000000 in
set_option maxRecDepth 100000 in
theorem S_has   : Fun 67 [.c (.d (D.lit (.string (strOfNums ([45, 49, 55] : List Int))))), .c (.d (D.lit (.string (strOfNums ([45] : List Int)))))] (toG []) 0 (bV true) (toG []) 0 := by
  refine Fun.mk (n := 18) Tryd.func67 rfl rfl (Nat.le_of_ble_eq_true rfl) ?_
  intro cx hcx
  refine AW.rgs [.no] [0, 1] [] (P := True) (l' := [(0, .e (.c (.d (D.lit (.string (strOfNums ([45, 49, 55] : List Int))))))), (1, .e (.c (.d (D.lit (.string (strOfNums ([45] : List Int)))))))]) (g' := []) (nx' := 0) (by kernel_rfl) trivial ?_
  refine AW.rgs [.no, .i 3, .no, .i 1, .b true, .no, .no, .no, .i 1, .ds [D.lit (.string (strOfNums ([45] : List Int)))], .no, .b true, .no, .no] [4] [] (P := (((ByteArray.size (strOfNums ([45, 49, 55] : List Int)) : Nat) : Int) = (3 : Int)) ∧ (((ByteArray.size (strOfNums ([45] : List Int)) : Nat) : Int) = (1 : Int)) ∧ (((1 : Int) ≤ 3)) ∧ (((ByteArray.size (strOfNums ([45] : List Int)) : Nat) : Int) = (1 : Int)) ∧ (∀ w : World, (Instr.slice 9 (.string (strOfNums ([45, 49, 55] : List Int))) none (some (.int .i64 (1 : Int))) none).run Tryd.prog w = .ok (.string (strOfNums ([45] : List Int))) w) ∧ ((ByteArray.toList (strOfNums ([45] : List Int)) == ByteArray.toList (strOfNums ([45] : List Int))) = true)) (l' := [(4, bV true)]) (g' := []) (nx' := 0) (by kernel_rfl) ⟨(by kernel_rfl), (by kernel_rfl), (by omega), (by kernel_rfl), (slS_h (by rfl) (1 : Nat) rfl (by first | omega | decide) rfl), (by simp)⟩ ?_
  refine AW.ret ?_
  exact EndP.of (.inr rfl) [] (P := (true = true)) (by kernel_rfl) rfl

set_option maxHeartbeats 4000000 in
set_option maxRecDepth 100000 in
theorem S_cut   : Fun 56 [.c (.d (D.lit (.string (strOfNums ([45, 49, 55] : List Int))))), .c (.d (D.lit (.string (strOfNums ([45] : List Int)))))] (toG []) 0 (.tup [.c (.d (D.lit (.string (strOfNums ([49, 55] : List Int))))), .c (.d (D.lit (.bool true)))]) (toG []) 0 := by
  refine Fun.mk (n := 15) Tryd.func56 rfl rfl (Nat.le_of_ble_eq_true rfl) ?_
  intro cx hcx
  refine AW.rgs [.no, .no] [0, 1] [] (P := True) (l' := [(0, .e (.c (.d (D.lit (.string (strOfNums ([45, 49, 55] : List Int))))))), (1, .e (.c (.d (D.lit (.string (strOfNums ([45] : List Int)))))))]) (g' := []) (nx' := 0) (by kernel_rfl) trivial ?_
  refine AW.seq ?_
  refine AW.rgs [.no, .no, .call [] (bV true) [] 0 [] none, .no] [0, 1, 9] [] (P := (_)) (l' := [(0, .e (.c (.d (D.lit (.string (strOfNums ([45, 49, 55] : List Int))))))), (1, .e (.c (.d (D.lit (.string (strOfNums ([45] : List Int))))))), (9, bV false)]) (g' := []) (nx' := 0) (by kernel_rfl) (S_has) ?_
  refine AW.cond_f (.tmp (Look.of rfl)) ?_
  refine AW.skip ?_
  refine AW.rgs [.no, .no, .i 1, .ds [D.lit (.string (strOfNums ([49, 55] : List Int)))], .no, .no] [4, 5] [] (P := (((ByteArray.size (strOfNums ([45] : List Int)) : Nat) : Int) = (1 : Int)) ∧ (∀ w : World, (Instr.slice 9 (.string (strOfNums ([45, 49, 55] : List Int))) (some (.int .i64 (1 : Int))) none none).run Tryd.prog w = .ok (.string (strOfNums ([49, 55] : List Int))) w)) (l' := [(4, .e (.c (.d (D.lit (.string (strOfNums ([49, 55] : List Int))))))), (5, bV true)]) (g' := []) (nx' := 0) (by kernel_rfl) ⟨(by kernel_rfl), (slS_l (by rfl) (1 : Nat) rfl (by first | omega | decide) rfl)⟩ ?_
  refine AW.ret ?_
  exact EndP.of (.inr rfl) [] (P := ((.string (strOfNums ([49, 55] : List Int)) : Value) = .string (strOfNums ([49, 55] : List Int))) ∧ (true = true)) (by kernel_rfl) ⟨rfl, rfl⟩

set_option maxHeartbeats 4000000 in
set_option maxRecDepth 100000 in
theorem S_cut2   : Fun 35 [.c (.d (D.lit (.string (strOfNums ([45, 49, 55] : List Int))))), .c (.d (D.lit (.string (strOfNums ([45] : List Int)))))] (toG []) 0 (.tup [.c (.d (D.lit (.string (strOfNums ([49, 55] : List Int))))), .c (.d (D.lit (.bool true)))]) (toG []) 0 := by
  refine Fun.mk (n := 11) Tryd.func35 rfl rfl (Nat.le_of_ble_eq_true rfl) ?_
  intro cx hcx
  refine AW.rgs [.no, .no] [0, 1] [] (P := True) (l' := [(0, .e (.c (.d (D.lit (.string (strOfNums ([45, 49, 55] : List Int))))))), (1, .e (.c (.d (D.lit (.string (strOfNums ([45] : List Int)))))))]) (g' := []) (nx' := 0) (by kernel_rfl) trivial ?_
  refine AW.rgs [.no, .no, .call [] (.tup [.c (.d (D.lit (.string (strOfNums ([49, 55] : List Int))))), .c (.d (D.lit (.bool true)))]) [] 0 [] none, .no, .no, .no, .no] [4, 5] [] (P := (_)) (l' := [(4, .e (.c (.d (D.lit (.string (strOfNums ([49, 55] : List Int))))))), (5, bV true)]) (g' := []) (nx' := 0) (by kernel_rfl) (S_cut) ?_
  refine AW.ret ?_
  exact EndP.of (.inr rfl) [] (P := ((.string (strOfNums ([49, 55] : List Int)) : Value) = .string (strOfNums ([49, 55] : List Int))) ∧ (true = true)) (by kernel_rfl) ⟨rfl, rfl⟩

set_option maxHeartbeats 4000000 in
set_option maxRecDepth 100000 in
theorem S_isn   : Fun 36 [.c (.d (D.lit (.string (strOfNums ([49, 55] : List Int))))), .c (.d (D.lit (.bool true)))] (toG []) 0 (bV true) (toG []) 0 := by
  refine Fun.mk (n := 33) Tryd.func36 rfl rfl (Nat.le_of_ble_eq_true rfl) ?_
  intro cx hcx
  refine AW.rgs [.no] [0, 1] [] (P := True) (l' := [(0, .e (.c (.d (D.lit (.string (strOfNums ([49, 55] : List Int))))))), (1, bV true)]) (g' := []) (nx' := 0) (by kernel_rfl) trivial ?_
  refine AW.seq ?_
  refine AW.rgs [.no, .i 2, .no] [0, 1, 7, 8] [] (P := (((ByteArray.size (strOfNums ([49, 55] : List Int)) : Nat) : Int) = (2 : Int))) (l' := [(0, .e (.c (.d (D.lit (.string (strOfNums ([49, 55] : List Int))))))), (1, bV true), (7, iV 2), (8, iV 0)]) (g' := []) (nx' := 0) (by kernel_rfl) (by kernel_rfl) ?_
  refine AW.block ?_
  refine AW.rounds 3 ?_
  refine AWr.s ?_
  refine AW.rgs [.b true] [0, 1, 7, 8, 9] [] (P := (((0 : Int) < 2))) (l' := [(0, .e (.c (.d (D.lit (.string (strOfNums ([49, 55] : List Int))))))), (1, bV true), (7, iV 2), (8, iV 0), (9, bV true)]) (g' := []) (nx' := 0) (by kernel_rfl) (by omega) ?_
  refine AW.seq ?_
  refine AW.cond_t (.tmp (Look.of rfl)) ?_
  refine AW.skip ?_
  refine AW.seq ?_
  refine AW.block ?_
  refine AW.rgs [.no, .no] [0, 1, 5, 7, 8] [] (P := True) (l' := [(0, .e (.c (.d (D.lit (.string (strOfNums ([49, 55] : List Int))))))), (1, bV true), (5, iV 0), (7, iV 2), (8, iV 0)]) (g' := []) (nx' := 0) (by kernel_rfl) trivial ?_
  refine AW.rgs [.no, .no, .i 49, .b false, .no, .no, .no, .i 49, .b false, .no] [0, 1, 7, 8, 20] [] (P := (strAt (strOfNums ([49, 55] : List Int)) (0 : Int) = some (49 : Int)) ∧ (¬ ((49 : Int) < 48)) ∧ (strAt (strOfNums ([49, 55] : List Int)) (0 : Int) = some (49 : Int)) ∧ (¬ ((57 : Int) < 49))) (l' := [(0, .e (.c (.d (D.lit (.string (strOfNums ([49, 55] : List Int))))))), (1, bV true), (7, iV 2), (8, iV 0), (20, bV false)]) (g' := []) (nx' := 0) (by kernel_rfl) ⟨(by kernel_rfl), (by omega), (by kernel_rfl), (by omega)⟩ ?_
  refine AW.cond_f (.tmp (Look.of rfl)) ?_
  refine AW.skip ?_
  refine AW.rg [.w, .no] [0, 1, 7, 8] [] (P := ((-9223372036854775808) ≤ (1 : Int) ∧ (1 : Int) ≤ 9223372036854775807)) (l' := [(0, .e (.c (.d (D.lit (.string (strOfNums ([49, 55] : List Int))))))), (1, bV true), (7, iV 2), (8, iV 1)]) (g' := []) (nx' := 0) (by kernel_rfl) ⟨by omega, by omega⟩ ?_
  refine AWr.s ?_
  refine AW.rgs [.b true] [0, 1, 7, 8, 9] [] (P := (((1 : Int) < 2))) (l' := [(0, .e (.c (.d (D.lit (.string (strOfNums ([49, 55] : List Int))))))), (1, bV true), (7, iV 2), (8, iV 1), (9, bV true)]) (g' := []) (nx' := 0) (by kernel_rfl) (by omega) ?_
  refine AW.seq ?_
  refine AW.cond_t (.tmp (Look.of rfl)) ?_
  refine AW.skip ?_
  refine AW.seq ?_
  refine AW.block ?_
  refine AW.rgs [.no, .no] [0, 1, 5, 7, 8] [] (P := True) (l' := [(0, .e (.c (.d (D.lit (.string (strOfNums ([49, 55] : List Int))))))), (1, bV true), (5, iV 1), (7, iV 2), (8, iV 1)]) (g' := []) (nx' := 0) (by kernel_rfl) trivial ?_
  refine AW.rgs [.no, .no, .i 55, .b false, .no, .no, .no, .i 55, .b false, .no] [0, 1, 7, 8, 20] [] (P := (strAt (strOfNums ([49, 55] : List Int)) (1 : Int) = some (55 : Int)) ∧ (¬ ((55 : Int) < 48)) ∧ (strAt (strOfNums ([49, 55] : List Int)) (1 : Int) = some (55 : Int)) ∧ (¬ ((57 : Int) < 55))) (l' := [(0, .e (.c (.d (D.lit (.string (strOfNums ([49, 55] : List Int))))))), (1, bV true), (7, iV 2), (8, iV 1), (20, bV false)]) (g' := []) (nx' := 0) (by kernel_rfl) ⟨(by kernel_rfl), (by omega), (by kernel_rfl), (by omega)⟩ ?_
  refine AW.cond_f (.tmp (Look.of rfl)) ?_
  refine AW.skip ?_
  refine AW.rg [.w, .no] [0, 1, 7, 8] [] (P := ((-9223372036854775808) ≤ (2 : Int) ∧ (2 : Int) ≤ 9223372036854775807)) (l' := [(0, .e (.c (.d (D.lit (.string (strOfNums ([49, 55] : List Int))))))), (1, bV true), (7, iV 2), (8, iV 2)]) (g' := []) (nx' := 0) (by kernel_rfl) ⟨by omega, by omega⟩ ?_
  refine AWr.s ?_
  refine AW.rgs [.b false] [0, 1, 7, 8, 9] [] (P := (¬ ((2 : Int) < 2))) (l' := [(0, .e (.c (.d (D.lit (.string (strOfNums ([49, 55] : List Int))))))), (1, bV true), (7, iV 2), (8, iV 2), (9, bV false)]) (g' := []) (nx' := 0) (by kernel_rfl) (by omega) ?_
  refine AW.seq ?_
  refine AW.cond_f (.tmp (Look.of rfl)) ?_
  refine AW.exit ?_
  refine AW.seq ?_
  refine AW.rgs [.no, .b false] [0, 1, 23] [] (P := ((ByteArray.toList (strOfNums ([49, 55] : List Int)) == ByteArray.toList (ByteArray.mk #[48])) = false)) (l' := [(0, .e (.c (.d (D.lit (.string (strOfNums ([49, 55] : List Int))))))), (1, bV true), (23, bV false)]) (g' := []) (nx' := 0) (by kernel_rfl) (by kernel_rfl) ?_
  refine AW.cond_f (.tmp (Look.of rfl)) ?_
  refine AW.skip ?_
  refine AW.rgs [.no, .b true, .no, .no, .i 49, .b true, .no, .no] [4] [] (P := ((!(ByteArray.toList (strOfNums ([49, 55] : List Int)) == ByteArray.toList (ByteArray.mk #[]))) = true) ∧ (strAt (strOfNums ([49, 55] : List Int)) (0 : Int) = some (49 : Int)) ∧ (((49 : Int) ≠ 48))) (l' := [(4, bV true)]) (g' := []) (nx' := 0) (by kernel_rfl) ⟨(by rw [show (ByteArray.toList (strOfNums ([49, 55] : List Int)) == ByteArray.toList (ByteArray.mk #[])) = false from (by kernel_rfl)]; rfl), (by kernel_rfl), (by omega)⟩ ?_
  refine AW.ret ?_
  exact EndP.of (.inr rfl) [] (P := (true = true)) (by kernel_rfl) rfl

set_option maxHeartbeats 4000000 in
set_option maxRecDepth 100000 in
theorem S_num   : Fun 10 [.c (.d (D.lit (.string (strOfNums ([45, 49, 55] : List Int)))))] (toG []) 0 (.tup [iE (-17), iE 0]) (toG []) 0 := by
  refine Fun.mk (n := 37) Tryd.func10 rfl rfl (Nat.le_of_ble_eq_true rfl) ?_
  intro cx hcx
  refine AW.rgs [.no, .no] [0] [] (P := True) (l' := [(0, .e (.c (.d (D.lit (.string (strOfNums ([45, 49, 55] : List Int)))))))]) (g' := []) (nx' := 0) (by kernel_rfl) trivial ?_
  refine AW.rgs [.no, .call [] (.tup [.c (.d (D.lit (.string (strOfNums ([49, 55] : List Int))))), .c (.d (D.lit (.bool true)))]) [] 0 [] none, .no, .no, .no, .no, .no] [4, 5] [] (P := (_)) (l' := [(4, .e (.c (.d (D.lit (.string (strOfNums ([49, 55] : List Int))))))), (5, bV true)]) (g' := []) (nx' := 0) (by kernel_rfl) (S_cut2) ?_
  refine AW.seq ?_
  refine AW.rgs [.no, .no, .call [] (bV true) [] 0 [] none, .no] [4, 5, 16] [] (P := (_)) (l' := [(4, .e (.c (.d (D.lit (.string (strOfNums ([49, 55] : List Int))))))), (5, bV true), (16, bV false)]) (g' := []) (nx' := 0) (by kernel_rfl) (S_isn) ?_
  refine AW.cond_f (.tmp (Look.of rfl)) ?_
  refine AW.skip ?_
  refine AW.rgs [.no] [4, 5, 6] [] (P := True) (l' := [(4, .e (.c (.d (D.lit (.string (strOfNums ([49, 55] : List Int))))))), (5, bV true), (6, iV 0)]) (g' := []) (nx' := 0) (by kernel_rfl) trivial ?_
  refine AW.seq ?_
  refine AW.rgs [.no, .i 2, .no] [4, 5, 6, 18, 19] [] (P := (((ByteArray.size (strOfNums ([49, 55] : List Int)) : Nat) : Int) = (2 : Int))) (l' := [(4, .e (.c (.d (D.lit (.string (strOfNums ([49, 55] : List Int))))))), (5, bV true), (6, iV 0), (18, iV 2), (19, iV 0)]) (g' := []) (nx' := 0) (by kernel_rfl) (by kernel_rfl) ?_
  refine AW.block ?_
  refine AW.rounds 3 ?_
  refine AWr.s ?_
  refine AW.rgs [.b true] [4, 5, 6, 18, 19, 20] [] (P := (((0 : Int) < 2))) (l' := [(4, .e (.c (.d (D.lit (.string (strOfNums ([49, 55] : List Int))))))), (5, bV true), (6, iV 0), (18, iV 2), (19, iV 0), (20, bV true)]) (g' := []) (nx' := 0) (by kernel_rfl) (by omega) ?_
  refine AW.seq ?_
  refine AW.cond_t (.tmp (Look.of rfl)) ?_
  refine AW.skip ?_
  refine AW.seq ?_
  refine AW.block ?_
  refine AW.rgs [.no, .no] [4, 5, 6, 7, 18, 19] [] (P := True) (l' := [(4, .e (.c (.d (D.lit (.string (strOfNums ([49, 55] : List Int))))))), (5, bV true), (6, iV 0), (7, iV 0), (18, iV 2), (19, iV 0)]) (g' := []) (nx' := 0) (by kernel_rfl) trivial ?_
  refine AW.rgs [.no, .w, .no, .no, .i 49, .w, .w, .w, .no] [4, 5, 6, 18, 19] [] (P := ((-9223372036854775808) ≤ (0 : Int) ∧ (0 : Int) ≤ 9223372036854775807) ∧ (strAt (strOfNums ([49, 55] : List Int)) (0 : Int) = some (49 : Int)) ∧ (0 ≤ (1 : Int) ∧ (1 : Int) ≤ 255) ∧ ((-9223372036854775808) ≤ (1 : Int) ∧ (1 : Int) ≤ 9223372036854775807) ∧ ((-9223372036854775808) ≤ (1 : Int) ∧ (1 : Int) ≤ 9223372036854775807)) (l' := [(4, .e (.c (.d (D.lit (.string (strOfNums ([49, 55] : List Int))))))), (5, bV true), (6, iV 1), (18, iV 2), (19, iV 0)]) (g' := []) (nx' := 0) (by kernel_rfl) ⟨⟨by omega, by omega⟩, (by kernel_rfl), ⟨by omega, by omega⟩, ⟨by omega, by omega⟩, ⟨by omega, by omega⟩⟩ ?_
  refine AW.rgs [.no, .b false] [4, 5, 6, 18, 19, 31] [] (P := (¬ ((9007199254740992 : Int) < 1))) (l' := [(4, .e (.c (.d (D.lit (.string (strOfNums ([49, 55] : List Int))))))), (5, bV true), (6, iV 1), (18, iV 2), (19, iV 0), (31, bV false)]) (g' := []) (nx' := 0) (by kernel_rfl) (by omega) ?_
  refine AW.cond_f (.tmp (Look.of rfl)) ?_
  refine AW.skip ?_
  refine AW.rg [.w, .no] [4, 5, 6, 18, 19] [] (P := ((-9223372036854775808) ≤ (1 : Int) ∧ (1 : Int) ≤ 9223372036854775807)) (l' := [(4, .e (.c (.d (D.lit (.string (strOfNums ([49, 55] : List Int))))))), (5, bV true), (6, iV 1), (18, iV 2), (19, iV 1)]) (g' := []) (nx' := 0) (by kernel_rfl) ⟨by omega, by omega⟩ ?_
  refine AWr.s ?_
  refine AW.rgs [.b true] [4, 5, 6, 18, 19, 20] [] (P := (((1 : Int) < 2))) (l' := [(4, .e (.c (.d (D.lit (.string (strOfNums ([49, 55] : List Int))))))), (5, bV true), (6, iV 1), (18, iV 2), (19, iV 1), (20, bV true)]) (g' := []) (nx' := 0) (by kernel_rfl) (by omega) ?_
  refine AW.seq ?_
  refine AW.cond_t (.tmp (Look.of rfl)) ?_
  refine AW.skip ?_
  refine AW.seq ?_
  refine AW.block ?_
  refine AW.rgs [.no, .no] [4, 5, 6, 7, 18, 19] [] (P := True) (l' := [(4, .e (.c (.d (D.lit (.string (strOfNums ([49, 55] : List Int))))))), (5, bV true), (6, iV 1), (7, iV 1), (18, iV 2), (19, iV 1)]) (g' := []) (nx' := 0) (by kernel_rfl) trivial ?_
  refine AW.rgs [.no, .w, .no, .no, .i 55, .w, .w, .w, .no] [4, 5, 6, 18, 19] [] (P := ((-9223372036854775808) ≤ (10 : Int) ∧ (10 : Int) ≤ 9223372036854775807) ∧ (strAt (strOfNums ([49, 55] : List Int)) (1 : Int) = some (55 : Int)) ∧ (0 ≤ (7 : Int) ∧ (7 : Int) ≤ 255) ∧ ((-9223372036854775808) ≤ (7 : Int) ∧ (7 : Int) ≤ 9223372036854775807) ∧ ((-9223372036854775808) ≤ (17 : Int) ∧ (17 : Int) ≤ 9223372036854775807)) (l' := [(4, .e (.c (.d (D.lit (.string (strOfNums ([49, 55] : List Int))))))), (5, bV true), (6, iV 17), (18, iV 2), (19, iV 1)]) (g' := []) (nx' := 0) (by kernel_rfl) ⟨⟨by omega, by omega⟩, (by kernel_rfl), ⟨by omega, by omega⟩, ⟨by omega, by omega⟩, ⟨by omega, by omega⟩⟩ ?_
  refine AW.rgs [.no, .b false] [4, 5, 6, 18, 19, 31] [] (P := (¬ ((9007199254740992 : Int) < 17))) (l' := [(4, .e (.c (.d (D.lit (.string (strOfNums ([49, 55] : List Int))))))), (5, bV true), (6, iV 17), (18, iV 2), (19, iV 1), (31, bV false)]) (g' := []) (nx' := 0) (by kernel_rfl) (by omega) ?_
  refine AW.cond_f (.tmp (Look.of rfl)) ?_
  refine AW.skip ?_
  refine AW.rg [.w, .no] [4, 5, 6, 18, 19] [] (P := ((-9223372036854775808) ≤ (2 : Int) ∧ (2 : Int) ≤ 9223372036854775807)) (l' := [(4, .e (.c (.d (D.lit (.string (strOfNums ([49, 55] : List Int))))))), (5, bV true), (6, iV 17), (18, iV 2), (19, iV 2)]) (g' := []) (nx' := 0) (by kernel_rfl) ⟨by omega, by omega⟩ ?_
  refine AWr.s ?_
  refine AW.rgs [.b false] [4, 5, 6, 18, 19, 20] [] (P := (¬ ((2 : Int) < 2))) (l' := [(4, .e (.c (.d (D.lit (.string (strOfNums ([49, 55] : List Int))))))), (5, bV true), (6, iV 17), (18, iV 2), (19, iV 2), (20, bV false)]) (g' := []) (nx' := 0) (by kernel_rfl) (by omega) ?_
  refine AW.seq ?_
  refine AW.cond_f (.tmp (Look.of rfl)) ?_
  refine AW.exit ?_
  refine AW.seq ?_
  refine AW.rgs [.no] [6, 33] [] (P := True) (l' := [(6, iV 17), (33, bV true)]) (g' := []) (nx' := 0) (by kernel_rfl) trivial ?_
  refine AW.cond_t (.tmp (Look.of rfl)) ?_
  refine AW.rgs [.no, .w, .no, .no] [2, 3] [] (P := ((-9223372036854775808) ≤ ((-17) : Int) ∧ ((-17) : Int) ≤ 9223372036854775807)) (l' := [(2, iV (-17)), (3, iV 0)]) (g' := []) (nx' := 0) (by kernel_rfl) ⟨by omega, by omega⟩ ?_
  refine AW.ret ?_
  exact EndP.of (.inr rfl) [] (P := (((-17) : Int) = (-17)) ∧ ((0 : Int) = 0)) (by kernel_rfl) ⟨rfl, rfl⟩

set_option maxHeartbeats 4000000 in
set_option maxRecDepth 100000 in
theorem V_Same (a b : List (List Int)) (m n : Nat) (hm : List.length a = m) (hn : List.length b = n) (h2 : m ≤ 9223372036854775807) (h3 : n ≤ 9223372036854775807) (hA : BytL a) (hB : BytL b) : Fun 19 [.c (.d (D.sl (stD a) m)), .c (.d (D.sl (stD b) n))] (toG []) 0 (.e (.c (.d (D.lit (.bool (samW a b)))))) (toG []) 0 := by
  refine Fun.mk (n := 26) Tryd.func19 rfl rfl (Nat.le_of_ble_eq_true rfl) ?_
  intro cx hcx
  refine AW.rgs [.no] [0, 1] [] (P := True) (l' := [(0, .e (.c (.d (D.sl (stD a) m)))), (1, .e (.c (.d (D.sl (stD b) n))))]) (g' := []) (nx' := 0) (by kernel_rfl) trivial ?_
  refine AW.seq ?_
  by_cases hx1 : (((m : Nat) : Int) ≠ ((n : Nat) : Int))
  · refine AW.rgs [.no, .no, .no, .no, .b true] [0, 1, 10] [] (P := ((((m : Nat) : Int) ≠ ((n : Nat) : Int)))) (l' := [(0, .e (.c (.d (D.sl (stD a) m)))), (1, .e (.c (.d (D.sl (stD b) n)))), (10, bV true)]) (g' := []) (nx' := 0) (by kernel_rfl) (by omega) ?_
    refine AW.cond_t (.tmp (Look.of rfl)) ?_
    refine AW.rgs [.no] [4] [] (P := True) (l' := [(4, bV false)]) (g' := []) (nx' := 0) (by kernel_rfl) trivial ?_
    refine AW.ret ?_
    exact EndP.of (.inr rfl) [] (P := ((samW a b) = false)) (by kernel_rfl) (by first | exact ss_l (by omega) | exact ss_n (k := k) (by assumption) | exact ss_y (by omega) (fun j hj => ha j (by omega)))
  · refine AW.rgs [.no, .no, .no, .no, .b false] [0, 1, 10] [] (P := (¬ (((m : Nat) : Int) ≠ ((n : Nat) : Int)))) (l' := [(0, .e (.c (.d (D.sl (stD a) m)))), (1, .e (.c (.d (D.sl (stD b) n)))), (10, bV false)]) (g' := []) (nx' := 0) (by kernel_rfl) (by omega) ?_
    refine AW.cond_f (.tmp (Look.of rfl)) ?_
    refine AW.skip ?_
    refine AW.seq ?_
    refine AW.rgs [.no, .no, .no] [0, 1, 12, 13] [] (P := True) (l' := [(0, .e (.c (.d (D.sl (stD a) m)))), (1, .e (.c (.d (D.sl (stD b) n)))), (12, iV ↑m), (13, iV 0)]) (g' := []) (nx' := 0) (by kernel_rfl) trivial ?_
    refine AW.block ?_
    refine AW.loopE 0 hcx (fun (x : {x : Nat // match x with | k => (k ≤ m) ∧ (∀ j, j < k → List.getD a j ([] : List Int) = List.getD b j ([] : List Int))}) => match x with | ⟨k, _⟩ => (⟨[(0, .e (.c (.d (D.sl (stD a) m)))), (1, .e (.c (.d (D.sl (stD b) n)))), (12, iV ((m : Nat) : Int)), (13, iV ((k : Nat) : Int))], [], 0⟩ : ES)) (fun (x : {x : Nat // match x with | k => (k ≤ m) ∧ (∀ j, j < k → List.getD a j ([] : List Int) = List.getD b j ([] : List Int))}) => match x with | ⟨k, _⟩ => m - k) ⟨(0 : Nat), (show ((0 : Nat) ≤ m) ∧ (∀ j, j < (0 : Nat) → List.getD a j ([] : List Int) = List.getD b j ([] : List Int)) from ⟨(by first | omega | assumption | simp), (fun j hj => absurd hj (Nat.not_lt_zero j))⟩)⟩ [] (P := (((stD a) : List D) = (stD a)) ∧ ((m : Nat) = m) ∧ (((stD b) : List D) = (stD b)) ∧ ((n : Nat) = n) ∧ ((((m : Nat) : Int) : Int) = ((m : Nat) : Int)) ∧ ((0 : Int) = 0)) (by kernel_rfl) ⟨rfl, rfl, rfl, rfl, rfl, rfl⟩ ?_
    rintro ⟨k, hinv0⟩
    obtain ⟨hk, ha⟩ : (k ≤ m) ∧ (∀ j, j < k → List.getD a j ([] : List Int) = List.getD b j ([] : List Int)) := hinv0
    refine AW.es (l := [(0, .e (.c (.d (D.sl (stD a) m)))), (1, .e (.c (.d (D.sl (stD b) n)))), (12, iV ((m : Nat) : Int)), (13, iV ((k : Nat) : Int))]) (g := []) (nx := 0) rfl rfl rfl ?_
    by_cases hx2 : (((k : Nat) : Int) < ((m : Nat) : Int))
    · refine AW.rgs [.b true] [0, 1, 12, 13, 14] [] (P := ((((k : Nat) : Int) < ((m : Nat) : Int)))) (l' := [(0, .e (.c (.d (D.sl (stD a) m)))), (1, .e (.c (.d (D.sl (stD b) n)))), (12, iV ↑m), (13, iV ↑k), (14, bV true)]) (g' := []) (nx' := 0) (by kernel_rfl) (by omega) ?_
      refine AW.seq ?_
      refine AW.cond_t (.tmp (Look.of rfl)) ?_
      refine AW.skip ?_
      refine AW.seq ?_
      refine AW.block ?_
      refine AW.rgs [.no, .no] [0, 1, 5, 12, 13] [] (P := True) (l' := [(0, .e (.c (.d (D.sl (stD a) m)))), (1, .e (.c (.d (D.sl (stD b) n)))), (5, iV ↑k), (12, iV ↑m), (13, iV ↑k)]) (g' := []) (nx' := 0) (by kernel_rfl) trivial ?_
      by_cases hx3 : ((List.getD a k ([] : List Int)) = (List.getD b k ([] : List Int)))
      · refine AW.rgs [.no, .no, .n k, .d (D.lit (.string (strOfNums (List.getD a k ([] : List Int))))), .no, .no, .n k, .d (D.lit (.string (strOfNums (List.getD b k ([] : List Int))))), .b false] [0, 1, 12, 13, 24] [] (P := ((((k : Nat) : Int) : Int) = ((k : Nat) : Int)) ∧ (k < m) ∧ ((List.drop k (stD a))[0]? = some (D.lit (.string (strOfNums (List.getD a k ([] : List Int)))))) ∧ ((((k : Nat) : Int) : Int) = ((k : Nat) : Int)) ∧ (k < n) ∧ ((List.drop k (stD b))[0]? = some (D.lit (.string (strOfNums (List.getD b k ([] : List Int)))))) ∧ ((!(ByteArray.toList (strOfNums (List.getD a k ([] : List Int))) == ByteArray.toList (strOfNums (List.getD b k ([] : List Int))))) = false)) (l' := [(0, .e (.c (.d (D.sl (stD a) m)))), (1, .e (.c (.d (D.sl (stD b) n)))), (12, iV ↑m), (13, iV ↑k), (24, bV false)]) (g' := []) (nx' := 0) (by kernel_rfl) ⟨rfl, (by omega), (stD_at _ _ (by first | omega | (simp only [bsD_len, stD_len, List.length_append, List.length_cons, List.length_nil, List.length_take, List.length_drop] <;> omega))), rfl, (by omega), (stD_at _ _ (by first | omega | (simp only [bsD_len, stD_len, List.length_append, List.length_cons, List.length_nil, List.length_take, List.length_drop] <;> omega))), (by rw [show (ByteArray.toList (strOfNums (List.getD a k ([] : List Int))) == ByteArray.toList (strOfNums (List.getD b k ([] : List Int)))) = true from (str_y (by first | assumption | rfl))]; rfl)⟩ ?_
        refine AW.cond_f (.tmp (Look.of rfl)) ?_
        refine AW.skip ?_
        refine AW.rg [.w, .no] [0, 1, 12, 13] [] (P := ((-9223372036854775808) ≤ (((k : Nat) : Int) + 1) ∧ (((k : Nat) : Int) + 1) ≤ 9223372036854775807)) (l' := [(0, .e (.c (.d (D.sl (stD a) m)))), (1, .e (.c (.d (D.sl (stD b) n)))), (12, iV ↑m), (13, iV (↑k + 1))]) (g' := []) (nx' := 0) (by kernel_rfl) ⟨by omega, by omega⟩ ?_
        exact Rd.of ⟨((k + 1) : Nat), (show ((k + 1) ≤ m) ∧ (∀ j, j < (k + 1) → List.getD a j ([] : List Int) = List.getD b j ([] : List Int)) from ⟨(by first | omega | assumption | simp), (fun j hj => (Nat.lt_succ_iff_lt_or_eq.1 hj).elim (ha j) (fun e9 => by subst e9; assumption))⟩)⟩ [] (P := (((stD a) : List D) = (stD a)) ∧ ((m : Nat) = m) ∧ (((stD b) : List D) = (stD b)) ∧ ((n : Nat) = n) ∧ ((((m : Nat) : Int) : Int) = ((m : Nat) : Int)) ∧ (((((k + 1) : Nat) : Int) : Int) = (((k : Nat) : Int) + 1))) (by kernel_rfl) ⟨rfl, rfl, rfl, rfl, rfl, (by first | rfl | omega | assumption | (simp; done) | (simp; omega))⟩ (show m - (k + 1) < m - k from (by first | omega | (show _ < _; simp; omega)))
      · refine AW.rgs [.no, .no, .n k, .d (D.lit (.string (strOfNums (List.getD a k ([] : List Int))))), .no, .no, .n k, .d (D.lit (.string (strOfNums (List.getD b k ([] : List Int))))), .b true] [0, 1, 12, 13, 24] [] (P := ((((k : Nat) : Int) : Int) = ((k : Nat) : Int)) ∧ (k < m) ∧ ((List.drop k (stD a))[0]? = some (D.lit (.string (strOfNums (List.getD a k ([] : List Int)))))) ∧ ((((k : Nat) : Int) : Int) = ((k : Nat) : Int)) ∧ (k < n) ∧ ((List.drop k (stD b))[0]? = some (D.lit (.string (strOfNums (List.getD b k ([] : List Int)))))) ∧ ((!(ByteArray.toList (strOfNums (List.getD a k ([] : List Int))) == ByteArray.toList (strOfNums (List.getD b k ([] : List Int))))) = true)) (l' := [(0, .e (.c (.d (D.sl (stD a) m)))), (1, .e (.c (.d (D.sl (stD b) n)))), (12, iV ↑m), (13, iV ↑k), (24, bV true)]) (g' := []) (nx' := 0) (by kernel_rfl) ⟨rfl, (by omega), (stD_at _ _ (by first | omega | (simp only [bsD_len, stD_len, List.length_append, List.length_cons, List.length_nil, List.length_take, List.length_drop] <;> omega))), rfl, (by omega), (stD_at _ _ (by first | omega | (simp only [bsD_len, stD_len, List.length_append, List.length_cons, List.length_nil, List.length_take, List.length_drop] <;> omega))), (by rw [show (ByteArray.toList (strOfNums (List.getD a k ([] : List Int))) == ByteArray.toList (strOfNums (List.getD b k ([] : List Int)))) = false from (str_n (BytL.at (show BytL a by with_reducible assumption) _) (BytL.at (show BytL b by with_reducible assumption) _) (by assumption))]; rfl)⟩ ?_
        refine AW.cond_t (.tmp (Look.of rfl)) ?_
        refine AW.rgs [.no] [4] [] (P := True) (l' := [(4, bV false)]) (g' := []) (nx' := 0) (by kernel_rfl) trivial ?_
        refine AW.ret ?_
        exact EndP.of (.inr rfl) [] (P := ((samW a b) = false)) (by kernel_rfl) (by first | exact ss_l (by omega) | exact ss_n (k := k) (by assumption) | exact ss_y (by omega) (fun j hj => ha j (by omega)))
    · refine AW.rgs [.b false] [0, 1, 12, 13, 14] [] (P := (¬ (((k : Nat) : Int) < ((m : Nat) : Int)))) (l' := [(0, .e (.c (.d (D.sl (stD a) m)))), (1, .e (.c (.d (D.sl (stD b) n)))), (12, iV ↑m), (13, iV ↑k), (14, bV false)]) (g' := []) (nx' := 0) (by kernel_rfl) (by omega) ?_
      refine AW.seq ?_
      refine AW.cond_f (.tmp (Look.of rfl)) ?_
      refine AW.exit ?_
      refine AW.rgs [.no] [4] [] (P := True) (l' := [(4, bV true)]) (g' := []) (nx' := 0) (by kernel_rfl) trivial ?_
      refine AW.ret ?_
      exact EndP.of (.inr rfl) [] (P := ((samW a b) = true)) (by kernel_rfl) (by first | exact ss_l (by omega) | exact ss_n (k := k) (by assumption) | exact ss_y (by omega) (fun j hj => ha j (by omega)))

set_option maxHeartbeats 4000000 in
set_option maxRecDepth 100000 in
theorem V_SameR (a : List (List Int)) (m : Nat) (hm : List.length a = m) (h2 : m ≤ 9223372036854775807) : Fun 19 [.c (.d (D.sl (stD a) m)), .c (.d (D.sl (stD a) m))] (toG []) 0 (bV true) (toG []) 0 := by
  refine Fun.mk (n := 26) Tryd.func19 rfl rfl (Nat.le_of_ble_eq_true rfl) ?_
  intro cx hcx
  refine AW.rgs [.no] [0, 1] [] (P := True) (l' := [(0, .e (.c (.d (D.sl (stD a) m)))), (1, .e (.c (.d (D.sl (stD a) m))))]) (g' := []) (nx' := 0) (by kernel_rfl) trivial ?_
  refine AW.seq ?_
  refine AW.rgs [.no, .no, .no, .no, .b false] [0, 1, 10] [] (P := (¬ (((m : Nat) : Int) ≠ ((m : Nat) : Int)))) (l' := [(0, .e (.c (.d (D.sl (stD a) m)))), (1, .e (.c (.d (D.sl (stD a) m)))), (10, bV false)]) (g' := []) (nx' := 0) (by kernel_rfl) (by omega) ?_
  refine AW.cond_f (.tmp (Look.of rfl)) ?_
  refine AW.skip ?_
  refine AW.seq ?_
  refine AW.rgs [.no, .no, .no] [0, 1, 12, 13] [] (P := True) (l' := [(0, .e (.c (.d (D.sl (stD a) m)))), (1, .e (.c (.d (D.sl (stD a) m)))), (12, iV ↑m), (13, iV 0)]) (g' := []) (nx' := 0) (by kernel_rfl) trivial ?_
  refine AW.block ?_
  refine AW.loopE 0 hcx (fun (x : {x : Nat // match x with | k => (k ≤ m)}) => match x with | ⟨k, _⟩ => (⟨[(0, .e (.c (.d (D.sl (stD a) m)))), (1, .e (.c (.d (D.sl (stD a) m)))), (12, iV ((m : Nat) : Int)), (13, iV ((k : Nat) : Int))], [], 0⟩ : ES)) (fun (x : {x : Nat // match x with | k => (k ≤ m)}) => match x with | ⟨k, _⟩ => m - k) ⟨(0 : Nat), (show ((0 : Nat) ≤ m) from (by first | omega | assumption | simp))⟩ [] (P := (((stD a) : List D) = (stD a)) ∧ ((m : Nat) = m) ∧ (((stD a) : List D) = (stD a)) ∧ ((m : Nat) = m) ∧ ((((m : Nat) : Int) : Int) = ((m : Nat) : Int)) ∧ ((0 : Int) = 0)) (by kernel_rfl) ⟨rfl, rfl, rfl, rfl, rfl, rfl⟩ ?_
  rintro ⟨k, hinv0⟩
  have hk : (k ≤ m) := hinv0
  refine AW.es (l := [(0, .e (.c (.d (D.sl (stD a) m)))), (1, .e (.c (.d (D.sl (stD a) m)))), (12, iV ((m : Nat) : Int)), (13, iV ((k : Nat) : Int))]) (g := []) (nx := 0) rfl rfl rfl ?_
  by_cases hx1 : (((k : Nat) : Int) < ((m : Nat) : Int))
  · refine AW.rgs [.b true] [0, 1, 12, 13, 14] [] (P := ((((k : Nat) : Int) < ((m : Nat) : Int)))) (l' := [(0, .e (.c (.d (D.sl (stD a) m)))), (1, .e (.c (.d (D.sl (stD a) m)))), (12, iV ↑m), (13, iV ↑k), (14, bV true)]) (g' := []) (nx' := 0) (by kernel_rfl) (by omega) ?_
    refine AW.seq ?_
    refine AW.cond_t (.tmp (Look.of rfl)) ?_
    refine AW.skip ?_
    refine AW.seq ?_
    refine AW.block ?_
    refine AW.rgs [.no, .no] [0, 1, 5, 12, 13] [] (P := True) (l' := [(0, .e (.c (.d (D.sl (stD a) m)))), (1, .e (.c (.d (D.sl (stD a) m)))), (5, iV ↑k), (12, iV ↑m), (13, iV ↑k)]) (g' := []) (nx' := 0) (by kernel_rfl) trivial ?_
    refine AW.rgs [.no, .no, .n k, .d (D.lit (.string (strOfNums (List.getD a k ([] : List Int))))), .no, .no, .n k, .d (D.lit (.string (strOfNums (List.getD a k ([] : List Int))))), .b false] [0, 1, 12, 13, 24] [] (P := ((((k : Nat) : Int) : Int) = ((k : Nat) : Int)) ∧ (k < m) ∧ ((List.drop k (stD a))[0]? = some (D.lit (.string (strOfNums (List.getD a k ([] : List Int)))))) ∧ ((((k : Nat) : Int) : Int) = ((k : Nat) : Int)) ∧ (k < m) ∧ ((List.drop k (stD a))[0]? = some (D.lit (.string (strOfNums (List.getD a k ([] : List Int)))))) ∧ ((!(ByteArray.toList (strOfNums (List.getD a k ([] : List Int))) == ByteArray.toList (strOfNums (List.getD a k ([] : List Int))))) = false)) (l' := [(0, .e (.c (.d (D.sl (stD a) m)))), (1, .e (.c (.d (D.sl (stD a) m)))), (12, iV ↑m), (13, iV ↑k), (24, bV false)]) (g' := []) (nx' := 0) (by kernel_rfl) ⟨rfl, (by omega), (stD_at _ _ (by first | omega | (simp only [bsD_len, stD_len, List.length_append, List.length_cons, List.length_nil, List.length_take, List.length_drop] <;> omega))), rfl, (by omega), (stD_at _ _ (by first | omega | (simp only [bsD_len, stD_len, List.length_append, List.length_cons, List.length_nil, List.length_take, List.length_drop] <;> omega))), (by rw [show (ByteArray.toList (strOfNums (List.getD a k ([] : List Int))) == ByteArray.toList (strOfNums (List.getD a k ([] : List Int)))) = true from (by simp)]; rfl)⟩ ?_
    refine AW.cond_f (.tmp (Look.of rfl)) ?_
    refine AW.skip ?_
    refine AW.rg [.w, .no] [0, 1, 12, 13] [] (P := ((-9223372036854775808) ≤ (((k : Nat) : Int) + 1) ∧ (((k : Nat) : Int) + 1) ≤ 9223372036854775807)) (l' := [(0, .e (.c (.d (D.sl (stD a) m)))), (1, .e (.c (.d (D.sl (stD a) m)))), (12, iV ↑m), (13, iV (↑k + 1))]) (g' := []) (nx' := 0) (by kernel_rfl) ⟨by omega, by omega⟩ ?_
    exact Rd.of ⟨((k + 1) : Nat), (show ((k + 1) ≤ m) from (by first | omega | assumption | simp))⟩ [] (P := (((stD a) : List D) = (stD a)) ∧ ((m : Nat) = m) ∧ (((stD a) : List D) = (stD a)) ∧ ((m : Nat) = m) ∧ ((((m : Nat) : Int) : Int) = ((m : Nat) : Int)) ∧ (((((k + 1) : Nat) : Int) : Int) = (((k : Nat) : Int) + 1))) (by kernel_rfl) ⟨rfl, rfl, rfl, rfl, rfl, (by first | rfl | omega | assumption | (simp; done) | (simp; omega))⟩ (show m - (k + 1) < m - k from (by first | omega | (show _ < _; simp; omega)))
  · refine AW.rgs [.b false] [0, 1, 12, 13, 14] [] (P := (¬ (((k : Nat) : Int) < ((m : Nat) : Int)))) (l' := [(0, .e (.c (.d (D.sl (stD a) m)))), (1, .e (.c (.d (D.sl (stD a) m)))), (12, iV ↑m), (13, iV ↑k), (14, bV false)]) (g' := []) (nx' := 0) (by kernel_rfl) (by omega) ?_
    refine AW.seq ?_
    refine AW.cond_f (.tmp (Look.of rfl)) ?_
    refine AW.exit ?_
    refine AW.rgs [.no] [4] [] (P := True) (l' := [(4, bV true)]) (g' := []) (nx' := 0) (by kernel_rfl) trivial ?_
    refine AW.ret ?_
    exact EndP.of (.inr rfl) [] (P := (true = true)) (by kernel_rfl) rfl

set_option maxHeartbeats 4000000 in
set_option maxRecDepth 100000 in
theorem K_sane   : Fun 9 [] (toG []) 0 (bV true) (toG []) 0 := by
  refine Fun.mk (n := 56) Tryd.func9 rfl rfl (Nat.le_of_ble_eq_true rfl) ?_
  intro cx hcx
  refine AW.rgs [.no] [] [] (P := True) (l' := []) (g' := []) (nx' := 0) (by kernel_rfl) trivial ?_
  have hx1 : spE ([112, 108, 97, 121, 32, 34, 97, 32, 98, 34, 32, 51] : List Int) = 0 := by kernel_rfl
  have hx2 : List.length (spL ([112, 108, 97, 121, 32, 34, 97, 32, 98, 34, 32, 51] : List Int)) = 3 := by kernel_rfl
  have hx3 : jnE ([([97] : List Int), ([] : List Int)] : List (List Int)) = 0 := by kernel_rfl
  have hx4 : ((((0 : Int) ≤ (spE ([112, 108, 97, 121, 32, 34, 97, 32, 98, 34, 32, 51] : List Int))) ∧ ((spE ([112, 108, 97, 121, 32, 34, 97, 32, 98, 34, 32, 51] : List Int)) ≤ 5)) ∧ ((List.length (spL ([112, 108, 97, 121, 32, 34, 97, 32, 98, 34, 32, 51] : List Int))) ≤ 64)) := ⟨spE_rng ([112, 108, 97, 121, 32, 34, 97, 32, 98, 34, 32, 51] : List Int), spL_len ([112, 108, 97, 121, 32, 34, 97, 32, 98, 34, 32, 51] : List Int)⟩
  refine AW.rgs [.call [] (.tup [.c (.d (D.sl (stD (spL ([112, 108, 97, 121, 32, 34, 97, 32, 98, 34, 32, 51] : List Int))) (List.length (spL ([112, 108, 97, 121, 32, 34, 97, 32, 98, 34, 32, 51] : List Int))))), iE (spE ([112, 108, 97, 121, 32, 34, 97, 32, 98, 34, 32, 51] : List Int))]) [] 0 [] none, .no, .no, .no, .no, .no] [1, 2] [] (P := (_)) (l' := [(1, .e (.c (.d (D.sl (stD (spL ([112, 108, 97, 121, 32, 34, 97, 32, 98, 34, 32, 51] : List Int))) (List.length (spL ([112, 108, 97, 121, 32, 34, 97, 32, 98, 34, 32, 51] : List Int))))))), (2, iV (spE ([112, 108, 97, 121, 32, 34, 97, 32, 98, 34, 32, 51] : List Int)))]) (g' := []) (nx' := 0) (by kernel_rfl) (V_Split ([112, 108, 97, 121, 32, 34, 97, 32, 98, 34, 32, 51] : List Int) (Byt.cons (by omega) (Byt.cons (by omega) (Byt.cons (by omega) (Byt.cons (by omega) (Byt.cons (by omega) (Byt.cons (by omega) (Byt.cons (by omega) (Byt.cons (by omega) (Byt.cons (by omega) (Byt.cons (by omega) (Byt.cons (by omega) (Byt.cons (by omega) Byt.nil)))))))))))) (by first | omega | with_reducible assumption | (simp only [bsD_len, stD_len, List.length_append, List.length_cons, List.length_nil, List.length_take, List.length_drop, List.length_replicate, List.length_set] <;> omega) | rfl | assumption)) ?_
  have hx5 : ((((0 : Int) ≤ (jnE ([([97] : List Int), ([] : List Int)] : List (List Int)))) ∧ ((jnE ([([97] : List Int), ([] : List Int)] : List (List Int))) ≤ 3)) ∧ ((List.length (jnT ([([97] : List Int), ([] : List Int)] : List (List Int)))) ≤ 4096)) := jn_rng ([([97] : List Int), ([] : List Int)] : List (List Int))
  refine AW.rgs [.no, .call [] (.tup [.c (.d (D.lit (.string (strOfNums (jnT ([([97] : List Int), ([] : List Int)] : List (List Int))))))), iE (jnE ([([97] : List Int), ([] : List Int)] : List (List Int)))]) [] 0 [none] (some [.c (.d (D.sl (stD ([([97] : List Int), ([] : List Int)] : List (List Int))) 2))]), .no, .no, .no, .no, .no] [1, 2, 3, 4] [] (P := ([D.lit ((.string (ByteArray.mk #[97]))), D.lit ((.string (ByteArray.mk #[])))].length = 2 * 1) ∧ (noSlPV (.tup [.c (.d (D.lit (.string (strOfNums (jnT ([([97] : List Int), ([] : List Int)] : List (List Int))))))), iE (jnE ([([97] : List Int), ([] : List Int)] : List (List Int)))]) = true) ∧ (((stD ([([97] : List Int), ([] : List Int)] : List (List Int))) : List D) = [D.lit ((.string (ByteArray.mk #[97]))), D.lit ((.string (ByteArray.mk #[])))]) ∧ ((2 : Nat) = 2) ∧ (_)) (l' := [(1, .e (.c (.d (D.sl (stD (spL ([112, 108, 97, 121, 32, 34, 97, 32, 98, 34, 32, 51] : List Int))) (List.length (spL ([112, 108, 97, 121, 32, 34, 97, 32, 98, 34, 32, 51] : List Int))))))), (2, iV (spE ([112, 108, 97, 121, 32, 34, 97, 32, 98, 34, 32, 51] : List Int))), (3, .e (.c (.d (D.lit (.string (strOfNums (jnT ([([97] : List Int), ([] : List Int)] : List (List Int))))))))), (4, iV (jnE ([([97] : List Int), ([] : List Int)] : List (List Int))))]) (g' := []) (nx' := 1) (by kernel_rfl) ⟨(by first | omega | (simp only [bsD_len, stD_len, dI_len, List.length_append, List.length_cons, List.length_nil, List.length_take, List.length_drop, List.length_replicate, List.length_set, List.length_map, List.length_reverse, Nat.mul_one] <;> omega) | rfl), rfl, rfl, rfl, (V_Join ([([97] : List Int), ([] : List Int)] : List (List Int)) 2 (by first | omega | with_reducible assumption | (simp only [bsD_len, stD_len, List.length_append, List.length_cons, List.length_nil, List.length_take, List.length_drop, List.length_replicate, List.length_set] <;> omega) | rfl | assumption) (by omega) (BytL.cons (Byt.cons (by omega) Byt.nil) (BytL.cons (Byt.nil) BytL.nil)))⟩ ?_
  refine AW.rgs [.call [] (.tup [iE (-17), iE 0]) [] 0 [] none, .no, .no, .no, .no, .no] [1, 2, 3, 4, 5, 6] [] (P := (_)) (l' := [(1, .e (.c (.d (D.sl (stD (spL ([112, 108, 97, 121, 32, 34, 97, 32, 98, 34, 32, 51] : List Int))) (List.length (spL ([112, 108, 97, 121, 32, 34, 97, 32, 98, 34, 32, 51] : List Int))))))), (2, iV (spE ([112, 108, 97, 121, 32, 34, 97, 32, 98, 34, 32, 51] : List Int))), (3, .e (.c (.d (D.lit (.string (strOfNums (jnT ([([97] : List Int), ([] : List Int)] : List (List Int))))))))), (4, iV (jnE ([([97] : List Int), ([] : List Int)] : List (List Int)))), (5, iV (-17)), (6, iV 0)]) (g' := []) (nx' := 1) (by kernel_rfl) (S_num) ?_
  refine AW.rgs [.no, .b true, .no, .no, .no, .b true, .no, .no, .no, .n 1, .d (D.lit (.string (strOfNums (List.getD (spL ([112, 108, 97, 121, 32, 34, 97, 32, 98, 34, 32, 51] : List Int)) 1 ([] : List Int))))), .b true, .no, .no, .no, .b true, .no, .no, .no, .b true, .no, .no, .no, .b true, .no, .no, .no, .b true, .no, .no, .call [] (bV true) [] 0 [] none, .no, .no, .call [] (bV false) [] 0 [] none, .no, .no, .no] [0] [] (P := (((spE ([112, 108, 97, 121, 32, 34, 97, 32, 98, 34, 32, 51] : List Int)) = 0)) ∧ (((((List.length (spL ([112, 108, 97, 121, 32, 34, 97, 32, 98, 34, 32, 51] : List Int))) : Nat) : Int) = 3)) ∧ ((1 : Int) = 1) ∧ ((1 : Nat) < (List.length (spL ([112, 108, 97, 121, 32, 34, 97, 32, 98, 34, 32, 51] : List Int)))) ∧ ((List.drop 1 (stD (spL ([112, 108, 97, 121, 32, 34, 97, 32, 98, 34, 32, 51] : List Int))))[0]? = some (D.lit (.string (strOfNums (List.getD (spL ([112, 108, 97, 121, 32, 34, 97, 32, 98, 34, 32, 51] : List Int)) 1 ([] : List Int)))))) ∧ ((ByteArray.toList (strOfNums (List.getD (spL ([112, 108, 97, 121, 32, 34, 97, 32, 98, 34, 32, 51] : List Int)) 1 ([] : List Int))) == ByteArray.toList (ByteArray.mk #[97, 32, 98])) = true) ∧ (((jnE ([([97] : List Int), ([] : List Int)] : List (List Int))) = 0)) ∧ ((ByteArray.toList (strOfNums (jnT ([([97] : List Int), ([] : List Int)] : List (List Int)))) == ByteArray.toList (ByteArray.mk #[97, 32, 34, 34])) = true) ∧ (((0 : Int) = 0)) ∧ ((((-17) : Int) = (-17))) ∧ (Fun 14 [.c (.d (D.lit ((.string (ByteArray.mk #[120, 45, 49])))))] (toG []) 0 (bV true) (toG []) 0) ∧ (Fun 14 [.c (.d (D.lit ((.string (ByteArray.mk #[49, 120])))))] (toG []) 0 (bV false) (toG []) 0)) (l' := [(0, bV true)]) (g' := []) (nx' := 1) (by kernel_rfl) ⟨(by omega), (by omega), rfl, (by omega), (stD_at _ _ (by first | omega | (simp only [bsD_len, stD_len, List.length_append, List.length_cons, List.length_nil, List.length_take, List.length_drop] <;> omega))), (by kernel_rfl), (by omega), (by kernel_rfl), (by omega), (by omega), (by have h0 := (V_name ([120, 45, 49] : List Int) (Byt.cons (by omega) (Byt.cons (by omega) (Byt.cons (by omega) Byt.nil))) (by first | omega | with_reducible assumption | (simp only [bsD_len, stD_len, List.length_append, List.length_cons, List.length_nil, List.length_take, List.length_drop, List.length_replicate, List.length_set] <;> omega) | rfl | assumption)); rw [(show nameB ([120, 45, 49] : List Int) = true by kernel_rfl)] at h0; exact h0), (by have h0 := (V_name ([49, 120] : List Int) (Byt.cons (by omega) (Byt.cons (by omega) Byt.nil)) (by first | omega | with_reducible assumption | (simp only [bsD_len, stD_len, List.length_append, List.length_cons, List.length_nil, List.length_take, List.length_drop, List.length_replicate, List.length_set] <;> omega) | rfl | assumption)); rw [(show nameB ([49, 120] : List Int) = false by kernel_rfl)] at h0; exact h0)⟩ ?_
  refine AW.ret ?_
  exact EndP.of (.inr rfl) [] (P := (true = true)) (by kernel_rfl) rfl

end Go.Proofs.YtcmldnahohmieaaDoor
