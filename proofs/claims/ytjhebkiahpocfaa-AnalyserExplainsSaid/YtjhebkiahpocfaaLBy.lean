/- Bytes, decks of numbers. No statement is proved here. -/
import Derived.Test.YtjhebkiahpocfaaAmY
namespace Go.Proofs.Ytjhebkiahpocfaa
open Go.ChangeShapes Go.WideShapes Go.ChangeAt Go.RowKit
set_option linter.unusedVariables false
set_option linter.unusedSimpArgs false


theorem getD_drop {l : List Int} {n j : Nat} : List.getD (List.drop n l) j 0 = List.getD l (n + j) 0 := by
  rw [List.getD_eq_getElem?_getD, List.getD_eq_getElem?_getD, List.getElem?_drop]
theorem getD_take {l : List Int} {n j : Nat} (h : j < n) : List.getD (List.take n l) j 0 = List.getD l j 0 := by
  rw [List.getD_eq_getElem?_getD, List.getD_eq_getElem?_getD, List.getElem?_take, if_pos h]
theorem getD_app_l {l m : List Int} {j : Nat} (h : j < l.length) : List.getD (l ++ m) j 0 = List.getD l j 0 := by
  rw [List.getD_eq_getElem?_getD, List.getD_eq_getElem?_getD, List.getElem?_append_left h]
theorem getD_app_r {l m : List Int} {j : Nat} (h : l.length ≤ j) : List.getD (l ++ m) j 0 = List.getD m (j - l.length) 0 := by
  rw [List.getD_eq_getElem?_getD, List.getD_eq_getElem?_getD, List.getElem?_append_right h]
/-- bytes -/
def Byt (l : List Int) : Prop := ∀ x ∈ l, 0 ≤ x ∧ x ≤ 255
theorem Byt.at {l : List Int} (h : Byt l) (j : Nat) (hj : j < List.length l) : 0 ≤ List.getD l j 0 ∧ List.getD l j 0 ≤ 255 := by
  rw [List.getD_eq_getElem?_getD, List.getElem?_eq_getElem hj]
  exact h _ (List.getElem_mem hj)
theorem Byt.nil : Byt [] := fun x h => by cases h
theorem Byt.cons {x : Int} {l : List Int} (h : 0 ≤ x ∧ x ≤ 255) (hl : Byt l) : Byt (x :: l) := fun y hy => by
  rcases List.mem_cons.1 hy with rfl | hy
  · exact h
  · exact hl y hy
theorem Byt.app {l m : List Int} (h : Byt l) (h2 : Byt m) : Byt (l ++ m) := fun x hx => (List.mem_append.1 hx).elim (h x) (h2 x)
theorem Byt.drop {l : List Int} (h : Byt l) (n : Nat) : Byt (List.drop n l) := fun x hx => h x (List.mem_of_mem_drop hx)
theorem Byt.take {l : List Int} (h : Byt l) (n : Nat) : Byt (List.take n l) := fun x hx => h x (List.mem_of_mem_take hx)
theorem Byt.rep (n : Nat) {x : Int} (h : 0 ≤ x ∧ x ≤ 255) : Byt (List.replicate n x) := fun y hy => by rw [(List.mem_replicate.1 hy).2]; exact h
theorem Byt.set {l : List Int} (h : Byt l) (n : Nat) {x : Int} (hx : 0 ≤ x ∧ x ≤ 255) : Byt (List.set l n x) := fun y hy => by
  rcases List.mem_or_eq_of_mem_set hy with hy | rfl
  · exact h y hy
  · exact hx
theorem Byt.of {l : List Int} (h : ∀ x ∈ l, 0 ≤ x ∧ x ≤ 255) : Byt l := h
/-- lists of bytes, as slices that are read alone -/
def bsD (xs : List (List Int)) : List D := xs.map fun l => D.sl (dI .u8 l) l.length
theorem bsD_len (xs : List (List Int)) : (bsD xs).length = xs.length := by unfold bsD; simp
theorem bsD_cat (xs : List (List Int)) (l : List Int) (n : Nat) (h : l.length = n) : bsD xs ++ [D.sl (dI .u8 l) n] = bsD (xs ++ [l]) := by subst h; unfold bsD; simp
theorem bsD_app (xs ys : List (List Int)) : bsD xs ++ bsD ys = bsD (xs ++ ys) := by unfold bsD; simp
theorem bsD_at (xs : List (List Int)) (i : Nat) (h : i < xs.length) : (List.drop i (bsD xs))[0]? = some (D.sl (dI .u8 (List.getD xs i [])) (List.getD xs i []).length) := by
  unfold bsD
  rw [List.getElem?_drop, Nat.add_zero, List.getElem?_map, List.getElem?_eq_getElem h, List.getD_eq_getElem?_getD, List.getElem?_eq_getElem h]; rfl
theorem bsD_part (xs : List (List Int)) (a n : Nat) : List.take n (List.drop a (bsD xs)) = bsD (List.take n (List.drop a xs)) := by unfold bsD; simp [List.map_drop, List.map_take]
theorem bsD_take (xs : List (List Int)) (n : Nat) : List.take (n * 1) (List.drop (0 * 1) (bsD xs)) = bsD (List.take n xs) := by unfold bsD; simp [List.map_take]
def BytL (xs : List (List Int)) : Prop := ∀ l ∈ xs, Byt l
theorem BytL.at {xs : List (List Int)} (h : BytL xs) (i : Nat) : Byt (List.getD xs i []) := by
  rw [List.getD_eq_getElem?_getD]
  cases e : xs[i]? with
  | none => exact Byt.nil
  | some l => exact h l (List.mem_of_getElem? e)
theorem BytL.nil : BytL [] := fun l h => by cases h
theorem BytL.snoc {xs : List (List Int)} {l : List Int} (h : BytL xs) (hl : Byt l) : BytL (xs ++ [l]) := fun m hm => (List.mem_append.1 hm).elim (h m) fun hm => by
  rw [List.mem_singleton.1 hm]; exact hl
theorem BytL.app {xs ys : List (List Int)} (h : BytL xs) (h2 : BytL ys) : BytL (xs ++ ys) := fun m hm => (List.mem_append.1 hm).elim (h m) (h2 m)
theorem BytL.take {xs : List (List Int)} (h : BytL xs) (n : Nat) : BytL (List.take n xs) := fun m hm => h m (List.mem_of_mem_take hm)
/-! texts told as bytes -/
theorem ofNat_inj {a b : Int} (ha : 0 ≤ a ∧ a ≤ 255) (hb : 0 ≤ b ∧ b ≤ 255) (h : UInt8.ofNat a.toNat = UInt8.ofNat b.toNat) : a = b := by
  have e := congrArg UInt8.toNat h
  rw [UInt8.toNat_ofNat', UInt8.toNat_ofNat'] at e
  omega
theorem map_inj8 : ∀ {a b : List Int}, Byt a → Byt b → a.map (fun n => UInt8.ofNat n.toNat) = b.map (fun n => UInt8.ofNat n.toNat) → a = b
  | [], [], _, _, _ => rfl
  | x :: xs, y :: ys, ha, hb, h => by
    rw [List.map_cons, List.map_cons, List.cons.injEq] at h
    rw [ofNat_inj (ha x (List.mem_cons_self ..)) (hb y (List.mem_cons_self ..)) h.1, map_inj8 (fun z hz => ha z (List.mem_cons_of_mem _ hz)) (fun z hz => hb z (List.mem_cons_of_mem _ hz)) h.2]
  | [], _ :: _, _, _, h => by cases h
  | _ :: _, [], _, _, h => by cases h
theorem str_y {a b : List Int} (h : a = b) : (ByteArray.toList (strOfNums a) == ByteArray.toList (strOfNums b)) = true := by subst h; simp
theorem str_n {a b : List Int} (ha : Byt a) (hb : Byt b) (h : ¬ a = b) : (ByteArray.toList (strOfNums a) == ByteArray.toList (strOfNums b)) = false := by
  rw [beq_eq_false_iff_ne]
  intro e
  rw [ByteArray.toList_eq, ByteArray.toList_eq, strOfNums_data, strOfNums_data] at e
  exact h (map_inj8 ha hb e)
/-! numbers of a deck -/
theorem tm_rng (v n : Int) (h : 1 ≤ n) : (-n < Int.tmod v n ∧ Int.tmod v n < n) := by
  constructor
  · have h1 := Int.lt_tmod_of_pos v (b := n) (by omega); omega
  · exact Int.tmod_lt_of_pos v (by omega)
theorem md_neg {v n : Int} (hn : 1 ≤ n) (h : Int.tmod v n < 0) : v % n = Int.tmod v n + n := by
  have h1 := tm_rng v n hn
  have h2 := Int.mul_tdiv_add_tmod v n
  have e : v % n = (Int.tmod v n + n) % n := by
    conv => lhs; rw [← h2]
    rw [Int.add_emod_right, Int.mul_add_emod_self_left]
  rw [e, Int.emod_eq_of_lt (by omega) (by omega)]
theorem md_pos {v n : Int} (hn : 1 ≤ n) (h : ¬ Int.tmod v n < 0) : v % n = Int.tmod v n := by
  have h1 := tm_rng v n hn
  have h2 := Int.mul_tdiv_add_tmod v n
  have e : v % n = (Int.tmod v n) % n := by
    conv => lhs; rw [← h2]
    rw [Int.mul_add_emod_self_left]
  rw [e, Int.emod_eq_of_lt (by omega) (by omega)]
/-- the numbers of a deck -/
def dkN (l : List Int) (a : Nat) (n : Int) : Nat := if a < l.length then (List.getD l a 0 % n).toNat else 0
def dkA (l : List Int) (a : Nat) : Nat := if a < l.length then a + 1 else a
theorem dkN_y {l : List Int} {a : Nat} {n : Int} (h : a < l.length) (hn : 1 ≤ n) : ((dkN l a n : Nat) : Int) = List.getD l a 0 % n := by
  unfold dkN; rw [if_pos h]; exact Int.toNat_of_nonneg (Int.emod_nonneg _ (by omega))
theorem dkN_n {l : List Int} {a : Nat} {n : Int} (h : ¬ a < l.length) : ((dkN l a n : Nat) : Int) = 0 := by unfold dkN; rw [if_neg h]; rfl
theorem dkA_y {l : List Int} {a : Nat} (h : a < l.length) : dkA l a = a + 1 := if_pos h
theorem dkA_n {l : List Int} {a : Nat} (h : ¬ a < l.length) : dkA l a = a := if_neg h
theorem dkA_le {l : List Int} {a m : Nat} (hm : l.length = m) (h : a ≤ m) : dkA l a ≤ m := by unfold dkA; split <;> omega
theorem dkN_lt (l : List Int) (a : Nat) {n : Int} (hn : 1 ≤ n) : ((dkN l a n : Nat) : Int) < n := by
  by_cases h : a < l.length
  · rw [dkN_y h hn]; exact Int.emod_lt_of_pos _ (by omega)
  · rw [dkN_n h]; omega
theorem emod_rng (v n : Int) (h : 1 ≤ n) : 0 ≤ v % n ∧ v % n < n := ⟨Int.emod_nonneg _ (by omega), Int.emod_lt_of_pos _ (by omega)⟩

set_option maxHeartbeats 4000000 in
set_option maxRecDepth 100000 in
theorem M_Mod (v n : Int) (hn : 1 ≤ n ∧ n ≤ 4611686018427387904) : Fun 21 [iE v, iE n] (toG []) 0 (iV (v % n)) (toG []) 0 := by
  have ht : (0 - n < Int.tmod v n ∧ Int.tmod v n < n) := (by have h9 := tm_rng v n (by omega); omega)
  refine Fun.mk (n := 15) Try.func21 rfl rfl (Nat.le_of_ble_eq_true rfl) ?_
  intro cx hcx
  refine AW.rgs [.no] [0, 1] [] (P := True) (l' := [(0, iV v), (1, iV n)]) (g' := []) (nx' := 0) (by kernel_rfl) trivial ?_
  refine AW.rgs [.no, .no, .no, .no] [1, 5] [] (P := (¬ (n : Int) = 0)) (l' := [(1, iV n), (5, iV (Int.tmod v n))]) (g' := []) (nx' := 0) (by kernel_rfl) (by omega) ?_
  refine AW.seq ?_
  by_cases hx1 : ((Int.tmod v n) < 0)
  · refine AW.rgs [.no, .b true] [1, 5, 10] [] (P := (((Int.tmod v n) < 0))) (l' := [(1, iV n), (5, iV (Int.tmod v n)), (10, bV true)]) (g' := []) (nx' := 0) (by kernel_rfl) (by omega) ?_
    refine AW.cond_t (.tmp (Look.of rfl)) ?_
    refine AW.rg [.no, .no, .w, .no] [5] [] (P := ((-9223372036854775808) ≤ ((Int.tmod v n) + n) ∧ ((Int.tmod v n) + n) ≤ 9223372036854775807)) (l' := [(5, iV ((Int.tmod v n) + n))]) (g' := []) (nx' := 0) (by kernel_rfl) ⟨by omega, by omega⟩ ?_
    refine AW.rgs [.no, .no] [4] [] (P := True) (l' := [(4, iV ((Int.tmod v n) + n))]) (g' := []) (nx' := 0) (by kernel_rfl) trivial ?_
    refine AW.ret ?_
    exact EndP.of (.inr rfl) [] (P := (((v % n) : Int) = ((Int.tmod v n) + n))) (by kernel_rfl) (by first | exact md_neg (by omega) (by assumption) | exact md_pos (by omega) (by assumption) | omega | rfl)
  · refine AW.rgs [.no, .b false] [1, 5, 10] [] (P := (¬ ((Int.tmod v n) < 0))) (l' := [(1, iV n), (5, iV (Int.tmod v n)), (10, bV false)]) (g' := []) (nx' := 0) (by kernel_rfl) (by omega) ?_
    refine AW.cond_f (.tmp (Look.of rfl)) ?_
    refine AW.skip ?_
    refine AW.rgs [.no, .no] [4] [] (P := True) (l' := [(4, iV (Int.tmod v n))]) (g' := []) (nx' := 0) (by kernel_rfl) trivial ?_
    refine AW.ret ?_
    exact EndP.of (.inr rfl) [] (P := (((v % n) : Int) = (Int.tmod v n))) (by kernel_rfl) (by first | exact md_neg (by omega) (by assumption) | exact md_pos (by omega) (by assumption) | omega | rfl)

set_option maxHeartbeats 4000000 in
set_option maxRecDepth 100000 in
theorem M_New (l : List Int) (m : Nat)  : Fun 6 [.c (.d (D.sl (dI .i64 l) m))] (toG []) 0 (rV 0 0) (toG [(0, some (59, .ds [D.sl (dI .i64 l) m, iD 0]))]) 1 := by
  refine Fun.mk (n := 6) Try.func6 rfl rfl (Nat.le_of_ble_eq_true rfl) ?_
  intro cx hcx
  refine AW.rgs [.no] [0] [] (P := True) (l' := [(0, sV .i64 l m)]) (g' := []) (nx' := 0) (by kernel_rfl) trivial ?_
  refine AW.rgs [.no, .no, .no, .no] [2] [0] (P := True) (l' := [(2, rV 0 0)]) (g' := [(0, some (59, .ds [D.sl (dI .i64 l) m, iD 0]))]) (nx' := 1) (by kernel_rfl) trivial ?_
  refine AW.ret ?_
  exact EndP.of (.inr rfl) [] (P := ((0 : Nat) = 0) ∧ (([D.sl (dI .i64 l) m, iD 0] : List D) = [D.sl (dI .i64 l) m, iD 0])) (by kernel_rfl) ⟨rfl, rfl⟩

set_option maxHeartbeats 4000000 in
set_option maxRecDepth 100000 in
theorem M_Left (l : List Int) (m a : Nat)  : Fun 24 [.c (.ptr 0 0)] (toG [(0, some (59, .ds [D.sl (dI .i64 l) m, iD ((a : Nat) : Int)]))]) 1 (.e (.c (.d (D.lit (.bool (decide (((a : Nat) : Int) < ((m : Nat) : Int)))))))) (toG [(0, some (59, .ds [D.sl (dI .i64 l) m, iD ((a : Nat) : Int)]))]) 1 := by
  refine Fun.mk (n := 13) Try.func24 rfl rfl (Nat.le_of_ble_eq_true rfl) ?_
  intro cx hcx
  refine AW.rgs [.no] [0] [0] (P := True) (l' := [(0, rV 0 0)]) (g' := [(0, some (59, .ds [D.sl (dI .i64 l) m, iD ↑a]))]) (nx' := 1) (by kernel_rfl) trivial ?_
  by_cases hx1 : (((a : Nat) : Int) < ((m : Nat) : Int))
  · refine AW.rgs [.no, .no, .no, .no, .no, .no, .no, .no, .no, .b true, .no] [2] [0] (P := ((((a : Nat) : Int) < ((m : Nat) : Int)))) (l' := [(2, bV true)]) (g' := [(0, some (59, .ds [D.sl (dI .i64 l) m, iD ↑a]))]) (nx' := 1) (by kernel_rfl) (by omega) ?_
    refine AW.ret ?_
    exact EndP.of (.inr rfl) [] (P := ((decide (((a : Nat) : Int) < ((m : Nat) : Int))) = true) ∧ (([D.sl (dI .i64 l) m, iD ((a : Nat) : Int)] : List D) = [D.sl (dI .i64 l) m, iD ((a : Nat) : Int)])) (by kernel_rfl) ⟨(by first | exact decide_eq_true (by omega) | exact decide_eq_false (by omega)), rfl⟩
  · refine AW.rgs [.no, .no, .no, .no, .no, .no, .no, .no, .no, .b false, .no] [2] [0] (P := (¬ (((a : Nat) : Int) < ((m : Nat) : Int)))) (l' := [(2, bV false)]) (g' := [(0, some (59, .ds [D.sl (dI .i64 l) m, iD ↑a]))]) (nx' := 1) (by kernel_rfl) (by omega) ?_
    refine AW.ret ?_
    exact EndP.of (.inr rfl) [] (P := ((decide (((a : Nat) : Int) < ((m : Nat) : Int))) = false) ∧ (([D.sl (dI .i64 l) m, iD ((a : Nat) : Int)] : List D) = [D.sl (dI .i64 l) m, iD ((a : Nat) : Int)])) (by kernel_rfl) ⟨(by first | exact decide_eq_true (by omega) | exact decide_eq_false (by omega)), rfl⟩

set_option maxHeartbeats 4000000 in
set_option maxRecDepth 100000 in
theorem M_Next (l : List Int) (m a : Nat) (n : Int) (hm : List.length l = m) (hb : m ≤ 9223372036854775807) (ha : a ≤ m) (hn : 1 ≤ n ∧ n ≤ 4611686018427387904) : Fun 8 [.c (.ptr 0 0), iE n] (toG [(0, some (59, .ds [D.sl (dI .i64 l) m, iD ((a : Nat) : Int)]))]) 1 (iV (((dkN l a n) : Nat) : Int)) (toG [(0, some (59, .ds [D.sl (dI .i64 l) m, iD (((dkA l a) : Nat) : Int)]))]) 1 := by
  refine Fun.mk (n := 28) Try.func8 rfl rfl (Nat.le_of_ble_eq_true rfl) ?_
  intro cx hcx
  refine AW.rgs [.no] [0, 1] [0] (P := True) (l' := [(0, rV 0 0), (1, iV n)]) (g' := [(0, some (59, .ds [D.sl (dI .i64 l) m, iD ↑a]))]) (nx' := 1) (by kernel_rfl) trivial ?_
  refine AW.seq ?_
  rcases Bool.eq_false_or_eq_true (decide (((a : Nat) : Int) < ((m : Nat) : Int))) with hx1 | hx1
  · have hx2 : (((a : Nat) : Int) < ((m : Nat) : Int)) := of_decide_eq_true hx1
    refine AW.rgs [.no, .call [0] (bV true) [(0, some (59, .ds [D.sl (dI .i64 l) m, iD ((a : Nat) : Int)]))] 1 [] none, .no] [0, 1, 7] [0] (P := (Fun 24 [.c (.ptr 0 0)] (toG [(0, some (59, .ds [D.sl (dI .i64 l) m, iD ((a : Nat) : Int)]))]) 1 (bV true) (toG [(0, some (59, .ds [D.sl (dI .i64 l) m, iD ((a : Nat) : Int)]))]) 1)) (l' := [(0, rV 0 0), (1, iV n), (7, bV false)]) (g' := [(0, some (59, .ds [D.sl (dI .i64 l) m, iD ↑a]))]) (nx' := 1) (by kernel_rfl) (by have h0 := (M_Left l m a); rw [hx1] at h0; exact h0) ?_
    refine AW.cond_f (.tmp (Look.of rfl)) ?_
    refine AW.skip ?_
    refine AW.rgs [.no, .no, .no, .no, .w, .no, .no, .no] [0, 1] [0] (P := ((-9223372036854775808) ≤ (((a : Nat) : Int) + 1) ∧ (((a : Nat) : Int) + 1) ≤ 9223372036854775807)) (l' := [(0, rV 0 0), (1, iV n)]) (g' := [(0, some (59, .ds [D.sl (dI .i64 l) m, iD (↑a + 1)]))]) (nx' := 1) (by kernel_rfl) ⟨by omega, by omega⟩ ?_
    have hx3 : (((0 : Int) ≤ ((List.getD l ((a + 1) - 1) 0) % n)) ∧ (((List.getD l ((a + 1) - 1) 0) % n) < n)) := emod_rng (List.getD l ((a + 1) - 1) 0) n (by omega)
    refine AW.rgs [.no, .no, .no, .no, .no, .no, .no, .no, .w, .n ((a + 1) - 1), .d (D.lit (.int .i64 (List.getD l ((a + 1) - 1) 0))), .no, .call [] (iV ((List.getD l ((a + 1) - 1) 0) % n)) [] 0 [] none, .no] [4] [0] (P := ((-9223372036854775808) ≤ ((((a : Nat) : Int) + 1) - 1) ∧ ((((a : Nat) : Int) + 1) - 1) ≤ 9223372036854775807) ∧ ((((((a : Nat) : Int) + 1) - 1) : Int) = ((((a + 1) - 1) : Nat) : Int)) ∧ (((a + 1) - 1) < m) ∧ ((List.drop ((a + 1) - 1) (dI .i64 l))[0]? = some (D.lit (.int .i64 (List.getD l ((a + 1) - 1) 0)))) ∧ (_)) (l' := [(4, iV ((List.getD l ((a + 1) - 1) 0) % n))]) (g' := [(0, some (59, .ds [D.sl (dI .i64 l) m, iD (↑a + 1)]))]) (nx' := 1) (by kernel_rfl) ⟨⟨by omega, by omega⟩, (by first | rfl | omega), (by omega), (dI_at _ _ _ (by first | omega | (simp only [bsD_len, dI_len, List.length_append, List.length_cons, List.length_nil, List.length_take, List.length_drop, List.length_replicate, List.length_set, List.length_map, List.length_reverse, Nat.mul_one] <;> omega) | rfl)), (M_Mod (List.getD l ((a + 1) - 1) 0) n (by omega))⟩ ?_
    refine AW.ret ?_
    exact EndP.of (.inr rfl) [] (P := (((((dkN l a n) : Nat) : Int) : Int) = ((List.getD l ((a + 1) - 1) 0) % n)) ∧ (([D.sl (dI .i64 l) m, iD (((dkA l a) : Nat) : Int)] : List D) = [D.sl (dI .i64 l) m, iD (((a : Nat) : Int) + 1)])) (by kernel_rfl) ⟨(by first | exact dkN_y (by omega) (by omega) | exact dkN_n (by omega) | (rw [dkA_y (by omega)]; rfl) | (rw [dkA_n (by omega)]) | omega | rfl), (by first | (rw [dkA_y (by omega)]; rfl) | rw [dkA_n (by omega)])⟩
  · have hx4 : ¬ (((a : Nat) : Int) < ((m : Nat) : Int)) := of_decide_eq_false hx1
    refine AW.rgs [.no, .call [0] (bV false) [(0, some (59, .ds [D.sl (dI .i64 l) m, iD ((a : Nat) : Int)]))] 1 [] none, .no] [0, 1, 7] [0] (P := (Fun 24 [.c (.ptr 0 0)] (toG [(0, some (59, .ds [D.sl (dI .i64 l) m, iD ((a : Nat) : Int)]))]) 1 (bV false) (toG [(0, some (59, .ds [D.sl (dI .i64 l) m, iD ((a : Nat) : Int)]))]) 1)) (l' := [(0, rV 0 0), (1, iV n), (7, bV true)]) (g' := [(0, some (59, .ds [D.sl (dI .i64 l) m, iD ↑a]))]) (nx' := 1) (by kernel_rfl) (by have h0 := (M_Left l m a); rw [hx1] at h0; exact h0) ?_
    refine AW.cond_t (.tmp (Look.of rfl)) ?_
    refine AW.rgs [.no] [4] [0] (P := True) (l' := [(4, iV 0)]) (g' := [(0, some (59, .ds [D.sl (dI .i64 l) m, iD ↑a]))]) (nx' := 1) (by kernel_rfl) trivial ?_
    refine AW.ret ?_
    exact EndP.of (.inr rfl) [] (P := (((((dkN l a n) : Nat) : Int) : Int) = 0) ∧ (([D.sl (dI .i64 l) m, iD (((dkA l a) : Nat) : Int)] : List D) = [D.sl (dI .i64 l) m, iD ((a : Nat) : Int)])) (by kernel_rfl) ⟨(by first | exact dkN_y (by omega) (by omega) | exact dkN_n (by omega) | (rw [dkA_y (by omega)]; rfl) | (rw [dkA_n (by omega)]) | omega | rfl), (by first | (rw [dkA_y (by omega)]; rfl) | rw [dkA_n (by omega)])⟩

end Go.Proofs.Ytjhebkiahpocfaa
