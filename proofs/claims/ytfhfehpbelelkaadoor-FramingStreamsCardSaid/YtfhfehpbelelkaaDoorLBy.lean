/- Bytes, decks of numbers. No statement is proved here. -/
import Derived.Test.YtfhfehpbelelkaaDoorAmV
namespace Go.Proofs.YtfhfehpbelelkaaDoor
open Go.ChangeShapes Go.WideShapes Go.ChangeAt Go.RowKit
set_option linter.unusedVariables false
set_option linter.unusedSimpArgs false


theorem getD_drop {l : List Int} {n j : Nat} : List.getD (List.drop n l) j 0 = List.getD l (n + j) 0 := by
  rw [List.getD_eq_getElem?_getD, List.getD_eq_getElem?_getD, List.getElem?_drop]
theorem getD_take {l : List Int} {n j : Nat} (h : j < n) : List.getD (List.take n l) j 0 = List.getD l j 0 := by
  rw [List.getD_eq_getElem?_getD, List.getD_eq_getElem?_getD, List.getElem?_take, if_pos h]
theorem getD_app_l {l m : List Int} {j : Nat} (h : j < l.length) : List.getD (l ++ m) j 0 = List.getD l j 0 := by
  rw [List.getD_eq_getElem?_getD, List.getD_eq_getElem?_getD, List.getElem?_append_left h]
theorem getD_app_r {l m : List Int} {j : Nat} (h : l.length ≤ j) : List.getD (l ++ m) j 0 = List.getD m (j - l.length) 0 := by
  rw [List.getD_eq_getElem?_getD, List.getD_eq_getElem?_getD, List.getElem?_append_right h]
/-- bytes -/
def Byt (l : List Int) : Prop := ∀ x ∈ l, 0 ≤ x ∧ x ≤ 255
theorem Byt.at {l : List Int} (h : Byt l) (j : Nat) (hj : j < List.length l) : 0 ≤ List.getD l j 0 ∧ List.getD l j 0 ≤ 255 := by
  rw [List.getD_eq_getElem?_getD, List.getElem?_eq_getElem hj]
  exact h _ (List.getElem_mem hj)
theorem Byt.nil : Byt [] := fun x h => by cases h
theorem Byt.cons {x : Int} {l : List Int} (h : 0 ≤ x ∧ x ≤ 255) (hl : Byt l) : Byt (x :: l) := fun y hy => by
  rcases List.mem_cons.1 hy with rfl | hy
  · exact h
  · exact hl y hy
theorem Byt.app {l m : List Int} (h : Byt l) (h2 : Byt m) : Byt (l ++ m) := fun x hx => (List.mem_append.1 hx).elim (h x) (h2 x)
theorem Byt.drop {l : List Int} (h : Byt l) (n : Nat) : Byt (List.drop n l) := fun x hx => h x (List.mem_of_mem_drop hx)
theorem Byt.take {l : List Int} (h : Byt l) (n : Nat) : Byt (List.take n l) := fun x hx => h x (List.mem_of_mem_take hx)
theorem Byt.rep (n : Nat) {x : Int} (h : 0 ≤ x ∧ x ≤ 255) : Byt (List.replicate n x) := fun y hy => by rw [(List.mem_replicate.1 hy).2]; exact h
theorem Byt.set {l : List Int} (h : Byt l) (n : Nat) {x : Int} (hx : 0 ≤ x ∧ x ≤ 255) : Byt (List.set l n x) := fun y hy => by
  rcases List.mem_or_eq_of_mem_set hy with hy | rfl
  · exact h y hy
  · exact hx
theorem Byt.of {l : List Int} (h : ∀ x ∈ l, 0 ≤ x ∧ x ≤ 255) : Byt l := h
/-- lists of bytes, as slices that are read alone -/
def bsD (xs : List (List Int)) : List D := xs.map fun l => D.sl (dI .u8 l) l.length
theorem bsD_len (xs : List (List Int)) : (bsD xs).length = xs.length := by unfold bsD; simp
theorem bsD_cat (xs : List (List Int)) (l : List Int) (n : Nat) (h : l.length = n) : bsD xs ++ [D.sl (dI .u8 l) n] = bsD (xs ++ [l]) := by subst h; unfold bsD; simp
theorem bsD_app (xs ys : List (List Int)) : bsD xs ++ bsD ys = bsD (xs ++ ys) := by unfold bsD; simp
theorem bsD_at (xs : List (List Int)) (i : Nat) (h : i < xs.length) : (List.drop i (bsD xs))[0]? = some (D.sl (dI .u8 (List.getD xs i [])) (List.getD xs i []).length) := by
  unfold bsD
  rw [List.getElem?_drop, Nat.add_zero, List.getElem?_map, List.getElem?_eq_getElem h, List.getD_eq_getElem?_getD, List.getElem?_eq_getElem h]; rfl
theorem bsD_part (xs : List (List Int)) (a n : Nat) : List.take n (List.drop a (bsD xs)) = bsD (List.take n (List.drop a xs)) := by unfold bsD; simp [List.map_drop, List.map_take]
theorem bsD_take (xs : List (List Int)) (n : Nat) : List.take (n * 1) (List.drop (0 * 1) (bsD xs)) = bsD (List.take n xs) := by unfold bsD; simp [List.map_take]
def BytL (xs : List (List Int)) : Prop := ∀ l ∈ xs, Byt l
theorem BytL.at {xs : List (List Int)} (h : BytL xs) (i : Nat) : Byt (List.getD xs i []) := by
  rw [List.getD_eq_getElem?_getD]
  cases e : xs[i]? with
  | none => exact Byt.nil
  | some l => exact h l (List.mem_of_getElem? e)
theorem BytL.nil : BytL [] := fun l h => by cases h
theorem BytL.snoc {xs : List (List Int)} {l : List Int} (h : BytL xs) (hl : Byt l) : BytL (xs ++ [l]) := fun m hm => (List.mem_append.1 hm).elim (h m) fun hm => by
  rw [List.mem_singleton.1 hm]; exact hl
theorem BytL.app {xs ys : List (List Int)} (h : BytL xs) (h2 : BytL ys) : BytL (xs ++ ys) := fun m hm => (List.mem_append.1 hm).elim (h m) (h2 m)
theorem BytL.take {xs : List (List Int)} (h : BytL xs) (n : Nat) : BytL (List.take n xs) := fun m hm => h m (List.mem_of_mem_take hm)
/-! texts told as bytes -/
theorem ofNat_inj {a b : Int} (ha : 0 ≤ a ∧ a ≤ 255) (hb : 0 ≤ b ∧ b ≤ 255) (h : UInt8.ofNat a.toNat = UInt8.ofNat b.toNat) : a = b := by
  have e := congrArg UInt8.toNat h
  rw [UInt8.toNat_ofNat', UInt8.toNat_ofNat'] at e
  omega
theorem map_inj8 : ∀ {a b : List Int}, Byt a → Byt b → a.map (fun n => UInt8.ofNat n.toNat) = b.map (fun n => UInt8.ofNat n.toNat) → a = b
  | [], [], _, _, _ => rfl
  | x :: xs, y :: ys, ha, hb, h => by
    rw [List.map_cons, List.map_cons, List.cons.injEq] at h
    rw [ofNat_inj (ha x (List.mem_cons_self ..)) (hb y (List.mem_cons_self ..)) h.1, map_inj8 (fun z hz => ha z (List.mem_cons_of_mem _ hz)) (fun z hz => hb z (List.mem_cons_of_mem _ hz)) h.2]
  | [], _ :: _, _, _, h => by cases h
  | _ :: _, [], _, _, h => by cases h
theorem str_y {a b : List Int} (h : a = b) : (ByteArray.toList (strOfNums a) == ByteArray.toList (strOfNums b)) = true := by subst h; simp
theorem str_n {a b : List Int} (ha : Byt a) (hb : Byt b) (h : ¬ a = b) : (ByteArray.toList (strOfNums a) == ByteArray.toList (strOfNums b)) = false := by
  rw [beq_eq_false_iff_ne]
  intro e
  rw [ByteArray.toList_eq, ByteArray.toList_eq, strOfNums_data, strOfNums_data] at e
  exact h (map_inj8 ha hb e)
/-! numbers of a deck -/
theorem tm_rng (v n : Int) (h : 1 ≤ n) : (-n < Int.tmod v n ∧ Int.tmod v n < n) := by
  constructor
  · have h1 := Int.lt_tmod_of_pos v (b := n) (by omega); omega
  · exact Int.tmod_lt_of_pos v (by omega)
theorem md_neg {v n : Int} (hn : 1 ≤ n) (h : Int.tmod v n < 0) : v % n = Int.tmod v n + n := by
  have h1 := tm_rng v n hn
  have h2 := Int.mul_tdiv_add_tmod v n
  have e : v % n = (Int.tmod v n + n) % n := by
    conv => lhs; rw [← h2]
    rw [Int.add_emod_right, Int.mul_add_emod_self_left]
  rw [e, Int.emod_eq_of_lt (by omega) (by omega)]
theorem md_pos {v n : Int} (hn : 1 ≤ n) (h : ¬ Int.tmod v n < 0) : v % n = Int.tmod v n := by
  have h1 := tm_rng v n hn
  have h2 := Int.mul_tdiv_add_tmod v n
  have e : v % n = (Int.tmod v n) % n := by
    conv => lhs; rw [← h2]
    rw [Int.mul_add_emod_self_left]
  rw [e, Int.emod_eq_of_lt (by omega) (by omega)]
/-- the numbers of a deck -/
def dkN (l : List Int) (a : Nat) (n : Int) : Nat := if a < l.length then (List.getD l a 0 % n).toNat else 0
def dkA (l : List Int) (a : Nat) : Nat := if a < l.length then a + 1 else a
theorem dkN_y {l : List Int} {a : Nat} {n : Int} (h : a < l.length) (hn : 1 ≤ n) : ((dkN l a n : Nat) : Int) = List.getD l a 0 % n := by
  unfold dkN; rw [if_pos h]; exact Int.toNat_of_nonneg (Int.emod_nonneg _ (by omega))
theorem dkN_n {l : List Int} {a : Nat} {n : Int} (h : ¬ a < l.length) : ((dkN l a n : Nat) : Int) = 0 := by unfold dkN; rw [if_neg h]; rfl
theorem dkA_y {l : List Int} {a : Nat} (h : a < l.length) : dkA l a = a + 1 := if_pos h
theorem dkA_n {l : List Int} {a : Nat} (h : ¬ a < l.length) : dkA l a = a := if_neg h
theorem dkA_le {l : List Int} {a m : Nat} (hm : l.length = m) (h : a ≤ m) : dkA l a ≤ m := by unfold dkA; split <;> omega
theorem dkN_lt (l : List Int) (a : Nat) {n : Int} (hn : 1 ≤ n) : ((dkN l a n : Nat) : Int) < n := by
  by_cases h : a < l.length
  · rw [dkN_y h hn]; exact Int.emod_lt_of_pos _ (by omega)
  · rw [dkN_n h]; omega
theorem emod_rng (v n : Int) (h : 1 ≤ n) : 0 ≤ v % n ∧ v % n < n := ⟨Int.emod_nonneg _ (by omega), Int.emod_lt_of_pos _ (by omega)⟩

set_option maxHeartbeats 4000000 in
set_option maxRecDepth 100000 in
theorem M_Mod (v n : Int) (hn : 1 ≤ n ∧ n ≤ 4611686018427387904) : Fun 9 [iE v, iE n] (toG []) 0 (iV (v % n)) (toG []) 0 := by
  have ht : (0 - n < Int.tmod v n ∧ Int.tmod v n < n) := (by have h9 := tm_rng v n (by omega); omega)
  refine Fun.mk (n := 15) Tryd.func9 rfl rfl (Nat.le_of_ble_eq_true rfl) ?_
  intro cx hcx
  refine AW.rgs [.no] [0, 1] [] (P := True) (l' := [(0, iV v), (1, iV n)]) (g' := []) (nx' := 0) (by kernel_rfl) trivial ?_
  refine AW.rgs [.no, .no, .no, .no] [1, 5] [] (P := (¬ (n : Int) = 0)) (l' := [(1, iV n), (5, iV (Int.tmod v n))]) (g' := []) (nx' := 0) (by kernel_rfl) (by omega) ?_
  refine AW.seq ?_
  by_cases hx1 : ((Int.tmod v n) < 0)
  · refine AW.rgs [.no, .b true] [1, 5, 10] [] (P := (((Int.tmod v n) < 0))) (l' := [(1, iV n), (5, iV (Int.tmod v n)), (10, bV true)]) (g' := []) (nx' := 0) (by kernel_rfl) (by omega) ?_
    refine AW.cond_t (.tmp (Look.of rfl)) ?_
    refine AW.rg [.no, .no, .w, .no] [5] [] (P := ((-9223372036854775808) ≤ ((Int.tmod v n) + n) ∧ ((Int.tmod v n) + n) ≤ 9223372036854775807)) (l' := [(5, iV ((Int.tmod v n) + n))]) (g' := []) (nx' := 0) (by kernel_rfl) ⟨by omega, by omega⟩ ?_
    refine AW.rgs [.no, .no] [4] [] (P := True) (l' := [(4, iV ((Int.tmod v n) + n))]) (g' := []) (nx' := 0) (by kernel_rfl) trivial ?_
    refine AW.ret ?_
    exact EndP.of (.inr rfl) [] (P := (((v % n) : Int) = ((Int.tmod v n) + n))) (by kernel_rfl) (by first | exact md_neg (by omega) (by assumption) | exact md_pos (by omega) (by assumption) | omega | rfl)
  · refine AW.rgs [.no, .b false] [1, 5, 10] [] (P := (¬ ((Int.tmod v n) < 0))) (l' := [(1, iV n), (5, iV (Int.tmod v n)), (10, bV false)]) (g' := []) (nx' := 0) (by kernel_rfl) (by omega) ?_
    refine AW.cond_f (.tmp (Look.of rfl)) ?_
    refine AW.skip ?_
    refine AW.rgs [.no, .no] [4] [] (P := True) (l' := [(4, iV (Int.tmod v n))]) (g' := []) (nx' := 0) (by kernel_rfl) trivial ?_
    refine AW.ret ?_
    exact EndP.of (.inr rfl) [] (P := (((v % n) : Int) = (Int.tmod v n))) (by kernel_rfl) (by first | exact md_neg (by omega) (by assumption) | exact md_pos (by omega) (by assumption) | omega | rfl)

set_option maxHeartbeats 4000000 in
set_option maxRecDepth 100000 in
theorem M_New (l : List Int) (m : Nat)  : Fun 17 [.c (.d (D.sl (dI .i64 l) m))] (toG []) 0 (rV 0 0) (toG [(0, some (52, .ds [D.sl (dI .i64 l) m, iD 0]))]) 1 := by
  refine Fun.mk (n := 6) Tryd.func17 rfl rfl (Nat.le_of_ble_eq_true rfl) ?_
  intro cx hcx
  refine AW.rgs [.no] [0] [] (P := True) (l' := [(0, sV .i64 l m)]) (g' := []) (nx' := 0) (by kernel_rfl) trivial ?_
  refine AW.rgs [.no, .no, .no, .no] [2] [0] (P := True) (l' := [(2, rV 0 0)]) (g' := [(0, some (52, .ds [D.sl (dI .i64 l) m, iD 0]))]) (nx' := 1) (by kernel_rfl) trivial ?_
  refine AW.ret ?_
  exact EndP.of (.inr rfl) [] (P := ((0 : Nat) = 0) ∧ (([D.sl (dI .i64 l) m, iD 0] : List D) = [D.sl (dI .i64 l) m, iD 0])) (by kernel_rfl) ⟨rfl, rfl⟩

set_option maxHeartbeats 4000000 in
set_option maxRecDepth 100000 in
theorem M_Left (l : List Int) (m a : Nat)  : Fun 25 [.c (.ptr 0 0)] (toG [(0, some (52, .ds [D.sl (dI .i64 l) m, iD ((a : Nat) : Int)]))]) 1 (.e (.c (.d (D.lit (.bool (decide (((a : Nat) : Int) < ((m : Nat) : Int)))))))) (toG [(0, some (52, .ds [D.sl (dI .i64 l) m, iD ((a : Nat) : Int)]))]) 1 := by
  refine Fun.mk (n := 13) Tryd.func25 rfl rfl (Nat.le_of_ble_eq_true rfl) ?_
  intro cx hcx
  refine AW.rgs [.no] [0] [0] (P := True) (l' := [(0, rV 0 0)]) (g' := [(0, some (52, .ds [D.sl (dI .i64 l) m, iD ↑a]))]) (nx' := 1) (by kernel_rfl) trivial ?_
  by_cases hx1 : (((a : Nat) : Int) < ((m : Nat) : Int))
  · refine AW.rgs [.no, .no, .no, .no, .no, .no, .no, .no, .no, .b true, .no] [2] [0] (P := ((((a : Nat) : Int) < ((m : Nat) : Int)))) (l' := [(2, bV true)]) (g' := [(0, some (52, .ds [D.sl (dI .i64 l) m, iD ↑a]))]) (nx' := 1) (by kernel_rfl) (by omega) ?_
    refine AW.ret ?_
    exact EndP.of (.inr rfl) [] (P := ((decide (((a : Nat) : Int) < ((m : Nat) : Int))) = true) ∧ (([D.sl (dI .i64 l) m, iD ((a : Nat) : Int)] : List D) = [D.sl (dI .i64 l) m, iD ((a : Nat) : Int)])) (by kernel_rfl) ⟨(by first | exact decide_eq_true (by omega) | exact decide_eq_false (by omega)), rfl⟩
  · refine AW.rgs [.no, .no, .no, .no, .no, .no, .no, .no, .no, .b false, .no] [2] [0] (P := (¬ (((a : Nat) : Int) < ((m : Nat) : Int)))) (l' := [(2, bV false)]) (g' := [(0, some (52, .ds [D.sl (dI .i64 l) m, iD ↑a]))]) (nx' := 1) (by kernel_rfl) (by omega) ?_
    refine AW.ret ?_
    exact EndP.of (.inr rfl) [] (P := ((decide (((a : Nat) : Int) < ((m : Nat) : Int))) = false) ∧ (([D.sl (dI .i64 l) m, iD ((a : Nat) : Int)] : List D) = [D.sl (dI .i64 l) m, iD ((a : Nat) : Int)])) (by kernel_rfl) ⟨(by first | exact decide_eq_true (by omega) | exact decide_eq_false (by omega)), rfl⟩

set_option maxHeartbeats 4000000 in
set_option maxRecDepth 100000 in
theorem M_Next (l : List Int) (m a : Nat) (n : Int) (hm : List.length l = m) (hb : m ≤ 9223372036854775807) (ha : a ≤ m) (hn : 1 ≤ n ∧ n ≤ 4611686018427387904) : Fun 18 [.c (.ptr 0 0), iE n] (toG [(0, some (52, .ds [D.sl (dI .i64 l) m, iD ((a : Nat) : Int)]))]) 1 (iV (((dkN l a n) : Nat) : Int)) (toG [(0, some (52, .ds [D.sl (dI .i64 l) m, iD (((dkA l a) : Nat) : Int)]))]) 1 := by
  refine Fun.mk (n := 28) Tryd.func18 rfl rfl (Nat.le_of_ble_eq_true rfl) ?_
  intro cx hcx
  refine AW.rgs [.no] [0, 1] [0] (P := True) (l' := [(0, rV 0 0), (1, iV n)]) (g' := [(0, some (52, .ds [D.sl (dI .i64 l) m, iD ↑a]))]) (nx' := 1) (by kernel_rfl) trivial ?_
  refine AW.seq ?_
  rcases Bool.eq_false_or_eq_true (decide (((a : Nat) : Int) < ((m : Nat) : Int))) with hx1 | hx1
  · have hx2 : (((a : Nat) : Int) < ((m : Nat) : Int)) := of_decide_eq_true hx1
    refine AW.rgs [.no, .call [0] (bV true) [(0, some (52, .ds [D.sl (dI .i64 l) m, iD ((a : Nat) : Int)]))] 1 [] none, .no] [0, 1, 7] [0] (P := (Fun 25 [.c (.ptr 0 0)] (toG [(0, some (52, .ds [D.sl (dI .i64 l) m, iD ((a : Nat) : Int)]))]) 1 (bV true) (toG [(0, some (52, .ds [D.sl (dI .i64 l) m, iD ((a : Nat) : Int)]))]) 1)) (l' := [(0, rV 0 0), (1, iV n), (7, bV false)]) (g' := [(0, some (52, .ds [D.sl (dI .i64 l) m, iD ↑a]))]) (nx' := 1) (by kernel_rfl) (by have h0 := (M_Left l m a); rw [hx1] at h0; exact h0) ?_
    refine AW.cond_f (.tmp (Look.of rfl)) ?_
    refine AW.skip ?_
    refine AW.rgs [.no, .no, .no, .no, .w, .no, .no, .no] [0, 1] [0] (P := ((-9223372036854775808) ≤ (((a : Nat) : Int) + 1) ∧ (((a : Nat) : Int) + 1) ≤ 9223372036854775807)) (l' := [(0, rV 0 0), (1, iV n)]) (g' := [(0, some (52, .ds [D.sl (dI .i64 l) m, iD (↑a + 1)]))]) (nx' := 1) (by kernel_rfl) ⟨by omega, by omega⟩ ?_
    have hx3 : (((0 : Int) ≤ ((List.getD l ((a + 1) - 1) 0) % n)) ∧ (((List.getD l ((a + 1) - 1) 0) % n) < n)) := emod_rng (List.getD l ((a + 1) - 1) 0) n (by omega)
    refine AW.rgs [.no, .no, .no, .no, .no, .no, .no, .no, .w, .n ((a + 1) - 1), .d (D.lit (.int .i64 (List.getD l ((a + 1) - 1) 0))), .no, .call [] (iV ((List.getD l ((a + 1) - 1) 0) % n)) [] 0 [] none, .no] [4] [0] (P := ((-9223372036854775808) ≤ ((((a : Nat) : Int) + 1) - 1) ∧ ((((a : Nat) : Int) + 1) - 1) ≤ 9223372036854775807) ∧ ((((((a : Nat) : Int) + 1) - 1) : Int) = ((((a + 1) - 1) : Nat) : Int)) ∧ (((a + 1) - 1) < m) ∧ ((List.drop ((a + 1) - 1) (dI .i64 l))[0]? = some (D.lit (.int .i64 (List.getD l ((a + 1) - 1) 0)))) ∧ (_)) (l' := [(4, iV ((List.getD l ((a + 1) - 1) 0) % n))]) (g' := [(0, some (52, .ds [D.sl (dI .i64 l) m, iD (↑a + 1)]))]) (nx' := 1) (by kernel_rfl) ⟨⟨by omega, by omega⟩, (by first | rfl | omega), (by omega), (dI_at _ _ _ (by first | omega | (simp only [bsD_len, dI_len, List.length_append, List.length_cons, List.length_nil, List.length_take, List.length_drop, List.length_replicate, List.length_set, List.length_map, List.length_reverse, Nat.mul_one] <;> omega) | rfl)), (M_Mod (List.getD l ((a + 1) - 1) 0) n (by omega))⟩ ?_
    refine AW.ret ?_
    exact EndP.of (.inr rfl) [] (P := (((((dkN l a n) : Nat) : Int) : Int) = ((List.getD l ((a + 1) - 1) 0) % n)) ∧ (([D.sl (dI .i64 l) m, iD (((dkA l a) : Nat) : Int)] : List D) = [D.sl (dI .i64 l) m, iD (((a : Nat) : Int) + 1)])) (by kernel_rfl) ⟨(by first | exact dkN_y (by omega) (by omega) | exact dkN_n (by omega) | (rw [dkA_y (by omega)]; rfl) | (rw [dkA_n (by omega)]) | omega | rfl), (by first | (rw [dkA_y (by omega)]; rfl) | rw [dkA_n (by omega)])⟩
  · have hx4 : ¬ (((a : Nat) : Int) < ((m : Nat) : Int)) := of_decide_eq_false hx1
    refine AW.rgs [.no, .call [0] (bV false) [(0, some (52, .ds [D.sl (dI .i64 l) m, iD ((a : Nat) : Int)]))] 1 [] none, .no] [0, 1, 7] [0] (P := (Fun 25 [.c (.ptr 0 0)] (toG [(0, some (52, .ds [D.sl (dI .i64 l) m, iD ((a : Nat) : Int)]))]) 1 (bV false) (toG [(0, some (52, .ds [D.sl (dI .i64 l) m, iD ((a : Nat) : Int)]))]) 1)) (l' := [(0, rV 0 0), (1, iV n), (7, bV true)]) (g' := [(0, some (52, .ds [D.sl (dI .i64 l) m, iD ↑a]))]) (nx' := 1) (by kernel_rfl) (by have h0 := (M_Left l m a); rw [hx1] at h0; exact h0) ?_
    refine AW.cond_t (.tmp (Look.of rfl)) ?_
    refine AW.rgs [.no] [4] [0] (P := True) (l' := [(4, iV 0)]) (g' := [(0, some (52, .ds [D.sl (dI .i64 l) m, iD ↑a]))]) (nx' := 1) (by kernel_rfl) trivial ?_
    refine AW.ret ?_
    exact EndP.of (.inr rfl) [] (P := (((((dkN l a n) : Nat) : Int) : Int) = 0) ∧ (([D.sl (dI .i64 l) m, iD (((dkA l a) : Nat) : Int)] : List D) = [D.sl (dI .i64 l) m, iD ((a : Nat) : Int)])) (by kernel_rfl) ⟨(by first | exact dkN_y (by omega) (by omega) | exact dkN_n (by omega) | (rw [dkA_y (by omega)]; rfl) | (rw [dkA_n (by omega)]) | omega | rfl), (by first | (rw [dkA_y (by omega)]; rfl) | rw [dkA_n (by omega)])⟩

set_option maxHeartbeats 4000000 in
set_option maxRecDepth 100000 in
theorem C_Clone_u8_1 (l : List Int) (n : Nat) (hn : List.length l = n) (hb : n ≤ 1000000) (h1 : 1 ≤ n) : Fun 20 [.c (.d (D.sl (dI .u8 l) n))] (toG []) 0 (oV 0 0 n 1) (toG [(0, some (5, .ds (dI .u8 l)))]) 1 := by
  refine Fun.mk (n := 8) Tryd.func20 rfl rfl (Nat.le_of_ble_eq_true rfl) ?_
  intro cx hcx
  refine AW.rgs [.no] [0] [] (P := True) (l' := [(0, sV .u8 l n)]) (g' := []) (nx' := 0) (by kernel_rfl) trivial ?_
  refine AW.seq ?_
  refine AW.rgs [.no, .no] [0, 4] [] (P := (1 ≤ n)) (l' := [(0, sV .u8 l n), (4, bV false)]) (g' := []) (nx' := 0) (by kernel_rfl) (by omega) ?_
  refine AW.cond_f (.tmp (Look.of rfl)) ?_
  refine AW.skip ?_
  refine AW.rgs [.no, .no, .ap none (0 + n) (dI .u8 l), .no] [2] [1] (P := ((dI .u8 l).length = n * 1) ∧ ((([] : List D) : List D).length = 0 * 1) ∧ ((0 + n) * 1 ≤ 140737488355328) ∧ ((0 : Nat) + n = (0 + n)) ∧ ((([] : List D) : List D) ++ (dI .u8 l) = (dI .u8 l))) (l' := [(2, oV 1 0 (0 + n) 1)]) (g' := [(1, some (5, .ds (dI .u8 l)))]) (nx' := 2) (by kernel_rfl) ⟨(by first | omega | (simp only [bsD_len, dI_len, List.length_append, List.length_cons, List.length_nil, List.length_take, List.length_drop, List.length_replicate, List.length_set, List.length_map, List.length_reverse, Nat.mul_one] <;> omega) | rfl), (by first | omega | (simp only [bsD_len, dI_len, List.length_append, List.length_cons, List.length_nil, List.length_take, List.length_drop, List.length_replicate, List.length_set, List.length_map, List.length_reverse, Nat.mul_one] <;> omega) | rfl), (by omega), (by omega), rfl⟩ ?_
  refine AW.ret ?_
  exact EndP.of (.inr rfl) [(0, 1)] (P := ((0 : Nat) = 0) ∧ ((n : Nat) = (0 + n)) ∧ (((dI .u8 l) : List D) = (dI .u8 l))) (by kernel_rfl) ⟨rfl, (by first | omega | rfl | assumption | (simp; done) | (simp; omega)), rfl⟩

set_option maxHeartbeats 4000000 in
set_option maxRecDepth 100000 in
theorem C_Clone_u8_2   : Fun 20 [.c (.d (D.lit (.slice none 0 0)))] (toG []) 0 (oV 0 0 0 1) (toG [(0, some (5, .ds ([] : List D)))]) 1 := by
  refine Fun.mk (n := 8) Tryd.func20 rfl rfl (Nat.le_of_ble_eq_true rfl) ?_
  intro cx hcx
  refine AW.rgs [.no] [0] [] (P := True) (l' := [(0, nV)]) (g' := []) (nx' := 0) (by kernel_rfl) trivial ?_
  refine AW.seq ?_
  refine AW.rgs [.no, .no] [0, 4] [] (P := True) (l' := [(0, nV), (4, bV true)]) (g' := []) (nx' := 0) (by kernel_rfl) trivial ?_
  refine AW.cond_t (.tmp (Look.of rfl)) ?_
  refine AW.rgs [.no] [2] [] (P := True) (l' := [(2, nV)]) (g' := []) (nx' := 0) (by kernel_rfl) trivial ?_
  refine AW.adoptS 2 1 5 rfl ?_
  refine AW.ret ?_
  exact EndP.of (.inr rfl) [] (P := ((0 : Nat) = 0) ∧ ((0 : Nat) = 0) ∧ ((([] : List D) : List D) = ([] : List D))) (by kernel_rfl) ⟨rfl, rfl, rfl⟩

set_option maxHeartbeats 4000000 in
set_option maxRecDepth 100000 in
theorem C_Clone_u8_3 (a : Addr) (cap : Nat) (hm : cap ≤ maxLen) : Fun 20 [.c (.d (D.lit (.slice (some a) 0 cap)))] (toG []) 0 (oV 0 0 0 1) (toG [(0, some (5, .ds ([] : List D)))]) 1 := by
  refine Fun.mk (n := 8) Tryd.func20 rfl rfl (Nat.le_of_ble_eq_true rfl) ?_
  intro cx hcx
  refine AW.rgs [.no] [0] [] (P := True) (l' := [(0, .e (.c (.d (D.lit (.slice (some a) 0 cap)))))]) (g' := []) (nx' := 0) (by kernel_rfl) trivial ?_
  refine AW.seq ?_
  refine AW.rgs [.no, .no] [0, 4] [] (P := True) (l' := [(0, .e (.c (.d (D.lit (.slice (some a) 0 cap))))), (4, bV false)]) (g' := []) (nx' := 0) (by kernel_rfl) trivial ?_
  refine AW.cond_f (.tmp (Look.of rfl)) ?_
  refine AW.skip ?_
  refine AW.relit 0 hm (fun h9 => by cases h9) rfl ?_
  refine AW.rgs [.no, .no, .ap none 0 ([] : List D), .no] [2] [1] (P := (([] : List D).length = 0 * 1) ∧ ((([] : List D) : List D).length = 0 * 1) ∧ ((0 + 0) * 1 ≤ 140737488355328) ∧ ((0 : Nat) + 0 = 0) ∧ ((([] : List D) : List D) ++ ([] : List D) = ([] : List D))) (l' := [(2, oV 1 0 0 1)]) (g' := [(1, some (5, .ds ([] : List D)))]) (nx' := 2) (by kernel_rfl) ⟨(by first | omega | (simp only [bsD_len, dI_len, List.length_append, List.length_cons, List.length_nil, List.length_take, List.length_drop, List.length_replicate, List.length_set, List.length_map, List.length_reverse, Nat.mul_one] <;> omega) | rfl), (by first | omega | (simp only [bsD_len, dI_len, List.length_append, List.length_cons, List.length_nil, List.length_take, List.length_drop, List.length_replicate, List.length_set, List.length_map, List.length_reverse, Nat.mul_one] <;> omega) | rfl), (by omega), (by omega), rfl⟩ ?_
  refine AW.ret ?_
  exact EndP.of (.inr rfl) [(0, 1)] (P := ((0 : Nat) = 0) ∧ ((0 : Nat) = 0) ∧ ((([] : List D) : List D) = ([] : List D))) (by kernel_rfl) ⟨rfl, rfl, rfl⟩

theorem C_Clone_u8 (l : List Int) (n : Nat) (hn : List.length l = n) (hb : n ≤ 1000000) : Fun 20 [.c (.d (D.sl (dI .u8 l) n))] (toG []) 0 (oV 0 0 n 1) (toG [(0, some (5, .ds (dI .u8 l)))]) 1 := by
  by_cases h1 : 1 ≤ n
  · exact C_Clone_u8_1 l n hn hb h1
  · obtain rfl : n = 0 := by omega
    obtain rfl : l = [] := List.eq_nil_of_length_eq_zero hn
    exact Fun.nil0 C_Clone_u8_2 (fun a cap hm => C_Clone_u8_3 a cap hm)

set_option maxHeartbeats 4000000 in
set_option maxRecDepth 100000 in
theorem C_Grow_u8 (m : Nat) (hb : m ≤ 10000000) : Fun 27 [.c (.d (D.lit (.slice none 0 0))), iE ((m : Nat) : Int)] (toG []) 0 (oV 0 0 0 1) (toG [(0, some (5, .ds ([] : List D)))]) 1 := by
  refine Fun.mk (n := 27) Tryd.func27 rfl rfl (Nat.le_of_ble_eq_true rfl) ?_
  intro cx hcx
  refine AW.rgs [.no] [0, 1] [] (P := True) (l' := [(0, nV), (1, iV ↑m)]) (g' := []) (nx' := 0) (by kernel_rfl) trivial ?_
  refine AW.seq ?_
  refine AW.rgs [.no, .b false] [0, 1, 6] [] (P := (¬ (((m : Nat) : Int) < 0))) (l' := [(0, nV), (1, iV ↑m), (6, bV false)]) (g' := []) (nx' := 0) (by kernel_rfl) (by omega) ?_
  refine AW.cond_f (.tmp (Look.of rfl)) ?_
  refine AW.skip ?_
  refine AW.seq ?_
  refine AW.rgs [.no, .no, .no, .no, .no, .w, .w, .no] [0, 1] [] (P := ((-9223372036854775808) ≤ (0 : Int) ∧ (0 : Int) ≤ 9223372036854775807) ∧ ((-9223372036854775808) ≤ (((m : Nat) : Int) - 0) ∧ (((m : Nat) : Int) - 0) ≤ 9223372036854775807)) (l' := [(0, nV), (1, iV (↑m - 0))]) (g' := []) (nx' := 0) (by kernel_rfl) ⟨⟨by omega, by omega⟩, ⟨by omega, by omega⟩⟩ ?_
  by_cases hx1 : ((0 : Int) < (((m : Nat) : Int) - 0))
  · refine AW.rgs [.no, .b true] [0, 1, 16] [] (P := (((0 : Int) < (((m : Nat) : Int) - 0)))) (l' := [(0, nV), (1, iV (↑m - 0)), (16, bV true)]) (g' := []) (nx' := 0) (by kernel_rfl) (by omega) ?_
    refine AW.cond_t (.tmp (Look.of rfl)) ?_
    refine AW.rg [.no, .no, .no, .no, .no, .az (m - 0) 0 (dI .u8 (List.replicate (m - 0) 0)), .no, .no, .mk 0 0 ([] : List D), .no] [0] [0] (P := ((0 : Nat) = 0) ∧ ((0 : Int) = ((0 : Nat) : Int)) ∧ (((((m : Nat) : Int) - 0) : Int) = (((m - 0) : Nat) : Int)) ∧ ((m - 0) * 1 ≤ 140737488355328) ∧ (List.replicate (m - 0) (D.lit (.int .u8 0)) = dI .u8 (List.replicate (m - 0) 0)) ∧ ((0 : Int) = 0) ∧ (1 ≤ (m - 0)) ∧ ((0 : Nat) ≤ (m - 0)) ∧ (List.take (0 * 1) ((dI .u8 (List.replicate (m - 0) 0)) : List D) = ([] : List D))) (l' := [(0, oV 0 0 0 1)]) (g' := [(0, some (5, .ds ([] : List D)))]) (nx' := 1) (by kernel_rfl) ⟨rfl, (by omega), (by first | rfl | omega), (by omega), (dI_rep _ _ _), rfl, (by omega), (by omega), (by rw [Nat.zero_mul]; rfl)⟩ ?_
    refine AW.rgs [.no, .no] [4] [0] (P := True) (l' := [(4, oV 0 0 0 1)]) (g' := [(0, some (5, .ds ([] : List D)))]) (nx' := 1) (by kernel_rfl) trivial ?_
    refine AW.ret ?_
    exact EndP.of (.inr rfl) [] (P := ((0 : Nat) = 0) ∧ ((0 : Nat) = 0) ∧ ((([] : List D) : List D) = ([] : List D))) (by kernel_rfl) ⟨rfl, rfl, rfl⟩
  · refine AW.rgs [.no, .b false] [0, 1, 16] [] (P := (¬ ((0 : Int) < (((m : Nat) : Int) - 0)))) (l' := [(0, nV), (1, iV (↑m - 0)), (16, bV false)]) (g' := []) (nx' := 0) (by kernel_rfl) (by omega) ?_
    refine AW.cond_f (.tmp (Look.of rfl)) ?_
    refine AW.skip ?_
    refine AW.rgs [.no, .no] [4] [] (P := True) (l' := [(4, nV)]) (g' := []) (nx' := 0) (by kernel_rfl) trivial ?_
    refine AW.adoptS 4 1 5 rfl ?_
    refine AW.ret ?_
    exact EndP.of (.inr rfl) [] (P := ((0 : Nat) = 0) ∧ ((0 : Nat) = 0) ∧ ((([] : List D) : List D) = ([] : List D))) (by kernel_rfl) ⟨rfl, rfl, rfl⟩

set_option maxHeartbeats 4000000 in
set_option maxRecDepth 100000 in
theorem C_Concat_u8 (l m : List Int) (n k : Nat) (hn : List.length l = n) (hk : List.length m = k) (hb : n ≤ 1000000) (hb2 : k ≤ 1000000) : Fun 22 [.c (.d (D.sl [D.sl (dI .u8 l) n, D.sl (dI .u8 m) k] 2))] (toG []) 0 (oV 0 0 (n + k) 1) (toG [(0, some (5, .ds (dI .u8 (l ++ m))))]) 1 := by
  refine Fun.mk (n := 36) Tryd.func22 rfl rfl (Nat.le_of_ble_eq_true rfl) ?_
  intro cx hcx
  refine AW.rgs [.no] [0] [] (P := True) (l' := [(0, .e (.c (.d (D.sl [D.sl (dI .u8 l) n, D.sl (dI .u8 m) k] 2))))]) (g' := []) (nx' := 0) (by kernel_rfl) trivial ?_
  refine AW.rgs [.no] [0, 3] [] (P := True) (l' := [(0, .e (.c (.d (D.sl [D.sl (dI .u8 l) n, D.sl (dI .u8 m) k] 2)))), (3, iV 0)]) (g' := []) (nx' := 0) (by kernel_rfl) trivial ?_
  refine AW.seq ?_
  refine AW.rgs [.no, .no, .no] [0, 3, 9, 10, 11] [] (P := True) (l' := [(0, .e (.c (.d (D.sl [D.sl (dI .u8 l) n, D.sl (dI .u8 m) k] 2)))), (3, iV 0), (9, .e (.c (.d (D.sl [D.sl (dI .u8 l) n, D.sl (dI .u8 m) k] 2)))), (10, iV 2), (11, iV 0)]) (g' := []) (nx' := 0) (by kernel_rfl) trivial ?_
  refine AW.block ?_
  refine AW.rounds 3 ?_
  refine AWr.s ?_
  refine AW.rgs [.b true] [0, 3, 9, 10, 11, 12] [] (P := (((0 : Int) < 2))) (l' := [(0, .e (.c (.d (D.sl [D.sl (dI .u8 l) n, D.sl (dI .u8 m) k] 2)))), (3, iV 0), (9, .e (.c (.d (D.sl [D.sl (dI .u8 l) n, D.sl (dI .u8 m) k] 2)))), (10, iV 2), (11, iV 0), (12, bV true)]) (g' := []) (nx' := 0) (by kernel_rfl) (by omega) ?_
  refine AW.seq ?_
  refine AW.cond_t (.tmp (Look.of rfl)) ?_
  refine AW.skip ?_
  refine AW.seq ?_
  refine AW.block ?_
  refine AW.rgs [.n 0, .no, .no] [0, 3, 5, 9, 10, 11] [] (P := ((0 : Int) = 0) ∧ ((0 : Nat) < 2)) (l' := [(0, .e (.c (.d (D.sl [D.sl (dI .u8 l) n, D.sl (dI .u8 m) k] 2)))), (3, iV 0), (5, sV .u8 l n), (9, .e (.c (.d (D.sl [D.sl (dI .u8 l) n, D.sl (dI .u8 m) k] 2)))), (10, iV 2), (11, iV 0)]) (g' := []) (nx' := 0) (by kernel_rfl) ⟨rfl, (by omega)⟩ ?_
  refine AW.rgs [.no, .no, .no, .wi ((n : Nat) : Int), .no] [0, 3, 9, 10, 11] [] (P := ((-9223372036854775808) ≤ (0 + ((n : Nat) : Int)) ∧ (0 + ((n : Nat) : Int)) ≤ 9223372036854775807) ∧ (((0 + ((n : Nat) : Int)) : Int) = ((n : Nat) : Int))) (l' := [(0, .e (.c (.d (D.sl [D.sl (dI .u8 l) n, D.sl (dI .u8 m) k] 2)))), (3, iV ↑n), (9, .e (.c (.d (D.sl [D.sl (dI .u8 l) n, D.sl (dI .u8 m) k] 2)))), (10, iV 2), (11, iV 0)]) (g' := []) (nx' := 0) (by kernel_rfl) ⟨⟨by omega, by omega⟩, (by omega)⟩ ?_
  refine AW.rgs [.no, .b false] [0, 3, 9, 10, 11, 20] [] (P := (¬ (((n : Nat) : Int) < 0))) (l' := [(0, .e (.c (.d (D.sl [D.sl (dI .u8 l) n, D.sl (dI .u8 m) k] 2)))), (3, iV ↑n), (9, .e (.c (.d (D.sl [D.sl (dI .u8 l) n, D.sl (dI .u8 m) k] 2)))), (10, iV 2), (11, iV 0), (20, bV false)]) (g' := []) (nx' := 0) (by kernel_rfl) (by omega) ?_
  refine AW.cond_f (.tmp (Look.of rfl)) ?_
  refine AW.skip ?_
  refine AW.rg [.w, .no] [0, 3, 9, 10, 11] [] (P := ((-9223372036854775808) ≤ (1 : Int) ∧ (1 : Int) ≤ 9223372036854775807)) (l' := [(0, .e (.c (.d (D.sl [D.sl (dI .u8 l) n, D.sl (dI .u8 m) k] 2)))), (3, iV ↑n), (9, .e (.c (.d (D.sl [D.sl (dI .u8 l) n, D.sl (dI .u8 m) k] 2)))), (10, iV 2), (11, iV 1)]) (g' := []) (nx' := 0) (by kernel_rfl) ⟨by omega, by omega⟩ ?_
  refine AWr.s ?_
  refine AW.rgs [.b true] [0, 3, 9, 10, 11, 12] [] (P := (((1 : Int) < 2))) (l' := [(0, .e (.c (.d (D.sl [D.sl (dI .u8 l) n, D.sl (dI .u8 m) k] 2)))), (3, iV ↑n), (9, .e (.c (.d (D.sl [D.sl (dI .u8 l) n, D.sl (dI .u8 m) k] 2)))), (10, iV 2), (11, iV 1), (12, bV true)]) (g' := []) (nx' := 0) (by kernel_rfl) (by omega) ?_
  refine AW.seq ?_
  refine AW.cond_t (.tmp (Look.of rfl)) ?_
  refine AW.skip ?_
  refine AW.seq ?_
  refine AW.block ?_
  refine AW.rgs [.n 1, .no, .no] [0, 3, 5, 9, 10, 11] [] (P := ((1 : Int) = 1) ∧ ((1 : Nat) < 2)) (l' := [(0, .e (.c (.d (D.sl [D.sl (dI .u8 l) n, D.sl (dI .u8 m) k] 2)))), (3, iV ↑n), (5, sV .u8 m k), (9, .e (.c (.d (D.sl [D.sl (dI .u8 l) n, D.sl (dI .u8 m) k] 2)))), (10, iV 2), (11, iV 1)]) (g' := []) (nx' := 0) (by kernel_rfl) ⟨rfl, (by omega)⟩ ?_
  refine AW.rgs [.no, .no, .no, .wi (((n + k) : Nat) : Int), .no] [0, 3, 9, 10, 11] [] (P := ((-9223372036854775808) ≤ (((n : Nat) : Int) + ((k : Nat) : Int)) ∧ (((n : Nat) : Int) + ((k : Nat) : Int)) ≤ 9223372036854775807) ∧ (((((n : Nat) : Int) + ((k : Nat) : Int)) : Int) = (((n + k) : Nat) : Int))) (l' := [(0, .e (.c (.d (D.sl [D.sl (dI .u8 l) n, D.sl (dI .u8 m) k] 2)))), (3, iV (((n + k) : Nat) : Int)), (9, .e (.c (.d (D.sl [D.sl (dI .u8 l) n, D.sl (dI .u8 m) k] 2)))), (10, iV 2), (11, iV 1)]) (g' := []) (nx' := 0) (by kernel_rfl) ⟨⟨by omega, by omega⟩, (by omega)⟩ ?_
  refine AW.rgs [.no, .b false] [0, 3, 9, 10, 11, 20] [] (P := (¬ ((((n + k) : Nat) : Int) < 0))) (l' := [(0, .e (.c (.d (D.sl [D.sl (dI .u8 l) n, D.sl (dI .u8 m) k] 2)))), (3, iV (((n + k) : Nat) : Int)), (9, .e (.c (.d (D.sl [D.sl (dI .u8 l) n, D.sl (dI .u8 m) k] 2)))), (10, iV 2), (11, iV 1), (20, bV false)]) (g' := []) (nx' := 0) (by kernel_rfl) (by omega) ?_
  refine AW.cond_f (.tmp (Look.of rfl)) ?_
  refine AW.skip ?_
  refine AW.rg [.w, .no] [0, 3, 9, 10, 11] [] (P := ((-9223372036854775808) ≤ (2 : Int) ∧ (2 : Int) ≤ 9223372036854775807)) (l' := [(0, .e (.c (.d (D.sl [D.sl (dI .u8 l) n, D.sl (dI .u8 m) k] 2)))), (3, iV (((n + k) : Nat) : Int)), (9, .e (.c (.d (D.sl [D.sl (dI .u8 l) n, D.sl (dI .u8 m) k] 2)))), (10, iV 2), (11, iV 2)]) (g' := []) (nx' := 0) (by kernel_rfl) ⟨by omega, by omega⟩ ?_
  refine AWr.s ?_
  refine AW.rgs [.b false] [0, 3, 9, 10, 11, 12] [] (P := (¬ ((2 : Int) < 2))) (l' := [(0, .e (.c (.d (D.sl [D.sl (dI .u8 l) n, D.sl (dI .u8 m) k] 2)))), (3, iV (((n + k) : Nat) : Int)), (9, .e (.c (.d (D.sl [D.sl (dI .u8 l) n, D.sl (dI .u8 m) k] 2)))), (10, iV 2), (11, iV 2), (12, bV false)]) (g' := []) (nx' := 0) (by kernel_rfl) (by omega) ?_
  refine AW.seq ?_
  refine AW.cond_f (.tmp (Look.of rfl)) ?_
  refine AW.exit ?_
  refine AW.rgs [.no, .call [] (oV 0 0 0 1) [(0, some (5, .ds ([] : List D)))] 1 [some [D.lit (.bool true)]] none, .no] [0, 6] [0] (P := (_)) (l' := [(0, .e (.c (.d (D.sl [D.sl (dI .u8 l) n, D.sl (dI .u8 m) k] 2)))), (6, oV 0 0 0 1)]) (g' := [(0, some (5, .ds ([] : List D)))]) (nx' := 1) (by kernel_rfl) (C_Grow_u8 (n + k) (by omega)) ?_
  refine AW.seq ?_
  refine AW.rgs [.no, .no, .no] [6, 25, 26, 27] [0] (P := True) (l' := [(6, oV 0 0 0 1), (25, .e (.c (.d (D.sl [D.sl (dI .u8 l) n, D.sl (dI .u8 m) k] 2)))), (26, iV 2), (27, iV 0)]) (g' := [(0, some (5, .ds ([] : List D)))]) (nx' := 1) (by kernel_rfl) trivial ?_
  refine AW.block ?_
  refine AW.rounds 3 ?_
  refine AWr.s ?_
  refine AW.rgs [.b true] [6, 25, 26, 27, 28] [0] (P := (((0 : Int) < 2))) (l' := [(6, oV 0 0 0 1), (25, .e (.c (.d (D.sl [D.sl (dI .u8 l) n, D.sl (dI .u8 m) k] 2)))), (26, iV 2), (27, iV 0), (28, bV true)]) (g' := [(0, some (5, .ds ([] : List D)))]) (nx' := 1) (by kernel_rfl) (by omega) ?_
  refine AW.seq ?_
  refine AW.cond_t (.tmp (Look.of rfl)) ?_
  refine AW.skip ?_
  refine AW.seq ?_
  refine AW.block ?_
  refine AW.rgs [.n 0, .no, .no] [6, 8, 25, 26, 27] [0] (P := ((0 : Int) = 0) ∧ ((0 : Nat) < 2)) (l' := [(6, oV 0 0 0 1), (8, sV .u8 l n), (25, .e (.c (.d (D.sl [D.sl (dI .u8 l) n, D.sl (dI .u8 m) k] 2)))), (26, iV 2), (27, iV 0)]) (g' := [(0, some (5, .ds ([] : List D)))]) (nx' := 1) (by kernel_rfl) ⟨rfl, (by omega)⟩ ?_
  refine AW.rg [.no, .no, .ap none (0 + n) (dI .u8 l), .no] [6, 25, 26, 27] [1] (P := ((dI .u8 l).length = n * 1) ∧ ((([] : List D) : List D).length = 0 * 1) ∧ ((0 + n) * 1 ≤ 140737488355328) ∧ ((0 : Nat) + n = (0 + n)) ∧ ((([] : List D) : List D) ++ (dI .u8 l) = (dI .u8 l))) (l' := [(6, oV 1 0 (0 + n) 1), (25, .e (.c (.d (D.sl [D.sl (dI .u8 l) n, D.sl (dI .u8 m) k] 2)))), (26, iV 2), (27, iV 0)]) (g' := [(1, some (5, .ds (dI .u8 l)))]) (nx' := 2) (by kernel_rfl) ⟨(by first | omega | (simp only [bsD_len, dI_len, List.length_append, List.length_cons, List.length_nil, List.length_take, List.length_drop, List.length_replicate, List.length_set, List.length_map, List.length_reverse, Nat.mul_one] <;> omega) | rfl), (by first | omega | (simp only [bsD_len, dI_len, List.length_append, List.length_cons, List.length_nil, List.length_take, List.length_drop, List.length_replicate, List.length_set, List.length_map, List.length_reverse, Nat.mul_one] <;> omega) | rfl), (by omega), (by omega), rfl⟩ ?_
  refine AW.rg [.w, .no] [6, 25, 26, 27] [1] (P := ((-9223372036854775808) ≤ (1 : Int) ∧ (1 : Int) ≤ 9223372036854775807)) (l' := [(6, oV 1 0 (0 + n) 1), (25, .e (.c (.d (D.sl [D.sl (dI .u8 l) n, D.sl (dI .u8 m) k] 2)))), (26, iV 2), (27, iV 1)]) (g' := [(1, some (5, .ds (dI .u8 l)))]) (nx' := 2) (by kernel_rfl) ⟨by omega, by omega⟩ ?_
  refine AWr.s ?_
  refine AW.rgs [.b true] [6, 25, 26, 27, 28] [1] (P := (((1 : Int) < 2))) (l' := [(6, oV 1 0 (0 + n) 1), (25, .e (.c (.d (D.sl [D.sl (dI .u8 l) n, D.sl (dI .u8 m) k] 2)))), (26, iV 2), (27, iV 1), (28, bV true)]) (g' := [(1, some (5, .ds (dI .u8 l)))]) (nx' := 2) (by kernel_rfl) (by omega) ?_
  refine AW.seq ?_
  refine AW.cond_t (.tmp (Look.of rfl)) ?_
  refine AW.skip ?_
  refine AW.seq ?_
  refine AW.block ?_
  refine AW.rgs [.n 1, .no, .no] [6, 8, 25, 26, 27] [1] (P := ((1 : Int) = 1) ∧ ((1 : Nat) < 2)) (l' := [(6, oV 1 0 (0 + n) 1), (8, sV .u8 m k), (25, .e (.c (.d (D.sl [D.sl (dI .u8 l) n, D.sl (dI .u8 m) k] 2)))), (26, iV 2), (27, iV 1)]) (g' := [(1, some (5, .ds (dI .u8 l)))]) (nx' := 2) (by kernel_rfl) ⟨rfl, (by omega)⟩ ?_
  refine AW.rg [.no, .no, .ap none ((0 + n) + k) (dI .u8 (l ++ m)), .no] [6, 25, 26, 27] [2] (P := ((dI .u8 m).length = k * 1) ∧ (((dI .u8 l) : List D).length = (0 + n) * 1) ∧ (((0 + n) + k) * 1 ≤ 140737488355328) ∧ ((0 + n) + k = ((0 + n) + k)) ∧ (((dI .u8 l) : List D) ++ (dI .u8 m) = (dI .u8 (l ++ m)))) (l' := [(6, oV 2 0 ((0 + n) + k) 1), (25, .e (.c (.d (D.sl [D.sl (dI .u8 l) n, D.sl (dI .u8 m) k] 2)))), (26, iV 2), (27, iV 1)]) (g' := [(2, some (5, .ds (dI .u8 (l ++ m))))]) (nx' := 3) (by kernel_rfl) ⟨(by first | omega | (simp only [bsD_len, dI_len, List.length_append, List.length_cons, List.length_nil, List.length_take, List.length_drop, List.length_replicate, List.length_set, List.length_map, List.length_reverse, Nat.mul_one] <;> omega) | rfl), (by first | omega | (simp only [bsD_len, dI_len, List.length_append, List.length_cons, List.length_nil, List.length_take, List.length_drop, List.length_replicate, List.length_set, List.length_map, List.length_reverse, Nat.mul_one] <;> omega) | rfl), (by omega), (by omega), (dI_app .u8 l m)⟩ ?_
  refine AW.rg [.w, .no] [6, 25, 26, 27] [2] (P := ((-9223372036854775808) ≤ (2 : Int) ∧ (2 : Int) ≤ 9223372036854775807)) (l' := [(6, oV 2 0 ((0 + n) + k) 1), (25, .e (.c (.d (D.sl [D.sl (dI .u8 l) n, D.sl (dI .u8 m) k] 2)))), (26, iV 2), (27, iV 2)]) (g' := [(2, some (5, .ds (dI .u8 (l ++ m))))]) (nx' := 3) (by kernel_rfl) ⟨by omega, by omega⟩ ?_
  refine AWr.s ?_
  refine AW.rgs [.b false] [6, 25, 26, 27, 28] [2] (P := (¬ ((2 : Int) < 2))) (l' := [(6, oV 2 0 ((0 + n) + k) 1), (25, .e (.c (.d (D.sl [D.sl (dI .u8 l) n, D.sl (dI .u8 m) k] 2)))), (26, iV 2), (27, iV 2), (28, bV false)]) (g' := [(2, some (5, .ds (dI .u8 (l ++ m))))]) (nx' := 3) (by kernel_rfl) (by omega) ?_
  refine AW.seq ?_
  refine AW.cond_f (.tmp (Look.of rfl)) ?_
  refine AW.exit ?_
  refine AW.rgs [.no, .no] [2] [2] (P := True) (l' := [(2, oV 2 0 ((0 + n) + k) 1)]) (g' := [(2, some (5, .ds (dI .u8 (l ++ m))))]) (nx' := 3) (by kernel_rfl) trivial ?_
  refine AW.ret ?_
  exact EndP.of (.inr rfl) [(0, 2)] (P := ((0 : Nat) = 0) ∧ (((n + k) : Nat) = ((0 + n) + k)) ∧ (((dI .u8 (l ++ m)) : List D) = (dI .u8 (l ++ m)))) (by kernel_rfl) ⟨rfl, (by first | omega | rfl | assumption | (simp; done) | (simp; omega)), rfl⟩

set_option maxHeartbeats 4000000 in
set_option maxRecDepth 100000 in
theorem C_Concat_u83 (la lb lc : List Int) (na nb nc : Nat) (ha : List.length la = na) (hb : List.length lb = nb) (hc : List.length lc = nc) (ba : na ≤ 1000000) (bb : nb ≤ 1000000) (bc : nc ≤ 1000000) : Fun 22 [.c (.d (D.sl [D.sl (dI .u8 la) na, D.sl (dI .u8 lb) nb, D.sl (dI .u8 lc) nc] 3))] (toG []) 0 (oV 0 0 ((na + nb) + nc) 1) (toG [(0, some (5, .ds (dI .u8 ((la ++ lb) ++ lc))))]) 1 := by
  refine Fun.mk (n := 36) Tryd.func22 rfl rfl (Nat.le_of_ble_eq_true rfl) ?_
  intro cx hcx
  refine AW.rgs [.no] [0] [] (P := True) (l' := [(0, .e (.c (.d (D.sl [D.sl (dI .u8 la) na, D.sl (dI .u8 lb) nb, D.sl (dI .u8 lc) nc] 3))))]) (g' := []) (nx' := 0) (by kernel_rfl) trivial ?_
  refine AW.rgs [.no] [0, 3] [] (P := True) (l' := [(0, .e (.c (.d (D.sl [D.sl (dI .u8 la) na, D.sl (dI .u8 lb) nb, D.sl (dI .u8 lc) nc] 3)))), (3, iV 0)]) (g' := []) (nx' := 0) (by kernel_rfl) trivial ?_
  refine AW.seq ?_
  refine AW.rgs [.no, .no, .no] [0, 3, 9, 10, 11] [] (P := True) (l' := [(0, .e (.c (.d (D.sl [D.sl (dI .u8 la) na, D.sl (dI .u8 lb) nb, D.sl (dI .u8 lc) nc] 3)))), (3, iV 0), (9, .e (.c (.d (D.sl [D.sl (dI .u8 la) na, D.sl (dI .u8 lb) nb, D.sl (dI .u8 lc) nc] 3)))), (10, iV 3), (11, iV 0)]) (g' := []) (nx' := 0) (by kernel_rfl) trivial ?_
  refine AW.block ?_
  refine AW.rounds 4 ?_
  refine AWr.s ?_
  refine AW.rgs [.b true] [0, 3, 9, 10, 11, 12] [] (P := (((0 : Int) < 3))) (l' := [(0, .e (.c (.d (D.sl [D.sl (dI .u8 la) na, D.sl (dI .u8 lb) nb, D.sl (dI .u8 lc) nc] 3)))), (3, iV 0), (9, .e (.c (.d (D.sl [D.sl (dI .u8 la) na, D.sl (dI .u8 lb) nb, D.sl (dI .u8 lc) nc] 3)))), (10, iV 3), (11, iV 0), (12, bV true)]) (g' := []) (nx' := 0) (by kernel_rfl) (by omega) ?_
  refine AW.seq ?_
  refine AW.cond_t (.tmp (Look.of rfl)) ?_
  refine AW.skip ?_
  refine AW.seq ?_
  refine AW.block ?_
  refine AW.rgs [.n 0, .no, .no] [0, 3, 5, 9, 10, 11] [] (P := ((0 : Int) = 0) ∧ ((0 : Nat) < 3)) (l' := [(0, .e (.c (.d (D.sl [D.sl (dI .u8 la) na, D.sl (dI .u8 lb) nb, D.sl (dI .u8 lc) nc] 3)))), (3, iV 0), (5, sV .u8 la na), (9, .e (.c (.d (D.sl [D.sl (dI .u8 la) na, D.sl (dI .u8 lb) nb, D.sl (dI .u8 lc) nc] 3)))), (10, iV 3), (11, iV 0)]) (g' := []) (nx' := 0) (by kernel_rfl) ⟨rfl, (by omega)⟩ ?_
  refine AW.rgs [.no, .no, .no, .wi ((na : Nat) : Int), .no] [0, 3, 9, 10, 11] [] (P := ((-9223372036854775808) ≤ (0 + ((na : Nat) : Int)) ∧ (0 + ((na : Nat) : Int)) ≤ 9223372036854775807) ∧ (((0 + ((na : Nat) : Int)) : Int) = ((na : Nat) : Int))) (l' := [(0, .e (.c (.d (D.sl [D.sl (dI .u8 la) na, D.sl (dI .u8 lb) nb, D.sl (dI .u8 lc) nc] 3)))), (3, iV ↑na), (9, .e (.c (.d (D.sl [D.sl (dI .u8 la) na, D.sl (dI .u8 lb) nb, D.sl (dI .u8 lc) nc] 3)))), (10, iV 3), (11, iV 0)]) (g' := []) (nx' := 0) (by kernel_rfl) ⟨⟨by omega, by omega⟩, (by omega)⟩ ?_
  refine AW.rgs [.no, .b false] [0, 3, 9, 10, 11, 20] [] (P := (¬ (((na : Nat) : Int) < 0))) (l' := [(0, .e (.c (.d (D.sl [D.sl (dI .u8 la) na, D.sl (dI .u8 lb) nb, D.sl (dI .u8 lc) nc] 3)))), (3, iV ↑na), (9, .e (.c (.d (D.sl [D.sl (dI .u8 la) na, D.sl (dI .u8 lb) nb, D.sl (dI .u8 lc) nc] 3)))), (10, iV 3), (11, iV 0), (20, bV false)]) (g' := []) (nx' := 0) (by kernel_rfl) (by omega) ?_
  refine AW.cond_f (.tmp (Look.of rfl)) ?_
  refine AW.skip ?_
  refine AW.rg [.w, .no] [0, 3, 9, 10, 11] [] (P := ((-9223372036854775808) ≤ (1 : Int) ∧ (1 : Int) ≤ 9223372036854775807)) (l' := [(0, .e (.c (.d (D.sl [D.sl (dI .u8 la) na, D.sl (dI .u8 lb) nb, D.sl (dI .u8 lc) nc] 3)))), (3, iV ↑na), (9, .e (.c (.d (D.sl [D.sl (dI .u8 la) na, D.sl (dI .u8 lb) nb, D.sl (dI .u8 lc) nc] 3)))), (10, iV 3), (11, iV 1)]) (g' := []) (nx' := 0) (by kernel_rfl) ⟨by omega, by omega⟩ ?_
  refine AWr.s ?_
  refine AW.rgs [.b true] [0, 3, 9, 10, 11, 12] [] (P := (((1 : Int) < 3))) (l' := [(0, .e (.c (.d (D.sl [D.sl (dI .u8 la) na, D.sl (dI .u8 lb) nb, D.sl (dI .u8 lc) nc] 3)))), (3, iV ↑na), (9, .e (.c (.d (D.sl [D.sl (dI .u8 la) na, D.sl (dI .u8 lb) nb, D.sl (dI .u8 lc) nc] 3)))), (10, iV 3), (11, iV 1), (12, bV true)]) (g' := []) (nx' := 0) (by kernel_rfl) (by omega) ?_
  refine AW.seq ?_
  refine AW.cond_t (.tmp (Look.of rfl)) ?_
  refine AW.skip ?_
  refine AW.seq ?_
  refine AW.block ?_
  refine AW.rgs [.n 1, .no, .no] [0, 3, 5, 9, 10, 11] [] (P := ((1 : Int) = 1) ∧ ((1 : Nat) < 3)) (l' := [(0, .e (.c (.d (D.sl [D.sl (dI .u8 la) na, D.sl (dI .u8 lb) nb, D.sl (dI .u8 lc) nc] 3)))), (3, iV ↑na), (5, sV .u8 lb nb), (9, .e (.c (.d (D.sl [D.sl (dI .u8 la) na, D.sl (dI .u8 lb) nb, D.sl (dI .u8 lc) nc] 3)))), (10, iV 3), (11, iV 1)]) (g' := []) (nx' := 0) (by kernel_rfl) ⟨rfl, (by omega)⟩ ?_
  refine AW.rgs [.no, .no, .no, .wi (((na + nb) : Nat) : Int), .no] [0, 3, 9, 10, 11] [] (P := ((-9223372036854775808) ≤ (((na : Nat) : Int) + ((nb : Nat) : Int)) ∧ (((na : Nat) : Int) + ((nb : Nat) : Int)) ≤ 9223372036854775807) ∧ (((((na : Nat) : Int) + ((nb : Nat) : Int)) : Int) = (((na + nb) : Nat) : Int))) (l' := [(0, .e (.c (.d (D.sl [D.sl (dI .u8 la) na, D.sl (dI .u8 lb) nb, D.sl (dI .u8 lc) nc] 3)))), (3, iV (((na + nb) : Nat) : Int)), (9, .e (.c (.d (D.sl [D.sl (dI .u8 la) na, D.sl (dI .u8 lb) nb, D.sl (dI .u8 lc) nc] 3)))), (10, iV 3), (11, iV 1)]) (g' := []) (nx' := 0) (by kernel_rfl) ⟨⟨by omega, by omega⟩, (by omega)⟩ ?_
  refine AW.rgs [.no, .b false] [0, 3, 9, 10, 11, 20] [] (P := (¬ ((((na + nb) : Nat) : Int) < 0))) (l' := [(0, .e (.c (.d (D.sl [D.sl (dI .u8 la) na, D.sl (dI .u8 lb) nb, D.sl (dI .u8 lc) nc] 3)))), (3, iV (((na + nb) : Nat) : Int)), (9, .e (.c (.d (D.sl [D.sl (dI .u8 la) na, D.sl (dI .u8 lb) nb, D.sl (dI .u8 lc) nc] 3)))), (10, iV 3), (11, iV 1), (20, bV false)]) (g' := []) (nx' := 0) (by kernel_rfl) (by omega) ?_
  refine AW.cond_f (.tmp (Look.of rfl)) ?_
  refine AW.skip ?_
  refine AW.rg [.w, .no] [0, 3, 9, 10, 11] [] (P := ((-9223372036854775808) ≤ (2 : Int) ∧ (2 : Int) ≤ 9223372036854775807)) (l' := [(0, .e (.c (.d (D.sl [D.sl (dI .u8 la) na, D.sl (dI .u8 lb) nb, D.sl (dI .u8 lc) nc] 3)))), (3, iV (((na + nb) : Nat) : Int)), (9, .e (.c (.d (D.sl [D.sl (dI .u8 la) na, D.sl (dI .u8 lb) nb, D.sl (dI .u8 lc) nc] 3)))), (10, iV 3), (11, iV 2)]) (g' := []) (nx' := 0) (by kernel_rfl) ⟨by omega, by omega⟩ ?_
  refine AWr.s ?_
  refine AW.rgs [.b true] [0, 3, 9, 10, 11, 12] [] (P := (((2 : Int) < 3))) (l' := [(0, .e (.c (.d (D.sl [D.sl (dI .u8 la) na, D.sl (dI .u8 lb) nb, D.sl (dI .u8 lc) nc] 3)))), (3, iV (((na + nb) : Nat) : Int)), (9, .e (.c (.d (D.sl [D.sl (dI .u8 la) na, D.sl (dI .u8 lb) nb, D.sl (dI .u8 lc) nc] 3)))), (10, iV 3), (11, iV 2), (12, bV true)]) (g' := []) (nx' := 0) (by kernel_rfl) (by omega) ?_
  refine AW.seq ?_
  refine AW.cond_t (.tmp (Look.of rfl)) ?_
  refine AW.skip ?_
  refine AW.seq ?_
  refine AW.block ?_
  refine AW.rgs [.n 2, .no, .no] [0, 3, 5, 9, 10, 11] [] (P := ((2 : Int) = 2) ∧ ((2 : Nat) < 3)) (l' := [(0, .e (.c (.d (D.sl [D.sl (dI .u8 la) na, D.sl (dI .u8 lb) nb, D.sl (dI .u8 lc) nc] 3)))), (3, iV (((na + nb) : Nat) : Int)), (5, sV .u8 lc nc), (9, .e (.c (.d (D.sl [D.sl (dI .u8 la) na, D.sl (dI .u8 lb) nb, D.sl (dI .u8 lc) nc] 3)))), (10, iV 3), (11, iV 2)]) (g' := []) (nx' := 0) (by kernel_rfl) ⟨rfl, (by omega)⟩ ?_
  refine AW.rgs [.no, .no, .no, .wi ((((na + nb) + nc) : Nat) : Int), .no] [0, 3, 9, 10, 11] [] (P := ((-9223372036854775808) ≤ ((((na + nb) : Nat) : Int) + ((nc : Nat) : Int)) ∧ ((((na + nb) : Nat) : Int) + ((nc : Nat) : Int)) ≤ 9223372036854775807) ∧ ((((((na + nb) : Nat) : Int) + ((nc : Nat) : Int)) : Int) = ((((na + nb) + nc) : Nat) : Int))) (l' := [(0, .e (.c (.d (D.sl [D.sl (dI .u8 la) na, D.sl (dI .u8 lb) nb, D.sl (dI .u8 lc) nc] 3)))), (3, iV ((((na + nb) + nc) : Nat) : Int)), (9, .e (.c (.d (D.sl [D.sl (dI .u8 la) na, D.sl (dI .u8 lb) nb, D.sl (dI .u8 lc) nc] 3)))), (10, iV 3), (11, iV 2)]) (g' := []) (nx' := 0) (by kernel_rfl) ⟨⟨by omega, by omega⟩, (by omega)⟩ ?_
  refine AW.rgs [.no, .b false] [0, 3, 9, 10, 11, 20] [] (P := (¬ (((((na + nb) + nc) : Nat) : Int) < 0))) (l' := [(0, .e (.c (.d (D.sl [D.sl (dI .u8 la) na, D.sl (dI .u8 lb) nb, D.sl (dI .u8 lc) nc] 3)))), (3, iV ((((na + nb) + nc) : Nat) : Int)), (9, .e (.c (.d (D.sl [D.sl (dI .u8 la) na, D.sl (dI .u8 lb) nb, D.sl (dI .u8 lc) nc] 3)))), (10, iV 3), (11, iV 2), (20, bV false)]) (g' := []) (nx' := 0) (by kernel_rfl) (by omega) ?_
  refine AW.cond_f (.tmp (Look.of rfl)) ?_
  refine AW.skip ?_
  refine AW.rg [.w, .no] [0, 3, 9, 10, 11] [] (P := ((-9223372036854775808) ≤ (3 : Int) ∧ (3 : Int) ≤ 9223372036854775807)) (l' := [(0, .e (.c (.d (D.sl [D.sl (dI .u8 la) na, D.sl (dI .u8 lb) nb, D.sl (dI .u8 lc) nc] 3)))), (3, iV ((((na + nb) + nc) : Nat) : Int)), (9, .e (.c (.d (D.sl [D.sl (dI .u8 la) na, D.sl (dI .u8 lb) nb, D.sl (dI .u8 lc) nc] 3)))), (10, iV 3), (11, iV 3)]) (g' := []) (nx' := 0) (by kernel_rfl) ⟨by omega, by omega⟩ ?_
  refine AWr.s ?_
  refine AW.rgs [.b false] [0, 3, 9, 10, 11, 12] [] (P := (¬ ((3 : Int) < 3))) (l' := [(0, .e (.c (.d (D.sl [D.sl (dI .u8 la) na, D.sl (dI .u8 lb) nb, D.sl (dI .u8 lc) nc] 3)))), (3, iV ((((na + nb) + nc) : Nat) : Int)), (9, .e (.c (.d (D.sl [D.sl (dI .u8 la) na, D.sl (dI .u8 lb) nb, D.sl (dI .u8 lc) nc] 3)))), (10, iV 3), (11, iV 3), (12, bV false)]) (g' := []) (nx' := 0) (by kernel_rfl) (by omega) ?_
  refine AW.seq ?_
  refine AW.cond_f (.tmp (Look.of rfl)) ?_
  refine AW.exit ?_
  refine AW.rgs [.no, .call [] (oV 0 0 0 1) [(0, some (5, .ds ([] : List D)))] 1 [some [D.lit (.bool true)]] none, .no] [0, 6] [0] (P := (_)) (l' := [(0, .e (.c (.d (D.sl [D.sl (dI .u8 la) na, D.sl (dI .u8 lb) nb, D.sl (dI .u8 lc) nc] 3)))), (6, oV 0 0 0 1)]) (g' := [(0, some (5, .ds ([] : List D)))]) (nx' := 1) (by kernel_rfl) (C_Grow_u8 ((na + nb) + nc) (by omega)) ?_
  refine AW.seq ?_
  refine AW.rgs [.no, .no, .no] [6, 25, 26, 27] [0] (P := True) (l' := [(6, oV 0 0 0 1), (25, .e (.c (.d (D.sl [D.sl (dI .u8 la) na, D.sl (dI .u8 lb) nb, D.sl (dI .u8 lc) nc] 3)))), (26, iV 3), (27, iV 0)]) (g' := [(0, some (5, .ds ([] : List D)))]) (nx' := 1) (by kernel_rfl) trivial ?_
  refine AW.block ?_
  refine AW.rounds 4 ?_
  refine AWr.s ?_
  refine AW.rgs [.b true] [6, 25, 26, 27, 28] [0] (P := (((0 : Int) < 3))) (l' := [(6, oV 0 0 0 1), (25, .e (.c (.d (D.sl [D.sl (dI .u8 la) na, D.sl (dI .u8 lb) nb, D.sl (dI .u8 lc) nc] 3)))), (26, iV 3), (27, iV 0), (28, bV true)]) (g' := [(0, some (5, .ds ([] : List D)))]) (nx' := 1) (by kernel_rfl) (by omega) ?_
  refine AW.seq ?_
  refine AW.cond_t (.tmp (Look.of rfl)) ?_
  refine AW.skip ?_
  refine AW.seq ?_
  refine AW.block ?_
  refine AW.rgs [.n 0, .no, .no] [6, 8, 25, 26, 27] [0] (P := ((0 : Int) = 0) ∧ ((0 : Nat) < 3)) (l' := [(6, oV 0 0 0 1), (8, sV .u8 la na), (25, .e (.c (.d (D.sl [D.sl (dI .u8 la) na, D.sl (dI .u8 lb) nb, D.sl (dI .u8 lc) nc] 3)))), (26, iV 3), (27, iV 0)]) (g' := [(0, some (5, .ds ([] : List D)))]) (nx' := 1) (by kernel_rfl) ⟨rfl, (by omega)⟩ ?_
  refine AW.rg [.no, .no, .ap none (0 + na) (dI .u8 la), .no] [6, 25, 26, 27] [1] (P := ((dI .u8 la).length = na * 1) ∧ ((([] : List D) : List D).length = 0 * 1) ∧ ((0 + na) * 1 ≤ 140737488355328) ∧ ((0 : Nat) + na = (0 + na)) ∧ ((([] : List D) : List D) ++ (dI .u8 la) = (dI .u8 la))) (l' := [(6, oV 1 0 (0 + na) 1), (25, .e (.c (.d (D.sl [D.sl (dI .u8 la) na, D.sl (dI .u8 lb) nb, D.sl (dI .u8 lc) nc] 3)))), (26, iV 3), (27, iV 0)]) (g' := [(1, some (5, .ds (dI .u8 la)))]) (nx' := 2) (by kernel_rfl) ⟨(by first | omega | (simp only [bsD_len, dI_len, List.length_append, List.length_cons, List.length_nil, List.length_take, List.length_drop, List.length_replicate, List.length_set, List.length_map, List.length_reverse, Nat.mul_one] <;> omega) | rfl), (by first | omega | (simp only [bsD_len, dI_len, List.length_append, List.length_cons, List.length_nil, List.length_take, List.length_drop, List.length_replicate, List.length_set, List.length_map, List.length_reverse, Nat.mul_one] <;> omega) | rfl), (by omega), (by omega), rfl⟩ ?_
  refine AW.rg [.w, .no] [6, 25, 26, 27] [1] (P := ((-9223372036854775808) ≤ (1 : Int) ∧ (1 : Int) ≤ 9223372036854775807)) (l' := [(6, oV 1 0 (0 + na) 1), (25, .e (.c (.d (D.sl [D.sl (dI .u8 la) na, D.sl (dI .u8 lb) nb, D.sl (dI .u8 lc) nc] 3)))), (26, iV 3), (27, iV 1)]) (g' := [(1, some (5, .ds (dI .u8 la)))]) (nx' := 2) (by kernel_rfl) ⟨by omega, by omega⟩ ?_
  refine AWr.s ?_
  refine AW.rgs [.b true] [6, 25, 26, 27, 28] [1] (P := (((1 : Int) < 3))) (l' := [(6, oV 1 0 (0 + na) 1), (25, .e (.c (.d (D.sl [D.sl (dI .u8 la) na, D.sl (dI .u8 lb) nb, D.sl (dI .u8 lc) nc] 3)))), (26, iV 3), (27, iV 1), (28, bV true)]) (g' := [(1, some (5, .ds (dI .u8 la)))]) (nx' := 2) (by kernel_rfl) (by omega) ?_
  refine AW.seq ?_
  refine AW.cond_t (.tmp (Look.of rfl)) ?_
  refine AW.skip ?_
  refine AW.seq ?_
  refine AW.block ?_
  refine AW.rgs [.n 1, .no, .no] [6, 8, 25, 26, 27] [1] (P := ((1 : Int) = 1) ∧ ((1 : Nat) < 3)) (l' := [(6, oV 1 0 (0 + na) 1), (8, sV .u8 lb nb), (25, .e (.c (.d (D.sl [D.sl (dI .u8 la) na, D.sl (dI .u8 lb) nb, D.sl (dI .u8 lc) nc] 3)))), (26, iV 3), (27, iV 1)]) (g' := [(1, some (5, .ds (dI .u8 la)))]) (nx' := 2) (by kernel_rfl) ⟨rfl, (by omega)⟩ ?_
  refine AW.rg [.no, .no, .ap none ((0 + na) + nb) (dI .u8 (la ++ lb)), .no] [6, 25, 26, 27] [2] (P := ((dI .u8 lb).length = nb * 1) ∧ (((dI .u8 la) : List D).length = (0 + na) * 1) ∧ (((0 + na) + nb) * 1 ≤ 140737488355328) ∧ ((0 + na) + nb = ((0 + na) + nb)) ∧ (((dI .u8 la) : List D) ++ (dI .u8 lb) = (dI .u8 (la ++ lb)))) (l' := [(6, oV 2 0 ((0 + na) + nb) 1), (25, .e (.c (.d (D.sl [D.sl (dI .u8 la) na, D.sl (dI .u8 lb) nb, D.sl (dI .u8 lc) nc] 3)))), (26, iV 3), (27, iV 1)]) (g' := [(2, some (5, .ds (dI .u8 (la ++ lb))))]) (nx' := 3) (by kernel_rfl) ⟨(by first | omega | (simp only [bsD_len, dI_len, List.length_append, List.length_cons, List.length_nil, List.length_take, List.length_drop, List.length_replicate, List.length_set, List.length_map, List.length_reverse, Nat.mul_one] <;> omega) | rfl), (by first | omega | (simp only [bsD_len, dI_len, List.length_append, List.length_cons, List.length_nil, List.length_take, List.length_drop, List.length_replicate, List.length_set, List.length_map, List.length_reverse, Nat.mul_one] <;> omega) | rfl), (by omega), (by omega), (dI_app .u8 la lb)⟩ ?_
  refine AW.rg [.w, .no] [6, 25, 26, 27] [2] (P := ((-9223372036854775808) ≤ (2 : Int) ∧ (2 : Int) ≤ 9223372036854775807)) (l' := [(6, oV 2 0 ((0 + na) + nb) 1), (25, .e (.c (.d (D.sl [D.sl (dI .u8 la) na, D.sl (dI .u8 lb) nb, D.sl (dI .u8 lc) nc] 3)))), (26, iV 3), (27, iV 2)]) (g' := [(2, some (5, .ds (dI .u8 (la ++ lb))))]) (nx' := 3) (by kernel_rfl) ⟨by omega, by omega⟩ ?_
  refine AWr.s ?_
  refine AW.rgs [.b true] [6, 25, 26, 27, 28] [2] (P := (((2 : Int) < 3))) (l' := [(6, oV 2 0 ((0 + na) + nb) 1), (25, .e (.c (.d (D.sl [D.sl (dI .u8 la) na, D.sl (dI .u8 lb) nb, D.sl (dI .u8 lc) nc] 3)))), (26, iV 3), (27, iV 2), (28, bV true)]) (g' := [(2, some (5, .ds (dI .u8 (la ++ lb))))]) (nx' := 3) (by kernel_rfl) (by omega) ?_
  refine AW.seq ?_
  refine AW.cond_t (.tmp (Look.of rfl)) ?_
  refine AW.skip ?_
  refine AW.seq ?_
  refine AW.block ?_
  refine AW.rgs [.n 2, .no, .no] [6, 8, 25, 26, 27] [2] (P := ((2 : Int) = 2) ∧ ((2 : Nat) < 3)) (l' := [(6, oV 2 0 ((0 + na) + nb) 1), (8, sV .u8 lc nc), (25, .e (.c (.d (D.sl [D.sl (dI .u8 la) na, D.sl (dI .u8 lb) nb, D.sl (dI .u8 lc) nc] 3)))), (26, iV 3), (27, iV 2)]) (g' := [(2, some (5, .ds (dI .u8 (la ++ lb))))]) (nx' := 3) (by kernel_rfl) ⟨rfl, (by omega)⟩ ?_
  refine AW.rg [.no, .no, .ap none (((0 + na) + nb) + nc) (dI .u8 ((la ++ lb) ++ lc)), .no] [6, 25, 26, 27] [3] (P := ((dI .u8 lc).length = nc * 1) ∧ (((dI .u8 (la ++ lb)) : List D).length = ((0 + na) + nb) * 1) ∧ ((((0 + na) + nb) + nc) * 1 ≤ 140737488355328) ∧ (((0 + na) + nb) + nc = (((0 + na) + nb) + nc)) ∧ (((dI .u8 (la ++ lb)) : List D) ++ (dI .u8 lc) = (dI .u8 ((la ++ lb) ++ lc)))) (l' := [(6, oV 3 0 (((0 + na) + nb) + nc) 1), (25, .e (.c (.d (D.sl [D.sl (dI .u8 la) na, D.sl (dI .u8 lb) nb, D.sl (dI .u8 lc) nc] 3)))), (26, iV 3), (27, iV 2)]) (g' := [(3, some (5, .ds (dI .u8 ((la ++ lb) ++ lc))))]) (nx' := 4) (by kernel_rfl) ⟨(by first | omega | (simp only [bsD_len, dI_len, List.length_append, List.length_cons, List.length_nil, List.length_take, List.length_drop, List.length_replicate, List.length_set, List.length_map, List.length_reverse, Nat.mul_one] <;> omega) | rfl), (by first | omega | (simp only [bsD_len, dI_len, List.length_append, List.length_cons, List.length_nil, List.length_take, List.length_drop, List.length_replicate, List.length_set, List.length_map, List.length_reverse, Nat.mul_one] <;> omega) | rfl), (by omega), (by omega), (dI_app .u8 (la ++ lb) lc)⟩ ?_
  refine AW.rg [.w, .no] [6, 25, 26, 27] [3] (P := ((-9223372036854775808) ≤ (3 : Int) ∧ (3 : Int) ≤ 9223372036854775807)) (l' := [(6, oV 3 0 (((0 + na) + nb) + nc) 1), (25, .e (.c (.d (D.sl [D.sl (dI .u8 la) na, D.sl (dI .u8 lb) nb, D.sl (dI .u8 lc) nc] 3)))), (26, iV 3), (27, iV 3)]) (g' := [(3, some (5, .ds (dI .u8 ((la ++ lb) ++ lc))))]) (nx' := 4) (by kernel_rfl) ⟨by omega, by omega⟩ ?_
  refine AWr.s ?_
  refine AW.rgs [.b false] [6, 25, 26, 27, 28] [3] (P := (¬ ((3 : Int) < 3))) (l' := [(6, oV 3 0 (((0 + na) + nb) + nc) 1), (25, .e (.c (.d (D.sl [D.sl (dI .u8 la) na, D.sl (dI .u8 lb) nb, D.sl (dI .u8 lc) nc] 3)))), (26, iV 3), (27, iV 3), (28, bV false)]) (g' := [(3, some (5, .ds (dI .u8 ((la ++ lb) ++ lc))))]) (nx' := 4) (by kernel_rfl) (by omega) ?_
  refine AW.seq ?_
  refine AW.cond_f (.tmp (Look.of rfl)) ?_
  refine AW.exit ?_
  refine AW.rgs [.no, .no] [2] [3] (P := True) (l' := [(2, oV 3 0 (((0 + na) + nb) + nc) 1)]) (g' := [(3, some (5, .ds (dI .u8 ((la ++ lb) ++ lc))))]) (nx' := 4) (by kernel_rfl) trivial ?_
  refine AW.ret ?_
  exact EndP.of (.inr rfl) [(0, 3)] (P := ((0 : Nat) = 0) ∧ ((((na + nb) + nc) : Nat) = (((0 + na) + nb) + nc)) ∧ (((dI .u8 ((la ++ lb) ++ lc)) : List D) = (dI .u8 ((la ++ lb) ++ lc)))) (by kernel_rfl) ⟨rfl, (by first | omega | rfl | assumption | (simp; done) | (simp; omega)), rfl⟩

set_option maxHeartbeats 4000000 in
set_option maxRecDepth 100000 in
theorem C_Concat_u84 (la lb lc ld : List Int) (na nb nc nd : Nat) (ha : List.length la = na) (hb : List.length lb = nb) (hc : List.length lc = nc) (hd : List.length ld = nd) (ba : na ≤ 1000000) (bb : nb ≤ 1000000) (bc : nc ≤ 1000000) (bd : nd ≤ 1000000) : Fun 22 [.c (.d (D.sl [D.sl (dI .u8 la) na, D.sl (dI .u8 lb) nb, D.sl (dI .u8 lc) nc, D.sl (dI .u8 ld) nd] 4))] (toG []) 0 (oV 0 0 (((na + nb) + nc) + nd) 1) (toG [(0, some (5, .ds (dI .u8 (((la ++ lb) ++ lc) ++ ld))))]) 1 := by
  refine Fun.mk (n := 36) Tryd.func22 rfl rfl (Nat.le_of_ble_eq_true rfl) ?_
  intro cx hcx
  refine AW.rgs [.no] [0] [] (P := True) (l' := [(0, .e (.c (.d (D.sl [D.sl (dI .u8 la) na, D.sl (dI .u8 lb) nb, D.sl (dI .u8 lc) nc, D.sl (dI .u8 ld) nd] 4))))]) (g' := []) (nx' := 0) (by kernel_rfl) trivial ?_
  refine AW.rgs [.no] [0, 3] [] (P := True) (l' := [(0, .e (.c (.d (D.sl [D.sl (dI .u8 la) na, D.sl (dI .u8 lb) nb, D.sl (dI .u8 lc) nc, D.sl (dI .u8 ld) nd] 4)))), (3, iV 0)]) (g' := []) (nx' := 0) (by kernel_rfl) trivial ?_
  refine AW.seq ?_
  refine AW.rgs [.no, .no, .no] [0, 3, 9, 10, 11] [] (P := True) (l' := [(0, .e (.c (.d (D.sl [D.sl (dI .u8 la) na, D.sl (dI .u8 lb) nb, D.sl (dI .u8 lc) nc, D.sl (dI .u8 ld) nd] 4)))), (3, iV 0), (9, .e (.c (.d (D.sl [D.sl (dI .u8 la) na, D.sl (dI .u8 lb) nb, D.sl (dI .u8 lc) nc, D.sl (dI .u8 ld) nd] 4)))), (10, iV 4), (11, iV 0)]) (g' := []) (nx' := 0) (by kernel_rfl) trivial ?_
  refine AW.block ?_
  refine AW.rounds 5 ?_
  refine AWr.s ?_
  refine AW.rgs [.b true] [0, 3, 9, 10, 11, 12] [] (P := (((0 : Int) < 4))) (l' := [(0, .e (.c (.d (D.sl [D.sl (dI .u8 la) na, D.sl (dI .u8 lb) nb, D.sl (dI .u8 lc) nc, D.sl (dI .u8 ld) nd] 4)))), (3, iV 0), (9, .e (.c (.d (D.sl [D.sl (dI .u8 la) na, D.sl (dI .u8 lb) nb, D.sl (dI .u8 lc) nc, D.sl (dI .u8 ld) nd] 4)))), (10, iV 4), (11, iV 0), (12, bV true)]) (g' := []) (nx' := 0) (by kernel_rfl) (by omega) ?_
  refine AW.seq ?_
  refine AW.cond_t (.tmp (Look.of rfl)) ?_
  refine AW.skip ?_
  refine AW.seq ?_
  refine AW.block ?_
  refine AW.rgs [.n 0, .no, .no] [0, 3, 5, 9, 10, 11] [] (P := ((0 : Int) = 0) ∧ ((0 : Nat) < 4)) (l' := [(0, .e (.c (.d (D.sl [D.sl (dI .u8 la) na, D.sl (dI .u8 lb) nb, D.sl (dI .u8 lc) nc, D.sl (dI .u8 ld) nd] 4)))), (3, iV 0), (5, sV .u8 la na), (9, .e (.c (.d (D.sl [D.sl (dI .u8 la) na, D.sl (dI .u8 lb) nb, D.sl (dI .u8 lc) nc, D.sl (dI .u8 ld) nd] 4)))), (10, iV 4), (11, iV 0)]) (g' := []) (nx' := 0) (by kernel_rfl) ⟨rfl, (by omega)⟩ ?_
  refine AW.rgs [.no, .no, .no, .wi ((na : Nat) : Int), .no] [0, 3, 9, 10, 11] [] (P := ((-9223372036854775808) ≤ (0 + ((na : Nat) : Int)) ∧ (0 + ((na : Nat) : Int)) ≤ 9223372036854775807) ∧ (((0 + ((na : Nat) : Int)) : Int) = ((na : Nat) : Int))) (l' := [(0, .e (.c (.d (D.sl [D.sl (dI .u8 la) na, D.sl (dI .u8 lb) nb, D.sl (dI .u8 lc) nc, D.sl (dI .u8 ld) nd] 4)))), (3, iV ↑na), (9, .e (.c (.d (D.sl [D.sl (dI .u8 la) na, D.sl (dI .u8 lb) nb, D.sl (dI .u8 lc) nc, D.sl (dI .u8 ld) nd] 4)))), (10, iV 4), (11, iV 0)]) (g' := []) (nx' := 0) (by kernel_rfl) ⟨⟨by omega, by omega⟩, (by omega)⟩ ?_
  refine AW.rgs [.no, .b false] [0, 3, 9, 10, 11, 20] [] (P := (¬ (((na : Nat) : Int) < 0))) (l' := [(0, .e (.c (.d (D.sl [D.sl (dI .u8 la) na, D.sl (dI .u8 lb) nb, D.sl (dI .u8 lc) nc, D.sl (dI .u8 ld) nd] 4)))), (3, iV ↑na), (9, .e (.c (.d (D.sl [D.sl (dI .u8 la) na, D.sl (dI .u8 lb) nb, D.sl (dI .u8 lc) nc, D.sl (dI .u8 ld) nd] 4)))), (10, iV 4), (11, iV 0), (20, bV false)]) (g' := []) (nx' := 0) (by kernel_rfl) (by omega) ?_
  refine AW.cond_f (.tmp (Look.of rfl)) ?_
  refine AW.skip ?_
  refine AW.rg [.w, .no] [0, 3, 9, 10, 11] [] (P := ((-9223372036854775808) ≤ (1 : Int) ∧ (1 : Int) ≤ 9223372036854775807)) (l' := [(0, .e (.c (.d (D.sl [D.sl (dI .u8 la) na, D.sl (dI .u8 lb) nb, D.sl (dI .u8 lc) nc, D.sl (dI .u8 ld) nd] 4)))), (3, iV ↑na), (9, .e (.c (.d (D.sl [D.sl (dI .u8 la) na, D.sl (dI .u8 lb) nb, D.sl (dI .u8 lc) nc, D.sl (dI .u8 ld) nd] 4)))), (10, iV 4), (11, iV 1)]) (g' := []) (nx' := 0) (by kernel_rfl) ⟨by omega, by omega⟩ ?_
  refine AWr.s ?_
  refine AW.rgs [.b true] [0, 3, 9, 10, 11, 12] [] (P := (((1 : Int) < 4))) (l' := [(0, .e (.c (.d (D.sl [D.sl (dI .u8 la) na, D.sl (dI .u8 lb) nb, D.sl (dI .u8 lc) nc, D.sl (dI .u8 ld) nd] 4)))), (3, iV ↑na), (9, .e (.c (.d (D.sl [D.sl (dI .u8 la) na, D.sl (dI .u8 lb) nb, D.sl (dI .u8 lc) nc, D.sl (dI .u8 ld) nd] 4)))), (10, iV 4), (11, iV 1), (12, bV true)]) (g' := []) (nx' := 0) (by kernel_rfl) (by omega) ?_
  refine AW.seq ?_
  refine AW.cond_t (.tmp (Look.of rfl)) ?_
  refine AW.skip ?_
  refine AW.seq ?_
  refine AW.block ?_
  refine AW.rgs [.n 1, .no, .no] [0, 3, 5, 9, 10, 11] [] (P := ((1 : Int) = 1) ∧ ((1 : Nat) < 4)) (l' := [(0, .e (.c (.d (D.sl [D.sl (dI .u8 la) na, D.sl (dI .u8 lb) nb, D.sl (dI .u8 lc) nc, D.sl (dI .u8 ld) nd] 4)))), (3, iV ↑na), (5, sV .u8 lb nb), (9, .e (.c (.d (D.sl [D.sl (dI .u8 la) na, D.sl (dI .u8 lb) nb, D.sl (dI .u8 lc) nc, D.sl (dI .u8 ld) nd] 4)))), (10, iV 4), (11, iV 1)]) (g' := []) (nx' := 0) (by kernel_rfl) ⟨rfl, (by omega)⟩ ?_
  refine AW.rgs [.no, .no, .no, .wi (((na + nb) : Nat) : Int), .no] [0, 3, 9, 10, 11] [] (P := ((-9223372036854775808) ≤ (((na : Nat) : Int) + ((nb : Nat) : Int)) ∧ (((na : Nat) : Int) + ((nb : Nat) : Int)) ≤ 9223372036854775807) ∧ (((((na : Nat) : Int) + ((nb : Nat) : Int)) : Int) = (((na + nb) : Nat) : Int))) (l' := [(0, .e (.c (.d (D.sl [D.sl (dI .u8 la) na, D.sl (dI .u8 lb) nb, D.sl (dI .u8 lc) nc, D.sl (dI .u8 ld) nd] 4)))), (3, iV (((na + nb) : Nat) : Int)), (9, .e (.c (.d (D.sl [D.sl (dI .u8 la) na, D.sl (dI .u8 lb) nb, D.sl (dI .u8 lc) nc, D.sl (dI .u8 ld) nd] 4)))), (10, iV 4), (11, iV 1)]) (g' := []) (nx' := 0) (by kernel_rfl) ⟨⟨by omega, by omega⟩, (by omega)⟩ ?_
  refine AW.rgs [.no, .b false] [0, 3, 9, 10, 11, 20] [] (P := (¬ ((((na + nb) : Nat) : Int) < 0))) (l' := [(0, .e (.c (.d (D.sl [D.sl (dI .u8 la) na, D.sl (dI .u8 lb) nb, D.sl (dI .u8 lc) nc, D.sl (dI .u8 ld) nd] 4)))), (3, iV (((na + nb) : Nat) : Int)), (9, .e (.c (.d (D.sl [D.sl (dI .u8 la) na, D.sl (dI .u8 lb) nb, D.sl (dI .u8 lc) nc, D.sl (dI .u8 ld) nd] 4)))), (10, iV 4), (11, iV 1), (20, bV false)]) (g' := []) (nx' := 0) (by kernel_rfl) (by omega) ?_
  refine AW.cond_f (.tmp (Look.of rfl)) ?_
  refine AW.skip ?_
  refine AW.rg [.w, .no] [0, 3, 9, 10, 11] [] (P := ((-9223372036854775808) ≤ (2 : Int) ∧ (2 : Int) ≤ 9223372036854775807)) (l' := [(0, .e (.c (.d (D.sl [D.sl (dI .u8 la) na, D.sl (dI .u8 lb) nb, D.sl (dI .u8 lc) nc, D.sl (dI .u8 ld) nd] 4)))), (3, iV (((na + nb) : Nat) : Int)), (9, .e (.c (.d (D.sl [D.sl (dI .u8 la) na, D.sl (dI .u8 lb) nb, D.sl (dI .u8 lc) nc, D.sl (dI .u8 ld) nd] 4)))), (10, iV 4), (11, iV 2)]) (g' := []) (nx' := 0) (by kernel_rfl) ⟨by omega, by omega⟩ ?_
  refine AWr.s ?_
  refine AW.rgs [.b true] [0, 3, 9, 10, 11, 12] [] (P := (((2 : Int) < 4))) (l' := [(0, .e (.c (.d (D.sl [D.sl (dI .u8 la) na, D.sl (dI .u8 lb) nb, D.sl (dI .u8 lc) nc, D.sl (dI .u8 ld) nd] 4)))), (3, iV (((na + nb) : Nat) : Int)), (9, .e (.c (.d (D.sl [D.sl (dI .u8 la) na, D.sl (dI .u8 lb) nb, D.sl (dI .u8 lc) nc, D.sl (dI .u8 ld) nd] 4)))), (10, iV 4), (11, iV 2), (12, bV true)]) (g' := []) (nx' := 0) (by kernel_rfl) (by omega) ?_
  refine AW.seq ?_
  refine AW.cond_t (.tmp (Look.of rfl)) ?_
  refine AW.skip ?_
  refine AW.seq ?_
  refine AW.block ?_
  refine AW.rgs [.n 2, .no, .no] [0, 3, 5, 9, 10, 11] [] (P := ((2 : Int) = 2) ∧ ((2 : Nat) < 4)) (l' := [(0, .e (.c (.d (D.sl [D.sl (dI .u8 la) na, D.sl (dI .u8 lb) nb, D.sl (dI .u8 lc) nc, D.sl (dI .u8 ld) nd] 4)))), (3, iV (((na + nb) : Nat) : Int)), (5, sV .u8 lc nc), (9, .e (.c (.d (D.sl [D.sl (dI .u8 la) na, D.sl (dI .u8 lb) nb, D.sl (dI .u8 lc) nc, D.sl (dI .u8 ld) nd] 4)))), (10, iV 4), (11, iV 2)]) (g' := []) (nx' := 0) (by kernel_rfl) ⟨rfl, (by omega)⟩ ?_
  refine AW.rgs [.no, .no, .no, .wi ((((na + nb) + nc) : Nat) : Int), .no] [0, 3, 9, 10, 11] [] (P := ((-9223372036854775808) ≤ ((((na + nb) : Nat) : Int) + ((nc : Nat) : Int)) ∧ ((((na + nb) : Nat) : Int) + ((nc : Nat) : Int)) ≤ 9223372036854775807) ∧ ((((((na + nb) : Nat) : Int) + ((nc : Nat) : Int)) : Int) = ((((na + nb) + nc) : Nat) : Int))) (l' := [(0, .e (.c (.d (D.sl [D.sl (dI .u8 la) na, D.sl (dI .u8 lb) nb, D.sl (dI .u8 lc) nc, D.sl (dI .u8 ld) nd] 4)))), (3, iV ((((na + nb) + nc) : Nat) : Int)), (9, .e (.c (.d (D.sl [D.sl (dI .u8 la) na, D.sl (dI .u8 lb) nb, D.sl (dI .u8 lc) nc, D.sl (dI .u8 ld) nd] 4)))), (10, iV 4), (11, iV 2)]) (g' := []) (nx' := 0) (by kernel_rfl) ⟨⟨by omega, by omega⟩, (by omega)⟩ ?_
  refine AW.rgs [.no, .b false] [0, 3, 9, 10, 11, 20] [] (P := (¬ (((((na + nb) + nc) : Nat) : Int) < 0))) (l' := [(0, .e (.c (.d (D.sl [D.sl (dI .u8 la) na, D.sl (dI .u8 lb) nb, D.sl (dI .u8 lc) nc, D.sl (dI .u8 ld) nd] 4)))), (3, iV ((((na + nb) + nc) : Nat) : Int)), (9, .e (.c (.d (D.sl [D.sl (dI .u8 la) na, D.sl (dI .u8 lb) nb, D.sl (dI .u8 lc) nc, D.sl (dI .u8 ld) nd] 4)))), (10, iV 4), (11, iV 2), (20, bV false)]) (g' := []) (nx' := 0) (by kernel_rfl) (by omega) ?_
  refine AW.cond_f (.tmp (Look.of rfl)) ?_
  refine AW.skip ?_
  refine AW.rg [.w, .no] [0, 3, 9, 10, 11] [] (P := ((-9223372036854775808) ≤ (3 : Int) ∧ (3 : Int) ≤ 9223372036854775807)) (l' := [(0, .e (.c (.d (D.sl [D.sl (dI .u8 la) na, D.sl (dI .u8 lb) nb, D.sl (dI .u8 lc) nc, D.sl (dI .u8 ld) nd] 4)))), (3, iV ((((na + nb) + nc) : Nat) : Int)), (9, .e (.c (.d (D.sl [D.sl (dI .u8 la) na, D.sl (dI .u8 lb) nb, D.sl (dI .u8 lc) nc, D.sl (dI .u8 ld) nd] 4)))), (10, iV 4), (11, iV 3)]) (g' := []) (nx' := 0) (by kernel_rfl) ⟨by omega, by omega⟩ ?_
  refine AWr.s ?_
  refine AW.rgs [.b true] [0, 3, 9, 10, 11, 12] [] (P := (((3 : Int) < 4))) (l' := [(0, .e (.c (.d (D.sl [D.sl (dI .u8 la) na, D.sl (dI .u8 lb) nb, D.sl (dI .u8 lc) nc, D.sl (dI .u8 ld) nd] 4)))), (3, iV ((((na + nb) + nc) : Nat) : Int)), (9, .e (.c (.d (D.sl [D.sl (dI .u8 la) na, D.sl (dI .u8 lb) nb, D.sl (dI .u8 lc) nc, D.sl (dI .u8 ld) nd] 4)))), (10, iV 4), (11, iV 3), (12, bV true)]) (g' := []) (nx' := 0) (by kernel_rfl) (by omega) ?_
  refine AW.seq ?_
  refine AW.cond_t (.tmp (Look.of rfl)) ?_
  refine AW.skip ?_
  refine AW.seq ?_
  refine AW.block ?_
  refine AW.rgs [.n 3, .no, .no] [0, 3, 5, 9, 10, 11] [] (P := ((3 : Int) = 3) ∧ ((3 : Nat) < 4)) (l' := [(0, .e (.c (.d (D.sl [D.sl (dI .u8 la) na, D.sl (dI .u8 lb) nb, D.sl (dI .u8 lc) nc, D.sl (dI .u8 ld) nd] 4)))), (3, iV ((((na + nb) + nc) : Nat) : Int)), (5, sV .u8 ld nd), (9, .e (.c (.d (D.sl [D.sl (dI .u8 la) na, D.sl (dI .u8 lb) nb, D.sl (dI .u8 lc) nc, D.sl (dI .u8 ld) nd] 4)))), (10, iV 4), (11, iV 3)]) (g' := []) (nx' := 0) (by kernel_rfl) ⟨rfl, (by omega)⟩ ?_
  refine AW.rgs [.no, .no, .no, .wi (((((na + nb) + nc) + nd) : Nat) : Int), .no] [0, 3, 9, 10, 11] [] (P := ((-9223372036854775808) ≤ (((((na + nb) + nc) : Nat) : Int) + ((nd : Nat) : Int)) ∧ (((((na + nb) + nc) : Nat) : Int) + ((nd : Nat) : Int)) ≤ 9223372036854775807) ∧ (((((((na + nb) + nc) : Nat) : Int) + ((nd : Nat) : Int)) : Int) = (((((na + nb) + nc) + nd) : Nat) : Int))) (l' := [(0, .e (.c (.d (D.sl [D.sl (dI .u8 la) na, D.sl (dI .u8 lb) nb, D.sl (dI .u8 lc) nc, D.sl (dI .u8 ld) nd] 4)))), (3, iV (((((na + nb) + nc) + nd) : Nat) : Int)), (9, .e (.c (.d (D.sl [D.sl (dI .u8 la) na, D.sl (dI .u8 lb) nb, D.sl (dI .u8 lc) nc, D.sl (dI .u8 ld) nd] 4)))), (10, iV 4), (11, iV 3)]) (g' := []) (nx' := 0) (by kernel_rfl) ⟨⟨by omega, by omega⟩, (by omega)⟩ ?_
  refine AW.rgs [.no, .b false] [0, 3, 9, 10, 11, 20] [] (P := (¬ ((((((na + nb) + nc) + nd) : Nat) : Int) < 0))) (l' := [(0, .e (.c (.d (D.sl [D.sl (dI .u8 la) na, D.sl (dI .u8 lb) nb, D.sl (dI .u8 lc) nc, D.sl (dI .u8 ld) nd] 4)))), (3, iV (((((na + nb) + nc) + nd) : Nat) : Int)), (9, .e (.c (.d (D.sl [D.sl (dI .u8 la) na, D.sl (dI .u8 lb) nb, D.sl (dI .u8 lc) nc, D.sl (dI .u8 ld) nd] 4)))), (10, iV 4), (11, iV 3), (20, bV false)]) (g' := []) (nx' := 0) (by kernel_rfl) (by omega) ?_
  refine AW.cond_f (.tmp (Look.of rfl)) ?_
  refine AW.skip ?_
  refine AW.rg [.w, .no] [0, 3, 9, 10, 11] [] (P := ((-9223372036854775808) ≤ (4 : Int) ∧ (4 : Int) ≤ 9223372036854775807)) (l' := [(0, .e (.c (.d (D.sl [D.sl (dI .u8 la) na, D.sl (dI .u8 lb) nb, D.sl (dI .u8 lc) nc, D.sl (dI .u8 ld) nd] 4)))), (3, iV (((((na + nb) + nc) + nd) : Nat) : Int)), (9, .e (.c (.d (D.sl [D.sl (dI .u8 la) na, D.sl (dI .u8 lb) nb, D.sl (dI .u8 lc) nc, D.sl (dI .u8 ld) nd] 4)))), (10, iV 4), (11, iV 4)]) (g' := []) (nx' := 0) (by kernel_rfl) ⟨by omega, by omega⟩ ?_
  refine AWr.s ?_
  refine AW.rgs [.b false] [0, 3, 9, 10, 11, 12] [] (P := (¬ ((4 : Int) < 4))) (l' := [(0, .e (.c (.d (D.sl [D.sl (dI .u8 la) na, D.sl (dI .u8 lb) nb, D.sl (dI .u8 lc) nc, D.sl (dI .u8 ld) nd] 4)))), (3, iV (((((na + nb) + nc) + nd) : Nat) : Int)), (9, .e (.c (.d (D.sl [D.sl (dI .u8 la) na, D.sl (dI .u8 lb) nb, D.sl (dI .u8 lc) nc, D.sl (dI .u8 ld) nd] 4)))), (10, iV 4), (11, iV 4), (12, bV false)]) (g' := []) (nx' := 0) (by kernel_rfl) (by omega) ?_
  refine AW.seq ?_
  refine AW.cond_f (.tmp (Look.of rfl)) ?_
  refine AW.exit ?_
  refine AW.rgs [.no, .call [] (oV 0 0 0 1) [(0, some (5, .ds ([] : List D)))] 1 [some [D.lit (.bool true)]] none, .no] [0, 6] [0] (P := (_)) (l' := [(0, .e (.c (.d (D.sl [D.sl (dI .u8 la) na, D.sl (dI .u8 lb) nb, D.sl (dI .u8 lc) nc, D.sl (dI .u8 ld) nd] 4)))), (6, oV 0 0 0 1)]) (g' := [(0, some (5, .ds ([] : List D)))]) (nx' := 1) (by kernel_rfl) (C_Grow_u8 (((na + nb) + nc) + nd) (by omega)) ?_
  refine AW.seq ?_
  refine AW.rgs [.no, .no, .no] [6, 25, 26, 27] [0] (P := True) (l' := [(6, oV 0 0 0 1), (25, .e (.c (.d (D.sl [D.sl (dI .u8 la) na, D.sl (dI .u8 lb) nb, D.sl (dI .u8 lc) nc, D.sl (dI .u8 ld) nd] 4)))), (26, iV 4), (27, iV 0)]) (g' := [(0, some (5, .ds ([] : List D)))]) (nx' := 1) (by kernel_rfl) trivial ?_
  refine AW.block ?_
  refine AW.rounds 5 ?_
  refine AWr.s ?_
  refine AW.rgs [.b true] [6, 25, 26, 27, 28] [0] (P := (((0 : Int) < 4))) (l' := [(6, oV 0 0 0 1), (25, .e (.c (.d (D.sl [D.sl (dI .u8 la) na, D.sl (dI .u8 lb) nb, D.sl (dI .u8 lc) nc, D.sl (dI .u8 ld) nd] 4)))), (26, iV 4), (27, iV 0), (28, bV true)]) (g' := [(0, some (5, .ds ([] : List D)))]) (nx' := 1) (by kernel_rfl) (by omega) ?_
  refine AW.seq ?_
  refine AW.cond_t (.tmp (Look.of rfl)) ?_
  refine AW.skip ?_
  refine AW.seq ?_
  refine AW.block ?_
  refine AW.rgs [.n 0, .no, .no] [6, 8, 25, 26, 27] [0] (P := ((0 : Int) = 0) ∧ ((0 : Nat) < 4)) (l' := [(6, oV 0 0 0 1), (8, sV .u8 la na), (25, .e (.c (.d (D.sl [D.sl (dI .u8 la) na, D.sl (dI .u8 lb) nb, D.sl (dI .u8 lc) nc, D.sl (dI .u8 ld) nd] 4)))), (26, iV 4), (27, iV 0)]) (g' := [(0, some (5, .ds ([] : List D)))]) (nx' := 1) (by kernel_rfl) ⟨rfl, (by omega)⟩ ?_
  refine AW.rg [.no, .no, .ap none (0 + na) (dI .u8 la), .no] [6, 25, 26, 27] [1] (P := ((dI .u8 la).length = na * 1) ∧ ((([] : List D) : List D).length = 0 * 1) ∧ ((0 + na) * 1 ≤ 140737488355328) ∧ ((0 : Nat) + na = (0 + na)) ∧ ((([] : List D) : List D) ++ (dI .u8 la) = (dI .u8 la))) (l' := [(6, oV 1 0 (0 + na) 1), (25, .e (.c (.d (D.sl [D.sl (dI .u8 la) na, D.sl (dI .u8 lb) nb, D.sl (dI .u8 lc) nc, D.sl (dI .u8 ld) nd] 4)))), (26, iV 4), (27, iV 0)]) (g' := [(1, some (5, .ds (dI .u8 la)))]) (nx' := 2) (by kernel_rfl) ⟨(by first | omega | (simp only [bsD_len, dI_len, List.length_append, List.length_cons, List.length_nil, List.length_take, List.length_drop, List.length_replicate, List.length_set, List.length_map, List.length_reverse, Nat.mul_one] <;> omega) | rfl), (by first | omega | (simp only [bsD_len, dI_len, List.length_append, List.length_cons, List.length_nil, List.length_take, List.length_drop, List.length_replicate, List.length_set, List.length_map, List.length_reverse, Nat.mul_one] <;> omega) | rfl), (by omega), (by omega), rfl⟩ ?_
  refine AW.rg [.w, .no] [6, 25, 26, 27] [1] (P := ((-9223372036854775808) ≤ (1 : Int) ∧ (1 : Int) ≤ 9223372036854775807)) (l' := [(6, oV 1 0 (0 + na) 1), (25, .e (.c (.d (D.sl [D.sl (dI .u8 la) na, D.sl (dI .u8 lb) nb, D.sl (dI .u8 lc) nc, D.sl (dI .u8 ld) nd] 4)))), (26, iV 4), (27, iV 1)]) (g' := [(1, some (5, .ds (dI .u8 la)))]) (nx' := 2) (by kernel_rfl) ⟨by omega, by omega⟩ ?_
  refine AWr.s ?_
  refine AW.rgs [.b true] [6, 25, 26, 27, 28] [1] (P := (((1 : Int) < 4))) (l' := [(6, oV 1 0 (0 + na) 1), (25, .e (.c (.d (D.sl [D.sl (dI .u8 la) na, D.sl (dI .u8 lb) nb, D.sl (dI .u8 lc) nc, D.sl (dI .u8 ld) nd] 4)))), (26, iV 4), (27, iV 1), (28, bV true)]) (g' := [(1, some (5, .ds (dI .u8 la)))]) (nx' := 2) (by kernel_rfl) (by omega) ?_
  refine AW.seq ?_
  refine AW.cond_t (.tmp (Look.of rfl)) ?_
  refine AW.skip ?_
  refine AW.seq ?_
  refine AW.block ?_
  refine AW.rgs [.n 1, .no, .no] [6, 8, 25, 26, 27] [1] (P := ((1 : Int) = 1) ∧ ((1 : Nat) < 4)) (l' := [(6, oV 1 0 (0 + na) 1), (8, sV .u8 lb nb), (25, .e (.c (.d (D.sl [D.sl (dI .u8 la) na, D.sl (dI .u8 lb) nb, D.sl (dI .u8 lc) nc, D.sl (dI .u8 ld) nd] 4)))), (26, iV 4), (27, iV 1)]) (g' := [(1, some (5, .ds (dI .u8 la)))]) (nx' := 2) (by kernel_rfl) ⟨rfl, (by omega)⟩ ?_
  refine AW.rg [.no, .no, .ap none ((0 + na) + nb) (dI .u8 (la ++ lb)), .no] [6, 25, 26, 27] [2] (P := ((dI .u8 lb).length = nb * 1) ∧ (((dI .u8 la) : List D).length = (0 + na) * 1) ∧ (((0 + na) + nb) * 1 ≤ 140737488355328) ∧ ((0 + na) + nb = ((0 + na) + nb)) ∧ (((dI .u8 la) : List D) ++ (dI .u8 lb) = (dI .u8 (la ++ lb)))) (l' := [(6, oV 2 0 ((0 + na) + nb) 1), (25, .e (.c (.d (D.sl [D.sl (dI .u8 la) na, D.sl (dI .u8 lb) nb, D.sl (dI .u8 lc) nc, D.sl (dI .u8 ld) nd] 4)))), (26, iV 4), (27, iV 1)]) (g' := [(2, some (5, .ds (dI .u8 (la ++ lb))))]) (nx' := 3) (by kernel_rfl) ⟨(by first | omega | (simp only [bsD_len, dI_len, List.length_append, List.length_cons, List.length_nil, List.length_take, List.length_drop, List.length_replicate, List.length_set, List.length_map, List.length_reverse, Nat.mul_one] <;> omega) | rfl), (by first | omega | (simp only [bsD_len, dI_len, List.length_append, List.length_cons, List.length_nil, List.length_take, List.length_drop, List.length_replicate, List.length_set, List.length_map, List.length_reverse, Nat.mul_one] <;> omega) | rfl), (by omega), (by omega), (dI_app .u8 la lb)⟩ ?_
  refine AW.rg [.w, .no] [6, 25, 26, 27] [2] (P := ((-9223372036854775808) ≤ (2 : Int) ∧ (2 : Int) ≤ 9223372036854775807)) (l' := [(6, oV 2 0 ((0 + na) + nb) 1), (25, .e (.c (.d (D.sl [D.sl (dI .u8 la) na, D.sl (dI .u8 lb) nb, D.sl (dI .u8 lc) nc, D.sl (dI .u8 ld) nd] 4)))), (26, iV 4), (27, iV 2)]) (g' := [(2, some (5, .ds (dI .u8 (la ++ lb))))]) (nx' := 3) (by kernel_rfl) ⟨by omega, by omega⟩ ?_
  refine AWr.s ?_
  refine AW.rgs [.b true] [6, 25, 26, 27, 28] [2] (P := (((2 : Int) < 4))) (l' := [(6, oV 2 0 ((0 + na) + nb) 1), (25, .e (.c (.d (D.sl [D.sl (dI .u8 la) na, D.sl (dI .u8 lb) nb, D.sl (dI .u8 lc) nc, D.sl (dI .u8 ld) nd] 4)))), (26, iV 4), (27, iV 2), (28, bV true)]) (g' := [(2, some (5, .ds (dI .u8 (la ++ lb))))]) (nx' := 3) (by kernel_rfl) (by omega) ?_
  refine AW.seq ?_
  refine AW.cond_t (.tmp (Look.of rfl)) ?_
  refine AW.skip ?_
  refine AW.seq ?_
  refine AW.block ?_
  refine AW.rgs [.n 2, .no, .no] [6, 8, 25, 26, 27] [2] (P := ((2 : Int) = 2) ∧ ((2 : Nat) < 4)) (l' := [(6, oV 2 0 ((0 + na) + nb) 1), (8, sV .u8 lc nc), (25, .e (.c (.d (D.sl [D.sl (dI .u8 la) na, D.sl (dI .u8 lb) nb, D.sl (dI .u8 lc) nc, D.sl (dI .u8 ld) nd] 4)))), (26, iV 4), (27, iV 2)]) (g' := [(2, some (5, .ds (dI .u8 (la ++ lb))))]) (nx' := 3) (by kernel_rfl) ⟨rfl, (by omega)⟩ ?_
  refine AW.rg [.no, .no, .ap none (((0 + na) + nb) + nc) (dI .u8 ((la ++ lb) ++ lc)), .no] [6, 25, 26, 27] [3] (P := ((dI .u8 lc).length = nc * 1) ∧ (((dI .u8 (la ++ lb)) : List D).length = ((0 + na) + nb) * 1) ∧ ((((0 + na) + nb) + nc) * 1 ≤ 140737488355328) ∧ (((0 + na) + nb) + nc = (((0 + na) + nb) + nc)) ∧ (((dI .u8 (la ++ lb)) : List D) ++ (dI .u8 lc) = (dI .u8 ((la ++ lb) ++ lc)))) (l' := [(6, oV 3 0 (((0 + na) + nb) + nc) 1), (25, .e (.c (.d (D.sl [D.sl (dI .u8 la) na, D.sl (dI .u8 lb) nb, D.sl (dI .u8 lc) nc, D.sl (dI .u8 ld) nd] 4)))), (26, iV 4), (27, iV 2)]) (g' := [(3, some (5, .ds (dI .u8 ((la ++ lb) ++ lc))))]) (nx' := 4) (by kernel_rfl) ⟨(by first | omega | (simp only [bsD_len, dI_len, List.length_append, List.length_cons, List.length_nil, List.length_take, List.length_drop, List.length_replicate, List.length_set, List.length_map, List.length_reverse, Nat.mul_one] <;> omega) | rfl), (by first | omega | (simp only [bsD_len, dI_len, List.length_append, List.length_cons, List.length_nil, List.length_take, List.length_drop, List.length_replicate, List.length_set, List.length_map, List.length_reverse, Nat.mul_one] <;> omega) | rfl), (by omega), (by omega), (dI_app .u8 (la ++ lb) lc)⟩ ?_
  refine AW.rg [.w, .no] [6, 25, 26, 27] [3] (P := ((-9223372036854775808) ≤ (3 : Int) ∧ (3 : Int) ≤ 9223372036854775807)) (l' := [(6, oV 3 0 (((0 + na) + nb) + nc) 1), (25, .e (.c (.d (D.sl [D.sl (dI .u8 la) na, D.sl (dI .u8 lb) nb, D.sl (dI .u8 lc) nc, D.sl (dI .u8 ld) nd] 4)))), (26, iV 4), (27, iV 3)]) (g' := [(3, some (5, .ds (dI .u8 ((la ++ lb) ++ lc))))]) (nx' := 4) (by kernel_rfl) ⟨by omega, by omega⟩ ?_
  refine AWr.s ?_
  refine AW.rgs [.b true] [6, 25, 26, 27, 28] [3] (P := (((3 : Int) < 4))) (l' := [(6, oV 3 0 (((0 + na) + nb) + nc) 1), (25, .e (.c (.d (D.sl [D.sl (dI .u8 la) na, D.sl (dI .u8 lb) nb, D.sl (dI .u8 lc) nc, D.sl (dI .u8 ld) nd] 4)))), (26, iV 4), (27, iV 3), (28, bV true)]) (g' := [(3, some (5, .ds (dI .u8 ((la ++ lb) ++ lc))))]) (nx' := 4) (by kernel_rfl) (by omega) ?_
  refine AW.seq ?_
  refine AW.cond_t (.tmp (Look.of rfl)) ?_
  refine AW.skip ?_
  refine AW.seq ?_
  refine AW.block ?_
  refine AW.rgs [.n 3, .no, .no] [6, 8, 25, 26, 27] [3] (P := ((3 : Int) = 3) ∧ ((3 : Nat) < 4)) (l' := [(6, oV 3 0 (((0 + na) + nb) + nc) 1), (8, sV .u8 ld nd), (25, .e (.c (.d (D.sl [D.sl (dI .u8 la) na, D.sl (dI .u8 lb) nb, D.sl (dI .u8 lc) nc, D.sl (dI .u8 ld) nd] 4)))), (26, iV 4), (27, iV 3)]) (g' := [(3, some (5, .ds (dI .u8 ((la ++ lb) ++ lc))))]) (nx' := 4) (by kernel_rfl) ⟨rfl, (by omega)⟩ ?_
  refine AW.rg [.no, .no, .ap none ((((0 + na) + nb) + nc) + nd) (dI .u8 (((la ++ lb) ++ lc) ++ ld)), .no] [6, 25, 26, 27] [4] (P := ((dI .u8 ld).length = nd * 1) ∧ (((dI .u8 ((la ++ lb) ++ lc)) : List D).length = (((0 + na) + nb) + nc) * 1) ∧ (((((0 + na) + nb) + nc) + nd) * 1 ≤ 140737488355328) ∧ ((((0 + na) + nb) + nc) + nd = ((((0 + na) + nb) + nc) + nd)) ∧ (((dI .u8 ((la ++ lb) ++ lc)) : List D) ++ (dI .u8 ld) = (dI .u8 (((la ++ lb) ++ lc) ++ ld)))) (l' := [(6, oV 4 0 ((((0 + na) + nb) + nc) + nd) 1), (25, .e (.c (.d (D.sl [D.sl (dI .u8 la) na, D.sl (dI .u8 lb) nb, D.sl (dI .u8 lc) nc, D.sl (dI .u8 ld) nd] 4)))), (26, iV 4), (27, iV 3)]) (g' := [(4, some (5, .ds (dI .u8 (((la ++ lb) ++ lc) ++ ld))))]) (nx' := 5) (by kernel_rfl) ⟨(by first | omega | (simp only [bsD_len, dI_len, List.length_append, List.length_cons, List.length_nil, List.length_take, List.length_drop, List.length_replicate, List.length_set, List.length_map, List.length_reverse, Nat.mul_one] <;> omega) | rfl), (by first | omega | (simp only [bsD_len, dI_len, List.length_append, List.length_cons, List.length_nil, List.length_take, List.length_drop, List.length_replicate, List.length_set, List.length_map, List.length_reverse, Nat.mul_one] <;> omega) | rfl), (by omega), (by omega), (dI_app .u8 ((la ++ lb) ++ lc) ld)⟩ ?_
  refine AW.rg [.w, .no] [6, 25, 26, 27] [4] (P := ((-9223372036854775808) ≤ (4 : Int) ∧ (4 : Int) ≤ 9223372036854775807)) (l' := [(6, oV 4 0 ((((0 + na) + nb) + nc) + nd) 1), (25, .e (.c (.d (D.sl [D.sl (dI .u8 la) na, D.sl (dI .u8 lb) nb, D.sl (dI .u8 lc) nc, D.sl (dI .u8 ld) nd] 4)))), (26, iV 4), (27, iV 4)]) (g' := [(4, some (5, .ds (dI .u8 (((la ++ lb) ++ lc) ++ ld))))]) (nx' := 5) (by kernel_rfl) ⟨by omega, by omega⟩ ?_
  refine AWr.s ?_
  refine AW.rgs [.b false] [6, 25, 26, 27, 28] [4] (P := (¬ ((4 : Int) < 4))) (l' := [(6, oV 4 0 ((((0 + na) + nb) + nc) + nd) 1), (25, .e (.c (.d (D.sl [D.sl (dI .u8 la) na, D.sl (dI .u8 lb) nb, D.sl (dI .u8 lc) nc, D.sl (dI .u8 ld) nd] 4)))), (26, iV 4), (27, iV 4), (28, bV false)]) (g' := [(4, some (5, .ds (dI .u8 (((la ++ lb) ++ lc) ++ ld))))]) (nx' := 5) (by kernel_rfl) (by omega) ?_
  refine AW.seq ?_
  refine AW.cond_f (.tmp (Look.of rfl)) ?_
  refine AW.exit ?_
  refine AW.rgs [.no, .no] [2] [4] (P := True) (l' := [(2, oV 4 0 ((((0 + na) + nb) + nc) + nd) 1)]) (g' := [(4, some (5, .ds (dI .u8 (((la ++ lb) ++ lc) ++ ld))))]) (nx' := 5) (by kernel_rfl) trivial ?_
  refine AW.ret ?_
  exact EndP.of (.inr rfl) [(0, 4)] (P := ((0 : Nat) = 0) ∧ (((((na + nb) + nc) + nd) : Nat) = ((((0 + na) + nb) + nc) + nd)) ∧ (((dI .u8 (((la ++ lb) ++ lc) ++ ld)) : List D) = (dI .u8 (((la ++ lb) ++ lc) ++ ld)))) (by kernel_rfl) ⟨rfl, (by first | omega | rfl | assumption | (simp; done) | (simp; omega)), rfl⟩

end Go.Proofs.YtfhfehpbelelkaaDoor
