/- A law. No statement is proved here. -/
import Derived.Test.YtcmldnahohmieaaDoorL06D
import Derived.Test.YtcmldnahohmieaaDoorAmD
namespace Go.Proofs.YtcmldnahohmieaaDoor
open Go.ChangeShapes Go.WideShapes Go.ChangeAt Go.RowKit
set_option linter.unusedVariables false
set_option linter.unusedSimpArgs false

theorem str_num (s : ByteArray) : strOfNums (numsOf s) = s := by
  apply ByteArray.ext
  apply Array.ext'
  rw [strOfNums_data]
  unfold numsOf
  rw [List.map_map]
  have e : ((fun n : Int => UInt8.ofNat n.toNat) ∘ fun b : UInt8 => (b.toNat : Int)) = id := by
    funext b
    simp
  rw [e, List.map_id]
theorem byt_num (s : ByteArray) : Byt (numsOf s) := by
  intro x hx
  unfold numsOf at hx
  obtain ⟨b, _, rfl⟩ := List.mem_map.1 hx
  have := b.toNat_lt
  omega
theorem len_num (s : ByteArray) : (numsOf s).length = s.size := by unfold numsOf; rw [List.length_map, Array.length_toList]; rfl

theorem Sl.max {k : IntKind} {w : World} {a : Option Addr} {len cap : Nat} {l : List Int} (h : Sl k w a len cap l) : List.length l ≤ 9223372036854775807 := by
  obtain ⟨h1, h2, h3, _⟩ := h
  unfold maxLen at h3
  omega

theorem rd1 : rdP [70, 76, 44, 70, 82] = some [1, 2] := by decide +kernel
theorem rd2 : rdP [70, 76, 44, 70, 76] = some [1, 1] := by decide +kernel
theorem rd3 : rdP [70, 76, 44] = none := by decide +kernel
theorem sn1 : (paE [70, 76, 44, 70, 82] = 0 ∧ paL [70, 76, 44, 70, 82] = [1, 2]) := pa_good rd1 rfl (by decide +kernel)
theorem sn2 : (paE [70, 76, 44, 70, 76] = 1 ∧ paL [70, 76, 44, 70, 76] = []) := pa_bad rd2 rfl (by decide +kernel)
theorem sn3 : (paE [70, 76, 44] = 5 ∧ paL [70, 76, 44] = []) := pa_none rd3
theorem K_P0 : Fun 21 [.c (.d (D.lit ((.string (ByteArray.mk #[70, 76, 44, 70, 82])))))] (toG []) 0 (.tup [.c (.d (D.sl [iD 1, iD 2] 2)), iE 0]) (toG []) 0 := by
  have h := V_Parse ([70, 76, 44, 70, 82] : List Int) (by intro x hx; simp at hx; omega) (by decide)
  rw [sn1.1, sn1.2] at h
  exact h
theorem K_P1 : Fun 21 [.c (.d (D.lit ((.string (ByteArray.mk #[70, 76, 44, 70, 76])))))] (toG []) 0 (.tup [.c (.d (D.sl ([] : List D) 0)), iE 1]) (toG []) 0 := by
  have h := V_Parse ([70, 76, 44, 70, 76] : List Int) (by intro x hx; simp at hx; omega) (by decide)
  rw [sn2.1, sn2.2] at h
  exact h
theorem K_P2 : Fun 21 [.c (.d (D.lit ((.string (ByteArray.mk #[70, 76, 44])))))] (toG []) 0 (.tup [.c (.d (D.sl ([] : List D) 0)), iE 5]) (toG []) 0 := by
  have h := V_Parse ([70, 76, 44] : List Int) (by intro x hx; simp at hx; omega) (by decide)
  rw [sn3.1, sn3.2] at h
  exact h
theorem K_F : Fun 24 [.c (.d (D.sl [iD 1, iD 2] 2))] (toG []) 0 (.e (.c (.d (D.lit (.string (strOfNums ([70, 76, 44, 70, 82] : List Int))))))) (toG []) 0 := by
  have h := V_Format [1, 2] 2 rfl (by decide)
  rw [show fmL [1, 2] = [70, 76, 44, 70, 82] by decide +kernel] at h
  exact h
theorem K_V : Fun 26 [.c (.d (D.sl [iD 1, iD 2] 2))] (toG []) 0 (bV true) (toG []) 0 := by
  have h := V_Valid [1, 2] 2 rfl (by decide)
  rw [show chB [1, 2] 2 = true by decide +kernel] at h
  exact h

set_option maxHeartbeats 4000000 in
set_option maxRecDepth 100000 in
theorem Q_sane   : Fun 20 [] (toG []) 0 (bV true) (toG []) 0 := by
  refine Fun.mk (n := 54) Tryd.func20 rfl rfl (Nat.le_of_ble_eq_true rfl) ?_
  intro cx hcx
  refine AW.rgs [.no] [] [] (P := True) (l' := []) (g' := []) (nx' := 0) (by kernel_rfl) trivial ?_
  refine AW.rgs [.call [] (.tup [.c (.d (D.sl [iD 1, iD 2] 2)), iE 0]) [] 0 [] none, .no, .no, .no, .no, .no] [1, 2] [] (P := (_)) (l' := [(1, .e (.c (.d (D.sl [iD 1, iD 2] 2)))), (2, iV 0)]) (g' := []) (nx' := 0) (by kernel_rfl) (K_P0) ?_
  refine AW.rgs [.call [] (.tup [.c (.d (D.sl ([] : List D) 0)), iE 1]) [] 0 [] none, .no, .no, .no, .no, .no] [1, 2, 4] [] (P := (_)) (l' := [(1, .e (.c (.d (D.sl [iD 1, iD 2] 2)))), (2, iV 0), (4, iV 1)]) (g' := []) (nx' := 0) (by kernel_rfl) (K_P1) ?_
  refine AW.rgs [.call [] (.tup [.c (.d (D.sl ([] : List D) 0)), iE 5]) [] 0 [] none, .no, .no, .no, .no, .no] [1, 2, 4, 6] [] (P := (_)) (l' := [(1, .e (.c (.d (D.sl [iD 1, iD 2] 2)))), (2, iV 0), (4, iV 1), (6, iV 5)]) (g' := []) (nx' := 0) (by kernel_rfl) (K_P2) ?_
  have hx1 : ((((-1) : Int) ≤ (idxK ([1, 2] : List Int) 2 2)) ∧ ((idxK ([1, 2] : List Int) 2 2) < 2)) := idxK_rng ([1, 2] : List Int) (2 : Int) (2 : Nat)
  refine AW.rgs [.no, .b true, .no, .no, .no, .b true, .no, .no, .no, .n 1, .no, .b true, .no, .no, .no, .call [] (.e (.c (.d (D.lit (.string (strOfNums ([70, 76, 44, 70, 82] : List Int))))))) [] 0 [] none, .b true, .no, .no, .no, .b true, .no, .no, .no, .b true, .no, .no, .no, .call [] (bV true) [] 0 [] none, .no, .no, .no, .call [] (iV 1) [] 0 [] none, .b true, .no, .no] [0] [] (P := (((0 : Int) = 0)) ∧ (((2 : Int) = 2)) ∧ ((1 : Int) = 1) ∧ ((1 : Nat) < 2) ∧ (((2 : Int) = 2)) ∧ (_) ∧ ((ByteArray.toList (strOfNums ([70, 76, 44, 70, 82] : List Int)) == ByteArray.toList (ByteArray.mk #[70, 76, 44, 70, 82])) = true) ∧ (((1 : Int) = 1)) ∧ (((5 : Int) = 5)) ∧ (_) ∧ (_) ∧ (((1 : Int) = 1))) (l' := [(0, bV true)]) (g' := []) (nx' := 0) (by kernel_rfl) ⟨(by omega), (by omega), rfl, (by omega), (by omega), (K_F), (by kernel_rfl), (by omega), (by omega), (K_V), (Fun.cv (V_Index ([1, 2] : List Int) 2 2 (by first | omega | with_reducible assumption | (simp only [bsD_len, stD_len, stL_len, List.length_append, List.length_cons, List.length_nil, List.length_take, List.length_drop, List.length_replicate, List.length_set] <;> omega) | rfl | assumption) (by omega)) (y' := iV 1) (g1' := toG []) (by kernel_rfl) (by kernel_rfl)), (by omega)⟩ ?_
  refine AW.ret ?_
  exact EndP.of (.inr rfl) [] (P := (true = true)) (by kernel_rfl) rfl

set_option maxHeartbeats 4000000 in
set_option maxRecDepth 100000 in
theorem Q_ChannelsBack (a b : List Int) (n m : Nat) (ha : List.length a = n) (ba : n ≤ 9223372036854775807) (hb : List.length b = m) (bb : m ≤ 9223372036854775807) : Fun 7 [.c (.d (D.sl (dI .i64 a) n)), .c (.d (D.sl (dI .i64 b) m))] (toG []) 0 (bV true) (toG []) 0 := by
  refine Fun.mk (n := 84) Tryd.func7 rfl rfl (Nat.le_of_ble_eq_true rfl) ?_
  intro cx hcx
  refine AW.rgs [.no] [0, 1] [] (P := True) (l' := [(0, sV .i64 a n), (1, sV .i64 b m)]) (g' := []) (nx' := 0) (by kernel_rfl) trivial ?_
  refine AW.seq ?_
  refine AW.rgs [.call [] (bV true) [] 0 [] none, .no] [0, 1, 10] [] (P := (_)) (l' := [(0, sV .i64 a n), (1, sV .i64 b m), (10, bV false)]) (g' := []) (nx' := 0) (by kernel_rfl) (Q_sane) ?_
  refine AW.cond_f (.tmp (Look.of rfl)) ?_
  refine AW.skip ?_
  refine AW.seq ?_
  by_cases hx1 : ((40 : Int) < ((n : Nat) : Int))
  · refine AW.rgs [.no, .no, .b true, .no, .no, .no, .no, .no, .no] [0, 1, 28] [] (P := (((40 : Int) < ((n : Nat) : Int)))) (l' := [(0, sV .i64 a n), (1, sV .i64 b m), (28, bV true)]) (g' := []) (nx' := 0) (by kernel_rfl) (by omega) ?_
    refine AW.cond_t (.tmp (Look.of rfl)) ?_
    refine AW.rgs [.no] [4] [] (P := True) (l' := [(4, bV true)]) (g' := []) (nx' := 0) (by kernel_rfl) trivial ?_
    refine AW.ret ?_
    exact EndP.of (.inr rfl) [] (P := (true = true)) (by kernel_rfl) rfl
  · by_cases hx2 : ((40 : Int) < ((m : Nat) : Int))
    · refine AW.rgs [.no, .no, .b false, .no, .no, .no, .b true, .no, .no, .no, .no, .no] [0, 1, 28] [] (P := (¬ ((40 : Int) < ((n : Nat) : Int))) ∧ (((40 : Int) < ((m : Nat) : Int)))) (l' := [(0, sV .i64 a n), (1, sV .i64 b m), (28, bV true)]) (g' := []) (nx' := 0) (by kernel_rfl) ⟨(by omega), (by omega)⟩ ?_
      refine AW.cond_t (.tmp (Look.of rfl)) ?_
      refine AW.rgs [.no] [4] [] (P := True) (l' := [(4, bV true)]) (g' := []) (nx' := 0) (by kernel_rfl) trivial ?_
      refine AW.ret ?_
      exact EndP.of (.inr rfl) [] (P := (true = true)) (by kernel_rfl) rfl
    · rcases Bool.eq_false_or_eq_true (chB a n) with hx3 | hx3
      · rcases Bool.eq_false_or_eq_true (chB b m) with hx4 | hx4
        · have hx5 : 1 ≤ n ∧ n ≤ 8 := chB_n hx3
          have hx6 : paE (fmL a) = 0 := (pa_back ha hx3).1
          have hx7 : paL (fmL a) = a := (pa_back ha hx3).2
          have hx8 : coL a (stL a) n = a := co_all ha
          have hx9 : List.length (coL a (stL a) n) = n := by rw [co_all ha]; exact ha
          have hx10 : stL (coL a b m) = stL (coL b a n) := co_swap ha hb hx3 hx4
          have hx11 : chB (stL a) n = true := st_valid ha hx3
          refine AW.rgs [.no, .no, .b false, .no, .no, .no, .b false, .no, .no, .no, .call [] (bV true) [] 0 [] none, .no, .no, .no, .no, .call [] (bV true) [] 0 [] none, .no, .no] [0, 1, 28] [] (P := (¬ ((40 : Int) < ((n : Nat) : Int))) ∧ (¬ ((40 : Int) < ((m : Nat) : Int))) ∧ (Fun 26 [.c (.d (D.sl (dI .i64 a) n))] (toG []) 0 (bV true) (toG []) 0) ∧ (Fun 26 [.c (.d (D.sl (dI .i64 b) m))] (toG []) 0 (bV true) (toG []) 0)) (l' := [(0, sV .i64 a n), (1, sV .i64 b m), (28, bV false)]) (g' := []) (nx' := 0) (by kernel_rfl) ⟨(by omega), (by omega), (by have h0 := (V_Valid a n (by omega) (by omega)); rw [hx3] at h0; exact h0), (by have h0 := (V_Valid b m (by omega) (by omega)); rw [hx4] at h0; exact h0)⟩ ?_
          refine AW.cond_f (.tmp (Look.of rfl)) ?_
          refine AW.skip ?_
          have hx12 : ((List.length (fmL a)) ≤ (3 * n)) := (by have h9 := fmL_len a; omega)
          have hx13 : ((((0 : Int) ≤ (paE (fmL a))) ∧ ((paE (fmL a)) ≤ 5)) ∧ ((List.length (paL (fmL a))) ≤ 8)) := ⟨paE_rng (fmL a), paL_len (fmL a)⟩
          refine AW.rgs [.no, .call [] (.e (.c (.d (D.lit (.string (strOfNums (fmL a))))))) [] 0 [] none, .call [] (.tup [.c (.d (D.sl (dI .i64 (paL (fmL a))) (List.length (paL (fmL a))))), iE (paE (fmL a))]) [] 0 [] none, .no, .no, .no, .no, .no] [0, 1, 5, 6] [] (P := (_) ∧ (_)) (l' := [(0, sV .i64 a n), (1, sV .i64 b m), (5, sV .i64 (paL (fmL a)) (List.length (paL (fmL a)))), (6, iV (paE (fmL a)))]) (g' := []) (nx' := 0) (by kernel_rfl) ⟨(V_Format a n (by omega) (by omega)), (V_Parse (fmL a) (fmL_byt _) (by first | omega | with_reducible assumption | (simp only [bsD_len, stD_len, stL_len, List.length_append, List.length_cons, List.length_nil, List.length_take, List.length_drop, List.length_replicate, List.length_set] <;> omega) | rfl | assumption))⟩ ?_
          have hx14 : ((List.length (stL a)) = n) := (stL_len a).trans (by first | assumption | omega)
          refine AW.rgs [.no, .call [] (sV .i64 (stL a) n) [] 0 [] none, .no] [0, 1, 5, 6, 7] [] (P := (_)) (l' := [(0, sV .i64 a n), (1, sV .i64 b m), (5, sV .i64 (paL (fmL a)) (List.length (paL (fmL a)))), (6, iV (paE (fmL a))), (7, sV .i64 (stL a) n)]) (g' := []) (nx' := 0) (by kernel_rfl) (V_Sorted a n (by omega) (by omega)) ?_
          refine AW.seq ?_
          refine AW.rgs [.no] [0, 1, 5, 6, 7, 8] [] (P := True) (l' := [(0, sV .i64 a n), (1, sV .i64 b m), (5, sV .i64 (paL (fmL a)) (List.length (paL (fmL a)))), (6, iV (paE (fmL a))), (7, sV .i64 (stL a) n), (8, iV 1)]) (g' := []) (nx' := 0) (by kernel_rfl) trivial ?_
          refine AW.block ?_
          refine AW.loopE 0 hcx (fun (x : {x : Nat // match x with | i => (1 ≤ i ∧ i ≤ n)}) => match x with | ⟨i, _⟩ => (⟨[(0, sV .i64 a n), (1, sV .i64 b m), (5, sV .i64 (paL (fmL a)) (List.length (paL (fmL a)))), (6, iV (paE (fmL a))), (7, sV .i64 (stL a) n), (8, iV ((i : Nat) : Int))], [], 0⟩ : ES)) (fun (x : {x : Nat // match x with | i => (1 ≤ i ∧ i ≤ n)}) => match x with | ⟨i, _⟩ => n - i) ⟨(1 : Nat), (show (1 ≤ (1 : Nat) ∧ (1 : Nat) ≤ n) from (by first | omega | assumption | simp))⟩ [] (P := (((dI .i64 a) : List D) = (dI .i64 a)) ∧ ((n : Nat) = n) ∧ (((dI .i64 b) : List D) = (dI .i64 b)) ∧ ((m : Nat) = m) ∧ (((dI .i64 (paL (fmL a))) : List D) = (dI .i64 (paL (fmL a)))) ∧ (((List.length (paL (fmL a))) : Nat) = (List.length (paL (fmL a)))) ∧ (((paE (fmL a)) : Int) = (paE (fmL a))) ∧ (((dI .i64 (stL a)) : List D) = (dI .i64 (stL a))) ∧ ((n : Nat) = n) ∧ ((1 : Int) = 1)) (by kernel_rfl) ⟨rfl, rfl, rfl, rfl, rfl, rfl, rfl, rfl, rfl, rfl⟩ ?_
          rintro ⟨i, hinv0⟩
          have hi : (1 ≤ i ∧ i ≤ n) := hinv0
          refine AW.es (l := [(0, sV .i64 a n), (1, sV .i64 b m), (5, sV .i64 (paL (fmL a)) (List.length (paL (fmL a)))), (6, iV (paE (fmL a))), (7, sV .i64 (stL a) n), (8, iV ((i : Nat) : Int))]) (g := []) (nx := 0) rfl rfl rfl ?_
          refine AW.seq ?_
          by_cases hx15 : (((i : Nat) : Int) < ((n : Nat) : Int))
          · have hx16 : List.getD (stL a) (i - 1) 0 < List.getD (stL a) i 0 := st_asc ha hx3 (by omega) (by omega)
            refine AW.rgs [.no, .no, .no, .b true] [0, 1, 5, 6, 7, 8, 40] [] (P := ((((i : Nat) : Int) < ((n : Nat) : Int)))) (l' := [(0, sV .i64 a n), (1, sV .i64 b m), (5, sV .i64 (paL (fmL a)) (List.length (paL (fmL a)))), (6, iV (paE (fmL a))), (7, sV .i64 (stL a) n), (8, iV ↑i), (40, bV true)]) (g' := []) (nx' := 0) (by kernel_rfl) (by omega) ?_
            refine AW.cond_t (.tmp (Look.of rfl)) ?_
            refine AW.skip ?_
            refine AW.seq ?_
            refine AW.block ?_
            refine AW.rgs [.no, .no, .w, .n (i - 1), .d (D.lit (.int .i64 (List.getD (stL a) (i - 1) 0))), .no, .no, .n i, .d (D.lit (.int .i64 (List.getD (stL a) i 0))), .b false] [0, 1, 5, 6, 7, 8, 52] [] (P := ((-9223372036854775808) ≤ (((i : Nat) : Int) - 1) ∧ (((i : Nat) : Int) - 1) ≤ 9223372036854775807) ∧ (((((i : Nat) : Int) - 1) : Int) = (((i - 1) : Nat) : Int)) ∧ ((i - 1) < n) ∧ ((List.drop (i - 1) (dI .i64 (stL a)))[0]? = some (D.lit (.int .i64 (List.getD (stL a) (i - 1) 0)))) ∧ ((((i : Nat) : Int) : Int) = ((i : Nat) : Int)) ∧ (i < n) ∧ ((List.drop i (dI .i64 (stL a)))[0]? = some (D.lit (.int .i64 (List.getD (stL a) i 0)))) ∧ (¬ ((List.getD (stL a) i 0) ≤ (List.getD (stL a) (i - 1) 0)))) (l' := [(0, sV .i64 a n), (1, sV .i64 b m), (5, sV .i64 (paL (fmL a)) (List.length (paL (fmL a)))), (6, iV (paE (fmL a))), (7, sV .i64 (stL a) n), (8, iV ↑i), (52, bV false)]) (g' := []) (nx' := 0) (by kernel_rfl) ⟨⟨by omega, by omega⟩, (by first | rfl | omega), (by omega), (dI_at _ _ _ (by first | omega | (simp only [bsD_len, stD_len, stL_len, dI_len, List.length_append, List.length_cons, List.length_nil, List.length_take, List.length_drop, List.length_replicate, List.length_set, List.length_map, List.length_reverse, Nat.mul_one] <;> omega) | rfl)), rfl, (by omega), (dI_at _ _ _ (by first | omega | (simp only [bsD_len, stD_len, stL_len, dI_len, List.length_append, List.length_cons, List.length_nil, List.length_take, List.length_drop, List.length_replicate, List.length_set, List.length_map, List.length_reverse, Nat.mul_one] <;> omega) | rfl)), (by omega)⟩ ?_
            refine AW.cond_f (.tmp (Look.of rfl)) ?_
            refine AW.skip ?_
            refine AW.rg [.no, .w, .no] [0, 1, 5, 6, 7, 8] [] (P := ((-9223372036854775808) ≤ (((i : Nat) : Int) + 1) ∧ (((i : Nat) : Int) + 1) ≤ 9223372036854775807)) (l' := [(0, sV .i64 a n), (1, sV .i64 b m), (5, sV .i64 (paL (fmL a)) (List.length (paL (fmL a)))), (6, iV (paE (fmL a))), (7, sV .i64 (stL a) n), (8, iV (↑i + 1))]) (g' := []) (nx' := 0) (by kernel_rfl) ⟨by omega, by omega⟩ ?_
            exact Rd.of ⟨((i + 1) : Nat), (show (1 ≤ (i + 1) ∧ (i + 1) ≤ n) from (by first | omega | assumption | simp))⟩ [] (P := (((dI .i64 a) : List D) = (dI .i64 a)) ∧ ((n : Nat) = n) ∧ (((dI .i64 b) : List D) = (dI .i64 b)) ∧ ((m : Nat) = m) ∧ (((dI .i64 (paL (fmL a))) : List D) = (dI .i64 (paL (fmL a)))) ∧ (((List.length (paL (fmL a))) : Nat) = (List.length (paL (fmL a)))) ∧ (((paE (fmL a)) : Int) = (paE (fmL a))) ∧ (((dI .i64 (stL a)) : List D) = (dI .i64 (stL a))) ∧ ((n : Nat) = n) ∧ (((((i + 1) : Nat) : Int) : Int) = (((i : Nat) : Int) + 1))) (by kernel_rfl) ⟨rfl, rfl, rfl, rfl, rfl, rfl, rfl, rfl, rfl, (by first | rfl | omega | assumption | (simp; done) | (simp; omega))⟩ (show n - (i + 1) < n - i from (by first | omega | (show _ < _; simp; omega)))
          · refine AW.rgs [.no, .no, .no, .b false] [0, 1, 5, 6, 7, 8, 40] [] (P := (¬ (((i : Nat) : Int) < ((n : Nat) : Int)))) (l' := [(0, sV .i64 a n), (1, sV .i64 b m), (5, sV .i64 (paL (fmL a)) (List.length (paL (fmL a)))), (6, iV (paE (fmL a))), (7, sV .i64 (stL a) n), (8, iV ↑i), (40, bV false)]) (g' := []) (nx' := 0) (by kernel_rfl) (by omega) ?_
            refine AW.cond_f (.tmp (Look.of rfl)) ?_
            refine AW.exit ?_
            have hx17 : ((List.length (coL a (stL a) n)) ≤ n) := (by have h9 := coL_len a (stL a) n; omega)
            have hx18 : ((List.length (coL a b m)) ≤ n) := (by have h9 := coL_len a b m; omega)
            have hx19 : ((List.length (stL (coL a b m))) = (List.length (coL a b m))) := (stL_len (coL a b m)).trans (by first | assumption | omega)
            have hx20 : ((List.length (coL b a n)) ≤ m) := (by have h9 := coL_len b a n; omega)
            have hx21 : ((List.length (stL (coL b a n))) = (List.length (coL b a n))) := (stL_len (coL b a n)).trans (by first | assumption | omega)
            refine AW.rgs [.no, .b true, .no, .no, .no, .call [] (bV true) [] 0 [] none, .no, .no, .no, .call [] (bV true) [] 0 [] none, .no, .no, .no, .no, .call [] (sV .i64 (coL a (stL a) n) (List.length (coL a (stL a) n))) [] 0 [] none, .no, .no, .no, .b true, .no, .no, .no, .no, .call [] (sV .i64 (coL a b m) (List.length (coL a b m))) [] 0 [] none, .call [] (sV .i64 (stL (coL a b m)) (List.length (coL a b m))) [] 0 [] none, .no, .no, .call [] (sV .i64 (coL b a n) (List.length (coL b a n))) [] 0 [] none, .call [] (sV .i64 (stL (coL b a n)) (List.length (coL b a n))) [] 0 [] none, .call [] (bV true) [] 0 [] none, .no, .no] [4] [] (P := (((paE (fmL a)) = 0)) ∧ (_) ∧ (Fun 26 [.c (.d (D.sl (dI .i64 (stL a)) n))] (toG []) 0 (bV true) (toG []) 0) ∧ (_) ∧ (((((List.length (coL a (stL a) n)) : Nat) : Int) = ((n : Nat) : Int))) ∧ (_) ∧ (_) ∧ (_) ∧ (_) ∧ (_)) (l' := [(4, bV true)]) (g' := []) (nx' := 0) (by kernel_rfl) ⟨(by omega), (Fun.y (V_Same (paL (fmL a)) a (List.length (paL (fmL a))) n rfl (by omega) (by first | omega | with_reducible assumption | (simp only [bsD_len, stD_len, stL_len, List.length_append, List.length_cons, List.length_nil, List.length_take, List.length_drop, List.length_replicate, List.length_set] <;> omega) | rfl | assumption) (by omega)) (y' := bV true) (congrArg (fun b9 => LV (.bool b9)) (sqB_of (by assumption)))), (by have h0 := (V_Valid (stL a) n (by first | omega | with_reducible assumption | (simp only [bsD_len, stD_len, stL_len, List.length_append, List.length_cons, List.length_nil, List.length_take, List.length_drop, List.length_replicate, List.length_set] <;> omega) | rfl | assumption) (by omega)); rw [hx11] at h0; exact h0), (V_Common a (stL a) n n (by omega) (by first | omega | with_reducible assumption | (simp only [bsD_len, stD_len, stL_len, List.length_append, List.length_cons, List.length_nil, List.length_take, List.length_drop, List.length_replicate, List.length_set] <;> omega) | rfl | assumption) (by omega) (by omega)), (by omega), (V_Common a b n m (by omega) (by omega) (by omega) (by omega)), (V_Sorted (coL a b m) (List.length (coL a b m)) rfl (by first | omega | with_reducible assumption | (simp only [bsD_len, stD_len, stL_len, List.length_append, List.length_cons, List.length_nil, List.length_take, List.length_drop, List.length_replicate, List.length_set] <;> omega) | rfl | assumption)), (V_Common b a m n (by omega) (by omega) (by omega) (by omega)), (V_Sorted (coL b a n) (List.length (coL b a n)) rfl (by first | omega | with_reducible assumption | (simp only [bsD_len, stD_len, stL_len, List.length_append, List.length_cons, List.length_nil, List.length_take, List.length_drop, List.length_replicate, List.length_set] <;> omega) | rfl | assumption)), (Fun.y (V_Same (stL (coL a b m)) (stL (coL b a n)) (List.length (coL a b m)) (List.length (coL b a n)) (by first | omega | with_reducible assumption | (simp only [bsD_len, stD_len, stL_len, List.length_append, List.length_cons, List.length_nil, List.length_take, List.length_drop, List.length_replicate, List.length_set] <;> omega) | rfl | assumption) (by first | omega | with_reducible assumption | (simp only [bsD_len, stD_len, stL_len, List.length_append, List.length_cons, List.length_nil, List.length_take, List.length_drop, List.length_replicate, List.length_set] <;> omega) | rfl | assumption) (by first | omega | with_reducible assumption | (simp only [bsD_len, stD_len, stL_len, List.length_append, List.length_cons, List.length_nil, List.length_take, List.length_drop, List.length_replicate, List.length_set] <;> omega) | rfl | assumption) (by first | omega | with_reducible assumption | (simp only [bsD_len, stD_len, stL_len, List.length_append, List.length_cons, List.length_nil, List.length_take, List.length_drop, List.length_replicate, List.length_set] <;> omega) | rfl | assumption)) (y' := bV true) (congrArg (fun b9 => LV (.bool b9)) (sqB_of (by assumption))))⟩ ?_
            refine AW.ret ?_
            exact EndP.of (.inr rfl) [] (P := (true = true)) (by kernel_rfl) rfl
        · refine AW.rgs [.no, .no, .b false, .no, .no, .no, .b false, .no, .no, .no, .call [] (bV true) [] 0 [] none, .no, .no, .no, .no, .call [] (bV false) [] 0 [] none, .no, .no] [0, 1, 28] [] (P := (¬ ((40 : Int) < ((n : Nat) : Int))) ∧ (¬ ((40 : Int) < ((m : Nat) : Int))) ∧ (Fun 26 [.c (.d (D.sl (dI .i64 a) n))] (toG []) 0 (bV true) (toG []) 0) ∧ (Fun 26 [.c (.d (D.sl (dI .i64 b) m))] (toG []) 0 (bV false) (toG []) 0)) (l' := [(0, sV .i64 a n), (1, sV .i64 b m), (28, bV true)]) (g' := []) (nx' := 0) (by kernel_rfl) ⟨(by omega), (by omega), (by have h0 := (V_Valid a n (by omega) (by omega)); rw [hx3] at h0; exact h0), (by have h0 := (V_Valid b m (by omega) (by omega)); rw [hx4] at h0; exact h0)⟩ ?_
          refine AW.cond_t (.tmp (Look.of rfl)) ?_
          refine AW.rgs [.no] [4] [] (P := True) (l' := [(4, bV true)]) (g' := []) (nx' := 0) (by kernel_rfl) trivial ?_
          refine AW.ret ?_
          exact EndP.of (.inr rfl) [] (P := (true = true)) (by kernel_rfl) rfl
      · refine AW.rgs [.no, .no, .b false, .no, .no, .no, .b false, .no, .no, .no, .call [] (bV false) [] 0 [] none, .no, .no, .no, .no] [0, 1, 28] [] (P := (¬ ((40 : Int) < ((n : Nat) : Int))) ∧ (¬ ((40 : Int) < ((m : Nat) : Int))) ∧ (Fun 26 [.c (.d (D.sl (dI .i64 a) n))] (toG []) 0 (bV false) (toG []) 0)) (l' := [(0, sV .i64 a n), (1, sV .i64 b m), (28, bV true)]) (g' := []) (nx' := 0) (by kernel_rfl) ⟨(by omega), (by omega), (by have h0 := (V_Valid a n (by omega) (by omega)); rw [hx3] at h0; exact h0)⟩ ?_
        refine AW.cond_t (.tmp (Look.of rfl)) ?_
        refine AW.rgs [.no] [4] [] (P := True) (l' := [(4, bV true)]) (g' := []) (nx' := 0) (by kernel_rfl) trivial ?_
        refine AW.ret ?_
        exact EndP.of (.inr rfl) [] (P := (true = true)) (by kernel_rfl) rfl

theorem channelsBack_walk {w : World} {xa ya : Option Addr} {xl xc yl yc : Nat} {a b : List Int} (ha : Sl .i64 w xa xl xc a) (hb : Sl .i64 w ya yl yc b) (hgl : GlOK (fun k => k < w.heap.size) w) : Calls Tryd.prog 7 #[.slice xa xl xc, .slice ya yl yc] w fun e w' => e = .returned (.bool true) ∧ Below w.heap.size w w' := by
  exact (Q_ChannelsBack a b (List.length a) (List.length b) rfl ha.max rfl hb.max).walk ⟨repE_sl ha, repE_sl hb, trivial⟩ hgl

end Go.Proofs.YtcmldnahohmieaaDoor
