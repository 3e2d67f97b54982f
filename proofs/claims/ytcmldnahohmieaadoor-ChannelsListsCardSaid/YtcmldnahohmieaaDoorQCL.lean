/- A law. No statement is proved here. -/
import Derived.Test.YtcmldnahohmieaaDoorL06D
import Derived.Test.YtcmldnahohmieaaDoorAmD
namespace Go.Proofs.YtcmldnahohmieaaDoor
open Go.ChangeShapes Go.WideShapes Go.ChangeAt Go.RowKit
set_option linter.unusedVariables false
set_option linter.unusedSimpArgs false

theorem str_num (s : ByteArray) : strOfNums (numsOf s) = s := by
  apply ByteArray.ext
  apply Array.ext'
  rw [strOfNums_data]
  unfold numsOf
  rw [List.map_map]
  have e : ((fun n : Int => UInt8.ofNat n.toNat) ∘ fun b : UInt8 => (b.toNat : Int)) = id := by
    funext b
    simp
  rw [e, List.map_id]
theorem byt_num (s : ByteArray) : Byt (numsOf s) := by
  intro x hx
  unfold numsOf at hx
  obtain ⟨b, _, rfl⟩ := List.mem_map.1 hx
  have := b.toNat_lt
  omega
theorem len_num (s : ByteArray) : (numsOf s).length = s.size := by unfold numsOf; rw [List.length_map, Array.length_toList]; rfl

theorem Sl.max {k : IntKind} {w : World} {a : Option Addr} {len cap : Nat} {l : List Int} (h : Sl k w a len cap l) : List.length l ≤ 9223372036854775807 := by
  obtain ⟨h1, h2, h3, _⟩ := h
  unfold maxLen at h3
  omega

theorem rd1 : rdP [70, 76, 44, 70, 82] = some [1, 2] := by decide +kernel
theorem rd2 : rdP [70, 76, 44, 70, 76] = some [1, 1] := by decide +kernel
theorem rd3 : rdP [70, 76, 44] = none := by decide +kernel
theorem sn1 : (paE [70, 76, 44, 70, 82] = 0 ∧ paL [70, 76, 44, 70, 82] = [1, 2]) := pa_good rd1 rfl (by decide +kernel)
theorem sn2 : (paE [70, 76, 44, 70, 76] = 1 ∧ paL [70, 76, 44, 70, 76] = []) := pa_bad rd2 rfl (by decide +kernel)
theorem sn3 : (paE [70, 76, 44] = 5 ∧ paL [70, 76, 44] = []) := pa_none rd3
theorem K_P0 : Fun 21 [.c (.d (D.lit ((.string (ByteArray.mk #[70, 76, 44, 70, 82])))))] (toG []) 0 (.tup [.c (.d (D.sl [iD 1, iD 2] 2)), iE 0]) (toG []) 0 := by
  have h := V_Parse ([70, 76, 44, 70, 82] : List Int) (by intro x hx; simp at hx; omega) (by decide)
  rw [sn1.1, sn1.2] at h
  exact h
theorem K_P1 : Fun 21 [.c (.d (D.lit ((.string (ByteArray.mk #[70, 76, 44, 70, 76])))))] (toG []) 0 (.tup [.c (.d (D.sl ([] : List D) 0)), iE 1]) (toG []) 0 := by
  have h := V_Parse ([70, 76, 44, 70, 76] : List Int) (by intro x hx; simp at hx; omega) (by decide)
  rw [sn2.1, sn2.2] at h
  exact h
theorem K_P2 : Fun 21 [.c (.d (D.lit ((.string (ByteArray.mk #[70, 76, 44])))))] (toG []) 0 (.tup [.c (.d (D.sl ([] : List D) 0)), iE 5]) (toG []) 0 := by
  have h := V_Parse ([70, 76, 44] : List Int) (by intro x hx; simp at hx; omega) (by decide)
  rw [sn3.1, sn3.2] at h
  exact h
theorem K_F : Fun 24 [.c (.d (D.sl [iD 1, iD 2] 2))] (toG []) 0 (.e (.c (.d (D.lit (.string (strOfNums ([70, 76, 44, 70, 82] : List Int))))))) (toG []) 0 := by
  have h := V_Format [1, 2] 2 rfl (by decide)
  rw [show fmL [1, 2] = [70, 76, 44, 70, 82] by decide +kernel] at h
  exact h
theorem K_V : Fun 26 [.c (.d (D.sl [iD 1, iD 2] 2))] (toG []) 0 (bV true) (toG []) 0 := by
  have h := V_Valid [1, 2] 2 rfl (by decide)
  rw [show chB [1, 2] 2 = true by decide +kernel] at h
  exact h

set_option maxHeartbeats 4000000 in
set_option maxRecDepth 100000 in
theorem Q_sane   : Fun 20 [] (toG []) 0 (bV true) (toG []) 0 := by
  refine Fun.mk (n := 54) Tryd.func20 rfl rfl (Nat.le_of_ble_eq_true rfl) ?_
  intro cx hcx
  refine AW.rgs [.no] [] [] (P := True) (l' := []) (g' := []) (nx' := 0) (by kernel_rfl) trivial ?_
  refine AW.rgs [.call [] (.tup [.c (.d (D.sl [iD 1, iD 2] 2)), iE 0]) [] 0 [] none, .no, .no, .no, .no, .no] [1, 2] [] (P := (_)) (l' := [(1, .e (.c (.d (D.sl [iD 1, iD 2] 2)))), (2, iV 0)]) (g' := []) (nx' := 0) (by kernel_rfl) (K_P0) ?_
  refine AW.rgs [.call [] (.tup [.c (.d (D.sl ([] : List D) 0)), iE 1]) [] 0 [] none, .no, .no, .no, .no, .no] [1, 2, 4] [] (P := (_)) (l' := [(1, .e (.c (.d (D.sl [iD 1, iD 2] 2)))), (2, iV 0), (4, iV 1)]) (g' := []) (nx' := 0) (by kernel_rfl) (K_P1) ?_
  refine AW.rgs [.call [] (.tup [.c (.d (D.sl ([] : List D) 0)), iE 5]) [] 0 [] none, .no, .no, .no, .no, .no] [1, 2, 4, 6] [] (P := (_)) (l' := [(1, .e (.c (.d (D.sl [iD 1, iD 2] 2)))), (2, iV 0), (4, iV 1), (6, iV 5)]) (g' := []) (nx' := 0) (by kernel_rfl) (K_P2) ?_
  have hx1 : ((((-1) : Int) ≤ (idxK ([1, 2] : List Int) 2 2)) ∧ ((idxK ([1, 2] : List Int) 2 2) < 2)) := idxK_rng ([1, 2] : List Int) (2 : Int) (2 : Nat)
  refine AW.rgs [.no, .b true, .no, .no, .no, .b true, .no, .no, .no, .n 1, .no, .b true, .no, .no, .no, .call [] (.e (.c (.d (D.lit (.string (strOfNums ([70, 76, 44, 70, 82] : List Int))))))) [] 0 [] none, .b true, .no, .no, .no, .b true, .no, .no, .no, .b true, .no, .no, .no, .call [] (bV true) [] 0 [] none, .no, .no, .no, .call [] (iV 1) [] 0 [] none, .b true, .no, .no] [0] [] (P := (((0 : Int) = 0)) ∧ (((2 : Int) = 2)) ∧ ((1 : Int) = 1) ∧ ((1 : Nat) < 2) ∧ (((2 : Int) = 2)) ∧ (_) ∧ ((ByteArray.toList (strOfNums ([70, 76, 44, 70, 82] : List Int)) == ByteArray.toList (ByteArray.mk #[70, 76, 44, 70, 82])) = true) ∧ (((1 : Int) = 1)) ∧ (((5 : Int) = 5)) ∧ (_) ∧ (_) ∧ (((1 : Int) = 1))) (l' := [(0, bV true)]) (g' := []) (nx' := 0) (by kernel_rfl) ⟨(by omega), (by omega), rfl, (by omega), (by omega), (K_F), (by kernel_rfl), (by omega), (by omega), (K_V), (Fun.cv (V_Index ([1, 2] : List Int) 2 2 (by first | omega | with_reducible assumption | (simp only [bsD_len, stD_len, stL_len, List.length_append, List.length_cons, List.length_nil, List.length_take, List.length_drop, List.length_replicate, List.length_set] <;> omega) | rfl | assumption) (by omega)) (y' := iV 1) (g1' := toG []) (by kernel_rfl) (by kernel_rfl)), (by omega)⟩ ?_
  refine AW.ret ?_
  exact EndP.of (.inr rfl) [] (P := (true = true)) (by kernel_rfl) rfl

set_option maxHeartbeats 4000000 in
set_option maxRecDepth 100000 in
theorem Q_ChannelsLists (a b : List Int) (p : Int) (n m : Nat) (ha : List.length a = n) (ba : n ≤ 9223372036854775807) (hb : List.length b = m) (bb : m ≤ 9223372036854775807) : Fun 6 [.c (.d (D.sl (dI .i64 a) n)), .c (.d (D.sl (dI .i64 b) m)), iE p] (toG []) 0 (bV true) (toG []) 0 := by
  refine Fun.mk (n := 56) Tryd.func6 rfl rfl (Nat.le_of_ble_eq_true rfl) ?_
  intro cx hcx
  refine AW.rgs [.no] [0, 1, 2] [] (P := True) (l' := [(0, sV .i64 a n), (1, sV .i64 b m), (2, iV p)]) (g' := []) (nx' := 0) (by kernel_rfl) trivial ?_
  refine AW.seq ?_
  refine AW.rgs [.call [] (bV true) [] 0 [] none, .no] [0, 1, 2, 8] [] (P := (_)) (l' := [(0, sV .i64 a n), (1, sV .i64 b m), (2, iV p), (8, bV false)]) (g' := []) (nx' := 0) (by kernel_rfl) (Q_sane) ?_
  refine AW.cond_f (.tmp (Look.of rfl)) ?_
  refine AW.skip ?_
  refine AW.seq ?_
  by_cases hx1 : ((40 : Int) < ((n : Nat) : Int))
  · refine AW.rgs [.no, .no, .b true, .no, .no] [0, 1, 2, 16] [] (P := (((40 : Int) < ((n : Nat) : Int)))) (l' := [(0, sV .i64 a n), (1, sV .i64 b m), (2, iV p), (16, bV true)]) (g' := []) (nx' := 0) (by kernel_rfl) (by omega) ?_
    refine AW.cond_t (.tmp (Look.of rfl)) ?_
    refine AW.rgs [.no] [6] [] (P := True) (l' := [(6, bV true)]) (g' := []) (nx' := 0) (by kernel_rfl) trivial ?_
    refine AW.ret ?_
    exact EndP.of (.inr rfl) [] (P := (true = true)) (by kernel_rfl) rfl
  · by_cases hx2 : ((40 : Int) < ((m : Nat) : Int))
    · refine AW.rgs [.no, .no, .b false, .no, .no, .no, .b true, .no] [0, 1, 2, 16] [] (P := (¬ ((40 : Int) < ((n : Nat) : Int))) ∧ (((40 : Int) < ((m : Nat) : Int)))) (l' := [(0, sV .i64 a n), (1, sV .i64 b m), (2, iV p), (16, bV true)]) (g' := []) (nx' := 0) (by kernel_rfl) ⟨(by omega), (by omega)⟩ ?_
      refine AW.cond_t (.tmp (Look.of rfl)) ?_
      refine AW.rgs [.no] [6] [] (P := True) (l' := [(6, bV true)]) (g' := []) (nx' := 0) (by kernel_rfl) trivial ?_
      refine AW.ret ?_
      exact EndP.of (.inr rfl) [] (P := (true = true)) (by kernel_rfl) rfl
    · refine AW.rgs [.no, .no, .b false, .no, .no, .no, .b false, .no] [0, 1, 2, 16] [] (P := (¬ ((40 : Int) < ((n : Nat) : Int))) ∧ (¬ ((40 : Int) < ((m : Nat) : Int)))) (l' := [(0, sV .i64 a n), (1, sV .i64 b m), (2, iV p), (16, bV false)]) (g' := []) (nx' := 0) (by kernel_rfl) ⟨(by omega), (by omega)⟩ ?_
      refine AW.cond_f (.tmp (Look.of rfl)) ?_
      refine AW.skip ?_
      rcases Bool.eq_false_or_eq_true (chB a n) with hx3 | hx3
      · rcases Bool.eq_false_or_eq_true (sqB a b) with hx8 | hx8
        · have hx9 : ((((-1) : Int) ≤ (idxK a p n)) ∧ ((idxK a p n) < ((n : Nat) : Int))) := idxK_rng a p n
          have hx10 : ((((-1) : Int) ≤ (idxK a p n)) ∧ ((idxK a p n) < ((n : Nat) : Int))) := idxK_rng a p n
          have hx11 : ((List.length (stL a)) = n) := (stL_len a).trans (by first | assumption | omega)
          have hx12 : ((List.length (stL a)) = n) := (stL_len a).trans (by first | assumption | omega)
          have hx13 : ((List.length (coL a b m)) ≤ n) := (by have h9 := coL_len a b m; omega)
          have hx14 : ((List.length (coL a b m)) ≤ n) := (by have h9 := coL_len a b m; omega)
          refine AW.rgs [.no, .call [] (bV true) [] 0 [] none, .no, .call [] (bV true) [] 0 [] none, .no, .no, .no, .no, .call [] (iV (idxK a p n)) [] 0 [] none, .no, .no, .call [] (iV (idxK a p n)) [] 0 [] none, .b true, .no, .no, .no, .call [] (sV .i64 (stL a) n) [] 0 [] none, .no, .call [] (sV .i64 (stL a) n) [] 0 [] none, .call [] (bV true) [] 0 [] none, .no, .no, .no, .no, .call [] (bV true) [] 0 [] none, .no, .no, .call [] (bV true) [] 0 [] none, .no, .no, .no, .no, .no, .call [] (sV .i64 (coL a b m) (List.length (coL a b m))) [] 0 [] none, .no, .no, .call [] (sV .i64 (coL a b m) (List.length (coL a b m))) [] 0 [] none, .call [] (bV true) [] 0 [] none, .no, .no] [6] [] (P := (Fun 26 [.c (.d (D.sl (dI .i64 a) n))] (toG []) 0 (bV true) (toG []) 0) ∧ (Fun 27 [.c (.d (D.sl (dI .i64 a) n))] (toG []) 0 (bV true) (toG []) 0) ∧ (_) ∧ (_) ∧ (((idxK a p n) = (idxK a p n))) ∧ (_) ∧ (_) ∧ (_) ∧ (Fun 32 [.c (.d (D.sl (dI .i64 a) n)), .c (.d (D.sl (dI .i64 b) m))] (toG []) 0 (bV true) (toG []) 0) ∧ (Fun 23 [.c (.d (D.sl (dI .i64 a) n)), .c (.d (D.sl (dI .i64 b) m))] (toG []) 0 (bV true) (toG []) 0) ∧ (_) ∧ (_) ∧ (_)) (l' := [(6, bV true)]) (g' := []) (nx' := 0) (by kernel_rfl) ⟨(by have h0 := (V_Valid a n (by omega) (by omega)); rw [hx3] at h0; exact h0), (by have h0 := (V_rValid a n (by omega) (by omega)); rw [hx3] at h0; exact h0), (V_Index a n p (by omega) (by omega)), (V_rIndex a n p (by omega) (by omega)), (by omega), (V_Sorted a n (by omega) (by omega)), (V_rSorted a n (by omega) (by omega)), (Fun.y (V_rSame (stL a) (stL a) n n (by first | omega | with_reducible assumption | (simp only [bsD_len, stD_len, stL_len, List.length_append, List.length_cons, List.length_nil, List.length_take, List.length_drop, List.length_replicate, List.length_set] <;> omega) | rfl | assumption) (by first | omega | with_reducible assumption | (simp only [bsD_len, stD_len, stL_len, List.length_append, List.length_cons, List.length_nil, List.length_take, List.length_drop, List.length_replicate, List.length_set] <;> omega) | rfl | assumption) (by omega) (by omega)) (y' := bV true) (congrArg (fun b9 => LV (.bool b9)) (sqB_r _))), (by have h0 := (V_Same a b n m (by omega) (by omega) (by omega) (by omega)); rw [hx8] at h0; exact h0), (by have h0 := (V_rSame a b n m (by omega) (by omega) (by omega) (by omega)); rw [hx8] at h0; exact h0), (V_Common a b n m (by omega) (by omega) (by omega) (by omega)), (V_rCommon a b n m (by omega) (by omega) (by omega) (by omega)), (Fun.y (V_rSame (coL a b m) (coL a b m) (List.length (coL a b m)) (List.length (coL a b m)) rfl rfl (by first | omega | with_reducible assumption | (simp only [bsD_len, stD_len, stL_len, List.length_append, List.length_cons, List.length_nil, List.length_take, List.length_drop, List.length_replicate, List.length_set] <;> omega) | rfl | assumption) (by first | omega | with_reducible assumption | (simp only [bsD_len, stD_len, stL_len, List.length_append, List.length_cons, List.length_nil, List.length_take, List.length_drop, List.length_replicate, List.length_set] <;> omega) | rfl | assumption)) (y' := bV true) (congrArg (fun b9 => LV (.bool b9)) (sqB_r _)))⟩ ?_
          refine AW.ret ?_
          exact EndP.of (.inr rfl) [] (P := (true = true)) (by kernel_rfl) rfl
        · have hx15 : ((((-1) : Int) ≤ (idxK a p n)) ∧ ((idxK a p n) < ((n : Nat) : Int))) := idxK_rng a p n
          have hx16 : ((((-1) : Int) ≤ (idxK a p n)) ∧ ((idxK a p n) < ((n : Nat) : Int))) := idxK_rng a p n
          have hx17 : ((List.length (stL a)) = n) := (stL_len a).trans (by first | assumption | omega)
          have hx18 : ((List.length (stL a)) = n) := (stL_len a).trans (by first | assumption | omega)
          have hx19 : ((List.length (coL a b m)) ≤ n) := (by have h9 := coL_len a b m; omega)
          have hx20 : ((List.length (coL a b m)) ≤ n) := (by have h9 := coL_len a b m; omega)
          refine AW.rgs [.no, .call [] (bV true) [] 0 [] none, .no, .call [] (bV true) [] 0 [] none, .no, .no, .no, .no, .call [] (iV (idxK a p n)) [] 0 [] none, .no, .no, .call [] (iV (idxK a p n)) [] 0 [] none, .b true, .no, .no, .no, .call [] (sV .i64 (stL a) n) [] 0 [] none, .no, .call [] (sV .i64 (stL a) n) [] 0 [] none, .call [] (bV true) [] 0 [] none, .no, .no, .no, .no, .call [] (bV false) [] 0 [] none, .no, .no, .call [] (bV false) [] 0 [] none, .no, .no, .no, .no, .no, .call [] (sV .i64 (coL a b m) (List.length (coL a b m))) [] 0 [] none, .no, .no, .call [] (sV .i64 (coL a b m) (List.length (coL a b m))) [] 0 [] none, .call [] (bV true) [] 0 [] none, .no, .no] [6] [] (P := (Fun 26 [.c (.d (D.sl (dI .i64 a) n))] (toG []) 0 (bV true) (toG []) 0) ∧ (Fun 27 [.c (.d (D.sl (dI .i64 a) n))] (toG []) 0 (bV true) (toG []) 0) ∧ (_) ∧ (_) ∧ (((idxK a p n) = (idxK a p n))) ∧ (_) ∧ (_) ∧ (_) ∧ (Fun 32 [.c (.d (D.sl (dI .i64 a) n)), .c (.d (D.sl (dI .i64 b) m))] (toG []) 0 (bV false) (toG []) 0) ∧ (Fun 23 [.c (.d (D.sl (dI .i64 a) n)), .c (.d (D.sl (dI .i64 b) m))] (toG []) 0 (bV false) (toG []) 0) ∧ (_) ∧ (_) ∧ (_)) (l' := [(6, bV true)]) (g' := []) (nx' := 0) (by kernel_rfl) ⟨(by have h0 := (V_Valid a n (by omega) (by omega)); rw [hx3] at h0; exact h0), (by have h0 := (V_rValid a n (by omega) (by omega)); rw [hx3] at h0; exact h0), (V_Index a n p (by omega) (by omega)), (V_rIndex a n p (by omega) (by omega)), (by omega), (V_Sorted a n (by omega) (by omega)), (V_rSorted a n (by omega) (by omega)), (Fun.y (V_rSame (stL a) (stL a) n n (by first | omega | with_reducible assumption | (simp only [bsD_len, stD_len, stL_len, List.length_append, List.length_cons, List.length_nil, List.length_take, List.length_drop, List.length_replicate, List.length_set] <;> omega) | rfl | assumption) (by first | omega | with_reducible assumption | (simp only [bsD_len, stD_len, stL_len, List.length_append, List.length_cons, List.length_nil, List.length_take, List.length_drop, List.length_replicate, List.length_set] <;> omega) | rfl | assumption) (by omega) (by omega)) (y' := bV true) (congrArg (fun b9 => LV (.bool b9)) (sqB_r _))), (by have h0 := (V_Same a b n m (by omega) (by omega) (by omega) (by omega)); rw [hx8] at h0; exact h0), (by have h0 := (V_rSame a b n m (by omega) (by omega) (by omega) (by omega)); rw [hx8] at h0; exact h0), (V_Common a b n m (by omega) (by omega) (by omega) (by omega)), (V_rCommon a b n m (by omega) (by omega) (by omega) (by omega)), (Fun.y (V_rSame (coL a b m) (coL a b m) (List.length (coL a b m)) (List.length (coL a b m)) rfl rfl (by first | omega | with_reducible assumption | (simp only [bsD_len, stD_len, stL_len, List.length_append, List.length_cons, List.length_nil, List.length_take, List.length_drop, List.length_replicate, List.length_set] <;> omega) | rfl | assumption) (by first | omega | with_reducible assumption | (simp only [bsD_len, stD_len, stL_len, List.length_append, List.length_cons, List.length_nil, List.length_take, List.length_drop, List.length_replicate, List.length_set] <;> omega) | rfl | assumption)) (y' := bV true) (congrArg (fun b9 => LV (.bool b9)) (sqB_r _)))⟩ ?_
          refine AW.ret ?_
          exact EndP.of (.inr rfl) [] (P := (true = true)) (by kernel_rfl) rfl
      · rcases Bool.eq_false_or_eq_true (sqB a b) with hx25 | hx25
        · have hx26 : ((((-1) : Int) ≤ (idxK a p n)) ∧ ((idxK a p n) < ((n : Nat) : Int))) := idxK_rng a p n
          have hx27 : ((((-1) : Int) ≤ (idxK a p n)) ∧ ((idxK a p n) < ((n : Nat) : Int))) := idxK_rng a p n
          have hx28 : ((List.length (stL a)) = n) := (stL_len a).trans (by first | assumption | omega)
          have hx29 : ((List.length (stL a)) = n) := (stL_len a).trans (by first | assumption | omega)
          have hx30 : ((List.length (coL a b m)) ≤ n) := (by have h9 := coL_len a b m; omega)
          have hx31 : ((List.length (coL a b m)) ≤ n) := (by have h9 := coL_len a b m; omega)
          refine AW.rgs [.no, .call [] (bV false) [] 0 [] none, .no, .call [] (bV false) [] 0 [] none, .no, .no, .no, .no, .call [] (iV (idxK a p n)) [] 0 [] none, .no, .no, .call [] (iV (idxK a p n)) [] 0 [] none, .b true, .no, .no, .no, .call [] (sV .i64 (stL a) n) [] 0 [] none, .no, .call [] (sV .i64 (stL a) n) [] 0 [] none, .call [] (bV true) [] 0 [] none, .no, .no, .no, .no, .call [] (bV true) [] 0 [] none, .no, .no, .call [] (bV true) [] 0 [] none, .no, .no, .no, .no, .no, .call [] (sV .i64 (coL a b m) (List.length (coL a b m))) [] 0 [] none, .no, .no, .call [] (sV .i64 (coL a b m) (List.length (coL a b m))) [] 0 [] none, .call [] (bV true) [] 0 [] none, .no, .no] [6] [] (P := (Fun 26 [.c (.d (D.sl (dI .i64 a) n))] (toG []) 0 (bV false) (toG []) 0) ∧ (Fun 27 [.c (.d (D.sl (dI .i64 a) n))] (toG []) 0 (bV false) (toG []) 0) ∧ (_) ∧ (_) ∧ (((idxK a p n) = (idxK a p n))) ∧ (_) ∧ (_) ∧ (_) ∧ (Fun 32 [.c (.d (D.sl (dI .i64 a) n)), .c (.d (D.sl (dI .i64 b) m))] (toG []) 0 (bV true) (toG []) 0) ∧ (Fun 23 [.c (.d (D.sl (dI .i64 a) n)), .c (.d (D.sl (dI .i64 b) m))] (toG []) 0 (bV true) (toG []) 0) ∧ (_) ∧ (_) ∧ (_)) (l' := [(6, bV true)]) (g' := []) (nx' := 0) (by kernel_rfl) ⟨(by have h0 := (V_Valid a n (by omega) (by omega)); rw [hx3] at h0; exact h0), (by have h0 := (V_rValid a n (by omega) (by omega)); rw [hx3] at h0; exact h0), (V_Index a n p (by omega) (by omega)), (V_rIndex a n p (by omega) (by omega)), (by omega), (V_Sorted a n (by omega) (by omega)), (V_rSorted a n (by omega) (by omega)), (Fun.y (V_rSame (stL a) (stL a) n n (by first | omega | with_reducible assumption | (simp only [bsD_len, stD_len, stL_len, List.length_append, List.length_cons, List.length_nil, List.length_take, List.length_drop, List.length_replicate, List.length_set] <;> omega) | rfl | assumption) (by first | omega | with_reducible assumption | (simp only [bsD_len, stD_len, stL_len, List.length_append, List.length_cons, List.length_nil, List.length_take, List.length_drop, List.length_replicate, List.length_set] <;> omega) | rfl | assumption) (by omega) (by omega)) (y' := bV true) (congrArg (fun b9 => LV (.bool b9)) (sqB_r _))), (by have h0 := (V_Same a b n m (by omega) (by omega) (by omega) (by omega)); rw [hx25] at h0; exact h0), (by have h0 := (V_rSame a b n m (by omega) (by omega) (by omega) (by omega)); rw [hx25] at h0; exact h0), (V_Common a b n m (by omega) (by omega) (by omega) (by omega)), (V_rCommon a b n m (by omega) (by omega) (by omega) (by omega)), (Fun.y (V_rSame (coL a b m) (coL a b m) (List.length (coL a b m)) (List.length (coL a b m)) rfl rfl (by first | omega | with_reducible assumption | (simp only [bsD_len, stD_len, stL_len, List.length_append, List.length_cons, List.length_nil, List.length_take, List.length_drop, List.length_replicate, List.length_set] <;> omega) | rfl | assumption) (by first | omega | with_reducible assumption | (simp only [bsD_len, stD_len, stL_len, List.length_append, List.length_cons, List.length_nil, List.length_take, List.length_drop, List.length_replicate, List.length_set] <;> omega) | rfl | assumption)) (y' := bV true) (congrArg (fun b9 => LV (.bool b9)) (sqB_r _)))⟩ ?_
          refine AW.ret ?_
          exact EndP.of (.inr rfl) [] (P := (true = true)) (by kernel_rfl) rfl
        · have hx32 : ((((-1) : Int) ≤ (idxK a p n)) ∧ ((idxK a p n) < ((n : Nat) : Int))) := idxK_rng a p n
          have hx33 : ((((-1) : Int) ≤ (idxK a p n)) ∧ ((idxK a p n) < ((n : Nat) : Int))) := idxK_rng a p n
          have hx34 : ((List.length (stL a)) = n) := (stL_len a).trans (by first | assumption | omega)
          have hx35 : ((List.length (stL a)) = n) := (stL_len a).trans (by first | assumption | omega)
          have hx36 : ((List.length (coL a b m)) ≤ n) := (by have h9 := coL_len a b m; omega)
          have hx37 : ((List.length (coL a b m)) ≤ n) := (by have h9 := coL_len a b m; omega)
          refine AW.rgs [.no, .call [] (bV false) [] 0 [] none, .no, .call [] (bV false) [] 0 [] none, .no, .no, .no, .no, .call [] (iV (idxK a p n)) [] 0 [] none, .no, .no, .call [] (iV (idxK a p n)) [] 0 [] none, .b true, .no, .no, .no, .call [] (sV .i64 (stL a) n) [] 0 [] none, .no, .call [] (sV .i64 (stL a) n) [] 0 [] none, .call [] (bV true) [] 0 [] none, .no, .no, .no, .no, .call [] (bV false) [] 0 [] none, .no, .no, .call [] (bV false) [] 0 [] none, .no, .no, .no, .no, .no, .call [] (sV .i64 (coL a b m) (List.length (coL a b m))) [] 0 [] none, .no, .no, .call [] (sV .i64 (coL a b m) (List.length (coL a b m))) [] 0 [] none, .call [] (bV true) [] 0 [] none, .no, .no] [6] [] (P := (Fun 26 [.c (.d (D.sl (dI .i64 a) n))] (toG []) 0 (bV false) (toG []) 0) ∧ (Fun 27 [.c (.d (D.sl (dI .i64 a) n))] (toG []) 0 (bV false) (toG []) 0) ∧ (_) ∧ (_) ∧ (((idxK a p n) = (idxK a p n))) ∧ (_) ∧ (_) ∧ (_) ∧ (Fun 32 [.c (.d (D.sl (dI .i64 a) n)), .c (.d (D.sl (dI .i64 b) m))] (toG []) 0 (bV false) (toG []) 0) ∧ (Fun 23 [.c (.d (D.sl (dI .i64 a) n)), .c (.d (D.sl (dI .i64 b) m))] (toG []) 0 (bV false) (toG []) 0) ∧ (_) ∧ (_) ∧ (_)) (l' := [(6, bV true)]) (g' := []) (nx' := 0) (by kernel_rfl) ⟨(by have h0 := (V_Valid a n (by omega) (by omega)); rw [hx3] at h0; exact h0), (by have h0 := (V_rValid a n (by omega) (by omega)); rw [hx3] at h0; exact h0), (V_Index a n p (by omega) (by omega)), (V_rIndex a n p (by omega) (by omega)), (by omega), (V_Sorted a n (by omega) (by omega)), (V_rSorted a n (by omega) (by omega)), (Fun.y (V_rSame (stL a) (stL a) n n (by first | omega | with_reducible assumption | (simp only [bsD_len, stD_len, stL_len, List.length_append, List.length_cons, List.length_nil, List.length_take, List.length_drop, List.length_replicate, List.length_set] <;> omega) | rfl | assumption) (by first | omega | with_reducible assumption | (simp only [bsD_len, stD_len, stL_len, List.length_append, List.length_cons, List.length_nil, List.length_take, List.length_drop, List.length_replicate, List.length_set] <;> omega) | rfl | assumption) (by omega) (by omega)) (y' := bV true) (congrArg (fun b9 => LV (.bool b9)) (sqB_r _))), (by have h0 := (V_Same a b n m (by omega) (by omega) (by omega) (by omega)); rw [hx25] at h0; exact h0), (by have h0 := (V_rSame a b n m (by omega) (by omega) (by omega) (by omega)); rw [hx25] at h0; exact h0), (V_Common a b n m (by omega) (by omega) (by omega) (by omega)), (V_rCommon a b n m (by omega) (by omega) (by omega) (by omega)), (Fun.y (V_rSame (coL a b m) (coL a b m) (List.length (coL a b m)) (List.length (coL a b m)) rfl rfl (by first | omega | with_reducible assumption | (simp only [bsD_len, stD_len, stL_len, List.length_append, List.length_cons, List.length_nil, List.length_take, List.length_drop, List.length_replicate, List.length_set] <;> omega) | rfl | assumption) (by first | omega | with_reducible assumption | (simp only [bsD_len, stD_len, stL_len, List.length_append, List.length_cons, List.length_nil, List.length_take, List.length_drop, List.length_replicate, List.length_set] <;> omega) | rfl | assumption)) (y' := bV true) (congrArg (fun b9 => LV (.bool b9)) (sqB_r _)))⟩ ?_
          refine AW.ret ?_
          exact EndP.of (.inr rfl) [] (P := (true = true)) (by kernel_rfl) rfl

theorem channelsLists_walk {w : World} {xa ya : Option Addr} {xl xc yl yc : Nat} {a b : List Int} {p : Int} (ha : Sl .i64 w xa xl xc a) (hb : Sl .i64 w ya yl yc b) (hgl : GlOK (fun k => k < w.heap.size) w) : Calls Tryd.prog 6 #[.slice xa xl xc, .slice ya yl yc, .int .i64 p] w fun e w' => e = .returned (.bool true) ∧ Below w.heap.size w w' := by
  exact (Q_ChannelsLists a b p (List.length a) (List.length b) rfl ha.max rfl hb.max).walk ⟨repE_sl ha, repE_sl hb, repE_lit rfl, trivial⟩ hgl

end Go.Proofs.YtcmldnahohmieaaDoor
