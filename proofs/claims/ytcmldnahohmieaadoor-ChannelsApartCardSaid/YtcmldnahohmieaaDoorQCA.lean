/- A law. No statement is proved here. -/
import Derived.Test.YtcmldnahohmieaaDoorL06D
import Derived.Test.YtcmldnahohmieaaDoorAmD
namespace Go.Proofs.YtcmldnahohmieaaDoor
open Go.ChangeShapes Go.WideShapes Go.ChangeAt Go.RowKit
set_option linter.unusedVariables false
set_option linter.unusedSimpArgs false

theorem str_num (s : ByteArray) : strOfNums (numsOf s) = s := by
  apply ByteArray.ext
  apply Array.ext'
  rw [strOfNums_data]
  unfold numsOf
  rw [List.map_map]
  have e : ((fun n : Int => UInt8.ofNat n.toNat) ∘ fun b : UInt8 => (b.toNat : Int)) = id := by
    funext b
    simp
  rw [e, List.map_id]
theorem byt_num (s : ByteArray) : Byt (numsOf s) := by
  intro x hx
  unfold numsOf at hx
  obtain ⟨b, _, rfl⟩ := List.mem_map.1 hx
  have := b.toNat_lt
  omega
theorem len_num (s : ByteArray) : (numsOf s).length = s.size := by unfold numsOf; rw [List.length_map, Array.length_toList]; rfl

theorem Sl.max {k : IntKind} {w : World} {a : Option Addr} {len cap : Nat} {l : List Int} (h : Sl k w a len cap l) : List.length l ≤ 9223372036854775807 := by
  obtain ⟨h1, h2, h3, _⟩ := h
  unfold maxLen at h3
  omega

theorem rd1 : rdP [70, 76, 44, 70, 82] = some [1, 2] := by decide +kernel
theorem rd2 : rdP [70, 76, 44, 70, 76] = some [1, 1] := by decide +kernel
theorem rd3 : rdP [70, 76, 44] = none := by decide +kernel
theorem sn1 : (paE [70, 76, 44, 70, 82] = 0 ∧ paL [70, 76, 44, 70, 82] = [1, 2]) := pa_good rd1 rfl (by decide +kernel)
theorem sn2 : (paE [70, 76, 44, 70, 76] = 1 ∧ paL [70, 76, 44, 70, 76] = []) := pa_bad rd2 rfl (by decide +kernel)
theorem sn3 : (paE [70, 76, 44] = 5 ∧ paL [70, 76, 44] = []) := pa_none rd3
theorem K_P0 : Fun 21 [.c (.d (D.lit ((.string (ByteArray.mk #[70, 76, 44, 70, 82])))))] (toG []) 0 (.tup [.c (.d (D.sl [iD 1, iD 2] 2)), iE 0]) (toG []) 0 := by
  have h := V_Parse ([70, 76, 44, 70, 82] : List Int) (by intro x hx; simp at hx; omega) (by decide)
  rw [sn1.1, sn1.2] at h
  exact h
theorem K_P1 : Fun 21 [.c (.d (D.lit ((.string (ByteArray.mk #[70, 76, 44, 70, 76])))))] (toG []) 0 (.tup [.c (.d (D.sl ([] : List D) 0)), iE 1]) (toG []) 0 := by
  have h := V_Parse ([70, 76, 44, 70, 76] : List Int) (by intro x hx; simp at hx; omega) (by decide)
  rw [sn2.1, sn2.2] at h
  exact h
theorem K_P2 : Fun 21 [.c (.d (D.lit ((.string (ByteArray.mk #[70, 76, 44])))))] (toG []) 0 (.tup [.c (.d (D.sl ([] : List D) 0)), iE 5]) (toG []) 0 := by
  have h := V_Parse ([70, 76, 44] : List Int) (by intro x hx; simp at hx; omega) (by decide)
  rw [sn3.1, sn3.2] at h
  exact h
theorem K_F : Fun 24 [.c (.d (D.sl [iD 1, iD 2] 2))] (toG []) 0 (.e (.c (.d (D.lit (.string (strOfNums ([70, 76, 44, 70, 82] : List Int))))))) (toG []) 0 := by
  have h := V_Format [1, 2] 2 rfl (by decide)
  rw [show fmL [1, 2] = [70, 76, 44, 70, 82] by decide +kernel] at h
  exact h
theorem K_V : Fun 26 [.c (.d (D.sl [iD 1, iD 2] 2))] (toG []) 0 (bV true) (toG []) 0 := by
  have h := V_Valid [1, 2] 2 rfl (by decide)
  rw [show chB [1, 2] 2 = true by decide +kernel] at h
  exact h

set_option maxHeartbeats 4000000 in
set_option maxRecDepth 100000 in
theorem Q_sane   : Fun 20 [] (toG []) 0 (bV true) (toG []) 0 := by
  refine Fun.mk (n := 54) Tryd.func20 rfl rfl (Nat.le_of_ble_eq_true rfl) ?_
  intro cx hcx
  refine AW.rgs [.no] [] [] (P := True) (l' := []) (g' := []) (nx' := 0) (by kernel_rfl) trivial ?_
  refine AW.rgs [.call [] (.tup [.c (.d (D.sl [iD 1, iD 2] 2)), iE 0]) [] 0 [] none, .no, .no, .no, .no, .no] [1, 2] [] (P := (_)) (l' := [(1, .e (.c (.d (D.sl [iD 1, iD 2] 2)))), (2, iV 0)]) (g' := []) (nx' := 0) (by kernel_rfl) (K_P0) ?_
  refine AW.rgs [.call [] (.tup [.c (.d (D.sl ([] : List D) 0)), iE 1]) [] 0 [] none, .no, .no, .no, .no, .no] [1, 2, 4] [] (P := (_)) (l' := [(1, .e (.c (.d (D.sl [iD 1, iD 2] 2)))), (2, iV 0), (4, iV 1)]) (g' := []) (nx' := 0) (by kernel_rfl) (K_P1) ?_
  refine AW.rgs [.call [] (.tup [.c (.d (D.sl ([] : List D) 0)), iE 5]) [] 0 [] none, .no, .no, .no, .no, .no] [1, 2, 4, 6] [] (P := (_)) (l' := [(1, .e (.c (.d (D.sl [iD 1, iD 2] 2)))), (2, iV 0), (4, iV 1), (6, iV 5)]) (g' := []) (nx' := 0) (by kernel_rfl) (K_P2) ?_
  have hx1 : ((((-1) : Int) ≤ (idxK ([1, 2] : List Int) 2 2)) ∧ ((idxK ([1, 2] : List Int) 2 2) < 2)) := idxK_rng ([1, 2] : List Int) (2 : Int) (2 : Nat)
  refine AW.rgs [.no, .b true, .no, .no, .no, .b true, .no, .no, .no, .n 1, .no, .b true, .no, .no, .no, .call [] (.e (.c (.d (D.lit (.string (strOfNums ([70, 76, 44, 70, 82] : List Int))))))) [] 0 [] none, .b true, .no, .no, .no, .b true, .no, .no, .no, .b true, .no, .no, .no, .call [] (bV true) [] 0 [] none, .no, .no, .no, .call [] (iV 1) [] 0 [] none, .b true, .no, .no] [0] [] (P := (((0 : Int) = 0)) ∧ (((2 : Int) = 2)) ∧ ((1 : Int) = 1) ∧ ((1 : Nat) < 2) ∧ (((2 : Int) = 2)) ∧ (_) ∧ ((ByteArray.toList (strOfNums ([70, 76, 44, 70, 82] : List Int)) == ByteArray.toList (ByteArray.mk #[70, 76, 44, 70, 82])) = true) ∧ (((1 : Int) = 1)) ∧ (((5 : Int) = 5)) ∧ (_) ∧ (_) ∧ (((1 : Int) = 1))) (l' := [(0, bV true)]) (g' := []) (nx' := 0) (by kernel_rfl) ⟨(by omega), (by omega), rfl, (by omega), (by omega), (K_F), (by kernel_rfl), (by omega), (by omega), (K_V), (Fun.cv (V_Index ([1, 2] : List Int) 2 2 (by first | omega | with_reducible assumption | (simp only [bsD_len, stD_len, stL_len, List.length_append, List.length_cons, List.length_nil, List.length_take, List.length_drop, List.length_replicate, List.length_set] <;> omega) | rfl | assumption) (by omega)) (y' := iV 1) (g1' := toG []) (by kernel_rfl) (by kernel_rfl)), (by omega)⟩ ?_
  refine AW.ret ?_
  exact EndP.of (.inr rfl) [] (P := (true = true)) (by kernel_rfl) rfl

theorem pa_zz {s : List Int} (h : ¬ paE s = 0) : (paL s).length = 0 := by
  rcases pa_cases s with ⟨h1, _⟩ | ⟨_, h1⟩
  · exact absurd h1 h
  · rw [h1]; rfl

set_option maxHeartbeats 4000000 in
set_option maxRecDepth 100000 in
theorem Q_ChannelsApart (a b s : List Int) (n m : Nat) (ha : List.length a = n) (ba : n ≤ 9223372036854775807) (hb : List.length b = m) (bb : m ≤ 9223372036854775807) (hy : Byt s) (hs : List.length s ≤ 9223372036854775807) : Fun 8 [.c (.d (D.sl (dI .i64 a) n)), .c (.d (D.sl (dI .i64 b) m)), .c (.d (D.lit (.string (strOfNums s))))] (toG []) 0 (bV true) (toG []) 0 := by
  refine Fun.mk (n := 59) Tryd.func8 rfl rfl (Nat.le_of_ble_eq_true rfl) ?_
  intro cx hcx
  refine AW.rgs [.no] [0, 1, 2] [] (P := True) (l' := [(0, sV .i64 a n), (1, sV .i64 b m), (2, .e (.c (.d (D.lit (.string (strOfNums s))))))]) (g' := []) (nx' := 0) (by kernel_rfl) trivial ?_
  refine AW.seq ?_
  refine AW.rgs [.call [] (bV true) [] 0 [] none, .no] [0, 1, 2, 10] [] (P := (_)) (l' := [(0, sV .i64 a n), (1, sV .i64 b m), (2, .e (.c (.d (D.lit (.string (strOfNums s)))))), (10, bV false)]) (g' := []) (nx' := 0) (by kernel_rfl) (Q_sane) ?_
  refine AW.cond_f (.tmp (Look.of rfl)) ?_
  refine AW.skip ?_
  refine AW.seq ?_
  by_cases hx1 : ((12 : Int) < ((n : Nat) : Int))
  · refine AW.rgs [.no, .no, .b true, .no, .no, .no, .no] [0, 1, 2, 23] [] (P := (((12 : Int) < ((n : Nat) : Int)))) (l' := [(0, sV .i64 a n), (1, sV .i64 b m), (2, .e (.c (.d (D.lit (.string (strOfNums s)))))), (23, bV true)]) (g' := []) (nx' := 0) (by kernel_rfl) (by omega) ?_
    refine AW.cond_t (.tmp (Look.of rfl)) ?_
    refine AW.rgs [.no] [6] [] (P := True) (l' := [(6, bV true)]) (g' := []) (nx' := 0) (by kernel_rfl) trivial ?_
    refine AW.ret ?_
    exact EndP.of (.inr rfl) [] (P := (true = true)) (by kernel_rfl) rfl
  · by_cases hx2 : ((12 : Int) < ((m : Nat) : Int))
    · refine AW.rgs [.no, .no, .b false, .no, .no, .no, .b true, .no, .no, .no] [0, 1, 2, 23] [] (P := (¬ ((12 : Int) < ((n : Nat) : Int))) ∧ (((12 : Int) < ((m : Nat) : Int)))) (l' := [(0, sV .i64 a n), (1, sV .i64 b m), (2, .e (.c (.d (D.lit (.string (strOfNums s)))))), (23, bV true)]) (g' := []) (nx' := 0) (by kernel_rfl) ⟨(by omega), (by omega)⟩ ?_
      refine AW.cond_t (.tmp (Look.of rfl)) ?_
      refine AW.rgs [.no] [6] [] (P := True) (l' := [(6, bV true)]) (g' := []) (nx' := 0) (by kernel_rfl) trivial ?_
      refine AW.ret ?_
      exact EndP.of (.inr rfl) [] (P := (true = true)) (by kernel_rfl) rfl
    · by_cases hx3 : ((60 : Int) < (((List.length s) : Nat) : Int))
      · refine AW.rgs [.no, .no, .b false, .no, .no, .no, .b false, .no, .no, .no, .i (((List.length s) : Nat) : Int), .b true, .no] [0, 1, 2, 23] [] (P := (¬ ((12 : Int) < ((n : Nat) : Int))) ∧ (¬ ((12 : Int) < ((m : Nat) : Int))) ∧ (((ByteArray.size (strOfNums s) : Nat) : Int) = ((((List.length s) : Nat) : Int) : Int)) ∧ (((60 : Int) < (((List.length s) : Nat) : Int)))) (l' := [(0, sV .i64 a n), (1, sV .i64 b m), (2, .e (.c (.d (D.lit (.string (strOfNums s)))))), (23, bV true)]) (g' := []) (nx' := 0) (by kernel_rfl) ⟨(by omega), (by omega), (by rw [strOfNums_size]), (by omega)⟩ ?_
        refine AW.cond_t (.tmp (Look.of rfl)) ?_
        refine AW.rgs [.no] [6] [] (P := True) (l' := [(6, bV true)]) (g' := []) (nx' := 0) (by kernel_rfl) trivial ?_
        refine AW.ret ?_
        exact EndP.of (.inr rfl) [] (P := (true = true)) (by kernel_rfl) rfl
      · refine AW.rgs [.no, .no, .b false, .no, .no, .no, .b false, .no, .no, .no, .i (((List.length s) : Nat) : Int), .b false, .no] [0, 1, 2, 23] [] (P := (¬ ((12 : Int) < ((n : Nat) : Int))) ∧ (¬ ((12 : Int) < ((m : Nat) : Int))) ∧ (((ByteArray.size (strOfNums s) : Nat) : Int) = ((((List.length s) : Nat) : Int) : Int)) ∧ (¬ ((60 : Int) < (((List.length s) : Nat) : Int)))) (l' := [(0, sV .i64 a n), (1, sV .i64 b m), (2, .e (.c (.d (D.lit (.string (strOfNums s)))))), (23, bV false)]) (g' := []) (nx' := 0) (by kernel_rfl) ⟨(by omega), (by omega), (by rw [strOfNums_size]), (by omega)⟩ ?_
        refine AW.cond_f (.tmp (Look.of rfl)) ?_
        refine AW.skip ?_
        refine AW.seq ?_
        rcases Bool.eq_false_or_eq_true (chB a n) with hx4 | hx4
        · rcases Bool.eq_false_or_eq_true (chB b m) with hx5 | hx5
          · by_cases hx8 : ((fmL a) = (fmL b))
            · rcases Bool.eq_false_or_eq_true (sqB a b) with hx11 | hx11
              · have hx12 : fmL a = fmL b := by rw [sqB_eq hx11]
                have hx13 : ((List.length (fmL a)) ≤ (3 * n)) := (by have h9 := fmL_len a; omega)
                have hx14 : ((List.length (fmL b)) ≤ (3 * m)) := (by have h9 := fmL_len b; omega)
                refine AW.rgs [.no, .call [] (bV true) [] 0 [] none, .no, .no, .call [] (bV true) [] 0 [] none, .no, .no, .no, .call [] (.e (.c (.d (D.lit (.string (strOfNums (fmL a))))))) [] 0 [] none, .no, .call [] (.e (.c (.d (D.lit (.string (strOfNums (fmL b))))))) [] 0 [] none, .b true, .no, .no, .call [] (bV true) [] 0 [] none, .no, .no] [2, 40] [] (P := (Fun 26 [.c (.d (D.sl (dI .i64 a) n))] (toG []) 0 (bV true) (toG []) 0) ∧ (Fun 26 [.c (.d (D.sl (dI .i64 b) m))] (toG []) 0 (bV true) (toG []) 0) ∧ (_) ∧ (_) ∧ ((ByteArray.toList (strOfNums (fmL a)) == ByteArray.toList (strOfNums (fmL b))) = true) ∧ (Fun 32 [.c (.d (D.sl (dI .i64 a) n)), .c (.d (D.sl (dI .i64 b) m))] (toG []) 0 (bV true) (toG []) 0)) (l' := [(2, .e (.c (.d (D.lit (.string (strOfNums s)))))), (40, bV false)]) (g' := []) (nx' := 0) (by kernel_rfl) ⟨(by have h0 := (V_Valid a n (by omega) (by omega)); rw [hx4] at h0; exact h0), (by have h0 := (V_Valid b m (by omega) (by omega)); rw [hx5] at h0; exact h0), (V_Format a n (by omega) (by omega)), (V_Format b m (by omega) (by omega)), (str_y (by first | assumption | rfl)), (by have h0 := (V_Same a b n m (by omega) (by omega) (by omega) (by omega)); rw [hx11] at h0; exact h0)⟩ ?_
                refine AW.cond_f (.tmp (Look.of rfl)) ?_
                refine AW.skip ?_
                have hx15 : ((((0 : Int) ≤ (paE s)) ∧ ((paE s) ≤ 5)) ∧ ((List.length (paL s)) ≤ 8)) := ⟨paE_rng s, paL_len s⟩
                refine AW.rgs [.no, .call [] (.tup [.c (.d (D.sl (dI .i64 (paL s)) (List.length (paL s)))), iE (paE s)]) [] 0 [] none, .no, .no, .no, .no, .no] [2, 7, 8] [] (P := (_)) (l' := [(2, .e (.c (.d (D.lit (.string (strOfNums s)))))), (7, sV .i64 (paL s) (List.length (paL s))), (8, iV (paE s))]) (g' := []) (nx' := 0) (by kernel_rfl) (V_Parse s (show Byt s by with_reducible assumption) (by omega)) ?_
                refine AW.seq ?_
                by_cases hx16 : ((paE s) ≠ 0)
                · have hx17 : List.length (paL s) = 0 := pa_zz (by omega)
                  refine AW.rgs [.no, .b true] [2, 7, 47] [] (P := (((paE s) ≠ 0))) (l' := [(2, .e (.c (.d (D.lit (.string (strOfNums s)))))), (7, sV .i64 (paL s) (List.length (paL s))), (47, bV true)]) (g' := []) (nx' := 0) (by kernel_rfl) (by omega) ?_
                  refine AW.cond_t (.tmp (Look.of rfl)) ?_
                  refine AW.rgs [.no, .no, .b true, .no] [6] [] (P := (((((List.length (paL s)) : Nat) : Int) = 0))) (l' := [(6, bV true)]) (g' := []) (nx' := 0) (by kernel_rfl) (by omega) ?_
                  refine AW.ret ?_
                  exact EndP.of (.inr rfl) [] (P := (true = true)) (by kernel_rfl) rfl
                · have hx18 : fmL (paL s) = s := (pa_text (by omega)).1
                  have hx19 : chB (paL s) (List.length (paL s)) = true := (pa_text (by omega)).2
                  refine AW.rgs [.no, .b false] [2, 7, 47] [] (P := (¬ ((paE s) ≠ 0))) (l' := [(2, .e (.c (.d (D.lit (.string (strOfNums s)))))), (7, sV .i64 (paL s) (List.length (paL s))), (47, bV false)]) (g' := []) (nx' := 0) (by kernel_rfl) (by omega) ?_
                  refine AW.cond_f (.tmp (Look.of rfl)) ?_
                  refine AW.skip ?_
                  have hx20 : ((List.length (fmL (paL s))) ≤ (3 * (List.length (paL s)))) := (by have h9 := fmL_len (paL s); omega)
                  refine AW.rgs [.no, .call [] (.e (.c (.d (D.lit (.string (strOfNums (fmL (paL s)))))))) [] 0 [] none, .no, .b true, .no, .no, .call [] (bV true) [] 0 [] none, .no, .no] [6] [] (P := (_) ∧ ((ByteArray.toList (strOfNums (fmL (paL s))) == ByteArray.toList (strOfNums s)) = true) ∧ (Fun 26 [.c (.d (D.sl (dI .i64 (paL s)) (List.length (paL s))))] (toG []) 0 (bV true) (toG []) 0)) (l' := [(6, bV true)]) (g' := []) (nx' := 0) (by kernel_rfl) ⟨(V_Format (paL s) (List.length (paL s)) rfl (by first | omega | with_reducible assumption | (simp only [bsD_len, stD_len, stL_len, List.length_append, List.length_cons, List.length_nil, List.length_take, List.length_drop, List.length_replicate, List.length_set] <;> omega) | rfl | assumption)), (str_y (by first | assumption | rfl)), (by have h0 := (V_Valid (paL s) (List.length (paL s)) rfl (by first | omega | with_reducible assumption | (simp only [bsD_len, stD_len, stL_len, List.length_append, List.length_cons, List.length_nil, List.length_take, List.length_drop, List.length_replicate, List.length_set] <;> omega) | rfl | assumption)); rw [hx19] at h0; exact h0)⟩ ?_
                  refine AW.ret ?_
                  exact EndP.of (.inr rfl) [] (P := (true = true)) (by kernel_rfl) rfl
              · have hx21 : ¬ fmL a = fmL b := fun e9 => sqB_nq hx11 (fm_inj (by assumption) (by assumption) hx4 hx5 e9)
                exfalso
                first | omega | contradiction
            · rcases Bool.eq_false_or_eq_true (sqB a b) with hx24 | hx24
              · have hx25 : fmL a = fmL b := by rw [sqB_eq hx24]
                exfalso
                first | omega | contradiction
              · have hx26 : ¬ fmL a = fmL b := fun e9 => sqB_nq hx24 (fm_inj (by assumption) (by assumption) hx4 hx5 e9)
                have hx27 : ((List.length (fmL a)) ≤ (3 * n)) := (by have h9 := fmL_len a; omega)
                have hx28 : ((List.length (fmL b)) ≤ (3 * m)) := (by have h9 := fmL_len b; omega)
                refine AW.rgs [.no, .call [] (bV true) [] 0 [] none, .no, .no, .call [] (bV true) [] 0 [] none, .no, .no, .no, .call [] (.e (.c (.d (D.lit (.string (strOfNums (fmL a))))))) [] 0 [] none, .no, .call [] (.e (.c (.d (D.lit (.string (strOfNums (fmL b))))))) [] 0 [] none, .b false, .no, .no, .call [] (bV false) [] 0 [] none, .no, .no] [2, 40] [] (P := (Fun 26 [.c (.d (D.sl (dI .i64 a) n))] (toG []) 0 (bV true) (toG []) 0) ∧ (Fun 26 [.c (.d (D.sl (dI .i64 b) m))] (toG []) 0 (bV true) (toG []) 0) ∧ (_) ∧ (_) ∧ ((ByteArray.toList (strOfNums (fmL a)) == ByteArray.toList (strOfNums (fmL b))) = false) ∧ (Fun 32 [.c (.d (D.sl (dI .i64 a) n)), .c (.d (D.sl (dI .i64 b) m))] (toG []) 0 (bV false) (toG []) 0)) (l' := [(2, .e (.c (.d (D.lit (.string (strOfNums s)))))), (40, bV false)]) (g' := []) (nx' := 0) (by kernel_rfl) ⟨(by have h0 := (V_Valid a n (by omega) (by omega)); rw [hx4] at h0; exact h0), (by have h0 := (V_Valid b m (by omega) (by omega)); rw [hx5] at h0; exact h0), (V_Format a n (by omega) (by omega)), (V_Format b m (by omega) (by omega)), (str_n (fmL_byt _) (fmL_byt _) (by assumption)), (by have h0 := (V_Same a b n m (by omega) (by omega) (by omega) (by omega)); rw [hx24] at h0; exact h0)⟩ ?_
                refine AW.cond_f (.tmp (Look.of rfl)) ?_
                refine AW.skip ?_
                have hx29 : ((((0 : Int) ≤ (paE s)) ∧ ((paE s) ≤ 5)) ∧ ((List.length (paL s)) ≤ 8)) := ⟨paE_rng s, paL_len s⟩
                refine AW.rgs [.no, .call [] (.tup [.c (.d (D.sl (dI .i64 (paL s)) (List.length (paL s)))), iE (paE s)]) [] 0 [] none, .no, .no, .no, .no, .no] [2, 7, 8] [] (P := (_)) (l' := [(2, .e (.c (.d (D.lit (.string (strOfNums s)))))), (7, sV .i64 (paL s) (List.length (paL s))), (8, iV (paE s))]) (g' := []) (nx' := 0) (by kernel_rfl) (V_Parse s (show Byt s by with_reducible assumption) (by omega)) ?_
                refine AW.seq ?_
                by_cases hx30 : ((paE s) ≠ 0)
                · have hx31 : List.length (paL s) = 0 := pa_zz (by omega)
                  refine AW.rgs [.no, .b true] [2, 7, 47] [] (P := (((paE s) ≠ 0))) (l' := [(2, .e (.c (.d (D.lit (.string (strOfNums s)))))), (7, sV .i64 (paL s) (List.length (paL s))), (47, bV true)]) (g' := []) (nx' := 0) (by kernel_rfl) (by omega) ?_
                  refine AW.cond_t (.tmp (Look.of rfl)) ?_
                  refine AW.rgs [.no, .no, .b true, .no] [6] [] (P := (((((List.length (paL s)) : Nat) : Int) = 0))) (l' := [(6, bV true)]) (g' := []) (nx' := 0) (by kernel_rfl) (by omega) ?_
                  refine AW.ret ?_
                  exact EndP.of (.inr rfl) [] (P := (true = true)) (by kernel_rfl) rfl
                · have hx32 : fmL (paL s) = s := (pa_text (by omega)).1
                  have hx33 : chB (paL s) (List.length (paL s)) = true := (pa_text (by omega)).2
                  refine AW.rgs [.no, .b false] [2, 7, 47] [] (P := (¬ ((paE s) ≠ 0))) (l' := [(2, .e (.c (.d (D.lit (.string (strOfNums s)))))), (7, sV .i64 (paL s) (List.length (paL s))), (47, bV false)]) (g' := []) (nx' := 0) (by kernel_rfl) (by omega) ?_
                  refine AW.cond_f (.tmp (Look.of rfl)) ?_
                  refine AW.skip ?_
                  have hx34 : ((List.length (fmL (paL s))) ≤ (3 * (List.length (paL s)))) := (by have h9 := fmL_len (paL s); omega)
                  refine AW.rgs [.no, .call [] (.e (.c (.d (D.lit (.string (strOfNums (fmL (paL s)))))))) [] 0 [] none, .no, .b true, .no, .no, .call [] (bV true) [] 0 [] none, .no, .no] [6] [] (P := (_) ∧ ((ByteArray.toList (strOfNums (fmL (paL s))) == ByteArray.toList (strOfNums s)) = true) ∧ (Fun 26 [.c (.d (D.sl (dI .i64 (paL s)) (List.length (paL s))))] (toG []) 0 (bV true) (toG []) 0)) (l' := [(6, bV true)]) (g' := []) (nx' := 0) (by kernel_rfl) ⟨(V_Format (paL s) (List.length (paL s)) rfl (by first | omega | with_reducible assumption | (simp only [bsD_len, stD_len, stL_len, List.length_append, List.length_cons, List.length_nil, List.length_take, List.length_drop, List.length_replicate, List.length_set] <;> omega) | rfl | assumption)), (str_y (by first | assumption | rfl)), (by have h0 := (V_Valid (paL s) (List.length (paL s)) rfl (by first | omega | with_reducible assumption | (simp only [bsD_len, stD_len, stL_len, List.length_append, List.length_cons, List.length_nil, List.length_take, List.length_drop, List.length_replicate, List.length_set] <;> omega) | rfl | assumption)); rw [hx33] at h0; exact h0)⟩ ?_
                  refine AW.ret ?_
                  exact EndP.of (.inr rfl) [] (P := (true = true)) (by kernel_rfl) rfl
          · refine AW.rgs [.no, .call [] (bV true) [] 0 [] none, .no, .no, .call [] (bV false) [] 0 [] none, .no, .no, .no] [2, 40] [] (P := (Fun 26 [.c (.d (D.sl (dI .i64 a) n))] (toG []) 0 (bV true) (toG []) 0) ∧ (Fun 26 [.c (.d (D.sl (dI .i64 b) m))] (toG []) 0 (bV false) (toG []) 0)) (l' := [(2, .e (.c (.d (D.lit (.string (strOfNums s)))))), (40, bV false)]) (g' := []) (nx' := 0) (by kernel_rfl) ⟨(by have h0 := (V_Valid a n (by omega) (by omega)); rw [hx4] at h0; exact h0), (by have h0 := (V_Valid b m (by omega) (by omega)); rw [hx5] at h0; exact h0)⟩ ?_
            refine AW.cond_f (.tmp (Look.of rfl)) ?_
            refine AW.skip ?_
            have hx35 : ((((0 : Int) ≤ (paE s)) ∧ ((paE s) ≤ 5)) ∧ ((List.length (paL s)) ≤ 8)) := ⟨paE_rng s, paL_len s⟩
            refine AW.rgs [.no, .call [] (.tup [.c (.d (D.sl (dI .i64 (paL s)) (List.length (paL s)))), iE (paE s)]) [] 0 [] none, .no, .no, .no, .no, .no] [2, 7, 8] [] (P := (_)) (l' := [(2, .e (.c (.d (D.lit (.string (strOfNums s)))))), (7, sV .i64 (paL s) (List.length (paL s))), (8, iV (paE s))]) (g' := []) (nx' := 0) (by kernel_rfl) (V_Parse s (show Byt s by with_reducible assumption) (by omega)) ?_
            refine AW.seq ?_
            by_cases hx36 : ((paE s) ≠ 0)
            · have hx37 : List.length (paL s) = 0 := pa_zz (by omega)
              refine AW.rgs [.no, .b true] [2, 7, 47] [] (P := (((paE s) ≠ 0))) (l' := [(2, .e (.c (.d (D.lit (.string (strOfNums s)))))), (7, sV .i64 (paL s) (List.length (paL s))), (47, bV true)]) (g' := []) (nx' := 0) (by kernel_rfl) (by omega) ?_
              refine AW.cond_t (.tmp (Look.of rfl)) ?_
              refine AW.rgs [.no, .no, .b true, .no] [6] [] (P := (((((List.length (paL s)) : Nat) : Int) = 0))) (l' := [(6, bV true)]) (g' := []) (nx' := 0) (by kernel_rfl) (by omega) ?_
              refine AW.ret ?_
              exact EndP.of (.inr rfl) [] (P := (true = true)) (by kernel_rfl) rfl
            · have hx38 : fmL (paL s) = s := (pa_text (by omega)).1
              have hx39 : chB (paL s) (List.length (paL s)) = true := (pa_text (by omega)).2
              refine AW.rgs [.no, .b false] [2, 7, 47] [] (P := (¬ ((paE s) ≠ 0))) (l' := [(2, .e (.c (.d (D.lit (.string (strOfNums s)))))), (7, sV .i64 (paL s) (List.length (paL s))), (47, bV false)]) (g' := []) (nx' := 0) (by kernel_rfl) (by omega) ?_
              refine AW.cond_f (.tmp (Look.of rfl)) ?_
              refine AW.skip ?_
              have hx40 : ((List.length (fmL (paL s))) ≤ (3 * (List.length (paL s)))) := (by have h9 := fmL_len (paL s); omega)
              refine AW.rgs [.no, .call [] (.e (.c (.d (D.lit (.string (strOfNums (fmL (paL s)))))))) [] 0 [] none, .no, .b true, .no, .no, .call [] (bV true) [] 0 [] none, .no, .no] [6] [] (P := (_) ∧ ((ByteArray.toList (strOfNums (fmL (paL s))) == ByteArray.toList (strOfNums s)) = true) ∧ (Fun 26 [.c (.d (D.sl (dI .i64 (paL s)) (List.length (paL s))))] (toG []) 0 (bV true) (toG []) 0)) (l' := [(6, bV true)]) (g' := []) (nx' := 0) (by kernel_rfl) ⟨(V_Format (paL s) (List.length (paL s)) rfl (by first | omega | with_reducible assumption | (simp only [bsD_len, stD_len, stL_len, List.length_append, List.length_cons, List.length_nil, List.length_take, List.length_drop, List.length_replicate, List.length_set] <;> omega) | rfl | assumption)), (str_y (by first | assumption | rfl)), (by have h0 := (V_Valid (paL s) (List.length (paL s)) rfl (by first | omega | with_reducible assumption | (simp only [bsD_len, stD_len, stL_len, List.length_append, List.length_cons, List.length_nil, List.length_take, List.length_drop, List.length_replicate, List.length_set] <;> omega) | rfl | assumption)); rw [hx39] at h0; exact h0)⟩ ?_
              refine AW.ret ?_
              exact EndP.of (.inr rfl) [] (P := (true = true)) (by kernel_rfl) rfl
        · refine AW.rgs [.no, .call [] (bV false) [] 0 [] none, .no, .no, .no, .no] [2, 40] [] (P := (Fun 26 [.c (.d (D.sl (dI .i64 a) n))] (toG []) 0 (bV false) (toG []) 0)) (l' := [(2, .e (.c (.d (D.lit (.string (strOfNums s)))))), (40, bV false)]) (g' := []) (nx' := 0) (by kernel_rfl) (by have h0 := (V_Valid a n (by omega) (by omega)); rw [hx4] at h0; exact h0) ?_
          refine AW.cond_f (.tmp (Look.of rfl)) ?_
          refine AW.skip ?_
          have hx41 : ((((0 : Int) ≤ (paE s)) ∧ ((paE s) ≤ 5)) ∧ ((List.length (paL s)) ≤ 8)) := ⟨paE_rng s, paL_len s⟩
          refine AW.rgs [.no, .call [] (.tup [.c (.d (D.sl (dI .i64 (paL s)) (List.length (paL s)))), iE (paE s)]) [] 0 [] none, .no, .no, .no, .no, .no] [2, 7, 8] [] (P := (_)) (l' := [(2, .e (.c (.d (D.lit (.string (strOfNums s)))))), (7, sV .i64 (paL s) (List.length (paL s))), (8, iV (paE s))]) (g' := []) (nx' := 0) (by kernel_rfl) (V_Parse s (show Byt s by with_reducible assumption) (by omega)) ?_
          refine AW.seq ?_
          by_cases hx42 : ((paE s) ≠ 0)
          · have hx43 : List.length (paL s) = 0 := pa_zz (by omega)
            refine AW.rgs [.no, .b true] [2, 7, 47] [] (P := (((paE s) ≠ 0))) (l' := [(2, .e (.c (.d (D.lit (.string (strOfNums s)))))), (7, sV .i64 (paL s) (List.length (paL s))), (47, bV true)]) (g' := []) (nx' := 0) (by kernel_rfl) (by omega) ?_
            refine AW.cond_t (.tmp (Look.of rfl)) ?_
            refine AW.rgs [.no, .no, .b true, .no] [6] [] (P := (((((List.length (paL s)) : Nat) : Int) = 0))) (l' := [(6, bV true)]) (g' := []) (nx' := 0) (by kernel_rfl) (by omega) ?_
            refine AW.ret ?_
            exact EndP.of (.inr rfl) [] (P := (true = true)) (by kernel_rfl) rfl
          · have hx44 : fmL (paL s) = s := (pa_text (by omega)).1
            have hx45 : chB (paL s) (List.length (paL s)) = true := (pa_text (by omega)).2
            refine AW.rgs [.no, .b false] [2, 7, 47] [] (P := (¬ ((paE s) ≠ 0))) (l' := [(2, .e (.c (.d (D.lit (.string (strOfNums s)))))), (7, sV .i64 (paL s) (List.length (paL s))), (47, bV false)]) (g' := []) (nx' := 0) (by kernel_rfl) (by omega) ?_
            refine AW.cond_f (.tmp (Look.of rfl)) ?_
            refine AW.skip ?_
            have hx46 : ((List.length (fmL (paL s))) ≤ (3 * (List.length (paL s)))) := (by have h9 := fmL_len (paL s); omega)
            refine AW.rgs [.no, .call [] (.e (.c (.d (D.lit (.string (strOfNums (fmL (paL s)))))))) [] 0 [] none, .no, .b true, .no, .no, .call [] (bV true) [] 0 [] none, .no, .no] [6] [] (P := (_) ∧ ((ByteArray.toList (strOfNums (fmL (paL s))) == ByteArray.toList (strOfNums s)) = true) ∧ (Fun 26 [.c (.d (D.sl (dI .i64 (paL s)) (List.length (paL s))))] (toG []) 0 (bV true) (toG []) 0)) (l' := [(6, bV true)]) (g' := []) (nx' := 0) (by kernel_rfl) ⟨(V_Format (paL s) (List.length (paL s)) rfl (by first | omega | with_reducible assumption | (simp only [bsD_len, stD_len, stL_len, List.length_append, List.length_cons, List.length_nil, List.length_take, List.length_drop, List.length_replicate, List.length_set] <;> omega) | rfl | assumption)), (str_y (by first | assumption | rfl)), (by have h0 := (V_Valid (paL s) (List.length (paL s)) rfl (by first | omega | with_reducible assumption | (simp only [bsD_len, stD_len, stL_len, List.length_append, List.length_cons, List.length_nil, List.length_take, List.length_drop, List.length_replicate, List.length_set] <;> omega) | rfl | assumption)); rw [hx45] at h0; exact h0)⟩ ?_
            refine AW.ret ?_
            exact EndP.of (.inr rfl) [] (P := (true = true)) (by kernel_rfl) rfl

theorem channelsApart_walk {w : World} {xa ya : Option Addr} {xl xc yl yc : Nat} {a b : List Int} (ha : Sl .i64 w xa xl xc a) (hb : Sl .i64 w ya yl yc b) (s : ByteArray) (hs : s.size ≤ maxLen) (hgl : GlOK (fun k => k < w.heap.size) w) : Calls Tryd.prog 8 #[.slice xa xl xc, .slice ya yl yc, .string s] w fun e w' => e = .returned (.bool true) ∧ Below w.heap.size w w' := by
  have h := (Q_ChannelsApart a b (numsOf s) (List.length a) (List.length b) rfl ha.max rfl hb.max (byt_num s) (by rw [len_num]; unfold maxLen at hs; omega)).walk (w := w) (args := [.slice xa xl xc, .slice ya yl yc, .string (strOfNums (numsOf s))]) ⟨repE_sl ha, repE_sl hb, repE_lit rfl, trivial⟩ hgl
  rw [str_num] at h
  exact h

end Go.Proofs.YtcmldnahohmieaaDoor
