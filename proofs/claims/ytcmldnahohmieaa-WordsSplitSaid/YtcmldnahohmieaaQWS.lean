/- Laws of words. No statement is proved here. -/
import Derived.Test.YtcmldnahohmieaaL02C
import Derived.Test.YtcmldnahohmieaaAmD
namespace Go.Proofs.Ytcmldnahohmieaa
open Go.ChangeShapes Go.WideShapes Go.ChangeAt Go.RowKit
set_option linter.unusedVariables false
set_option linter.unusedSimpArgs false

set_option maxHeartbeats 4000000 in
set_option maxRecDepth 100000 in
theorem Q_WordsSplit (l : List Int) (hy : Byt l) (hb : List.length l ≤ 9223372036854775807) : Fun 3 [.c (.d (D.lit (.string (strOfNums l))))] (toG []) 0 (bV true) (toG []) 0 := by
  refine Fun.mk (n := 35) Try.func3 rfl rfl (Nat.le_of_ble_eq_true rfl) ?_
  intro cx hcx
  refine AW.rgs [.no] [0] [] (P := True) (l' := [(0, .e (.c (.d (D.lit (.string (strOfNums l))))))]) (g' := []) (nx' := 0) (by kernel_rfl) trivial ?_
  refine AW.seq ?_
  refine AW.rgs [.call [] (bV true) [] 0 [] none, .no] [0, 8] [] (P := (_)) (l' := [(0, .e (.c (.d (D.lit (.string (strOfNums l)))))), (8, bV false)]) (g' := []) (nx' := 0) (by kernel_rfl) (K_sane) ?_
  refine AW.cond_f (.tmp (Look.of rfl)) ?_
  refine AW.skip ?_
  refine AW.seq ?_
  by_cases hx1 : ((1500 : Int) < (((List.length l) : Nat) : Int))
  · by_cases hx2 : ((((List.length l) : Nat) : Int) ≤ 4096)
    · refine AW.rgs [.no, .i (((List.length l) : Nat) : Int), .b true, .no, .no, .i (((List.length l) : Nat) : Int), .b true, .no] [0, 16] [] (P := (((ByteArray.size (strOfNums l) : Nat) : Int) = ((((List.length l) : Nat) : Int) : Int)) ∧ (((1500 : Int) < (((List.length l) : Nat) : Int))) ∧ (((ByteArray.size (strOfNums l) : Nat) : Int) = ((((List.length l) : Nat) : Int) : Int)) ∧ (((((List.length l) : Nat) : Int) ≤ 4096))) (l' := [(0, .e (.c (.d (D.lit (.string (strOfNums l)))))), (16, bV true)]) (g' := []) (nx' := 0) (by kernel_rfl) ⟨(by rw [strOfNums_size]), (by omega), (by rw [strOfNums_size]), (by omega)⟩ ?_
      refine AW.cond_t (.tmp (Look.of rfl)) ?_
      refine AW.rgs [.no] [2] [] (P := True) (l' := [(2, bV true)]) (g' := []) (nx' := 0) (by kernel_rfl) trivial ?_
      refine AW.ret ?_
      exact EndP.of (.inr rfl) [] (P := (true = true)) (by kernel_rfl) rfl
    · refine AW.rgs [.no, .i (((List.length l) : Nat) : Int), .b true, .no, .no, .i (((List.length l) : Nat) : Int), .b false, .no] [0, 16] [] (P := (((ByteArray.size (strOfNums l) : Nat) : Int) = ((((List.length l) : Nat) : Int) : Int)) ∧ (((1500 : Int) < (((List.length l) : Nat) : Int))) ∧ (((ByteArray.size (strOfNums l) : Nat) : Int) = ((((List.length l) : Nat) : Int) : Int)) ∧ (¬ ((((List.length l) : Nat) : Int) ≤ 4096))) (l' := [(0, .e (.c (.d (D.lit (.string (strOfNums l)))))), (16, bV false)]) (g' := []) (nx' := 0) (by kernel_rfl) ⟨(by rw [strOfNums_size]), (by omega), (by rw [strOfNums_size]), (by omega)⟩ ?_
      refine AW.cond_f (.tmp (Look.of rfl)) ?_
      refine AW.skip ?_
      have hx3 : ((((0 : Int) ≤ (spE l)) ∧ ((spE l) ≤ 5)) ∧ ((List.length (spL l)) ≤ 64)) := ⟨spE_rng l, spL_len l⟩
      refine AW.rgs [.no, .call [] (.tup [.c (.d (D.sl (stD (spL l)) (List.length (spL l)))), iE (spE l)]) [] 0 [] none, .no, .no, .no, .no, .no] [0, 3, 4] [] (P := (_)) (l' := [(0, .e (.c (.d (D.lit (.string (strOfNums l)))))), (3, .e (.c (.d (D.sl (stD (spL l)) (List.length (spL l)))))), (4, iV (spE l))]) (g' := []) (nx' := 0) (by kernel_rfl) (V_Split l (show Byt l by with_reducible assumption) (by omega)) ?_
      have hx4 : ((((0 : Int) ≤ (spE l)) ∧ ((spE l) ≤ 5)) ∧ ((List.length (spL l)) ≤ 64)) := ⟨spE_rng l, spL_len l⟩
      refine AW.rgs [.no, .call [] (.tup [.c (.d (D.sl (stD (spL l)) (List.length (spL l)))), iE (spE l)]) [] 0 [] none, .no, .no, .no, .no, .no] [3, 4, 5, 6] [] (P := (_)) (l' := [(3, .e (.c (.d (D.sl (stD (spL l)) (List.length (spL l)))))), (4, iV (spE l)), (5, .e (.c (.d (D.sl (stD (spL l)) (List.length (spL l)))))), (6, iV (spE l))]) (g' := []) (nx' := 0) (by kernel_rfl) (V_rSplit l (show Byt l by with_reducible assumption) (by omega)) ?_
      refine AW.rgs [.no, .no, .b true, .no, .no, .no, .call [] (bV true) [] 0 [] none, .no, .no] [2] [] (P := (((spE l) = (spE l))) ∧ (_)) (l' := [(2, bV true)]) (g' := []) (nx' := 0) (by kernel_rfl) ⟨(by omega), (V_SameR (spL l) (List.length (spL l)) rfl (by first | omega | with_reducible assumption | (simp only [bsD_len, stD_len, List.length_append, List.length_cons, List.length_nil, List.length_take, List.length_drop, List.length_replicate, List.length_set] <;> omega) | rfl | assumption))⟩ ?_
      refine AW.ret ?_
      exact EndP.of (.inr rfl) [] (P := (true = true)) (by kernel_rfl) rfl
  · refine AW.rgs [.no, .i (((List.length l) : Nat) : Int), .b false, .no, .no] [0, 16] [] (P := (((ByteArray.size (strOfNums l) : Nat) : Int) = ((((List.length l) : Nat) : Int) : Int)) ∧ (¬ ((1500 : Int) < (((List.length l) : Nat) : Int)))) (l' := [(0, .e (.c (.d (D.lit (.string (strOfNums l)))))), (16, bV false)]) (g' := []) (nx' := 0) (by kernel_rfl) ⟨(by rw [strOfNums_size]), (by omega)⟩ ?_
    refine AW.cond_f (.tmp (Look.of rfl)) ?_
    refine AW.skip ?_
    have hx5 : ((((0 : Int) ≤ (spE l)) ∧ ((spE l) ≤ 5)) ∧ ((List.length (spL l)) ≤ 64)) := ⟨spE_rng l, spL_len l⟩
    refine AW.rgs [.no, .call [] (.tup [.c (.d (D.sl (stD (spL l)) (List.length (spL l)))), iE (spE l)]) [] 0 [] none, .no, .no, .no, .no, .no] [0, 3, 4] [] (P := (_)) (l' := [(0, .e (.c (.d (D.lit (.string (strOfNums l)))))), (3, .e (.c (.d (D.sl (stD (spL l)) (List.length (spL l)))))), (4, iV (spE l))]) (g' := []) (nx' := 0) (by kernel_rfl) (V_Split l (show Byt l by with_reducible assumption) (by omega)) ?_
    have hx6 : ((((0 : Int) ≤ (spE l)) ∧ ((spE l) ≤ 5)) ∧ ((List.length (spL l)) ≤ 64)) := ⟨spE_rng l, spL_len l⟩
    refine AW.rgs [.no, .call [] (.tup [.c (.d (D.sl (stD (spL l)) (List.length (spL l)))), iE (spE l)]) [] 0 [] none, .no, .no, .no, .no, .no] [3, 4, 5, 6] [] (P := (_)) (l' := [(3, .e (.c (.d (D.sl (stD (spL l)) (List.length (spL l)))))), (4, iV (spE l)), (5, .e (.c (.d (D.sl (stD (spL l)) (List.length (spL l)))))), (6, iV (spE l))]) (g' := []) (nx' := 0) (by kernel_rfl) (V_rSplit l (show Byt l by with_reducible assumption) (by omega)) ?_
    refine AW.rgs [.no, .no, .b true, .no, .no, .no, .call [] (bV true) [] 0 [] none, .no, .no] [2] [] (P := (((spE l) = (spE l))) ∧ (_)) (l' := [(2, bV true)]) (g' := []) (nx' := 0) (by kernel_rfl) ⟨(by omega), (V_SameR (spL l) (List.length (spL l)) rfl (by first | omega | with_reducible assumption | (simp only [bsD_len, stD_len, List.length_append, List.length_cons, List.length_nil, List.length_take, List.length_drop, List.length_replicate, List.length_set] <;> omega) | rfl | assumption))⟩ ?_
    refine AW.ret ?_
    exact EndP.of (.inr rfl) [] (P := (true = true)) (by kernel_rfl) rfl

theorem str_num (s : ByteArray) : strOfNums (numsOf s) = s := by
  apply ByteArray.ext
  apply Array.ext'
  rw [strOfNums_data]
  unfold numsOf
  rw [List.map_map]
  have e : ((fun n : Int => UInt8.ofNat n.toNat) ∘ fun b : UInt8 => (b.toNat : Int)) = id := by
    funext b
    simp
  rw [e, List.map_id]
theorem byt_num (s : ByteArray) : Byt (numsOf s) := by
  intro x hx
  unfold numsOf at hx
  obtain ⟨b, _, rfl⟩ := List.mem_map.1 hx
  have := b.toNat_lt
  omega
theorem len_num (s : ByteArray) : (numsOf s).length = s.size := by unfold numsOf; rw [List.length_map, Array.length_toList]; rfl

theorem wordsSplit_walk {w : World} (s : ByteArray) (hs : s.size ≤ maxLen) : Calls Try.prog 3 #[.string s] w fun e w' => e = .returned (.bool true) ∧ Below w.heap.size w w' := by
  have h := (Q_WordsSplit (numsOf s) (byt_num s) (by rw [len_num]; unfold maxLen at hs; omega)).walk (w := w) (args := [.string (strOfNums (numsOf s))]) ⟨repE_lit rfl, trivial⟩
  rw [str_num] at h
  exact h

end Go.Proofs.Ytcmldnahohmieaa
