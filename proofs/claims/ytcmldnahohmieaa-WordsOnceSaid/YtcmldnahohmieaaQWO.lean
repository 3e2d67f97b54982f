/- Laws of words. No statement is proved here. -/
import Derived.Test.YtcmldnahohmieaaL02C
import Derived.Test.YtcmldnahohmieaaV02C
import Derived.Test.YtcmldnahohmieaaAmD
namespace Go.Proofs.Ytcmldnahohmieaa
open Go.ChangeShapes Go.WideShapes Go.ChangeAt Go.RowKit
set_option linter.unusedVariables false
set_option linter.unusedSimpArgs false

theorem samW_of {a b : List (List Int)} (h : a = b) : samW a b = true := decide_eq_true h

set_option maxHeartbeats 4000000 in
set_option maxRecDepth 100000 in
theorem Q_WordsOnce (l : List Int) (hy : Byt l) (hb : List.length l ≤ 9223372036854775807) : Fun 5 [.c (.d (D.lit (.string (strOfNums l))))] (toG []) 0 (bV true) (toG []) 0 := by
  refine Fun.mk (n := 52) Try.func5 rfl rfl (Nat.le_of_ble_eq_true rfl) ?_
  intro cx hcx
  refine AW.rgs [.no] [0] [] (P := True) (l' := [(0, .e (.c (.d (D.lit (.string (strOfNums l))))))]) (g' := []) (nx' := 0) (by kernel_rfl) trivial ?_
  refine AW.seq ?_
  refine AW.rgs [.call [] (bV true) [] 0 [] none, .no] [0, 10] [] (P := (_)) (l' := [(0, .e (.c (.d (D.lit (.string (strOfNums l)))))), (10, bV false)]) (g' := []) (nx' := 0) (by kernel_rfl) (K_sane) ?_
  refine AW.cond_f (.tmp (Look.of rfl)) ?_
  refine AW.skip ?_
  refine AW.seq ?_
  by_cases hx1 : ((1500 : Int) < (((List.length l) : Nat) : Int))
  · refine AW.rgs [.no, .i (((List.length l) : Nat) : Int), .b true] [0, 13] [] (P := (((ByteArray.size (strOfNums l) : Nat) : Int) = ((((List.length l) : Nat) : Int) : Int)) ∧ (((1500 : Int) < (((List.length l) : Nat) : Int)))) (l' := [(0, .e (.c (.d (D.lit (.string (strOfNums l)))))), (13, bV true)]) (g' := []) (nx' := 0) (by kernel_rfl) ⟨(by rw [strOfNums_size]), (by omega)⟩ ?_
    refine AW.cond_t (.tmp (Look.of rfl)) ?_
    refine AW.rgs [.no] [2] [] (P := True) (l' := [(2, bV true)]) (g' := []) (nx' := 0) (by kernel_rfl) trivial ?_
    refine AW.ret ?_
    exact EndP.of (.inr rfl) [] (P := (true = true)) (by kernel_rfl) rfl
  · refine AW.rgs [.no, .i (((List.length l) : Nat) : Int), .b false] [0, 13] [] (P := (((ByteArray.size (strOfNums l) : Nat) : Int) = ((((List.length l) : Nat) : Int) : Int)) ∧ (¬ ((1500 : Int) < (((List.length l) : Nat) : Int)))) (l' := [(0, .e (.c (.d (D.lit (.string (strOfNums l)))))), (13, bV false)]) (g' := []) (nx' := 0) (by kernel_rfl) ⟨(by rw [strOfNums_size]), (by omega)⟩ ?_
    refine AW.cond_f (.tmp (Look.of rfl)) ?_
    refine AW.skip ?_
    have hx2 : ((((0 : Int) ≤ (spE l)) ∧ ((spE l) ≤ 5)) ∧ ((List.length (spL l)) ≤ 64)) := ⟨spE_rng l, spL_len l⟩
    refine AW.rgs [.no, .call [] (.tup [.c (.d (D.sl (stD (spL l)) (List.length (spL l)))), iE (spE l)]) [] 0 [] none, .no, .no, .no, .no, .no] [0, 3, 4] [] (P := (_)) (l' := [(0, .e (.c (.d (D.lit (.string (strOfNums l)))))), (3, .e (.c (.d (D.sl (stD (spL l)) (List.length (spL l)))))), (4, iV (spE l))]) (g' := []) (nx' := 0) (by kernel_rfl) (V_Split l (show Byt l by with_reducible assumption) (by omega)) ?_
    refine AW.seq ?_
    by_cases hx3 : ((spE l) ≠ 0)
    · refine AW.rgs [.no, .b true] [0, 3, 20] [] (P := (((spE l) ≠ 0))) (l' := [(0, .e (.c (.d (D.lit (.string (strOfNums l)))))), (3, .e (.c (.d (D.sl (stD (spL l)) (List.length (spL l)))))), (20, bV true)]) (g' := []) (nx' := 0) (by kernel_rfl) (by omega) ?_
      refine AW.cond_t (.tmp (Look.of rfl)) ?_
      have hx4 : List.length (spL l) = 0 := sp_zz (by omega)
      refine AW.rgs [.no, .no, .b true, .no] [2] [] (P := (((((List.length (spL l)) : Nat) : Int) = 0))) (l' := [(2, bV true)]) (g' := []) (nx' := 0) (by kernel_rfl) (by omega) ?_
      refine AW.ret ?_
      exact EndP.of (.inr rfl) [] (P := (true = true)) (by kernel_rfl) rfl
    · refine AW.rgs [.no, .b false] [0, 3, 20] [] (P := (¬ ((spE l) ≠ 0))) (l' := [(0, .e (.c (.d (D.lit (.string (strOfNums l)))))), (3, .e (.c (.d (D.sl (stD (spL l)) (List.length (spL l)))))), (20, bV false)]) (g' := []) (nx' := 0) (by kernel_rfl) (by omega) ?_
      refine AW.cond_f (.tmp (Look.of rfl)) ?_
      refine AW.skip ?_
      have hx5 : jnE (spL l) = 0 := (sp_once (by omega)).1
      have hx6 : List.length (jnT (spL l)) ≤ List.length l := (sp_once (by omega)).2
      have hx7 : spE (jnT (spL l)) = 0 := (jn_back (sp_once (by omega)).1).1
      have hx8 : spL (jnT (spL l)) = spL l := (jn_back (sp_once (by omega)).1).2
      have hx9 : ((((0 : Int) ≤ (jnE (spL l))) ∧ ((jnE (spL l)) ≤ 3)) ∧ ((List.length (jnT (spL l))) ≤ 4096)) := jn_rng (spL l)
      refine AW.rgs [.no, .call [] (.tup [.c (.d (D.lit (.string (strOfNums (jnT (spL l)))))), iE (jnE (spL l))]) [] 0 [] none, .no, .no, .no, .no, .no] [0, 3, 5, 6] [] (P := (_)) (l' := [(0, .e (.c (.d (D.lit (.string (strOfNums l)))))), (3, .e (.c (.d (D.sl (stD (spL l)) (List.length (spL l)))))), (5, .e (.c (.d (D.lit (.string (strOfNums (jnT (spL l)))))))), (6, iV (jnE (spL l)))]) (g' := []) (nx' := 0) (by kernel_rfl) (V_Join (spL l) (List.length (spL l)) rfl (by first | omega | with_reducible assumption | (simp only [bsD_len, stD_len, List.length_append, List.length_cons, List.length_nil, List.length_take, List.length_drop, List.length_replicate, List.length_set] <;> omega) | rfl | assumption) (spL_byt (show Byt l by with_reducible assumption))) ?_
      have hx10 : ((((0 : Int) ≤ (spE (jnT (spL l)))) ∧ ((spE (jnT (spL l))) ≤ 5)) ∧ ((List.length (spL (jnT (spL l)))) ≤ 64)) := ⟨spE_rng (jnT (spL l)), spL_len (jnT (spL l))⟩
      refine AW.rgs [.no, .call [] (.tup [.c (.d (D.sl (stD (spL (jnT (spL l)))) (List.length (spL (jnT (spL l)))))), iE (spE (jnT (spL l)))]) [] 0 [] none, .no, .no, .no, .no, .no] [0, 3, 5, 6, 7, 8] [] (P := (_)) (l' := [(0, .e (.c (.d (D.lit (.string (strOfNums l)))))), (3, .e (.c (.d (D.sl (stD (spL l)) (List.length (spL l)))))), (5, .e (.c (.d (D.lit (.string (strOfNums (jnT (spL l)))))))), (6, iV (jnE (spL l))), (7, .e (.c (.d (D.sl (stD (spL (jnT (spL l)))) (List.length (spL (jnT (spL l)))))))), (8, iV (spE (jnT (spL l))))]) (g' := []) (nx' := 0) (by kernel_rfl) (V_Split (jnT (spL l)) (jnT_byt (spL_byt (show Byt l by with_reducible assumption))) (by first | omega | with_reducible assumption | (simp only [bsD_len, stD_len, List.length_append, List.length_cons, List.length_nil, List.length_take, List.length_drop, List.length_replicate, List.length_set] <;> omega) | rfl | assumption)) ?_
      refine AW.rgs [.no, .b true, .no, .no, .b true, .no, .no, .no, .no, .call [] (bV true) [] 0 [] none, .no, .no, .no, .i (((List.length (jnT (spL l))) : Nat) : Int), .no, .i (((List.length l) : Nat) : Int), .b true, .no, .no] [2] [] (P := (((jnE (spL l)) = 0)) ∧ (((spE (jnT (spL l))) = 0)) ∧ (_) ∧ (((ByteArray.size (strOfNums (jnT (spL l))) : Nat) : Int) = ((((List.length (jnT (spL l))) : Nat) : Int) : Int)) ∧ (((ByteArray.size (strOfNums l) : Nat) : Int) = ((((List.length l) : Nat) : Int) : Int)) ∧ (((((List.length (jnT (spL l))) : Nat) : Int) ≤ (((List.length l) : Nat) : Int)))) (l' := [(2, bV true)]) (g' := []) (nx' := 0) (by kernel_rfl) ⟨(by omega), (by omega), (Fun.y (V_Same (spL l) (spL (jnT (spL l))) (List.length (spL l)) (List.length (spL (jnT (spL l)))) rfl rfl (by first | omega | with_reducible assumption | (simp only [bsD_len, stD_len, List.length_append, List.length_cons, List.length_nil, List.length_take, List.length_drop, List.length_replicate, List.length_set] <;> omega) | rfl | assumption) (by first | omega | with_reducible assumption | (simp only [bsD_len, stD_len, List.length_append, List.length_cons, List.length_nil, List.length_take, List.length_drop, List.length_replicate, List.length_set] <;> omega) | rfl | assumption) (spL_byt (show Byt l by with_reducible assumption)) (spL_byt (jnT_byt (spL_byt (show Byt l by with_reducible assumption))))) (y' := bV true) (by rw [samW_of (a := (spL l)) (b := (spL (jnT (spL l)))) (by first | assumption | (symm; assumption))])), (by rw [strOfNums_size]), (by rw [strOfNums_size]), (by omega)⟩ ?_
      refine AW.ret ?_
      exact EndP.of (.inr rfl) [] (P := (true = true)) (by kernel_rfl) rfl

theorem str_num (s : ByteArray) : strOfNums (numsOf s) = s := by
  apply ByteArray.ext
  apply Array.ext'
  rw [strOfNums_data]
  unfold numsOf
  rw [List.map_map]
  have e : ((fun n : Int => UInt8.ofNat n.toNat) ∘ fun b : UInt8 => (b.toNat : Int)) = id := by
    funext b
    simp
  rw [e, List.map_id]
theorem byt_num (s : ByteArray) : Byt (numsOf s) := by
  intro x hx
  unfold numsOf at hx
  obtain ⟨b, _, rfl⟩ := List.mem_map.1 hx
  have := b.toNat_lt
  omega
theorem len_num (s : ByteArray) : (numsOf s).length = s.size := by unfold numsOf; rw [List.length_map, Array.length_toList]; rfl

theorem wordsOnce_walk {w : World} (s : ByteArray) (hs : s.size ≤ maxLen) : Calls Try.prog 5 #[.string s] w fun e w' => e = .returned (.bool true) ∧ Below w.heap.size w w' := by
  have h := (Q_WordsOnce (numsOf s) (byt_num s) (by rw [len_num]; unfold maxLen at hs; omega)).walk (w := w) (args := [.string (strOfNums (numsOf s))]) ⟨repE_lit rfl, trivial⟩
  rw [str_num] at h
  exact h

end Go.Proofs.Ytcmldnahohmieaa
