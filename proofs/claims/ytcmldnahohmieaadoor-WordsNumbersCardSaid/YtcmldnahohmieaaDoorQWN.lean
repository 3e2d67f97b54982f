/- Laws of words. No statement is proved here. -/
import Derived.Test.YtcmldnahohmieaaDoorL02M
import Derived.Test.YtcmldnahohmieaaDoorAmD
namespace Go.Proofs.YtcmldnahohmieaaDoor
open Go.ChangeShapes Go.WideShapes Go.ChangeAt Go.RowKit
set_option linter.unusedVariables false
set_option linter.unusedSimpArgs false

set_option maxHeartbeats 4000000 in
set_option maxRecDepth 100000 in
theorem Q_WordsNumbers (l : List Int) (n : Int) (hy : Byt l) (hb : List.length l ≤ 9223372036854775807) (hn : -9223372036854775808 ≤ n ∧ n ≤ 9223372036854775807) : Fun 3 [.c (.d (D.lit (.string (strOfNums l)))), iE n] (toG []) 0 (bV true) (toG []) 0 := by
  refine Fun.mk (n := 46) Tryd.func3 rfl rfl (Nat.le_of_ble_eq_true rfl) ?_
  intro cx hcx
  refine AW.rgs [.no] [0, 1] [] (P := True) (l' := [(0, .e (.c (.d (D.lit (.string (strOfNums l)))))), (1, iV n)]) (g' := []) (nx' := 0) (by kernel_rfl) trivial ?_
  refine AW.seq ?_
  refine AW.rgs [.call [] (bV true) [] 0 [] none, .no] [0, 1, 10] [] (P := (_)) (l' := [(0, .e (.c (.d (D.lit (.string (strOfNums l)))))), (1, iV n), (10, bV false)]) (g' := []) (nx' := 0) (by kernel_rfl) (K_sane) ?_
  refine AW.cond_f (.tmp (Look.of rfl)) ?_
  refine AW.skip ?_
  refine AW.seq ?_
  by_cases hx1 : ((200 : Int) < (((List.length l) : Nat) : Int))
  · refine AW.rgs [.no, .i (((List.length l) : Nat) : Int), .b true] [0, 1, 13] [] (P := (((ByteArray.size (strOfNums l) : Nat) : Int) = ((((List.length l) : Nat) : Int) : Int)) ∧ (((200 : Int) < (((List.length l) : Nat) : Int)))) (l' := [(0, .e (.c (.d (D.lit (.string (strOfNums l)))))), (1, iV n), (13, bV true)]) (g' := []) (nx' := 0) (by kernel_rfl) ⟨(by rw [strOfNums_size]), (by omega)⟩ ?_
    refine AW.cond_t (.tmp (Look.of rfl)) ?_
    refine AW.rgs [.no] [4] [] (P := True) (l' := [(4, bV true)]) (g' := []) (nx' := 0) (by kernel_rfl) trivial ?_
    refine AW.ret ?_
    exact EndP.of (.inr rfl) [] (P := (true = true)) (by kernel_rfl) rfl
  · refine AW.rgs [.no, .i (((List.length l) : Nat) : Int), .b false] [0, 1, 13] [] (P := (((ByteArray.size (strOfNums l) : Nat) : Int) = ((((List.length l) : Nat) : Int) : Int)) ∧ (¬ ((200 : Int) < (((List.length l) : Nat) : Int)))) (l' := [(0, .e (.c (.d (D.lit (.string (strOfNums l)))))), (1, iV n), (13, bV false)]) (g' := []) (nx' := 0) (by kernel_rfl) ⟨(by rw [strOfNums_size]), (by omega)⟩ ?_
    refine AW.cond_f (.tmp (Look.of rfl)) ?_
    refine AW.skip ?_
    refine AW.rgs [.no, .call [] (.tup [iE (nuV l), iE (nuE l)]) [] 0 [] none, .no, .no, .no, .no, .no] [0, 1, 5, 6] [] (P := (_)) (l' := [(0, .e (.c (.d (D.lit (.string (strOfNums l)))))), (1, iV n), (5, iV (nuV l)), (6, iV (nuE l))]) (g' := []) (nx' := 0) (by kernel_rfl) (V_num l (show Byt l by with_reducible assumption) (by omega)) ?_
    refine AW.rgs [.no, .call [] (.tup [iE (nuV l), iE (nuE l)]) [] 0 [] none, .no, .no, .no, .no, .no] [0, 1, 5, 6, 7, 8] [] (P := (_)) (l' := [(0, .e (.c (.d (D.lit (.string (strOfNums l)))))), (1, iV n), (5, iV (nuV l)), (6, iV (nuE l)), (7, iV (nuV l)), (8, iV (nuE l))]) (g' := []) (nx' := 0) (by kernel_rfl) (V_rnum l (show Byt l by with_reducible assumption) (by omega)) ?_
    rcases Bool.eq_false_or_eq_true (nameB l) with hx2 | hx2
    · refine AW.rgs [.no, .no, .b true, .no, .no, .no, .b true, .no, .no, .no, .call [] (.e (.c (.d (D.lit (.string (strOfNums (itL n))))))) [] 0 [] none, .no, .call [] (.e (.c (.d (D.lit (.string (strOfNums (itL n))))))) [] 0 [] none, .b true, .no, .no, .no, .call [] (bV true) [] 0 [] none, .no, .call [] (bV true) [] 0 [] none, .no, .no, .no] [4] [] (P := (((nuV l) = (nuV l))) ∧ (((nuE l) = (nuE l))) ∧ (_) ∧ (_) ∧ ((ByteArray.toList (strOfNums (itL n)) == ByteArray.toList (strOfNums (itL n))) = true) ∧ (Fun 14 [.c (.d (D.lit (.string (strOfNums l))))] (toG []) 0 (bV true) (toG []) 0) ∧ (Fun 15 [.c (.d (D.lit (.string (strOfNums l))))] (toG []) 0 (bV true) (toG []) 0)) (l' := [(4, bV true)]) (g' := []) (nx' := 0) (by kernel_rfl) ⟨(by omega), (by omega), (V_fmt n (by omega)), (V_rfmt n (by omega)), (by simp), (by have h0 := (V_name l (show Byt l by with_reducible assumption) (by omega)); rw [hx2] at h0; exact h0), (by have h0 := (V_rname l (show Byt l by with_reducible assumption) (by omega)); rw [hx2] at h0; exact h0)⟩ ?_
      refine AW.ret ?_
      exact EndP.of (.inr rfl) [] (P := (true = true)) (by kernel_rfl) rfl
    · refine AW.rgs [.no, .no, .b true, .no, .no, .no, .b true, .no, .no, .no, .call [] (.e (.c (.d (D.lit (.string (strOfNums (itL n))))))) [] 0 [] none, .no, .call [] (.e (.c (.d (D.lit (.string (strOfNums (itL n))))))) [] 0 [] none, .b true, .no, .no, .no, .call [] (bV false) [] 0 [] none, .no, .call [] (bV false) [] 0 [] none, .no, .no, .no] [4] [] (P := (((nuV l) = (nuV l))) ∧ (((nuE l) = (nuE l))) ∧ (_) ∧ (_) ∧ ((ByteArray.toList (strOfNums (itL n)) == ByteArray.toList (strOfNums (itL n))) = true) ∧ (Fun 14 [.c (.d (D.lit (.string (strOfNums l))))] (toG []) 0 (bV false) (toG []) 0) ∧ (Fun 15 [.c (.d (D.lit (.string (strOfNums l))))] (toG []) 0 (bV false) (toG []) 0)) (l' := [(4, bV true)]) (g' := []) (nx' := 0) (by kernel_rfl) ⟨(by omega), (by omega), (V_fmt n (by omega)), (V_rfmt n (by omega)), (by simp), (by have h0 := (V_name l (show Byt l by with_reducible assumption) (by omega)); rw [hx2] at h0; exact h0), (by have h0 := (V_rname l (show Byt l by with_reducible assumption) (by omega)); rw [hx2] at h0; exact h0)⟩ ?_
      refine AW.ret ?_
      exact EndP.of (.inr rfl) [] (P := (true = true)) (by kernel_rfl) rfl

theorem str_num (s : ByteArray) : strOfNums (numsOf s) = s := by
  apply ByteArray.ext
  apply Array.ext'
  rw [strOfNums_data]
  unfold numsOf
  rw [List.map_map]
  have e : ((fun n : Int => UInt8.ofNat n.toNat) ∘ fun b : UInt8 => (b.toNat : Int)) = id := by
    funext b
    simp
  rw [e, List.map_id]
theorem byt_num (s : ByteArray) : Byt (numsOf s) := by
  intro x hx
  unfold numsOf at hx
  obtain ⟨b, _, rfl⟩ := List.mem_map.1 hx
  have := b.toNat_lt
  omega
theorem len_num (s : ByteArray) : (numsOf s).length = s.size := by unfold numsOf; rw [List.length_map, Array.length_toList]; rfl

theorem wordsNumbers_walk {w : World} (s : ByteArray) (n : Int) (hs : s.size ≤ maxLen) (hn : -9223372036854775808 ≤ n ∧ n ≤ 9223372036854775807) (hgl : GlOK (fun k => k < w.heap.size) w) : Calls Tryd.prog 3 #[.string s, .int .i64 n] w fun e w' => e = .returned (.bool true) ∧ Below w.heap.size w w' := by
  have h := (Q_WordsNumbers (numsOf s) n (byt_num s) (by rw [len_num]; unfold maxLen at hs; omega) hn).walk (w := w) (args := [.string (strOfNums (numsOf s)), .int .i64 n]) ⟨repE_lit rfl, repE_lit rfl, trivial⟩ hgl
  rw [str_num] at h
  exact h

end Go.Proofs.YtcmldnahohmieaaDoor
