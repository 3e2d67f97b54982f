/- A law. No statement is proved here. -/
import Derived.Test.YtcmldnahohmieaaDoorL06D
import Derived.Test.YtcmldnahohmieaaDoorAmD
namespace Go.Proofs.YtcmldnahohmieaaDoor
open Go.ChangeShapes Go.WideShapes Go.ChangeAt Go.RowKit
set_option linter.unusedVariables false
set_option linter.unusedSimpArgs false

theorem str_num (s : ByteArray) : strOfNums (numsOf s) = s := by
  apply ByteArray.ext
  apply Array.ext'
  rw [strOfNums_data]
  unfold numsOf
  rw [List.map_map]
  have e : ((fun n : Int => UInt8.ofNat n.toNat) ∘ fun b : UInt8 => (b.toNat : Int)) = id := by
    funext b
    simp
  rw [e, List.map_id]
theorem byt_num (s : ByteArray) : Byt (numsOf s) := by
  intro x hx
  unfold numsOf at hx
  obtain ⟨b, _, rfl⟩ := List.mem_map.1 hx
  have := b.toNat_lt
  omega
theorem len_num (s : ByteArray) : (numsOf s).length = s.size := by unfold numsOf; rw [List.length_map, Array.length_toList]; rfl

theorem Sl.max {k : IntKind} {w : World} {a : Option Addr} {len cap : Nat} {l : List Int} (h : Sl k w a len cap l) : List.length l ≤ 9223372036854775807 := by
  obtain ⟨h1, h2, h3, _⟩ := h
  unfold maxLen at h3
  omega

theorem rd1 : rdP [70, 76, 44, 70, 82] = some [1, 2] := by decide +kernel
theorem rd2 : rdP [70, 76, 44, 70, 76] = some [1, 1] := by decide +kernel
theorem rd3 : rdP [70, 76, 44] = none := by decide +kernel
theorem sn1 : (paE [70, 76, 44, 70, 82] = 0 ∧ paL [70, 76, 44, 70, 82] = [1, 2]) := pa_good rd1 rfl (by decide +kernel)
theorem sn2 : (paE [70, 76, 44, 70, 76] = 1 ∧ paL [70, 76, 44, 70, 76] = []) := pa_bad rd2 rfl (by decide +kernel)
theorem sn3 : (paE [70, 76, 44] = 5 ∧ paL [70, 76, 44] = []) := pa_none rd3
theorem K_P0 : Fun 21 [.c (.d (D.lit ((.string (ByteArray.mk #[70, 76, 44, 70, 82])))))] (toG []) 0 (.tup [.c (.d (D.sl [iD 1, iD 2] 2)), iE 0]) (toG []) 0 := by
  have h := V_Parse ([70, 76, 44, 70, 82] : List Int) (by intro x hx; simp at hx; omega) (by decide)
  rw [sn1.1, sn1.2] at h
  exact h
theorem K_P1 : Fun 21 [.c (.d (D.lit ((.string (ByteArray.mk #[70, 76, 44, 70, 76])))))] (toG []) 0 (.tup [.c (.d (D.sl ([] : List D) 0)), iE 1]) (toG []) 0 := by
  have h := V_Parse ([70, 76, 44, 70, 76] : List Int) (by intro x hx; simp at hx; omega) (by decide)
  rw [sn2.1, sn2.2] at h
  exact h
theorem K_P2 : Fun 21 [.c (.d (D.lit ((.string (ByteArray.mk #[70, 76, 44])))))] (toG []) 0 (.tup [.c (.d (D.sl ([] : List D) 0)), iE 5]) (toG []) 0 := by
  have h := V_Parse ([70, 76, 44] : List Int) (by intro x hx; simp at hx; omega) (by decide)
  rw [sn3.1, sn3.2] at h
  exact h
theorem K_F : Fun 24 [.c (.d (D.sl [iD 1, iD 2] 2))] (toG []) 0 (.e (.c (.d (D.lit (.string (strOfNums ([70, 76, 44, 70, 82] : List Int))))))) (toG []) 0 := by
  have h := V_Format [1, 2] 2 rfl (by decide)
  rw [show fmL [1, 2] = [70, 76, 44, 70, 82] by decide +kernel] at h
  exact h
theorem K_V : Fun 26 [.c (.d (D.sl [iD 1, iD 2] 2))] (toG []) 0 (bV true) (toG []) 0 := by
  have h := V_Valid [1, 2] 2 rfl (by decide)
  rw [show chB [1, 2] 2 = true by decide +kernel] at h
  exact h

set_option maxHeartbeats 4000000 in
set_option maxRecDepth 100000 in
theorem Q_sane   : Fun 20 [] (toG []) 0 (bV true) (toG []) 0 := by
  refine Fun.mk (n := 54) Tryd.func20 rfl rfl (Nat.le_of_ble_eq_true rfl) ?_
  intro cx hcx
  refine AW.rgs [.no] [] [] (P := True) (l' := []) (g' := []) (nx' := 0) (by kernel_rfl) trivial ?_
  refine AW.rgs [.call [] (.tup [.c (.d (D.sl [iD 1, iD 2] 2)), iE 0]) [] 0 [] none, .no, .no, .no, .no, .no] [1, 2] [] (P := (_)) (l' := [(1, .e (.c (.d (D.sl [iD 1, iD 2] 2)))), (2, iV 0)]) (g' := []) (nx' := 0) (by kernel_rfl) (K_P0) ?_
  refine AW.rgs [.call [] (.tup [.c (.d (D.sl ([] : List D) 0)), iE 1]) [] 0 [] none, .no, .no, .no, .no, .no] [1, 2, 4] [] (P := (_)) (l' := [(1, .e (.c (.d (D.sl [iD 1, iD 2] 2)))), (2, iV 0), (4, iV 1)]) (g' := []) (nx' := 0) (by kernel_rfl) (K_P1) ?_
  refine AW.rgs [.call [] (.tup [.c (.d (D.sl ([] : List D) 0)), iE 5]) [] 0 [] none, .no, .no, .no, .no, .no] [1, 2, 4, 6] [] (P := (_)) (l' := [(1, .e (.c (.d (D.sl [iD 1, iD 2] 2)))), (2, iV 0), (4, iV 1), (6, iV 5)]) (g' := []) (nx' := 0) (by kernel_rfl) (K_P2) ?_
  have hx1 : ((((-1) : Int) ≤ (idxK ([1, 2] : List Int) 2 2)) ∧ ((idxK ([1, 2] : List Int) 2 2) < 2)) := idxK_rng ([1, 2] : List Int) (2 : Int) (2 : Nat)
  refine AW.rgs [.no, .b true, .no, .no, .no, .b true, .no, .no, .no, .n 1, .no, .b true, .no, .no, .no, .call [] (.e (.c (.d (D.lit (.string (strOfNums ([70, 76, 44, 70, 82] : List Int))))))) [] 0 [] none, .b true, .no, .no, .no, .b true, .no, .no, .no, .b true, .no, .no, .no, .call [] (bV true) [] 0 [] none, .no, .no, .no, .call [] (iV 1) [] 0 [] none, .b true, .no, .no] [0] [] (P := (((0 : Int) = 0)) ∧ (((2 : Int) = 2)) ∧ ((1 : Int) = 1) ∧ ((1 : Nat) < 2) ∧ (((2 : Int) = 2)) ∧ (_) ∧ ((ByteArray.toList (strOfNums ([70, 76, 44, 70, 82] : List Int)) == ByteArray.toList (ByteArray.mk #[70, 76, 44, 70, 82])) = true) ∧ (((1 : Int) = 1)) ∧ (((5 : Int) = 5)) ∧ (_) ∧ (_) ∧ (((1 : Int) = 1))) (l' := [(0, bV true)]) (g' := []) (nx' := 0) (by kernel_rfl) ⟨(by omega), (by omega), rfl, (by omega), (by omega), (K_F), (by kernel_rfl), (by omega), (by omega), (K_V), (Fun.cv (V_Index ([1, 2] : List Int) 2 2 (by first | omega | with_reducible assumption | (simp only [bsD_len, stD_len, stL_len, List.length_append, List.length_cons, List.length_nil, List.length_take, List.length_drop, List.length_replicate, List.length_set] <;> omega) | rfl | assumption) (by omega)) (y' := iV 1) (g1' := toG []) (by kernel_rfl) (by kernel_rfl)), (by omega)⟩ ?_
  refine AW.ret ?_
  exact EndP.of (.inr rfl) [] (P := (true = true)) (by kernel_rfl) rfl

set_option maxHeartbeats 4000000 in
set_option maxRecDepth 100000 in
theorem Q_ChannelsTexts (s m : List Int) (n : Nat) (hy : Byt s) (hs : List.length s ≤ 9223372036854775807) (hm : List.length m = n) (bm : n ≤ 9223372036854775807) : Fun 5 [.c (.d (D.lit (.string (strOfNums s)))), .c (.d (D.sl (dI .i64 m) n))] (toG []) 0 (bV true) (toG []) 0 := by
  refine Fun.mk (n := 44) Tryd.func5 rfl rfl (Nat.le_of_ble_eq_true rfl) ?_
  intro cx hcx
  refine AW.rgs [.no] [0, 1] [] (P := True) (l' := [(0, .e (.c (.d (D.lit (.string (strOfNums s)))))), (1, sV .i64 m n)]) (g' := []) (nx' := 0) (by kernel_rfl) trivial ?_
  refine AW.seq ?_
  refine AW.rgs [.call [] (bV true) [] 0 [] none, .no] [0, 1, 10] [] (P := (_)) (l' := [(0, .e (.c (.d (D.lit (.string (strOfNums s)))))), (1, sV .i64 m n), (10, bV false)]) (g' := []) (nx' := 0) (by kernel_rfl) (Q_sane) ?_
  refine AW.cond_f (.tmp (Look.of rfl)) ?_
  refine AW.skip ?_
  refine AW.seq ?_
  by_cases hx1 : ((300 : Int) < (((List.length s) : Nat) : Int))
  · refine AW.rgs [.no, .i (((List.length s) : Nat) : Int), .b true, .no, .no] [0, 1, 18] [] (P := (((ByteArray.size (strOfNums s) : Nat) : Int) = ((((List.length s) : Nat) : Int) : Int)) ∧ (((300 : Int) < (((List.length s) : Nat) : Int)))) (l' := [(0, .e (.c (.d (D.lit (.string (strOfNums s)))))), (1, sV .i64 m n), (18, bV true)]) (g' := []) (nx' := 0) (by kernel_rfl) ⟨(by rw [strOfNums_size]), (by omega)⟩ ?_
    refine AW.cond_t (.tmp (Look.of rfl)) ?_
    refine AW.rgs [.no] [4] [] (P := True) (l' := [(4, bV true)]) (g' := []) (nx' := 0) (by kernel_rfl) trivial ?_
    refine AW.ret ?_
    exact EndP.of (.inr rfl) [] (P := (true = true)) (by kernel_rfl) rfl
  · by_cases hx2 : ((50 : Int) < ((n : Nat) : Int))
    · refine AW.rgs [.no, .i (((List.length s) : Nat) : Int), .b false, .no, .no, .no, .b true, .no] [0, 1, 18] [] (P := (((ByteArray.size (strOfNums s) : Nat) : Int) = ((((List.length s) : Nat) : Int) : Int)) ∧ (¬ ((300 : Int) < (((List.length s) : Nat) : Int))) ∧ (((50 : Int) < ((n : Nat) : Int)))) (l' := [(0, .e (.c (.d (D.lit (.string (strOfNums s)))))), (1, sV .i64 m n), (18, bV true)]) (g' := []) (nx' := 0) (by kernel_rfl) ⟨(by rw [strOfNums_size]), (by omega), (by omega)⟩ ?_
      refine AW.cond_t (.tmp (Look.of rfl)) ?_
      refine AW.rgs [.no] [4] [] (P := True) (l' := [(4, bV true)]) (g' := []) (nx' := 0) (by kernel_rfl) trivial ?_
      refine AW.ret ?_
      exact EndP.of (.inr rfl) [] (P := (true = true)) (by kernel_rfl) rfl
    · refine AW.rgs [.no, .i (((List.length s) : Nat) : Int), .b false, .no, .no, .no, .b false, .no] [0, 1, 18] [] (P := (((ByteArray.size (strOfNums s) : Nat) : Int) = ((((List.length s) : Nat) : Int) : Int)) ∧ (¬ ((300 : Int) < (((List.length s) : Nat) : Int))) ∧ (¬ ((50 : Int) < ((n : Nat) : Int)))) (l' := [(0, .e (.c (.d (D.lit (.string (strOfNums s)))))), (1, sV .i64 m n), (18, bV false)]) (g' := []) (nx' := 0) (by kernel_rfl) ⟨(by rw [strOfNums_size]), (by omega), (by omega)⟩ ?_
      refine AW.cond_f (.tmp (Look.of rfl)) ?_
      refine AW.skip ?_
      have hx3 : ((((0 : Int) ≤ (paE s)) ∧ ((paE s) ≤ 5)) ∧ ((List.length (paL s)) ≤ 8)) := ⟨paE_rng s, paL_len s⟩
      refine AW.rgs [.no, .call [] (.tup [.c (.d (D.sl (dI .i64 (paL s)) (List.length (paL s)))), iE (paE s)]) [] 0 [] none, .no, .no, .no, .no, .no] [0, 1, 5, 6] [] (P := (_)) (l' := [(0, .e (.c (.d (D.lit (.string (strOfNums s)))))), (1, sV .i64 m n), (5, sV .i64 (paL s) (List.length (paL s))), (6, iV (paE s))]) (g' := []) (nx' := 0) (by kernel_rfl) (V_Parse s (show Byt s by with_reducible assumption) (by omega)) ?_
      have hx4 : ((((0 : Int) ≤ (paE s)) ∧ ((paE s) ≤ 5)) ∧ ((List.length (paL s)) ≤ 8)) := ⟨paE_rng s, paL_len s⟩
      refine AW.rgs [.no, .call [] (.tup [.c (.d (D.sl (dI .i64 (paL s)) (List.length (paL s)))), iE (paE s)]) [] 0 [] none, .no, .no, .no, .no, .no] [1, 5, 6, 7, 8] [] (P := (_)) (l' := [(1, sV .i64 m n), (5, sV .i64 (paL s) (List.length (paL s))), (6, iV (paE s)), (7, sV .i64 (paL s) (List.length (paL s))), (8, iV (paE s))]) (g' := []) (nx' := 0) (by kernel_rfl) (V_rParse s (show Byt s by with_reducible assumption) (by omega)) ?_
      have hx5 : ((List.length (fmL m)) ≤ (3 * n)) := (by have h9 := fmL_len m; omega)
      have hx6 : ((List.length (fmL m)) ≤ (3 * n)) := (by have h9 := fmL_len m; omega)
      refine AW.rgs [.no, .no, .b true, .no, .no, .no, .call [] (bV true) [] 0 [] none, .no, .no, .no, .call [] (.e (.c (.d (D.lit (.string (strOfNums (fmL m))))))) [] 0 [] none, .no, .call [] (.e (.c (.d (D.lit (.string (strOfNums (fmL m))))))) [] 0 [] none, .b true, .no, .no] [4] [] (P := (((paE s) = (paE s))) ∧ (_) ∧ (_) ∧ (_) ∧ ((ByteArray.toList (strOfNums (fmL m)) == ByteArray.toList (strOfNums (fmL m))) = true)) (l' := [(4, bV true)]) (g' := []) (nx' := 0) (by kernel_rfl) ⟨(by omega), (Fun.y (V_rSame (paL s) (paL s) (List.length (paL s)) (List.length (paL s)) rfl rfl (by first | omega | with_reducible assumption | (simp only [bsD_len, stD_len, stL_len, List.length_append, List.length_cons, List.length_nil, List.length_take, List.length_drop, List.length_replicate, List.length_set] <;> omega) | rfl | assumption) (by first | omega | with_reducible assumption | (simp only [bsD_len, stD_len, stL_len, List.length_append, List.length_cons, List.length_nil, List.length_take, List.length_drop, List.length_replicate, List.length_set] <;> omega) | rfl | assumption)) (y' := bV true) (congrArg (fun b9 => LV (.bool b9)) (sqB_r _))), (V_Format m n (by omega) (by omega)), (V_rFormat m n (by omega) (by omega)), (by simp)⟩ ?_
      refine AW.ret ?_
      exact EndP.of (.inr rfl) [] (P := (true = true)) (by kernel_rfl) rfl

theorem channelsTexts_walk {w : World} (s : ByteArray) (hs : s.size ≤ maxLen) {xa : Option Addr} {xl xc : Nat} {m : List Int} (hm : Sl .i64 w xa xl xc m) (hgl : GlOK (fun k => k < w.heap.size) w) : Calls Tryd.prog 5 #[.string s, .slice xa xl xc] w fun e w' => e = .returned (.bool true) ∧ Below w.heap.size w w' := by
  have h := (Q_ChannelsTexts (numsOf s) m (List.length m) (byt_num s) (by rw [len_num]; unfold maxLen at hs; omega) rfl hm.max).walk (w := w) (args := [.string (strOfNums (numsOf s)), .slice xa xl xc]) ⟨repE_lit rfl, repE_sl hm, trivial⟩ hgl
  rw [str_num] at h
  exact h

end Go.Proofs.YtcmldnahohmieaaDoor
