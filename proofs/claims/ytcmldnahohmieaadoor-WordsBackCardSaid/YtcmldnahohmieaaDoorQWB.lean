/- Laws of words. No statement is proved here. -/
import Derived.Test.YtcmldnahohmieaaDoorL02M
import Derived.Test.YtcmldnahohmieaaDoorW02K
import Derived.Test.YtcmldnahohmieaaDoorV02C
import Derived.Test.YtcmldnahohmieaaDoorAmD
namespace Go.Proofs.YtcmldnahohmieaaDoor
open Go.ChangeShapes Go.WideShapes Go.ChangeAt Go.RowKit
set_option linter.unusedVariables false
set_option linter.unusedSimpArgs false

theorem samW_of {a b : List (List Int)} (h : a = b) : samW a b = true := decide_eq_true h

def keB (rs : List (List Int)) : Bool := decide (rs.length ≤ 70) && rs.all (fun w => decide (w.length ≤ 200))
theorem ke_get {rs : List (List Int)} (h : keB rs = true) : rs.length ≤ 70 ∧ ∀ j, j < rs.length → (List.getD rs j []).length ≤ 200 := by
  unfold keB at h
  rw [Bool.and_eq_true] at h
  refine ⟨of_decide_eq_true h.1, fun j hj => ?_⟩
  have := List.all_eq_true.1 h.2 (List.getD rs j []) (by rw [List.getD_eq_getElem?_getD, List.getElem?_eq_getElem hj]; exact List.getElem_mem hj)
  exact of_decide_eq_true this
theorem ke_l {rs : List (List Int)} (h : ¬ rs.length ≤ 70) : keB rs = false := by unfold keB; rw [decide_eq_false h]; rfl
theorem ke_n {rs : List (List Int)} {k : Nat} (hk : k < rs.length) (h : ¬ (List.getD rs k []).length ≤ 200) : keB rs = false := by
  cases e : keB rs with
  | false => rfl
  | true => exact absurd ((ke_get e).2 k hk) h
theorem ke_y {rs : List (List Int)} (h : rs.length ≤ 70) (h2 : ∀ j, j < rs.length → (List.getD rs j []).length ≤ 200) : keB rs = true := by
  unfold keB
  rw [decide_eq_true h]
  have : rs.all (fun w => decide (w.length ≤ 200)) = true := by
    rw [List.all_eq_true]
    intro x hx
    obtain ⟨i, hi, rfl⟩ := List.mem_iff_getElem.1 hx
    have := h2 i hi
    rw [List.getD_eq_getElem?_getD, List.getElem?_eq_getElem hi] at this
    exact decide_eq_true this
  rw [this]; rfl

set_option maxHeartbeats 4000000 in
set_option maxRecDepth 100000 in
theorem V_kept (rs : List (List Int)) (m : Nat) (hm : List.length rs = m) (hb : m ≤ 9223372036854775807) : Fun 16 [.c (.d (D.sl (stD rs) m))] (toG []) 0 (.e (.c (.d (D.lit (.bool (keB rs)))))) (toG []) 0 := by
  refine Fun.mk (n := 18) Tryd.func16 rfl rfl (Nat.le_of_ble_eq_true rfl) ?_
  intro cx hcx
  refine AW.rgs [.no] [0] [] (P := True) (l' := [(0, .e (.c (.d (D.sl (stD rs) m))))]) (g' := []) (nx' := 0) (by kernel_rfl) trivial ?_
  refine AW.seq ?_
  by_cases hx1 : ((70 : Int) < ((m : Nat) : Int))
  · refine AW.rgs [.no, .no, .b true] [0, 7] [] (P := (((70 : Int) < ((m : Nat) : Int)))) (l' := [(0, .e (.c (.d (D.sl (stD rs) m)))), (7, bV true)]) (g' := []) (nx' := 0) (by kernel_rfl) (by omega) ?_
    refine AW.cond_t (.tmp (Look.of rfl)) ?_
    refine AW.rgs [.no] [2] [] (P := True) (l' := [(2, bV false)]) (g' := []) (nx' := 0) (by kernel_rfl) trivial ?_
    refine AW.ret ?_
    exact EndP.of (.inr rfl) [] (P := ((keB rs) = false)) (by kernel_rfl) (by first | exact ke_l (by omega) | exact ke_n (k := k) (by omega) (by omega) | exact ke_y (by omega) (fun j hj => ha j (by omega)))
  · refine AW.rgs [.no, .no, .b false] [0, 7] [] (P := (¬ ((70 : Int) < ((m : Nat) : Int)))) (l' := [(0, .e (.c (.d (D.sl (stD rs) m)))), (7, bV false)]) (g' := []) (nx' := 0) (by kernel_rfl) (by omega) ?_
    refine AW.cond_f (.tmp (Look.of rfl)) ?_
    refine AW.skip ?_
    refine AW.seq ?_
    refine AW.rgs [.no, .no, .no] [8, 9, 10] [] (P := True) (l' := [(8, .e (.c (.d (D.sl (stD rs) m)))), (9, iV ↑m), (10, iV 0)]) (g' := []) (nx' := 0) (by kernel_rfl) trivial ?_
    refine AW.block ?_
    refine AW.loopE 0 hcx (fun (x : {x : Nat // match x with | k => (k ≤ m) ∧ (∀ j, j < k → List.length (List.getD rs j ([] : List Int)) ≤ 200)}) => match x with | ⟨k, _⟩ => (⟨[(8, .e (.c (.d (D.sl (stD rs) m)))), (9, iV ((m : Nat) : Int)), (10, iV ((k : Nat) : Int))], [], 0⟩ : ES)) (fun (x : {x : Nat // match x with | k => (k ≤ m) ∧ (∀ j, j < k → List.length (List.getD rs j ([] : List Int)) ≤ 200)}) => match x with | ⟨k, _⟩ => m - k) ⟨(0 : Nat), (show ((0 : Nat) ≤ m) ∧ (∀ j, j < (0 : Nat) → List.length (List.getD rs j ([] : List Int)) ≤ 200) from ⟨(by first | omega | assumption | simp), (fun j hj => absurd hj (Nat.not_lt_zero j))⟩)⟩ [] (P := (((stD rs) : List D) = (stD rs)) ∧ ((m : Nat) = m) ∧ ((((m : Nat) : Int) : Int) = ((m : Nat) : Int)) ∧ ((0 : Int) = 0)) (by kernel_rfl) ⟨rfl, rfl, rfl, rfl⟩ ?_
    rintro ⟨k, hinv0⟩
    obtain ⟨hk, ha⟩ : (k ≤ m) ∧ (∀ j, j < k → List.length (List.getD rs j ([] : List Int)) ≤ 200) := hinv0
    refine AW.es (l := [(8, .e (.c (.d (D.sl (stD rs) m)))), (9, iV ((m : Nat) : Int)), (10, iV ((k : Nat) : Int))]) (g := []) (nx := 0) rfl rfl rfl ?_
    by_cases hx2 : (((k : Nat) : Int) < ((m : Nat) : Int))
    · refine AW.rgs [.b true] [8, 9, 10, 11] [] (P := ((((k : Nat) : Int) < ((m : Nat) : Int)))) (l' := [(8, .e (.c (.d (D.sl (stD rs) m)))), (9, iV ↑m), (10, iV ↑k), (11, bV true)]) (g' := []) (nx' := 0) (by kernel_rfl) (by omega) ?_
      refine AW.seq ?_
      refine AW.cond_t (.tmp (Look.of rfl)) ?_
      refine AW.skip ?_
      refine AW.seq ?_
      refine AW.block ?_
      refine AW.rgs [.n k, .d (D.lit (.string (strOfNums (List.getD rs k ([] : List Int))))), .no] [4, 8, 9, 10] [] (P := ((((k : Nat) : Int) : Int) = ((k : Nat) : Int)) ∧ (k < m) ∧ ((List.drop k (stD rs))[0]? = some (D.lit (.string (strOfNums (List.getD rs k ([] : List Int))))))) (l' := [(4, .e (.c (.d (D.lit (.string (strOfNums (List.getD rs k ([] : List Int)))))))), (8, .e (.c (.d (D.sl (stD rs) m)))), (9, iV ↑m), (10, iV ↑k)]) (g' := []) (nx' := 0) (by kernel_rfl) ⟨rfl, (by omega), (stD_at _ _ (by first | omega | (simp only [bsD_len, stD_len, List.length_append, List.length_cons, List.length_nil, List.length_take, List.length_drop] <;> omega)))⟩ ?_
      by_cases hx3 : ((200 : Int) < (((List.length (List.getD rs k ([] : List Int))) : Nat) : Int))
      · refine AW.rgs [.no, .i (((List.length (List.getD rs k ([] : List Int))) : Nat) : Int), .b true] [8, 9, 10, 16] [] (P := (((ByteArray.size (strOfNums (List.getD rs k ([] : List Int))) : Nat) : Int) = ((((List.length (List.getD rs k ([] : List Int))) : Nat) : Int) : Int)) ∧ (((200 : Int) < (((List.length (List.getD rs k ([] : List Int))) : Nat) : Int)))) (l' := [(8, .e (.c (.d (D.sl (stD rs) m)))), (9, iV ↑m), (10, iV ↑k), (16, bV true)]) (g' := []) (nx' := 0) (by kernel_rfl) ⟨(by rw [strOfNums_size]), (by omega)⟩ ?_
        refine AW.cond_t (.tmp (Look.of rfl)) ?_
        refine AW.rgs [.no] [2] [] (P := True) (l' := [(2, bV false)]) (g' := []) (nx' := 0) (by kernel_rfl) trivial ?_
        refine AW.ret ?_
        exact EndP.of (.inr rfl) [] (P := ((keB rs) = false)) (by kernel_rfl) (by first | exact ke_l (by omega) | exact ke_n (k := k) (by omega) (by omega) | exact ke_y (by omega) (fun j hj => ha j (by omega)))
      · refine AW.rgs [.no, .i (((List.length (List.getD rs k ([] : List Int))) : Nat) : Int), .b false] [8, 9, 10, 16] [] (P := (((ByteArray.size (strOfNums (List.getD rs k ([] : List Int))) : Nat) : Int) = ((((List.length (List.getD rs k ([] : List Int))) : Nat) : Int) : Int)) ∧ (¬ ((200 : Int) < (((List.length (List.getD rs k ([] : List Int))) : Nat) : Int)))) (l' := [(8, .e (.c (.d (D.sl (stD rs) m)))), (9, iV ↑m), (10, iV ↑k), (16, bV false)]) (g' := []) (nx' := 0) (by kernel_rfl) ⟨(by rw [strOfNums_size]), (by omega)⟩ ?_
        refine AW.cond_f (.tmp (Look.of rfl)) ?_
        refine AW.skip ?_
        refine AW.rg [.w, .no] [8, 9, 10] [] (P := ((-9223372036854775808) ≤ (((k : Nat) : Int) + 1) ∧ (((k : Nat) : Int) + 1) ≤ 9223372036854775807)) (l' := [(8, .e (.c (.d (D.sl (stD rs) m)))), (9, iV ↑m), (10, iV (↑k + 1))]) (g' := []) (nx' := 0) (by kernel_rfl) ⟨by omega, by omega⟩ ?_
        exact Rd.of ⟨((k + 1) : Nat), (show ((k + 1) ≤ m) ∧ (∀ j, j < (k + 1) → List.length (List.getD rs j ([] : List Int)) ≤ 200) from ⟨(by first | omega | assumption | simp), (fun j hj => (Nat.lt_succ_iff_lt_or_eq.1 hj).elim (ha j) (fun e9 => by subst e9; omega))⟩)⟩ [] (P := (((stD rs) : List D) = (stD rs)) ∧ ((m : Nat) = m) ∧ ((((m : Nat) : Int) : Int) = ((m : Nat) : Int)) ∧ (((((k + 1) : Nat) : Int) : Int) = (((k : Nat) : Int) + 1))) (by kernel_rfl) ⟨rfl, rfl, rfl, (by first | rfl | omega | assumption | (simp; done) | (simp; omega))⟩ (show m - (k + 1) < m - k from (by first | omega | (show _ < _; simp; omega)))
    · refine AW.rgs [.b false] [8, 9, 10, 11] [] (P := (¬ (((k : Nat) : Int) < ((m : Nat) : Int)))) (l' := [(8, .e (.c (.d (D.sl (stD rs) m)))), (9, iV ↑m), (10, iV ↑k), (11, bV false)]) (g' := []) (nx' := 0) (by kernel_rfl) (by omega) ?_
      refine AW.seq ?_
      refine AW.cond_f (.tmp (Look.of rfl)) ?_
      refine AW.exit ?_
      refine AW.rgs [.no] [2] [] (P := True) (l' := [(2, bV true)]) (g' := []) (nx' := 0) (by kernel_rfl) trivial ?_
      refine AW.ret ?_
      exact EndP.of (.inr rfl) [] (P := ((keB rs) = true)) (by kernel_rfl) (by first | exact ke_l (by omega) | exact ke_n (k := k) (by omega) (by omega) | exact ke_y (by omega) (fun j hj => ha j (by omega)))

set_option maxHeartbeats 4000000 in
set_option maxRecDepth 100000 in
theorem Q_WordsBack (rs : List (List Int)) (m : Nat) (n : Int) (hm : List.length rs = m) (hb : m ≤ 9223372036854775807) (hR : BytL rs) (hn : -9223372036854775808 ≤ n ∧ n ≤ 9223372036854775807) : Fun 4 [.c (.d (D.sl (stD rs) m)), iE n] (toG []) 0 (bV true) (toG []) 0 := by
  refine Fun.mk (n := 52) Tryd.func4 rfl rfl (Nat.le_of_ble_eq_true rfl) ?_
  intro cx hcx
  refine AW.rgs [.no] [0, 1] [] (P := True) (l' := [(0, .e (.c (.d (D.sl (stD rs) m)))), (1, iV n)]) (g' := []) (nx' := 0) (by kernel_rfl) trivial ?_
  refine AW.seq ?_
  refine AW.rgs [.call [] (bV true) [] 0 [] none, .no] [0, 1, 13] [] (P := (_)) (l' := [(0, .e (.c (.d (D.sl (stD rs) m)))), (1, iV n), (13, bV false)]) (g' := []) (nx' := 0) (by kernel_rfl) (K_sane) ?_
  refine AW.cond_f (.tmp (Look.of rfl)) ?_
  refine AW.skip ?_
  refine AW.seq ?_
  rcases Bool.eq_false_or_eq_true (keB rs) with hx1 | hx1
  · refine AW.rgs [.no, .call [] (bV true) [] 0 [] none, .no] [0, 1, 16] [] (P := (Fun 16 [.c (.d (D.sl (stD rs) m))] (toG []) 0 (bV true) (toG []) 0)) (l' := [(0, .e (.c (.d (D.sl (stD rs) m)))), (1, iV n), (16, bV false)]) (g' := []) (nx' := 0) (by kernel_rfl) (by have h0 := (V_kept rs m (by omega) (by omega)); rw [hx1] at h0; exact h0) ?_
    refine AW.cond_f (.tmp (Look.of rfl)) ?_
    refine AW.skip ?_
    have hx2 : ((((0 : Int) ≤ (jnE rs)) ∧ ((jnE rs) ≤ 3)) ∧ ((List.length (jnT rs)) ≤ 4096)) := jn_rng rs
    refine AW.rgs [.no, .call [] (.tup [.c (.d (D.lit (.string (strOfNums (jnT rs))))), iE (jnE rs)]) [] 0 [] none, .no, .no, .no, .no, .no] [0, 1, 5, 6] [] (P := (_)) (l' := [(0, .e (.c (.d (D.sl (stD rs) m)))), (1, iV n), (5, .e (.c (.d (D.lit (.string (strOfNums (jnT rs))))))), (6, iV (jnE rs))]) (g' := []) (nx' := 0) (by kernel_rfl) (V_Join rs m (by omega) (by omega) (show BytL rs by with_reducible assumption)) ?_
    refine AW.seq ?_
    by_cases hx3 : ((jnE rs) = 0)
    · refine AW.rgs [.no, .b true] [0, 1, 5, 23] [] (P := (((jnE rs) = 0))) (l' := [(0, .e (.c (.d (D.sl (stD rs) m)))), (1, iV n), (5, .e (.c (.d (D.lit (.string (strOfNums (jnT rs))))))), (23, bV true)]) (g' := []) (nx' := 0) (by kernel_rfl) (by omega) ?_
      refine AW.cond_t (.tmp (Look.of rfl)) ?_
      have hx4 : spE (jnT rs) = 0 := (jn_back (by omega)).1
      have hx5 : spL (jnT rs) = rs := (jn_back (by omega)).2
      have hx6 : ((((0 : Int) ≤ (spE (jnT rs))) ∧ ((spE (jnT rs)) ≤ 5)) ∧ ((List.length (spL (jnT rs))) ≤ 64)) := ⟨spE_rng (jnT rs), spL_len (jnT rs)⟩
      refine AW.rgs [.no, .call [] (.tup [.c (.d (D.sl (stD (spL (jnT rs))) (List.length (spL (jnT rs))))), iE (spE (jnT rs))]) [] 0 [] none, .no, .no, .no, .no, .no] [0, 1, 7, 8] [] (P := (_)) (l' := [(0, .e (.c (.d (D.sl (stD rs) m)))), (1, iV n), (7, .e (.c (.d (D.sl (stD (spL (jnT rs))) (List.length (spL (jnT rs))))))), (8, iV (spE (jnT rs)))]) (g' := []) (nx' := 0) (by kernel_rfl) (V_Split (jnT rs) (jnT_byt (show BytL rs by with_reducible assumption)) (by first | omega | with_reducible assumption | (simp only [bsD_len, stD_len, List.length_append, List.length_cons, List.length_nil, List.length_take, List.length_drop, List.length_replicate, List.length_set] <;> omega) | rfl | assumption)) ?_
      refine AW.rgs [.no, .b false, .no, .no, .no, .call [] (bV true) [] 0 [] none, .no, .no] [1, 36] [] (P := (¬ ((spE (jnT rs)) ≠ 0)) ∧ (_)) (l' := [(1, iV n), (36, bV false)]) (g' := []) (nx' := 0) (by kernel_rfl) ⟨(by omega), (Fun.y (V_Same (spL (jnT rs)) rs (List.length (spL (jnT rs))) m rfl (by omega) (by first | omega | with_reducible assumption | (simp only [bsD_len, stD_len, List.length_append, List.length_cons, List.length_nil, List.length_take, List.length_drop, List.length_replicate, List.length_set] <;> omega) | rfl | assumption) (by omega) (spL_byt (jnT_byt (show BytL rs by with_reducible assumption))) (show BytL rs by with_reducible assumption)) (y' := bV true) (by rw [samW_of (a := (spL (jnT rs))) (b := rs) (by first | assumption | (symm; assumption))]))⟩ ?_
      refine AW.cond_f (.tmp (Look.of rfl)) ?_
      refine AW.skip ?_
      have hx7 : -9007199254740992 < (Int.tmod n 9007199254740992) ∧ (Int.tmod n 9007199254740992) < 9007199254740992 := tmod_rng n (by omega)
      refine AW.rgs [.no, .no, .no] [9] [] (P := (¬ (9007199254740992 : Int) = 0)) (l' := [(9, iV (Int.tmod n 9007199254740992))]) (g' := []) (nx' := 0) (by kernel_rfl) (by omega) ?_
      have hx8 : ((List.length (itL (Int.tmod n 9007199254740992))) ≤ 21) := it_len (by omega)
      refine AW.rgs [.no, .call [] (.e (.c (.d (D.lit (.string (strOfNums (itL (Int.tmod n 9007199254740992)))))))) [] 0 [] none, .call [] (.tup [iE (nuV (itL (Int.tmod n 9007199254740992))), iE (nuE (itL (Int.tmod n 9007199254740992)))]) [] 0 [] none, .no, .no, .no, .no, .no] [9, 10, 11] [] (P := (_) ∧ (_)) (l' := [(9, iV (Int.tmod n 9007199254740992)), (10, iV (nuV (itL (Int.tmod n 9007199254740992)))), (11, iV (nuE (itL (Int.tmod n 9007199254740992))))]) (g' := []) (nx' := 0) (by kernel_rfl) ⟨(V_fmt (Int.tmod n 9007199254740992) (by omega)), (V_num (itL (Int.tmod n 9007199254740992)) (itL_byt _) (by first | omega | with_reducible assumption | (simp only [bsD_len, stD_len, List.length_append, List.length_cons, List.length_nil, List.length_take, List.length_drop, List.length_replicate, List.length_set] <;> omega) | rfl | assumption))⟩ ?_
      have hx9 : nuE (itL (Int.tmod n 9007199254740992)) = 0 := (nu_it (k := (Int.tmod n 9007199254740992)) (by omega)).1
      have hx10 : nuV (itL (Int.tmod n 9007199254740992)) = Int.tmod n 9007199254740992 := (nu_it (k := (Int.tmod n 9007199254740992)) (by omega)).2
      refine AW.rgs [.no, .b true, .no, .no, .no, .b true, .no, .no] [4] [] (P := (((nuE (itL (Int.tmod n 9007199254740992))) = 0)) ∧ (((nuV (itL (Int.tmod n 9007199254740992))) = (Int.tmod n 9007199254740992)))) (l' := [(4, bV true)]) (g' := []) (nx' := 0) (by kernel_rfl) ⟨(by omega), (by omega)⟩ ?_
      refine AW.ret ?_
      exact EndP.of (.inr rfl) [] (P := (true = true)) (by kernel_rfl) rfl
    · refine AW.rgs [.no, .b false] [0, 1, 5, 23] [] (P := (¬ ((jnE rs) = 0))) (l' := [(0, .e (.c (.d (D.sl (stD rs) m)))), (1, iV n), (5, .e (.c (.d (D.lit (.string (strOfNums (jnT rs))))))), (23, bV false)]) (g' := []) (nx' := 0) (by kernel_rfl) (by omega) ?_
      refine AW.cond_f (.tmp (Look.of rfl)) ?_
      refine AW.skip ?_
      have hx11 : -9007199254740992 < (Int.tmod n 9007199254740992) ∧ (Int.tmod n 9007199254740992) < 9007199254740992 := tmod_rng n (by omega)
      refine AW.rgs [.no, .no, .no] [9] [] (P := (¬ (9007199254740992 : Int) = 0)) (l' := [(9, iV (Int.tmod n 9007199254740992))]) (g' := []) (nx' := 0) (by kernel_rfl) (by omega) ?_
      have hx12 : ((List.length (itL (Int.tmod n 9007199254740992))) ≤ 21) := it_len (by omega)
      refine AW.rgs [.no, .call [] (.e (.c (.d (D.lit (.string (strOfNums (itL (Int.tmod n 9007199254740992)))))))) [] 0 [] none, .call [] (.tup [iE (nuV (itL (Int.tmod n 9007199254740992))), iE (nuE (itL (Int.tmod n 9007199254740992)))]) [] 0 [] none, .no, .no, .no, .no, .no] [9, 10, 11] [] (P := (_) ∧ (_)) (l' := [(9, iV (Int.tmod n 9007199254740992)), (10, iV (nuV (itL (Int.tmod n 9007199254740992)))), (11, iV (nuE (itL (Int.tmod n 9007199254740992))))]) (g' := []) (nx' := 0) (by kernel_rfl) ⟨(V_fmt (Int.tmod n 9007199254740992) (by omega)), (V_num (itL (Int.tmod n 9007199254740992)) (itL_byt _) (by first | omega | with_reducible assumption | (simp only [bsD_len, stD_len, List.length_append, List.length_cons, List.length_nil, List.length_take, List.length_drop, List.length_replicate, List.length_set] <;> omega) | rfl | assumption))⟩ ?_
      have hx13 : nuE (itL (Int.tmod n 9007199254740992)) = 0 := (nu_it (k := (Int.tmod n 9007199254740992)) (by omega)).1
      have hx14 : nuV (itL (Int.tmod n 9007199254740992)) = Int.tmod n 9007199254740992 := (nu_it (k := (Int.tmod n 9007199254740992)) (by omega)).2
      refine AW.rgs [.no, .b true, .no, .no, .no, .b true, .no, .no] [4] [] (P := (((nuE (itL (Int.tmod n 9007199254740992))) = 0)) ∧ (((nuV (itL (Int.tmod n 9007199254740992))) = (Int.tmod n 9007199254740992)))) (l' := [(4, bV true)]) (g' := []) (nx' := 0) (by kernel_rfl) ⟨(by omega), (by omega)⟩ ?_
      refine AW.ret ?_
      exact EndP.of (.inr rfl) [] (P := (true = true)) (by kernel_rfl) rfl
  · refine AW.rgs [.no, .call [] (bV false) [] 0 [] none, .no] [0, 1, 16] [] (P := (Fun 16 [.c (.d (D.sl (stD rs) m))] (toG []) 0 (bV false) (toG []) 0)) (l' := [(0, .e (.c (.d (D.sl (stD rs) m)))), (1, iV n), (16, bV true)]) (g' := []) (nx' := 0) (by kernel_rfl) (by have h0 := (V_kept rs m (by omega) (by omega)); rw [hx1] at h0; exact h0) ?_
    refine AW.cond_t (.tmp (Look.of rfl)) ?_
    refine AW.rgs [.no] [4] [] (P := True) (l' := [(4, bV true)]) (g' := []) (nx' := 0) (by kernel_rfl) trivial ?_
    refine AW.ret ?_
    exact EndP.of (.inr rfl) [] (P := (true = true)) (by kernel_rfl) rfl

theorem str_num (s : ByteArray) : strOfNums (numsOf s) = s := by
  apply ByteArray.ext
  apply Array.ext'
  rw [strOfNums_data]
  unfold numsOf
  rw [List.map_map]
  have e : ((fun n : Int => UInt8.ofNat n.toNat) ∘ fun b : UInt8 => (b.toNat : Int)) = id := by
    funext b
    simp
  rw [e, List.map_id]
theorem byt_num (s : ByteArray) : Byt (numsOf s) := by
  intro x hx
  unfold numsOf at hx
  obtain ⟨b, _, rfl⟩ := List.mem_map.1 hx
  have := b.toNat_lt
  omega
theorem len_num (s : ByteArray) : (numsOf s).length = s.size := by unfold numsOf; rw [List.length_map, Array.length_toList]; rfl

/-- a slice of texts that came in -/
def SlS (w : World) (a : Option Addr) (len cap : Nat) (Z : Nat → ByteArray) : Prop := (a = none ∧ len = 0 ∧ cap = 0) ∨ ∃ x : Addr, a = some x ∧ len ≤ cap ∧ cap ≤ maxLen ∧ ∀ i, i < len → w.cell? (x.add i) = some (.string (Z i)) ∧ (Z i).size ≤ maxLen
def ssL (len : Nat) (Z : Nat → ByteArray) : List (List Int) := (List.range len).map fun i => numsOf (Z i)
theorem ssL_len (len : Nat) (Z : Nat → ByteArray) : (ssL len Z).length = len := by unfold ssL; simp
theorem ssL_byt (len : Nat) (Z : Nat → ByteArray) : BytL (ssL len Z) := fun l hl => by
  unfold ssL at hl
  obtain ⟨i, _, rfl⟩ := List.mem_map.1 hl
  exact byt_num _
theorem SlS.cap {w : World} {a : Option Addr} {len cap : Nat} {Z : Nat → ByteArray} (h : SlS w a len cap Z) : len ≤ 9223372036854775807 := by
  rcases h with ⟨_, rfl, _⟩ | ⟨x, _, h1, h2, _⟩
  · omega
  · unfold maxLen at h2; omega
theorem repE_ss {w : World} {a : Option Addr} {len cap : Nat} {Z : Nat → ByteArray} (h : SlS w a len cap Z) : RepE (fun k => k < w.heap.size) Rh.no w (.c (.d (.sl (stD (ssL len Z)) len))) (.slice a len cap) := by
  refine RepC.d ?_
  rcases h with ⟨rfl, rfl, rfl⟩ | ⟨x, rfl, hl, hm, hc⟩
  · exact .nil none 0 (Nat.zero_le _) (fun _ => rfl)
  · by_cases h0 : len = 0
    · subst h0
      exact .nil (some x) cap hm (fun h => by cases h)
    · obtain ⟨b, off, spot⟩ := x
      have hc0 := (hc 0 (by omega)).1
      have hspot : spot = none := by simpa [Addr.add] using World.cell?_spot hc0
      subst hspot
      have hlt : b < w.heap.size := by
        have := World.block_lt_of_cell? w _ hc0
        simpa [Addr.add] using this
      refine .sl (stD (ssL len Z)) ((List.range len).map fun i => .string (Z i)) b off len cap (by rw [stD_len, ssL_len]; simp) ?_ ?_ (.inl hlt) hlt hl hm
      · intro i u hu
        have hi : i < len := by
          have := (List.getElem?_eq_some_iff.1 hu).1
          simpa using this
        have := (hc i hi).1
        rw [Addr.add_lit] at this
        rw [this]
        simp [hi] at hu
        rw [hu]
      · intro i d u hd hu
        have hi : i < len := by
          have := (List.getElem?_eq_some_iff.1 hu).1
          simpa using this
        have e1 : u = .string (Z i) := by
          simp [hi] at hu
          exact hu.symm
        have e2 : d = D.lit (.string (strOfNums (numsOf (Z i)))) := by
          unfold stD ssL at hd
          simp [hi] at hd
          exact hd.symm
        rw [e1, e2, str_num]
        exact .lit _ rfl

theorem wordsBack_walk {w : World} {a : Option Addr} {len cap : Nat} {Z : Nat → ByteArray} {n : Int} (h : SlS w a len cap Z) (hn : -9223372036854775808 ≤ n ∧ n ≤ 9223372036854775807) (hgl : GlOK (fun k => k < w.heap.size) w) : Calls Tryd.prog 4 #[.slice a len cap, .int .i64 n] w fun e w' => e = .returned (.bool true) ∧ Below w.heap.size w w' :=
  (Q_WordsBack (ssL len Z) len n (ssL_len _ _) h.cap (ssL_byt _ _) hn).walk ⟨repE_ss h, repE_lit rfl, trivial⟩ hgl

end Go.Proofs.YtcmldnahohmieaaDoor
