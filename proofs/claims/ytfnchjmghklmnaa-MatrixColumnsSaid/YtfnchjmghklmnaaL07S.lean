/- Matrices: what the laws come to. No statement is proved here. -/
import Derived.Test.YtfnchjmghklmnaaL07
import Derived.Test.YtfnchjmghklmnaaLMade
import Derived.Test.YtfnchjmghklmnaaAmD
namespace Go.Proofs.Ytfnchjmghklmnaa
open Go.ChangeShapes Go.WideShapes Go.ChangeAt Go.RowKit
set_option linter.unusedVariables false
set_option linter.unusedSimpArgs false


def idxK (l : List Int) (v : Int) : Nat → Int
  | 0 => -1
  | k + 1 => if 0 ≤ idxK l v k then idxK l v k else if List.getD l k 0 = v then (k : Int) else -1
theorem idxK_miss {l : List Int} {v : Int} {k : Nat} (h : idxK l v k = -1) (h2 : ¬ List.getD l k 0 = v) : idxK l v (k + 1) = -1 := by
  show (if 0 ≤ idxK l v k then _ else _) = _
  rw [if_neg (by omega), if_neg h2]
theorem idxK_hit {l : List Int} {v : Int} {k : Nat} (h : idxK l v k = -1) (h2 : List.getD l k 0 = v) : ∀ n, k < n → idxK l v n = (k : Int)
  | n + 1, hn => by
    by_cases hk : k = n
    · subst hk
      show (if 0 ≤ idxK l v k then _ else _) = _
      rw [if_neg (by omega), if_pos h2]
    · have := idxK_hit h h2 n (by omega)
      show (if 0 ≤ idxK l v n then _ else _) = _
      rw [if_pos (by omega)]; exact this
def mxL : Nat → List Int → List Int
  | 0, l => l
  | k + 1, l => nextL (nextL (mxL k l) 256) 8
def mxC (l : List Int) : Int := List.getD [0, 32768, 23170, (-32768), 131072, (-131072), 1, ((nextN l 256 : Nat) : Int) * 128] (nextN (nextL l 256) 8) 0
def mxV : Nat → List Int → List Int
  | 0, _ => []
  | k + 1, l => mxV k l ++ [mxC (mxL k l)]
theorem mxL_byt {l : List Int} (h : Byt l) : ∀ k, Byt (mxL k l)
  | 0 => h
  | k + 1 => nextL_byt _ (nextL_byt _ (mxL_byt h k))
theorem mxV_len (l : List Int) : ∀ k, List.length (mxV k l) = k
  | 0 => rfl
  | k + 1 => by show (mxV k l ++ [_]).length = _; rw [List.length_append, mxV_len l k]; rfl
theorem mxC_in {l : List Int} (h : Byt l) : -131072 ≤ mxC l ∧ mxC l ≤ 131072 := by
  have h1 := nextV_in l 256 h
  unfold mxC
  match nextN (nextL l 256) 8 with
  | 0 => exact (by decide : (-131072 : Int) ≤ 0 ∧ (0 : Int) ≤ 131072)
  | 1 => exact (by decide : (-131072 : Int) ≤ 32768 ∧ (32768 : Int) ≤ 131072)
  | 2 => exact (by decide : (-131072 : Int) ≤ 23170 ∧ (23170 : Int) ≤ 131072)
  | 3 => exact (by decide : (-131072 : Int) ≤ -32768 ∧ (-32768 : Int) ≤ 131072)
  | 4 => exact (by decide : (-131072 : Int) ≤ 131072 ∧ (131072 : Int) ≤ 131072)
  | 5 => exact (by decide : (-131072 : Int) ≤ -131072 ∧ (-131072 : Int) ≤ 131072)
  | 6 => exact (by decide : (-131072 : Int) ≤ 1 ∧ (1 : Int) ≤ 131072)
  | 7 => show (-131072 : Int) ≤ ((nextN l 256 : Nat) : Int) * 128 ∧ ((nextN l 256 : Nat) : Int) * 128 ≤ 131072; omega
  | v + 8 => exact (by decide : (-131072 : Int) ≤ 0 ∧ (0 : Int) ≤ 131072)
theorem mxV_in {l : List Int} (h : Byt l) : ∀ k j, j < List.length (mxV k l) → -131072 ≤ List.getD (mxV k l) j 0 ∧ List.getD (mxV k l) j 0 ≤ 131072
  | 0, j, hj => absurd hj (Nat.not_lt_zero j)
  | k + 1, j, hj => by
    rw [mxV_len] at hj
    show _ ≤ List.getD (mxV k l ++ [_]) j 0 ∧ List.getD (mxV k l ++ [_]) j 0 ≤ _
    by_cases hk : j < k
    · rw [getD_app_l (by rw [mxV_len]; exact hk)]; exact mxV_in h k j (by rw [mxV_len]; exact hk)
    · rw [getD_app_r (by rw [mxV_len]; omega), mxV_len, show j - k = 0 by omega]
      exact mxC_in (mxL_byt h k)
theorem mx_MV {l : List Int} (h : Byt l) {i o : Nat} (h1 : 1 ≤ i) (h2 : i ≤ 8) (h3 : 1 ≤ o) (h4 : o ≤ 8) : MV i o (mxV (i * o) l) := ⟨h1, h2, h3, h4, mxV_len l _, mxV_in h _⟩
theorem mv_sane : MV 2 1 [23170, 23170] := ⟨by decide, by decide, by decide, by decide, rfl, fun j hj => lit_rng (l := [23170, 23170]) (by decide) j hj⟩
theorem bv_sane : BV 2 1 [25600, 25600] := ⟨by decide, by decide, rfl, by decide, fun j hj => smp_of (lit_rng (l := [25600, 25600]) (a := -8388608) (b := 8388607) (by decide) j hj)⟩

set_option maxHeartbeats 4000000 in
set_option maxRecDepth 100000 in
theorem C_sIndex (l : List Int) (n : Nat) (v : Int) (hn : List.length l = n) (hm : n ≤ 1000000) : Fun 32 [.c (.d (D.sl (dI .i64 l) n)), iE v] (toG []) 0 (iV (idxK l v n)) (toG []) 0 := by
  refine Fun.mk (n := 19) Try.func32 rfl rfl (Nat.le_of_ble_eq_true rfl) ?_
  intro cx hcx
  refine AW.rgs [.no] [0, 1] [] (P := True) (l' := [(0, sV .i64 l n), (1, iV v)]) (g' := []) (nx' := 0) (by kernel_rfl) trivial ?_
  refine AW.seq ?_
  refine AW.rgs [.no, .no, .no] [0, 1, 7, 8] [] (P := True) (l' := [(0, sV .i64 l n), (1, iV v), (7, iV ↑n), (8, iV 0)]) (g' := []) (nx' := 0) (by kernel_rfl) trivial ?_
  refine AW.block ?_
  refine AW.loopE 0 hcx (fun (x : {x : Nat // match x with | k => (k ≤ n) ∧ (idxK l v k = -1)}) => match x with | ⟨k, _⟩ => (⟨[(0, sV .i64 l n), (1, iV v), (7, iV ((n : Nat) : Int)), (8, iV ((k : Nat) : Int))], [], 0⟩ : ES)) (fun (x : {x : Nat // match x with | k => (k ≤ n) ∧ (idxK l v k = -1)}) => match x with | ⟨k, _⟩ => n - k) ⟨(0 : Nat), (show ((0 : Nat) ≤ n) ∧ (idxK l v (0 : Nat) = -1) from ⟨(by first | omega | assumption | simp), rfl⟩)⟩ [] (P := (((dI .i64 l) : List D) = (dI .i64 l)) ∧ ((n : Nat) = n) ∧ ((v : Int) = v) ∧ ((((n : Nat) : Int) : Int) = ((n : Nat) : Int)) ∧ ((0 : Int) = 0)) (by kernel_rfl) ⟨rfl, rfl, rfl, rfl, rfl⟩ ?_
  rintro ⟨k, hinv0⟩
  obtain ⟨hk, hi⟩ : (k ≤ n) ∧ (idxK l v k = -1) := hinv0
  refine AW.es (l := [(0, sV .i64 l n), (1, iV v), (7, iV ((n : Nat) : Int)), (8, iV ((k : Nat) : Int))]) (g := []) (nx := 0) rfl rfl rfl ?_
  by_cases hx1 : (((k : Nat) : Int) < ((n : Nat) : Int))
  · refine AW.rgs [.b true] [0, 1, 7, 8, 9] [] (P := ((((k : Nat) : Int) < ((n : Nat) : Int)))) (l' := [(0, sV .i64 l n), (1, iV v), (7, iV ↑n), (8, iV ↑k), (9, bV true)]) (g' := []) (nx' := 0) (by kernel_rfl) (by omega) ?_
    refine AW.seq ?_
    refine AW.cond_t (.tmp (Look.of rfl)) ?_
    refine AW.skip ?_
    refine AW.seq ?_
    refine AW.block ?_
    refine AW.rgs [.no, .no] [0, 1, 5, 7, 8] [] (P := True) (l' := [(0, sV .i64 l n), (1, iV v), (5, iV ↑k), (7, iV ↑n), (8, iV ↑k)]) (g' := []) (nx' := 0) (by kernel_rfl) trivial ?_
    by_cases hx2 : (v = (List.getD l k 0))
    · refine AW.rgs [.no, .no, .no, .n k, .d (D.lit (.int .i64 (List.getD l k 0))), .b true] [0, 1, 5, 7, 8, 16] [] (P := ((((k : Nat) : Int) : Int) = ((k : Nat) : Int)) ∧ (k < n) ∧ ((List.drop k (dI .i64 l))[0]? = some (D.lit (.int .i64 (List.getD l k 0)))) ∧ ((v = (List.getD l k 0)))) (l' := [(0, sV .i64 l n), (1, iV v), (5, iV ↑k), (7, iV ↑n), (8, iV ↑k), (16, bV true)]) (g' := []) (nx' := 0) (by kernel_rfl) ⟨rfl, (by omega), (dI_at _ _ _ (by first | omega | (rw [dI_len]; omega) | (simp [dI_len] <;> omega) | rfl)), (by omega)⟩ ?_
      refine AW.cond_t (.tmp (Look.of rfl)) ?_
      refine AW.rgs [.no, .no] [4] [] (P := True) (l' := [(4, iV ↑k)]) (g' := []) (nx' := 0) (by kernel_rfl) trivial ?_
      refine AW.ret ?_
      exact EndP.of (.inr rfl) [] (P := (((idxK l v n) : Int) = ((k : Nat) : Int))) (by kernel_rfl) (by first | rfl | exact idxK_hit hi (by omega) n (by omega) | (rw [show n = k by omega]; exact hi))
    · refine AW.rgs [.no, .no, .no, .n k, .d (D.lit (.int .i64 (List.getD l k 0))), .b false] [0, 1, 5, 7, 8, 16] [] (P := ((((k : Nat) : Int) : Int) = ((k : Nat) : Int)) ∧ (k < n) ∧ ((List.drop k (dI .i64 l))[0]? = some (D.lit (.int .i64 (List.getD l k 0)))) ∧ (¬ (v = (List.getD l k 0)))) (l' := [(0, sV .i64 l n), (1, iV v), (5, iV ↑k), (7, iV ↑n), (8, iV ↑k), (16, bV false)]) (g' := []) (nx' := 0) (by kernel_rfl) ⟨rfl, (by omega), (dI_at _ _ _ (by first | omega | (rw [dI_len]; omega) | (simp [dI_len] <;> omega) | rfl)), (by omega)⟩ ?_
      refine AW.cond_f (.tmp (Look.of rfl)) ?_
      refine AW.skip ?_
      refine AW.rg [.w, .no] [0, 1, 7, 8] [] (P := ((-9223372036854775808) ≤ (((k : Nat) : Int) + 1) ∧ (((k : Nat) : Int) + 1) ≤ 9223372036854775807)) (l' := [(0, sV .i64 l n), (1, iV v), (7, iV ↑n), (8, iV (↑k + 1))]) (g' := []) (nx' := 0) (by kernel_rfl) ⟨by omega, by omega⟩ ?_
      exact Rd.of ⟨((k + 1) : Nat), (show ((k + 1) ≤ n) ∧ (idxK l v (k + 1) = -1) from ⟨(by first | omega | assumption | simp), (idxK_miss hi (by omega))⟩)⟩ [] (P := (((dI .i64 l) : List D) = (dI .i64 l)) ∧ ((n : Nat) = n) ∧ ((v : Int) = v) ∧ ((((n : Nat) : Int) : Int) = ((n : Nat) : Int)) ∧ (((((k + 1) : Nat) : Int) : Int) = (((k : Nat) : Int) + 1))) (by kernel_rfl) ⟨rfl, rfl, rfl, rfl, (by first | rfl | omega | assumption | (simp; done) | (simp; omega))⟩ (show n - (k + 1) < n - k from (by first | omega | (show _ < _; simp; omega)))
  · refine AW.rgs [.b false] [0, 1, 7, 8, 9] [] (P := (¬ (((k : Nat) : Int) < ((n : Nat) : Int)))) (l' := [(0, sV .i64 l n), (1, iV v), (7, iV ↑n), (8, iV ↑k), (9, bV false)]) (g' := []) (nx' := 0) (by kernel_rfl) (by omega) ?_
    refine AW.seq ?_
    refine AW.cond_f (.tmp (Look.of rfl)) ?_
    refine AW.exit ?_
    refine AW.rgs [.no] [4] [] (P := True) (l' := [(4, iV (-1))]) (g' := []) (nx' := 0) (by kernel_rfl) trivial ?_
    refine AW.ret ?_
    exact EndP.of (.inr rfl) [] (P := (((idxK l v n) : Int) = (-1))) (by kernel_rfl) (by first | rfl | exact idxK_hit hi (by omega) n (by omega) | (rw [show n = k by omega]; exact hi))

set_option maxHeartbeats 4000000 in
set_option maxRecDepth 100000 in
theorem C_Index (l : List Int) (n : Nat) (v : Int) (hn : List.length l = n) (hm : n ≤ 1000000) : Fun 19 [.c (.d (D.sl (dI .i64 l) n)), iE v] (toG []) 0 (iV (idxK l v n)) (toG []) 0 := by
  refine Fun.mk (n := 8) Try.func19 rfl rfl (Nat.le_of_ble_eq_true rfl) ?_
  intro cx hcx
  refine AW.rgs [.no] [0, 1] [] (P := True) (l' := [(0, sV .i64 l n), (1, iV v)]) (g' := []) (nx' := 0) (by kernel_rfl) trivial ?_
  refine AW.rgs [.no, .no, .call [] (iV (idxK l v n)) [] 0 [] none, .no] [4] [] (P := (_)) (l' := [(4, iV (idxK l v n))]) (g' := []) (nx' := 0) (by kernel_rfl) (C_sIndex l n v (by omega) (by omega)) ?_
  refine AW.ret ?_
  exact EndP.of (.inr rfl) [] (P := (((idxK l v n) : Int) = (idxK l v n))) (by kernel_rfl) rfl

set_option maxHeartbeats 4000000 in
set_option maxRecDepth 100000 in
theorem C_isPos (n : Int)  : Fun 29 [iE n] (toG []) 0 (.e (.c (.d (D.lit (.bool (decide (1 ≤ n ∧ n ≤ 8))))))) (toG []) 0 := by
  refine Fun.mk (n := 9) Try.func29 rfl rfl (Nat.le_of_ble_eq_true rfl) ?_
  intro cx hcx
  refine AW.rgs [.no] [0] [] (P := True) (l' := [(0, iV n)]) (g' := []) (nx' := 0) (by kernel_rfl) trivial ?_
  by_cases hx1 : ((1 : Int) ≤ n)
  · by_cases hx2 : (n ≤ 8)
    · refine AW.rgs [.no, .b true, .no, .no, .b true, .no, .no] [2] [] (P := (((1 : Int) ≤ n)) ∧ ((n ≤ 8))) (l' := [(2, bV true)]) (g' := []) (nx' := 0) (by kernel_rfl) ⟨(by omega), (by omega)⟩ ?_
      refine AW.ret ?_
      exact EndP.of (.inr rfl) [] (P := ((decide (1 ≤ n ∧ n ≤ 8)) = true)) (by kernel_rfl) (by first | exact decide_eq_true (by omega) | exact decide_eq_false (by omega))
    · refine AW.rgs [.no, .b true, .no, .no, .b false, .no, .no] [2] [] (P := (((1 : Int) ≤ n)) ∧ (¬ (n ≤ 8))) (l' := [(2, bV false)]) (g' := []) (nx' := 0) (by kernel_rfl) ⟨(by omega), (by omega)⟩ ?_
      refine AW.ret ?_
      exact EndP.of (.inr rfl) [] (P := ((decide (1 ≤ n ∧ n ≤ 8)) = false)) (by kernel_rfl) (by first | exact decide_eq_true (by omega) | exact decide_eq_false (by omega))
  · refine AW.rgs [.no, .b false, .no, .no, .no] [2] [] (P := (¬ ((1 : Int) ≤ n))) (l' := [(2, bV false)]) (g' := []) (nx' := 0) (by kernel_rfl) (by omega) ?_
    refine AW.ret ?_
    exact EndP.of (.inr rfl) [] (P := ((decide (1 ≤ n ∧ n ≤ 8)) = false)) (by kernel_rfl) (by first | exact decide_eq_true (by omega) | exact decide_eq_false (by omega))

set_option maxHeartbeats 4000000 in
set_option maxRecDepth 100000 in
theorem C_Valid_a   : Fun 15 [.c (.d (D.sl (dI .i64 ([1, 2] : List Int)) 2))] (toG []) 0 (bV true) (toG []) 0 := by
  refine Fun.mk (n := 31) Try.func15 rfl rfl (Nat.le_of_ble_eq_true rfl) ?_
  intro cx hcx
  refine AW.rgs [.no] [0] [] (P := True) (l' := [(0, sV .i64 ([1, 2] : List Int) 2)]) (g' := []) (nx' := 0) (by kernel_rfl) trivial ?_
  refine AW.seq ?_
  refine AW.rgs [.no, .no, .b false, .no, .no, .no, .b false, .no] [0, 12] [] (P := (¬ ((2 : Int) < 1)) ∧ (¬ ((8 : Int) < 2))) (l' := [(0, sV .i64 ([1, 2] : List Int) 2), (12, bV false)]) (g' := []) (nx' := 0) (by kernel_rfl) ⟨(by omega), (by omega)⟩ ?_
  refine AW.cond_f (.tmp (Look.of rfl)) ?_
  refine AW.skip ?_
  refine AW.seq ?_
  refine AW.rgs [.no, .no, .no] [0, 13, 14, 15] [] (P := True) (l' := [(0, sV .i64 ([1, 2] : List Int) 2), (13, sV .i64 ([1, 2] : List Int) 2), (14, iV 2), (15, iV 0)]) (g' := []) (nx' := 0) (by kernel_rfl) trivial ?_
  refine AW.block ?_
  refine AW.rounds 3 ?_
  refine AWr.s ?_
  refine AW.rgs [.b true] [0, 13, 14, 15, 16] [] (P := (((0 : Int) < 2))) (l' := [(0, sV .i64 ([1, 2] : List Int) 2), (13, sV .i64 ([1, 2] : List Int) 2), (14, iV 2), (15, iV 0), (16, bV true)]) (g' := []) (nx' := 0) (by kernel_rfl) (by omega) ?_
  refine AW.seq ?_
  refine AW.cond_t (.tmp (Look.of rfl)) ?_
  refine AW.skip ?_
  refine AW.seq ?_
  refine AW.block ?_
  refine AW.rgs [.no, .n 0, .d (D.lit (.int .i64 1)), .no, .no] [0, 3, 4, 13, 14, 15] [] (P := ((0 : Int) = 0) ∧ ((0 : Nat) < 2) ∧ ((List.drop 0 (dI .i64 ([1, 2] : List Int)))[0]? = some (D.lit (.int .i64 1)))) (l' := [(0, sV .i64 ([1, 2] : List Int) 2), (3, iV 0), (4, iV 1), (13, sV .i64 ([1, 2] : List Int) 2), (14, iV 2), (15, iV 0)]) (g' := []) (nx' := 0) (by kernel_rfl) ⟨rfl, (by omega), (by rfl)⟩ ?_
  refine AW.rgs [.no, .call [] (bV true) [] 0 [] none, .no, .no, .no, .no, .call [] (iV 0) [] 0 [] none, .no, .b false, .no] [0, 13, 14, 15, 29] [] (P := (_) ∧ (_) ∧ (¬ ((0 : Int) ≠ 0))) (l' := [(0, sV .i64 ([1, 2] : List Int) 2), (13, sV .i64 ([1, 2] : List Int) 2), (14, iV 2), (15, iV 0), (29, bV false)]) (g' := []) (nx' := 0) (by kernel_rfl) ⟨(Fun.y (C_isPos 1) (y' := bV true) (by kernel_rfl)), (Fun.cv (C_Index ([1, 2] : List Int) 2 1 (by first | omega | with_reducible assumption | (simp <;> omega) | rfl | assumption) (by omega)) (y' := iV 0) (g1' := toG []) (by kernel_rfl) (by kernel_rfl)), (by omega)⟩ ?_
  refine AW.cond_f (.tmp (Look.of rfl)) ?_
  refine AW.skip ?_
  refine AW.rg [.w, .no] [0, 13, 14, 15] [] (P := ((-9223372036854775808) ≤ (1 : Int) ∧ (1 : Int) ≤ 9223372036854775807)) (l' := [(0, sV .i64 ([1, 2] : List Int) 2), (13, sV .i64 ([1, 2] : List Int) 2), (14, iV 2), (15, iV 1)]) (g' := []) (nx' := 0) (by kernel_rfl) ⟨by omega, by omega⟩ ?_
  refine AWr.s ?_
  refine AW.rgs [.b true] [0, 13, 14, 15, 16] [] (P := (((1 : Int) < 2))) (l' := [(0, sV .i64 ([1, 2] : List Int) 2), (13, sV .i64 ([1, 2] : List Int) 2), (14, iV 2), (15, iV 1), (16, bV true)]) (g' := []) (nx' := 0) (by kernel_rfl) (by omega) ?_
  refine AW.seq ?_
  refine AW.cond_t (.tmp (Look.of rfl)) ?_
  refine AW.skip ?_
  refine AW.seq ?_
  refine AW.block ?_
  refine AW.rgs [.no, .n 1, .d (D.lit (.int .i64 2)), .no, .no] [0, 3, 4, 13, 14, 15] [] (P := ((1 : Int) = 1) ∧ ((1 : Nat) < 2) ∧ ((List.drop 1 (dI .i64 ([1, 2] : List Int)))[0]? = some (D.lit (.int .i64 2)))) (l' := [(0, sV .i64 ([1, 2] : List Int) 2), (3, iV 1), (4, iV 2), (13, sV .i64 ([1, 2] : List Int) 2), (14, iV 2), (15, iV 1)]) (g' := []) (nx' := 0) (by kernel_rfl) ⟨rfl, (by omega), (by rfl)⟩ ?_
  refine AW.rgs [.no, .call [] (bV true) [] 0 [] none, .no, .no, .no, .no, .call [] (iV 1) [] 0 [] none, .no, .b false, .no] [0, 13, 14, 15, 29] [] (P := (_) ∧ (_) ∧ (¬ ((1 : Int) ≠ 1))) (l' := [(0, sV .i64 ([1, 2] : List Int) 2), (13, sV .i64 ([1, 2] : List Int) 2), (14, iV 2), (15, iV 1), (29, bV false)]) (g' := []) (nx' := 0) (by kernel_rfl) ⟨(Fun.y (C_isPos 2) (y' := bV true) (by kernel_rfl)), (Fun.cv (C_Index ([1, 2] : List Int) 2 2 (by first | omega | with_reducible assumption | (simp <;> omega) | rfl | assumption) (by omega)) (y' := iV 1) (g1' := toG []) (by kernel_rfl) (by kernel_rfl)), (by omega)⟩ ?_
  refine AW.cond_f (.tmp (Look.of rfl)) ?_
  refine AW.skip ?_
  refine AW.rg [.w, .no] [0, 13, 14, 15] [] (P := ((-9223372036854775808) ≤ (2 : Int) ∧ (2 : Int) ≤ 9223372036854775807)) (l' := [(0, sV .i64 ([1, 2] : List Int) 2), (13, sV .i64 ([1, 2] : List Int) 2), (14, iV 2), (15, iV 2)]) (g' := []) (nx' := 0) (by kernel_rfl) ⟨by omega, by omega⟩ ?_
  refine AWr.s ?_
  refine AW.rgs [.b false] [0, 13, 14, 15, 16] [] (P := (¬ ((2 : Int) < 2))) (l' := [(0, sV .i64 ([1, 2] : List Int) 2), (13, sV .i64 ([1, 2] : List Int) 2), (14, iV 2), (15, iV 2), (16, bV false)]) (g' := []) (nx' := 0) (by kernel_rfl) (by omega) ?_
  refine AW.seq ?_
  refine AW.cond_f (.tmp (Look.of rfl)) ?_
  refine AW.exit ?_
  refine AW.rgs [.no] [2] [] (P := True) (l' := [(2, bV true)]) (g' := []) (nx' := 0) (by kernel_rfl) trivial ?_
  refine AW.ret ?_
  exact EndP.of (.inr rfl) [] (P := (true = true)) (by kernel_rfl) rfl

set_option maxHeartbeats 4000000 in
set_option maxRecDepth 100000 in
theorem C_Valid_b   : Fun 15 [.c (.d (D.sl (dI .i64 ([3] : List Int)) 1))] (toG []) 0 (bV true) (toG []) 0 := by
  refine Fun.mk (n := 31) Try.func15 rfl rfl (Nat.le_of_ble_eq_true rfl) ?_
  intro cx hcx
  refine AW.rgs [.no] [0] [] (P := True) (l' := [(0, sV .i64 ([3] : List Int) 1)]) (g' := []) (nx' := 0) (by kernel_rfl) trivial ?_
  refine AW.seq ?_
  refine AW.rgs [.no, .no, .b false, .no, .no, .no, .b false, .no] [0, 12] [] (P := (¬ ((1 : Int) < 1)) ∧ (¬ ((8 : Int) < 1))) (l' := [(0, sV .i64 ([3] : List Int) 1), (12, bV false)]) (g' := []) (nx' := 0) (by kernel_rfl) ⟨(by omega), (by omega)⟩ ?_
  refine AW.cond_f (.tmp (Look.of rfl)) ?_
  refine AW.skip ?_
  refine AW.seq ?_
  refine AW.rgs [.no, .no, .no] [0, 13, 14, 15] [] (P := True) (l' := [(0, sV .i64 ([3] : List Int) 1), (13, sV .i64 ([3] : List Int) 1), (14, iV 1), (15, iV 0)]) (g' := []) (nx' := 0) (by kernel_rfl) trivial ?_
  refine AW.block ?_
  refine AW.rounds 2 ?_
  refine AWr.s ?_
  refine AW.rgs [.b true] [0, 13, 14, 15, 16] [] (P := (((0 : Int) < 1))) (l' := [(0, sV .i64 ([3] : List Int) 1), (13, sV .i64 ([3] : List Int) 1), (14, iV 1), (15, iV 0), (16, bV true)]) (g' := []) (nx' := 0) (by kernel_rfl) (by omega) ?_
  refine AW.seq ?_
  refine AW.cond_t (.tmp (Look.of rfl)) ?_
  refine AW.skip ?_
  refine AW.seq ?_
  refine AW.block ?_
  refine AW.rgs [.no, .n 0, .d (D.lit (.int .i64 3)), .no, .no] [0, 3, 4, 13, 14, 15] [] (P := ((0 : Int) = 0) ∧ ((0 : Nat) < 1) ∧ ((List.drop 0 (dI .i64 ([3] : List Int)))[0]? = some (D.lit (.int .i64 3)))) (l' := [(0, sV .i64 ([3] : List Int) 1), (3, iV 0), (4, iV 3), (13, sV .i64 ([3] : List Int) 1), (14, iV 1), (15, iV 0)]) (g' := []) (nx' := 0) (by kernel_rfl) ⟨rfl, (by omega), (by rfl)⟩ ?_
  refine AW.rgs [.no, .call [] (bV true) [] 0 [] none, .no, .no, .no, .no, .call [] (iV 0) [] 0 [] none, .no, .b false, .no] [0, 13, 14, 15, 29] [] (P := (_) ∧ (_) ∧ (¬ ((0 : Int) ≠ 0))) (l' := [(0, sV .i64 ([3] : List Int) 1), (13, sV .i64 ([3] : List Int) 1), (14, iV 1), (15, iV 0), (29, bV false)]) (g' := []) (nx' := 0) (by kernel_rfl) ⟨(Fun.y (C_isPos 3) (y' := bV true) (by kernel_rfl)), (Fun.cv (C_Index ([3] : List Int) 1 3 (by first | omega | with_reducible assumption | (simp <;> omega) | rfl | assumption) (by omega)) (y' := iV 0) (g1' := toG []) (by kernel_rfl) (by kernel_rfl)), (by omega)⟩ ?_
  refine AW.cond_f (.tmp (Look.of rfl)) ?_
  refine AW.skip ?_
  refine AW.rg [.w, .no] [0, 13, 14, 15] [] (P := ((-9223372036854775808) ≤ (1 : Int) ∧ (1 : Int) ≤ 9223372036854775807)) (l' := [(0, sV .i64 ([3] : List Int) 1), (13, sV .i64 ([3] : List Int) 1), (14, iV 1), (15, iV 1)]) (g' := []) (nx' := 0) (by kernel_rfl) ⟨by omega, by omega⟩ ?_
  refine AWr.s ?_
  refine AW.rgs [.b false] [0, 13, 14, 15, 16] [] (P := (¬ ((1 : Int) < 1))) (l' := [(0, sV .i64 ([3] : List Int) 1), (13, sV .i64 ([3] : List Int) 1), (14, iV 1), (15, iV 1), (16, bV false)]) (g' := []) (nx' := 0) (by kernel_rfl) (by omega) ?_
  refine AW.seq ?_
  refine AW.cond_f (.tmp (Look.of rfl)) ?_
  refine AW.exit ?_
  refine AW.rgs [.no] [2] [] (P := True) (l' := [(2, bV true)]) (g' := []) (nx' := 0) (by kernel_rfl) trivial ?_
  refine AW.ret ?_
  exact EndP.of (.inr rfl) [] (P := (true = true)) (by kernel_rfl) rfl

set_option maxHeartbeats 4000000 in
set_option maxRecDepth 100000 in
theorem C_Common_s   : Fun 31 [.c (.d (D.sl (dI .i64 ([3] : List Int)) 1)), .c (.d (D.sl (dI .i64 ([3] : List Int)) 1))] (toG []) 0 (oV 0 0 1 1) (toG [(0, some (3, .ds [iD 3]))]) 1 := by
  refine Fun.mk (n := 24) Try.func31 rfl rfl (Nat.le_of_ble_eq_true rfl) ?_
  intro cx hcx
  refine AW.rgs [.no] [0, 1] [] (P := True) (l' := [(0, sV .i64 ([3] : List Int) 1), (1, sV .i64 ([3] : List Int) 1)]) (g' := []) (nx' := 0) (by kernel_rfl) trivial ?_
  refine AW.rgs [.no] [0, 1, 5] [] (P := True) (l' := [(0, sV .i64 ([3] : List Int) 1), (1, sV .i64 ([3] : List Int) 1), (5, nV)]) (g' := []) (nx' := 0) (by kernel_rfl) trivial ?_
  refine AW.seq ?_
  refine AW.rgs [.no, .no, .no] [1, 5, 8, 9, 10] [] (P := True) (l' := [(1, sV .i64 ([3] : List Int) 1), (5, nV), (8, sV .i64 ([3] : List Int) 1), (9, iV 1), (10, iV 0)]) (g' := []) (nx' := 0) (by kernel_rfl) trivial ?_
  refine AW.block ?_
  refine AW.rounds 2 ?_
  refine AWr.s ?_
  refine AW.rgs [.b true] [1, 5, 8, 9, 10, 11] [] (P := (((0 : Int) < 1))) (l' := [(1, sV .i64 ([3] : List Int) 1), (5, nV), (8, sV .i64 ([3] : List Int) 1), (9, iV 1), (10, iV 0), (11, bV true)]) (g' := []) (nx' := 0) (by kernel_rfl) (by omega) ?_
  refine AW.seq ?_
  refine AW.cond_t (.tmp (Look.of rfl)) ?_
  refine AW.skip ?_
  refine AW.seq ?_
  refine AW.block ?_
  refine AW.rgs [.n 0, .d (D.lit (.int .i64 3)), .no] [1, 5, 7, 8, 9, 10] [] (P := ((0 : Int) = 0) ∧ ((0 : Nat) < 1) ∧ ((List.drop 0 (dI .i64 ([3] : List Int)))[0]? = some (D.lit (.int .i64 3)))) (l' := [(1, sV .i64 ([3] : List Int) 1), (5, nV), (7, iV 3), (8, sV .i64 ([3] : List Int) 1), (9, iV 1), (10, iV 0)]) (g' := []) (nx' := 0) (by kernel_rfl) ⟨rfl, (by omega), (by rfl)⟩ ?_
  refine AW.rgs [.no, .no, .call [] (iV 0) [] 0 [] none, .b true] [1, 5, 7, 8, 9, 10, 17] [] (P := (_) ∧ (((0 : Int) ≤ 0))) (l' := [(1, sV .i64 ([3] : List Int) 1), (5, nV), (7, iV 3), (8, sV .i64 ([3] : List Int) 1), (9, iV 1), (10, iV 0), (17, bV true)]) (g' := []) (nx' := 0) (by kernel_rfl) ⟨(Fun.cv (C_Index ([3] : List Int) 1 3 (by first | omega | with_reducible assumption | (simp <;> omega) | rfl | assumption) (by omega)) (y' := iV 0) (g1' := toG []) (by kernel_rfl) (by kernel_rfl)), (by omega)⟩ ?_
  refine AW.cond_t (.tmp (Look.of rfl)) ?_
  refine AW.rg [.no, .no, .no, .ap none 1 [iD 3], .no] [1, 5, 8, 9, 10] [1] (P := ([iD 3].length = 1 * 1) ∧ ((1 : Nat) * 8 ≤ 140737488355328) ∧ ((1 : Nat) = 1) ∧ (([iD 3] : List D) = [iD 3])) (l' := [(1, sV .i64 ([3] : List Int) 1), (5, oV 1 0 1 1), (8, sV .i64 ([3] : List Int) 1), (9, iV 1), (10, iV 0)]) (g' := [(1, some (3, .ds [iD 3]))]) (nx' := 2) (by kernel_rfl) ⟨(by first | omega | (rw [dI_len]; omega) | (simp [dI_len] <;> omega) | rfl), (by omega), rfl, rfl⟩ ?_
  refine AW.rg [.w, .no] [1, 5, 8, 9, 10] [1] (P := ((-9223372036854775808) ≤ (1 : Int) ∧ (1 : Int) ≤ 9223372036854775807)) (l' := [(1, sV .i64 ([3] : List Int) 1), (5, oV 1 0 1 1), (8, sV .i64 ([3] : List Int) 1), (9, iV 1), (10, iV 1)]) (g' := [(1, some (3, .ds [iD 3]))]) (nx' := 2) (by kernel_rfl) ⟨by omega, by omega⟩ ?_
  refine AWr.s ?_
  refine AW.rgs [.b false] [1, 5, 8, 9, 10, 11] [1] (P := (¬ ((1 : Int) < 1))) (l' := [(1, sV .i64 ([3] : List Int) 1), (5, oV 1 0 1 1), (8, sV .i64 ([3] : List Int) 1), (9, iV 1), (10, iV 1), (11, bV false)]) (g' := [(1, some (3, .ds [iD 3]))]) (nx' := 2) (by kernel_rfl) (by omega) ?_
  refine AW.seq ?_
  refine AW.cond_f (.tmp (Look.of rfl)) ?_
  refine AW.exit ?_
  refine AW.rgs [.no, .no] [4] [1] (P := True) (l' := [(4, oV 1 0 1 1)]) (g' := [(1, some (3, .ds [iD 3]))]) (nx' := 2) (by kernel_rfl) trivial ?_
  refine AW.ret ?_
  exact EndP.of (.inr rfl) [(0, 1)] (P := ((0 : Nat) = 0) ∧ ((1 : Nat) = 1) ∧ (([iD 3] : List D) = [iD 3])) (by kernel_rfl) ⟨rfl, rfl, rfl⟩

set_option maxHeartbeats 4000000 in
set_option maxRecDepth 100000 in
theorem M_else1   : Fun 30 [iE 1] (toG []) 0 (oV 0 0 1 1) (toG [(0, some (22, .cs [.own 1 0 1 1 true])), (1, some (3, .ds [iD 3]))]) 2 := by
  refine Fun.mk (n := 37) Try.func30 rfl rfl (Nat.le_of_ble_eq_true rfl) ?_
  intro cx hcx
  refine AW.rgs [.no] [0] [] (P := True) (l' := [(0, iV 1)]) (g' := []) (nx' := 0) (by kernel_rfl) trivial ?_
  refine AW.seq ?_
  refine AW.rgs [.no] [3] [] (P := True) (l' := [(3, iV 1)]) (g' := []) (nx' := 0) (by kernel_rfl) trivial ?_
  refine AW.block ?_
  refine AW.rgs [.b false, .no] [3, 4] [] (P := (¬ ((1 : Int) = 3))) (l' := [(3, iV 1), (4, bV false)]) (g' := []) (nx' := 0) (by kernel_rfl) (by omega) ?_
  refine AW.cond_f (.tmp (Look.of rfl)) ?_
  refine AW.seq ?_
  refine AW.rgs [.b true, .no] [3, 8] [] (P := (((1 : Int) = 1))) (l' := [(3, iV 1), (8, bV true)]) (g' := []) (nx' := 0) (by kernel_rfl) (by omega) ?_
  refine AW.cond_t (.tmp (Look.of rfl)) ?_
  refine AW.skip ?_
  refine AW.cond_t (.tmp (Look.of rfl)) ?_
  refine AW.rgs [.no, .no, .no] [2] [0, 1] (P := True) (l' := [(2, oV 1 0 1 1)]) (g' := [(0, some (3, .ds [iD 3])), (1, some (22, .cs [.own 0 0 1 1 true]))]) (nx' := 2) (by kernel_rfl) trivial ?_
  refine AW.ret ?_
  exact EndP.of (.inr rfl) [(0, 1), (1, 0)] (P := ((0 : Nat) = 0) ∧ ((1 : Nat) = 1) ∧ ((0 : Nat) = 0) ∧ ((1 : Nat) = 1) ∧ (([iD 3] : List D) = [iD 3])) (by kernel_rfl) ⟨rfl, rfl, rfl, rfl, rfl⟩

set_option maxHeartbeats 4000000 in
set_option maxRecDepth 100000 in
theorem M_goals1   : Fun 17 [iE 1, .c (.d (D.sl (dI .i64 ([3] : List Int)) 1))] (toG []) 0 (.tup [.c (.own 0 0 1 1 true), iE 23170]) (toG [(0, some (3, .ds [iD 3]))]) 1 := by
  refine Fun.mk (n := 30) Try.func17 rfl rfl (Nat.le_of_ble_eq_true rfl) ?_
  intro cx hcx
  refine AW.rgs [.no, .no] [0, 1] [] (P := True) (l' := [(0, iV 1), (1, sV .i64 ([3] : List Int) 1)]) (g' := []) (nx' := 0) (by kernel_rfl) trivial ?_
  refine AW.seq ?_
  refine AW.rgs [.no, .no, .call [] (iV (-1)) [] 0 [] none, .b false] [0, 1, 11] [] (P := (_) ∧ (¬ ((0 : Int) ≤ (-1)))) (l' := [(0, iV 1), (1, sV .i64 ([3] : List Int) 1), (11, bV false)]) (g' := []) (nx' := 0) (by kernel_rfl) ⟨(Fun.cv (C_Index ([3] : List Int) 1 1 (by first | omega | with_reducible assumption | (simp <;> omega) | rfl | assumption) (by omega)) (y' := iV (-1)) (g1' := toG []) (by kernel_rfl) (by kernel_rfl)), (by omega)⟩ ?_
  refine AW.cond_f (.tmp (Look.of rfl)) ?_
  refine AW.skip ?_
  refine AW.seq ?_
  refine AW.rgs [.no, .call [] (oV 0 0 1 1) [(0, some (22, .cs [.own 1 0 1 1 true])), (1, some (3, .ds [iD 3]))] 2 [] none, .no, .no] [1, 15, 16, 17] [0, 1] (P := (_)) (l' := [(1, sV .i64 ([3] : List Int) 1), (15, oV 0 0 1 1), (16, iV 1), (17, iV 0)]) (g' := [(0, some (22, .cs [.own 1 0 1 1 true])), (1, some (3, .ds [iD 3]))]) (nx' := 2) (by kernel_rfl) (M_else1) ?_
  refine AW.block ?_
  refine AW.rounds 2 ?_
  refine AWr.s ?_
  refine AW.rgs [.b true] [1, 15, 16, 17, 18] [0, 1] (P := (((0 : Int) < 1))) (l' := [(1, sV .i64 ([3] : List Int) 1), (15, oV 0 0 1 1), (16, iV 1), (17, iV 0), (18, bV true)]) (g' := [(0, some (22, .cs [.own 1 0 1 1 true])), (1, some (3, .ds [iD 3]))]) (nx' := 2) (by kernel_rfl) (by omega) ?_
  refine AW.seq ?_
  refine AW.cond_t (.tmp (Look.of rfl)) ?_
  refine AW.skip ?_
  refine AW.seq ?_
  refine AW.block ?_
  refine AW.rgs [.n2 0 0, .no, .no] [1, 7, 15, 16, 17] [0, 1] (P := ((0 : Int) = 0) ∧ ((0 : Nat) < 1) ∧ ((0 : Nat) + 0 * 1 = 0)) (l' := [(1, sV .i64 ([3] : List Int) 1), (7, oV 1 0 1 1), (15, oV 0 0 1 1), (16, iV 1), (17, iV 0)]) (g' := [(0, some (22, .cs [.own 1 0 1 1 true])), (1, some (3, .ds [iD 3]))]) (nx' := 2) (by kernel_rfl) ⟨rfl, (by omega), (by omega)⟩ ?_
  refine AW.rgs [.no, .no, .call [] (oV 0 0 1 1) [(0, some (3, .ds [iD 3]))] 1 [none] none, .no, .no, .no, .b true] [1, 7, 15, 16, 17, 27] [0, 1] (P := ([iD 3].length = 1 * 1) ∧ (noSlPV (oV 0 0 1 1) = true) ∧ ([iD 3].all noSlD = true) ∧ (_) ∧ (((1 : Int) = 1))) (l' := [(1, sV .i64 ([3] : List Int) 1), (7, oV 1 0 1 1), (15, oV 0 0 1 1), (16, iV 1), (17, iV 0), (27, bV true)]) (g' := [(0, some (22, .cs [.own 1 0 1 1 true])), (1, some (3, .ds [iD 3]))]) (nx' := 3) (by kernel_rfl) ⟨(by first | omega | (rw [dI_len]; omega) | (simp [dI_len] <;> omega) | rfl), rfl, (by first | exact dI_ns _ _ | rfl), (C_Common_s), (by omega)⟩ ?_
  refine AW.cond_t (.tmp (Look.of rfl)) ?_
  refine AW.rgs [.no, .no, .no] [4, 5] [1] (P := True) (l' := [(4, oV 1 0 1 1), (5, iV 23170)]) (g' := [(1, some (3, .ds [iD 3]))]) (nx' := 3) (by kernel_rfl) trivial ?_
  refine AW.ret ?_
  exact EndP.of (.inr rfl) [(0, 1)] (P := ((0 : Nat) = 0) ∧ ((1 : Nat) = 1) ∧ ((23170 : Int) = 23170) ∧ (([iD 3] : List D) = [iD 3])) (by kernel_rfl) ⟨rfl, rfl, rfl, rfl⟩

set_option maxHeartbeats 4000000 in
set_option maxRecDepth 100000 in
theorem M_else2   : Fun 30 [iE 2] (toG []) 0 (oV 0 0 1 1) (toG [(0, some (22, .cs [.own 1 0 1 1 true])), (1, some (3, .ds [iD 3]))]) 2 := by
  refine Fun.mk (n := 37) Try.func30 rfl rfl (Nat.le_of_ble_eq_true rfl) ?_
  intro cx hcx
  refine AW.rgs [.no] [0] [] (P := True) (l' := [(0, iV 2)]) (g' := []) (nx' := 0) (by kernel_rfl) trivial ?_
  refine AW.seq ?_
  refine AW.rgs [.no] [3] [] (P := True) (l' := [(3, iV 2)]) (g' := []) (nx' := 0) (by kernel_rfl) trivial ?_
  refine AW.block ?_
  refine AW.rgs [.b false, .no] [3, 4] [] (P := (¬ ((2 : Int) = 3))) (l' := [(3, iV 2), (4, bV false)]) (g' := []) (nx' := 0) (by kernel_rfl) (by omega) ?_
  refine AW.cond_f (.tmp (Look.of rfl)) ?_
  refine AW.seq ?_
  refine AW.rgs [.b false, .no] [3, 8] [] (P := (¬ ((2 : Int) = 1))) (l' := [(3, iV 2), (8, bV false)]) (g' := []) (nx' := 0) (by kernel_rfl) (by omega) ?_
  refine AW.cond_f (.tmp (Look.of rfl)) ?_
  refine AW.rg [.b true, .no] [3, 8] [] (P := (((2 : Int) = 2))) (l' := [(3, iV 2), (8, bV true)]) (g' := []) (nx' := 0) (by kernel_rfl) (by omega) ?_
  refine AW.cond_t (.tmp (Look.of rfl)) ?_
  refine AW.rgs [.no, .no, .no] [2] [0, 1] (P := True) (l' := [(2, oV 1 0 1 1)]) (g' := [(0, some (3, .ds [iD 3])), (1, some (22, .cs [.own 0 0 1 1 true]))]) (nx' := 2) (by kernel_rfl) trivial ?_
  refine AW.ret ?_
  exact EndP.of (.inr rfl) [(0, 1), (1, 0)] (P := ((0 : Nat) = 0) ∧ ((1 : Nat) = 1) ∧ ((0 : Nat) = 0) ∧ ((1 : Nat) = 1) ∧ (([iD 3] : List D) = [iD 3])) (by kernel_rfl) ⟨rfl, rfl, rfl, rfl, rfl⟩

set_option maxHeartbeats 4000000 in
set_option maxRecDepth 100000 in
theorem M_goals2   : Fun 17 [iE 2, .c (.d (D.sl (dI .i64 ([3] : List Int)) 1))] (toG []) 0 (.tup [.c (.own 0 0 1 1 true), iE 23170]) (toG [(0, some (3, .ds [iD 3]))]) 1 := by
  refine Fun.mk (n := 30) Try.func17 rfl rfl (Nat.le_of_ble_eq_true rfl) ?_
  intro cx hcx
  refine AW.rgs [.no, .no] [0, 1] [] (P := True) (l' := [(0, iV 2), (1, sV .i64 ([3] : List Int) 1)]) (g' := []) (nx' := 0) (by kernel_rfl) trivial ?_
  refine AW.seq ?_
  refine AW.rgs [.no, .no, .call [] (iV (-1)) [] 0 [] none, .b false] [0, 1, 11] [] (P := (_) ∧ (¬ ((0 : Int) ≤ (-1)))) (l' := [(0, iV 2), (1, sV .i64 ([3] : List Int) 1), (11, bV false)]) (g' := []) (nx' := 0) (by kernel_rfl) ⟨(Fun.cv (C_Index ([3] : List Int) 1 2 (by first | omega | with_reducible assumption | (simp <;> omega) | rfl | assumption) (by omega)) (y' := iV (-1)) (g1' := toG []) (by kernel_rfl) (by kernel_rfl)), (by omega)⟩ ?_
  refine AW.cond_f (.tmp (Look.of rfl)) ?_
  refine AW.skip ?_
  refine AW.seq ?_
  refine AW.rgs [.no, .call [] (oV 0 0 1 1) [(0, some (22, .cs [.own 1 0 1 1 true])), (1, some (3, .ds [iD 3]))] 2 [] none, .no, .no] [1, 15, 16, 17] [0, 1] (P := (_)) (l' := [(1, sV .i64 ([3] : List Int) 1), (15, oV 0 0 1 1), (16, iV 1), (17, iV 0)]) (g' := [(0, some (22, .cs [.own 1 0 1 1 true])), (1, some (3, .ds [iD 3]))]) (nx' := 2) (by kernel_rfl) (M_else2) ?_
  refine AW.block ?_
  refine AW.rounds 2 ?_
  refine AWr.s ?_
  refine AW.rgs [.b true] [1, 15, 16, 17, 18] [0, 1] (P := (((0 : Int) < 1))) (l' := [(1, sV .i64 ([3] : List Int) 1), (15, oV 0 0 1 1), (16, iV 1), (17, iV 0), (18, bV true)]) (g' := [(0, some (22, .cs [.own 1 0 1 1 true])), (1, some (3, .ds [iD 3]))]) (nx' := 2) (by kernel_rfl) (by omega) ?_
  refine AW.seq ?_
  refine AW.cond_t (.tmp (Look.of rfl)) ?_
  refine AW.skip ?_
  refine AW.seq ?_
  refine AW.block ?_
  refine AW.rgs [.n2 0 0, .no, .no] [1, 7, 15, 16, 17] [0, 1] (P := ((0 : Int) = 0) ∧ ((0 : Nat) < 1) ∧ ((0 : Nat) + 0 * 1 = 0)) (l' := [(1, sV .i64 ([3] : List Int) 1), (7, oV 1 0 1 1), (15, oV 0 0 1 1), (16, iV 1), (17, iV 0)]) (g' := [(0, some (22, .cs [.own 1 0 1 1 true])), (1, some (3, .ds [iD 3]))]) (nx' := 2) (by kernel_rfl) ⟨rfl, (by omega), (by omega)⟩ ?_
  refine AW.rgs [.no, .no, .call [] (oV 0 0 1 1) [(0, some (3, .ds [iD 3]))] 1 [none] none, .no, .no, .no, .b true] [1, 7, 15, 16, 17, 27] [0, 1] (P := ([iD 3].length = 1 * 1) ∧ (noSlPV (oV 0 0 1 1) = true) ∧ ([iD 3].all noSlD = true) ∧ (_) ∧ (((1 : Int) = 1))) (l' := [(1, sV .i64 ([3] : List Int) 1), (7, oV 1 0 1 1), (15, oV 0 0 1 1), (16, iV 1), (17, iV 0), (27, bV true)]) (g' := [(0, some (22, .cs [.own 1 0 1 1 true])), (1, some (3, .ds [iD 3]))]) (nx' := 3) (by kernel_rfl) ⟨(by first | omega | (rw [dI_len]; omega) | (simp [dI_len] <;> omega) | rfl), rfl, (by first | exact dI_ns _ _ | rfl), (C_Common_s), (by omega)⟩ ?_
  refine AW.cond_t (.tmp (Look.of rfl)) ?_
  refine AW.rgs [.no, .no, .no] [4, 5] [1] (P := True) (l' := [(4, oV 1 0 1 1), (5, iV 23170)]) (g' := [(1, some (3, .ds [iD 3]))]) (nx' := 3) (by kernel_rfl) trivial ?_
  refine AW.ret ?_
  exact EndP.of (.inr rfl) [(0, 1)] (P := ((0 : Nat) = 0) ∧ ((1 : Nat) = 1) ∧ ((23170 : Int) = 23170) ∧ (([iD 3] : List D) = [iD 3])) (by kernel_rfl) ⟨rfl, rfl, rfl, rfl⟩

set_option maxHeartbeats 4000000 in
set_option maxRecDepth 100000 in
theorem M_Default_s   : Fun 5 [.c (.d (D.sl (dI .i64 ([1, 2] : List Int)) 2)), .c (.d (D.sl (dI .i64 ([3] : List Int)) 1))] (toG []) 0 (.tup [.agg [iC 2, iC 1, .own 0 0 2 1 true], iE 0]) (toG [(0, some (3, .ds (dI .i64 ([23170, 23170] : List Int))))]) 1 := by
  refine Fun.mk (n := 57) Try.func5 rfl rfl (Nat.le_of_ble_eq_true rfl) ?_
  intro cx hcx
  refine AW.rgs [.no, .no] [0, 1, 4] [0] (P := True) (l' := [(0, sV .i64 ([1, 2] : List Int) 2), (1, sV .i64 ([3] : List Int) 1), (4, rV 0 0)]) (g' := [(0, some (26, .ds [iD 0, iD 0, D.lit (.slice none 0 0)]))]) (nx' := 1) (by kernel_rfl) trivial ?_
  refine AW.seq ?_
  refine AW.rgs [.no, .call [] (bV true) [] 0 [] none, .no, .no, .no, .call [] (bV true) [] 0 [] none, .no, .no] [0, 1, 4, 20] [0] (P := (_) ∧ (_)) (l' := [(0, sV .i64 ([1, 2] : List Int) 2), (1, sV .i64 ([3] : List Int) 1), (4, rV 0 0), (20, bV false)]) (g' := [(0, some (26, .ds [iD 0, iD 0, D.lit (.slice none 0 0)]))]) (nx' := 1) (by kernel_rfl) ⟨(C_Valid_a), (C_Valid_b)⟩ ?_
  refine AW.cond_f (.tmp (Look.of rfl)) ?_
  refine AW.skip ?_
  refine AW.rgs [.no, .no, .no, .no, .call [] (.e (.agg [iC 2, iC 1, .own 0 0 2 1 true])) [(0, some (3, .ds (dI .i64 ([0, 0] : List Int))))] 1 [] none, .no, .no] [0, 1, 4, 6] [0, 1, 2] (P := (_)) (l' := [(0, sV .i64 ([1, 2] : List Int) 2), (1, sV .i64 ([3] : List Int) 1), (4, rV 0 0), (6, rV 2 0)]) (g' := [(0, some (26, .ds [iD 0, iD 0, D.lit (.slice none 0 0)])), (1, some (3, .ds (dI .i64 ([0, 0] : List Int)))), (2, some (26, .cs [iC 2, iC 1, .own 1 0 2 1 true]))]) (nx' := 3) (by kernel_rfl) (Fun.cv (M_zero 2 1 (by omega) (by omega)) (y' := .e (.agg [iC 2, iC 1, .own 0 0 2 1 true])) (g1' := toG [(0, some (3, .ds (dI .i64 ([0, 0] : List Int))))]) (by kernel_rfl) (by kernel_rfl)) ?_
  refine AW.seq ?_
  refine AW.rgs [.no, .no, .no] [1, 4, 6, 27, 28, 29] [0, 1, 2] (P := True) (l' := [(1, sV .i64 ([3] : List Int) 1), (4, rV 0 0), (6, rV 2 0), (27, sV .i64 ([1, 2] : List Int) 2), (28, iV 2), (29, iV 0)]) (g' := [(0, some (26, .ds [iD 0, iD 0, D.lit (.slice none 0 0)])), (1, some (3, .ds (dI .i64 ([0, 0] : List Int)))), (2, some (26, .cs [iC 2, iC 1, .own 1 0 2 1 true]))]) (nx' := 3) (by kernel_rfl) trivial ?_
  refine AW.block ?_
  refine AW.rounds 3 ?_
  refine AWr.s ?_
  refine AW.rgs [.b true] [1, 4, 6, 27, 28, 29, 30] [0, 1, 2] (P := (((0 : Int) < 2))) (l' := [(1, sV .i64 ([3] : List Int) 1), (4, rV 0 0), (6, rV 2 0), (27, sV .i64 ([1, 2] : List Int) 2), (28, iV 2), (29, iV 0), (30, bV true)]) (g' := [(0, some (26, .ds [iD 0, iD 0, D.lit (.slice none 0 0)])), (1, some (3, .ds (dI .i64 ([0, 0] : List Int)))), (2, some (26, .cs [iC 2, iC 1, .own 1 0 2 1 true]))]) (nx' := 3) (by kernel_rfl) (by omega) ?_
  refine AW.seq ?_
  refine AW.cond_t (.tmp (Look.of rfl)) ?_
  refine AW.skip ?_
  refine AW.seq ?_
  refine AW.block ?_
  refine AW.rgs [.no, .n 0, .d (D.lit (.int .i64 1)), .no, .no] [1, 4, 6, 7, 8, 27, 28, 29] [0, 1, 2] (P := ((0 : Int) = 0) ∧ ((0 : Nat) < 2) ∧ ((List.drop 0 (dI .i64 ([1, 2] : List Int)))[0]? = some (D.lit (.int .i64 1)))) (l' := [(1, sV .i64 ([3] : List Int) 1), (4, rV 0 0), (6, rV 2 0), (7, iV 0), (8, iV 1), (27, sV .i64 ([1, 2] : List Int) 2), (28, iV 2), (29, iV 0)]) (g' := [(0, some (26, .ds [iD 0, iD 0, D.lit (.slice none 0 0)])), (1, some (3, .ds (dI .i64 ([0, 0] : List Int)))), (2, some (26, .cs [iC 2, iC 1, .own 1 0 2 1 true]))]) (nx' := 3) (by kernel_rfl) ⟨rfl, (by omega), (by rfl)⟩ ?_
  refine AW.rgs [.no, .no, .call [] (.tup [.c (.own 0 0 1 1 true), iE 23170]) [(0, some (3, .ds [iD 3]))] 1 [] none, .no, .no, .no, .no, .no] [1, 4, 6, 7, 9, 10, 27, 28, 29] [0, 1, 2, 3] (P := (_)) (l' := [(1, sV .i64 ([3] : List Int) 1), (4, rV 0 0), (6, rV 2 0), (7, iV 0), (9, oV 3 0 1 1), (10, iV 23170), (27, sV .i64 ([1, 2] : List Int) 2), (28, iV 2), (29, iV 0)]) (g' := [(0, some (26, .ds [iD 0, iD 0, D.lit (.slice none 0 0)])), (1, some (3, .ds (dI .i64 ([0, 0] : List Int)))), (2, some (26, .cs [iC 2, iC 1, .own 1 0 2 1 true])), (3, some (3, .ds [iD 3]))]) (nx' := 4) (by kernel_rfl) (M_goals1) ?_
  refine AW.rgs [.no, .no, .no] [1, 4, 6, 7, 10, 27, 28, 29, 40, 41, 42] [0, 1, 2, 3] (P := True) (l' := [(1, sV .i64 ([3] : List Int) 1), (4, rV 0 0), (6, rV 2 0), (7, iV 0), (10, iV 23170), (27, sV .i64 ([1, 2] : List Int) 2), (28, iV 2), (29, iV 0), (40, oV 3 0 1 1), (41, iV 1), (42, iV 0)]) (g' := [(0, some (26, .ds [iD 0, iD 0, D.lit (.slice none 0 0)])), (1, some (3, .ds (dI .i64 ([0, 0] : List Int)))), (2, some (26, .cs [iC 2, iC 1, .own 1 0 2 1 true])), (3, some (3, .ds [iD 3]))]) (nx' := 4) (by kernel_rfl) trivial ?_
  refine AW.block ?_
  refine AW.rounds 2 ?_
  refine AWr.s ?_
  refine AW.rgs [.b true] [1, 4, 6, 7, 10, 27, 28, 29, 40, 41, 42, 43] [0, 1, 2, 3] (P := (((0 : Int) < 1))) (l' := [(1, sV .i64 ([3] : List Int) 1), (4, rV 0 0), (6, rV 2 0), (7, iV 0), (10, iV 23170), (27, sV .i64 ([1, 2] : List Int) 2), (28, iV 2), (29, iV 0), (40, oV 3 0 1 1), (41, iV 1), (42, iV 0), (43, bV true)]) (g' := [(0, some (26, .ds [iD 0, iD 0, D.lit (.slice none 0 0)])), (1, some (3, .ds (dI .i64 ([0, 0] : List Int)))), (2, some (26, .cs [iC 2, iC 1, .own 1 0 2 1 true])), (3, some (3, .ds [iD 3]))]) (nx' := 4) (by kernel_rfl) (by omega) ?_
  refine AW.seq ?_
  refine AW.cond_t (.tmp (Look.of rfl)) ?_
  refine AW.skip ?_
  refine AW.seq ?_
  refine AW.block ?_
  refine AW.rgs [.n2 0 0, .no, .no] [1, 4, 6, 7, 10, 12, 27, 28, 29, 40, 41, 42] [0, 1, 2, 3] (P := ((0 : Int) = 0) ∧ ((0 : Nat) < 1) ∧ ((0 : Nat) + 0 * 1 = 0)) (l' := [(1, sV .i64 ([3] : List Int) 1), (4, rV 0 0), (6, rV 2 0), (7, iV 0), (10, iV 23170), (12, iV 3), (27, sV .i64 ([1, 2] : List Int) 2), (28, iV 2), (29, iV 0), (40, oV 3 0 1 1), (41, iV 1), (42, iV 0)]) (g' := [(0, some (26, .ds [iD 0, iD 0, D.lit (.slice none 0 0)])), (1, some (3, .ds (dI .i64 ([0, 0] : List Int)))), (2, some (26, .cs [iC 2, iC 1, .own 1 0 2 1 true])), (3, some (3, .ds [iD 3]))]) (nx' := 4) (by kernel_rfl) ⟨rfl, (by omega), (by omega)⟩ ?_
  refine AW.rg [.no, .no, .no, .call [] (iV 0) [] 0 [] none, .call [1] (.e (.c (.own 0 0 2 1 false))) [(0, some (3, .ds (dI .i64 ([0, 0] : List Int))))] 1 [] none, .no, .no, .n2 0 0, .ds (dI .i64 (List.set ([0, 0] : List Int) 0 23170))] [1, 4, 6, 7, 10, 27, 28, 29, 40, 41, 42] [0, 1, 2, 3] (P := (_) ∧ (_) ∧ ((0 : Int) = 0) ∧ ((0 : Nat) < 2) ∧ ((0 : Nat) + 0 * 1 = 0) ∧ ((0 : Nat) + 1 ≤ (dI .i64 ([0, 0] : List Int)).length) ∧ (updD (dI .i64 ([0, 0] : List Int)) 0 [D.lit (.int .i64 23170)] = dI .i64 (List.set ([0, 0] : List Int) 0 23170))) (l' := [(1, sV .i64 ([3] : List Int) 1), (4, rV 0 0), (6, rV 2 0), (7, iV 0), (10, iV 23170), (27, sV .i64 ([1, 2] : List Int) 2), (28, iV 2), (29, iV 0), (40, oV 3 0 1 1), (41, iV 1), (42, iV 0)]) (g' := [(0, some (26, .ds [iD 0, iD 0, D.lit (.slice none 0 0)])), (1, some (3, .ds (dI .i64 (List.set ([0, 0] : List Int) 0 23170)))), (2, some (26, .cs [iC 2, iC 1, .own 1 0 2 1 true])), (3, some (3, .ds [iD 3]))]) (nx' := 4) (by kernel_rfl) ⟨(Fun.cv (C_Index ([3] : List Int) 1 3 (by first | omega | with_reducible assumption | (simp <;> omega) | rfl | assumption) (by omega)) (y' := iV 0) (g1' := toG []) (by kernel_rfl) (by kernel_rfl)), (M_rowo 2 1 0 ([0, 0] : List Int) 2 (by first | omega | with_reducible assumption | (simp <;> omega) | rfl | assumption) (by omega) (by omega) (by omega)), rfl, (by omega), (by omega), (by first | omega | (rw [dI_len]; omega) | (simp [dI_len] <;> omega) | rfl), (dI_set _ _ _ _)⟩ ?_
  refine AW.rg [.w, .no] [1, 4, 6, 7, 10, 27, 28, 29, 40, 41, 42] [0, 1, 2, 3] (P := ((-9223372036854775808) ≤ (1 : Int) ∧ (1 : Int) ≤ 9223372036854775807)) (l' := [(1, sV .i64 ([3] : List Int) 1), (4, rV 0 0), (6, rV 2 0), (7, iV 0), (10, iV 23170), (27, sV .i64 ([1, 2] : List Int) 2), (28, iV 2), (29, iV 0), (40, oV 3 0 1 1), (41, iV 1), (42, iV 1)]) (g' := [(0, some (26, .ds [iD 0, iD 0, D.lit (.slice none 0 0)])), (1, some (3, .ds (dI .i64 (List.set ([0, 0] : List Int) 0 23170)))), (2, some (26, .cs [iC 2, iC 1, .own 1 0 2 1 true])), (3, some (3, .ds [iD 3]))]) (nx' := 4) (by kernel_rfl) ⟨by omega, by omega⟩ ?_
  refine AWr.s ?_
  refine AW.rgs [.b false] [1, 4, 6, 7, 10, 27, 28, 29, 40, 41, 42, 43] [0, 1, 2, 3] (P := (¬ ((1 : Int) < 1))) (l' := [(1, sV .i64 ([3] : List Int) 1), (4, rV 0 0), (6, rV 2 0), (7, iV 0), (10, iV 23170), (27, sV .i64 ([1, 2] : List Int) 2), (28, iV 2), (29, iV 0), (40, oV 3 0 1 1), (41, iV 1), (42, iV 1), (43, bV false)]) (g' := [(0, some (26, .ds [iD 0, iD 0, D.lit (.slice none 0 0)])), (1, some (3, .ds (dI .i64 (List.set ([0, 0] : List Int) 0 23170)))), (2, some (26, .cs [iC 2, iC 1, .own 1 0 2 1 true])), (3, some (3, .ds [iD 3]))]) (nx' := 4) (by kernel_rfl) (by omega) ?_
  refine AW.seq ?_
  refine AW.cond_f (.tmp (Look.of rfl)) ?_
  refine AW.exit ?_
  refine AW.rg [.w, .no] [1, 4, 6, 27, 28, 29] [0, 1, 2] (P := ((-9223372036854775808) ≤ (1 : Int) ∧ (1 : Int) ≤ 9223372036854775807)) (l' := [(1, sV .i64 ([3] : List Int) 1), (4, rV 0 0), (6, rV 2 0), (27, sV .i64 ([1, 2] : List Int) 2), (28, iV 2), (29, iV 1)]) (g' := [(0, some (26, .ds [iD 0, iD 0, D.lit (.slice none 0 0)])), (1, some (3, .ds (dI .i64 (List.set ([0, 0] : List Int) 0 23170)))), (2, some (26, .cs [iC 2, iC 1, .own 1 0 2 1 true]))]) (nx' := 4) (by kernel_rfl) ⟨by omega, by omega⟩ ?_
  refine AWr.s ?_
  refine AW.rgs [.b true] [1, 4, 6, 27, 28, 29, 30] [0, 1, 2] (P := (((1 : Int) < 2))) (l' := [(1, sV .i64 ([3] : List Int) 1), (4, rV 0 0), (6, rV 2 0), (27, sV .i64 ([1, 2] : List Int) 2), (28, iV 2), (29, iV 1), (30, bV true)]) (g' := [(0, some (26, .ds [iD 0, iD 0, D.lit (.slice none 0 0)])), (1, some (3, .ds (dI .i64 (List.set ([0, 0] : List Int) 0 23170)))), (2, some (26, .cs [iC 2, iC 1, .own 1 0 2 1 true]))]) (nx' := 4) (by kernel_rfl) (by omega) ?_
  refine AW.seq ?_
  refine AW.cond_t (.tmp (Look.of rfl)) ?_
  refine AW.skip ?_
  refine AW.seq ?_
  refine AW.block ?_
  refine AW.rgs [.no, .n 1, .d (D.lit (.int .i64 2)), .no, .no] [1, 4, 6, 7, 8, 27, 28, 29] [0, 1, 2] (P := ((1 : Int) = 1) ∧ ((1 : Nat) < 2) ∧ ((List.drop 1 (dI .i64 ([1, 2] : List Int)))[0]? = some (D.lit (.int .i64 2)))) (l' := [(1, sV .i64 ([3] : List Int) 1), (4, rV 0 0), (6, rV 2 0), (7, iV 1), (8, iV 2), (27, sV .i64 ([1, 2] : List Int) 2), (28, iV 2), (29, iV 1)]) (g' := [(0, some (26, .ds [iD 0, iD 0, D.lit (.slice none 0 0)])), (1, some (3, .ds (dI .i64 (List.set ([0, 0] : List Int) 0 23170)))), (2, some (26, .cs [iC 2, iC 1, .own 1 0 2 1 true]))]) (nx' := 4) (by kernel_rfl) ⟨rfl, (by omega), (by rfl)⟩ ?_
  refine AW.rgs [.no, .no, .call [] (.tup [.c (.own 0 0 1 1 true), iE 23170]) [(0, some (3, .ds [iD 3]))] 1 [] none, .no, .no, .no, .no, .no] [1, 4, 6, 7, 9, 10, 27, 28, 29] [0, 1, 2, 4] (P := (_)) (l' := [(1, sV .i64 ([3] : List Int) 1), (4, rV 0 0), (6, rV 2 0), (7, iV 1), (9, oV 4 0 1 1), (10, iV 23170), (27, sV .i64 ([1, 2] : List Int) 2), (28, iV 2), (29, iV 1)]) (g' := [(0, some (26, .ds [iD 0, iD 0, D.lit (.slice none 0 0)])), (1, some (3, .ds (dI .i64 (List.set ([0, 0] : List Int) 0 23170)))), (2, some (26, .cs [iC 2, iC 1, .own 1 0 2 1 true])), (4, some (3, .ds [iD 3]))]) (nx' := 5) (by kernel_rfl) (M_goals2) ?_
  refine AW.rgs [.no, .no, .no] [1, 4, 6, 7, 10, 27, 28, 29, 40, 41, 42] [0, 1, 2, 4] (P := True) (l' := [(1, sV .i64 ([3] : List Int) 1), (4, rV 0 0), (6, rV 2 0), (7, iV 1), (10, iV 23170), (27, sV .i64 ([1, 2] : List Int) 2), (28, iV 2), (29, iV 1), (40, oV 4 0 1 1), (41, iV 1), (42, iV 0)]) (g' := [(0, some (26, .ds [iD 0, iD 0, D.lit (.slice none 0 0)])), (1, some (3, .ds (dI .i64 (List.set ([0, 0] : List Int) 0 23170)))), (2, some (26, .cs [iC 2, iC 1, .own 1 0 2 1 true])), (4, some (3, .ds [iD 3]))]) (nx' := 5) (by kernel_rfl) trivial ?_
  refine AW.block ?_
  refine AW.rounds 2 ?_
  refine AWr.s ?_
  refine AW.rgs [.b true] [1, 4, 6, 7, 10, 27, 28, 29, 40, 41, 42, 43] [0, 1, 2, 4] (P := (((0 : Int) < 1))) (l' := [(1, sV .i64 ([3] : List Int) 1), (4, rV 0 0), (6, rV 2 0), (7, iV 1), (10, iV 23170), (27, sV .i64 ([1, 2] : List Int) 2), (28, iV 2), (29, iV 1), (40, oV 4 0 1 1), (41, iV 1), (42, iV 0), (43, bV true)]) (g' := [(0, some (26, .ds [iD 0, iD 0, D.lit (.slice none 0 0)])), (1, some (3, .ds (dI .i64 (List.set ([0, 0] : List Int) 0 23170)))), (2, some (26, .cs [iC 2, iC 1, .own 1 0 2 1 true])), (4, some (3, .ds [iD 3]))]) (nx' := 5) (by kernel_rfl) (by omega) ?_
  refine AW.seq ?_
  refine AW.cond_t (.tmp (Look.of rfl)) ?_
  refine AW.skip ?_
  refine AW.seq ?_
  refine AW.block ?_
  refine AW.rgs [.n2 0 0, .no, .no] [1, 4, 6, 7, 10, 12, 27, 28, 29, 40, 41, 42] [0, 1, 2, 4] (P := ((0 : Int) = 0) ∧ ((0 : Nat) < 1) ∧ ((0 : Nat) + 0 * 1 = 0)) (l' := [(1, sV .i64 ([3] : List Int) 1), (4, rV 0 0), (6, rV 2 0), (7, iV 1), (10, iV 23170), (12, iV 3), (27, sV .i64 ([1, 2] : List Int) 2), (28, iV 2), (29, iV 1), (40, oV 4 0 1 1), (41, iV 1), (42, iV 0)]) (g' := [(0, some (26, .ds [iD 0, iD 0, D.lit (.slice none 0 0)])), (1, some (3, .ds (dI .i64 (List.set ([0, 0] : List Int) 0 23170)))), (2, some (26, .cs [iC 2, iC 1, .own 1 0 2 1 true])), (4, some (3, .ds [iD 3]))]) (nx' := 5) (by kernel_rfl) ⟨rfl, (by omega), (by omega)⟩ ?_
  refine AW.rg [.no, .no, .no, .call [] (iV 0) [] 0 [] none, .call [1] (.e (.c (.own 0 0 2 1 false))) [(0, some (3, .ds (dI .i64 ([23170, 0] : List Int))))] 1 [] none, .no, .no, .n2 1 1, .ds (dI .i64 (List.set ([23170, 0] : List Int) 1 23170))] [1, 4, 6, 7, 10, 27, 28, 29, 40, 41, 42] [0, 1, 2, 4] (P := (_) ∧ (_) ∧ ((1 : Int) = 1) ∧ ((1 : Nat) < 2) ∧ ((0 : Nat) + 1 * 1 = 1) ∧ ((1 : Nat) + 1 ≤ (dI .i64 ([23170, 0] : List Int)).length) ∧ (updD (dI .i64 ([23170, 0] : List Int)) 1 [D.lit (.int .i64 23170)] = dI .i64 (List.set ([23170, 0] : List Int) 1 23170))) (l' := [(1, sV .i64 ([3] : List Int) 1), (4, rV 0 0), (6, rV 2 0), (7, iV 1), (10, iV 23170), (27, sV .i64 ([1, 2] : List Int) 2), (28, iV 2), (29, iV 1), (40, oV 4 0 1 1), (41, iV 1), (42, iV 0)]) (g' := [(0, some (26, .ds [iD 0, iD 0, D.lit (.slice none 0 0)])), (1, some (3, .ds (dI .i64 (List.set ([23170, 0] : List Int) 1 23170)))), (2, some (26, .cs [iC 2, iC 1, .own 1 0 2 1 true])), (4, some (3, .ds [iD 3]))]) (nx' := 5) (by kernel_rfl) ⟨(Fun.cv (C_Index ([3] : List Int) 1 3 (by first | omega | with_reducible assumption | (simp <;> omega) | rfl | assumption) (by omega)) (y' := iV 0) (g1' := toG []) (by kernel_rfl) (by kernel_rfl)), (Fun.cv (M_rowo 2 1 0 (List.set ([0, 0] : List Int) 0 23170) 2 (by first | omega | with_reducible assumption | (simp <;> omega) | rfl | assumption) (by omega) (by omega) (by omega)) (y' := .e (.c (.own 0 0 2 1 false))) (g1' := toG [(0, some (3, .ds (dI .i64 ([23170, 0] : List Int))))]) (by kernel_rfl) (by kernel_rfl)), rfl, (by omega), (by omega), (by first | omega | (rw [dI_len]; omega) | (simp [dI_len] <;> omega) | rfl), (dI_set _ _ _ _)⟩ ?_
  refine AW.rg [.w, .no] [1, 4, 6, 7, 10, 27, 28, 29, 40, 41, 42] [0, 1, 2, 4] (P := ((-9223372036854775808) ≤ (1 : Int) ∧ (1 : Int) ≤ 9223372036854775807)) (l' := [(1, sV .i64 ([3] : List Int) 1), (4, rV 0 0), (6, rV 2 0), (7, iV 1), (10, iV 23170), (27, sV .i64 ([1, 2] : List Int) 2), (28, iV 2), (29, iV 1), (40, oV 4 0 1 1), (41, iV 1), (42, iV 1)]) (g' := [(0, some (26, .ds [iD 0, iD 0, D.lit (.slice none 0 0)])), (1, some (3, .ds (dI .i64 (List.set ([23170, 0] : List Int) 1 23170)))), (2, some (26, .cs [iC 2, iC 1, .own 1 0 2 1 true])), (4, some (3, .ds [iD 3]))]) (nx' := 5) (by kernel_rfl) ⟨by omega, by omega⟩ ?_
  refine AWr.s ?_
  refine AW.rgs [.b false] [1, 4, 6, 7, 10, 27, 28, 29, 40, 41, 42, 43] [0, 1, 2, 4] (P := (¬ ((1 : Int) < 1))) (l' := [(1, sV .i64 ([3] : List Int) 1), (4, rV 0 0), (6, rV 2 0), (7, iV 1), (10, iV 23170), (27, sV .i64 ([1, 2] : List Int) 2), (28, iV 2), (29, iV 1), (40, oV 4 0 1 1), (41, iV 1), (42, iV 1), (43, bV false)]) (g' := [(0, some (26, .ds [iD 0, iD 0, D.lit (.slice none 0 0)])), (1, some (3, .ds (dI .i64 (List.set ([23170, 0] : List Int) 1 23170)))), (2, some (26, .cs [iC 2, iC 1, .own 1 0 2 1 true])), (4, some (3, .ds [iD 3]))]) (nx' := 5) (by kernel_rfl) (by omega) ?_
  refine AW.seq ?_
  refine AW.cond_f (.tmp (Look.of rfl)) ?_
  refine AW.exit ?_
  refine AW.rg [.w, .no] [1, 4, 6, 27, 28, 29] [0, 1, 2] (P := ((-9223372036854775808) ≤ (2 : Int) ∧ (2 : Int) ≤ 9223372036854775807)) (l' := [(1, sV .i64 ([3] : List Int) 1), (4, rV 0 0), (6, rV 2 0), (27, sV .i64 ([1, 2] : List Int) 2), (28, iV 2), (29, iV 2)]) (g' := [(0, some (26, .ds [iD 0, iD 0, D.lit (.slice none 0 0)])), (1, some (3, .ds (dI .i64 (List.set ([23170, 0] : List Int) 1 23170)))), (2, some (26, .cs [iC 2, iC 1, .own 1 0 2 1 true]))]) (nx' := 5) (by kernel_rfl) ⟨by omega, by omega⟩ ?_
  refine AWr.s ?_
  refine AW.rgs [.b false] [1, 4, 6, 27, 28, 29, 30] [0, 1, 2] (P := (¬ ((2 : Int) < 2))) (l' := [(1, sV .i64 ([3] : List Int) 1), (4, rV 0 0), (6, rV 2 0), (27, sV .i64 ([1, 2] : List Int) 2), (28, iV 2), (29, iV 2), (30, bV false)]) (g' := [(0, some (26, .ds [iD 0, iD 0, D.lit (.slice none 0 0)])), (1, some (3, .ds (dI .i64 (List.set ([23170, 0] : List Int) 1 23170)))), (2, some (26, .cs [iC 2, iC 1, .own 1 0 2 1 true]))]) (nx' := 5) (by kernel_rfl) (by omega) ?_
  refine AW.seq ?_
  refine AW.cond_f (.tmp (Look.of rfl)) ?_
  refine AW.exit ?_
  refine AW.rgs [.no, .no, .no] [4, 5] [0, 1] (P := True) (l' := [(4, rV 0 0), (5, iV 0)]) (g' := [(0, some (26, .cs [iC 2, iC 1, .own 1 0 2 1 true])), (1, some (3, .ds (dI .i64 (List.set ([23170, 0] : List Int) 1 23170))))]) (nx' := 5) (by kernel_rfl) trivial ?_
  refine AW.ret ?_
  exact EndP.of (.inr rfl) [(0, 1)] (P := ((2 : Int) = 2) ∧ ((1 : Int) = 1) ∧ ((0 : Nat) = 0) ∧ ((2 : Nat) = 2) ∧ ((0 : Int) = 0) ∧ (((dI .i64 ([23170, 23170] : List Int)) : List D) = (dI .i64 (List.set ([23170, 0] : List Int) 1 23170)))) (by kernel_rfl) ⟨rfl, rfl, rfl, rfl, rfl, (by rfl)⟩

set_option maxHeartbeats 4000000 in
set_option maxRecDepth 100000 in
theorem M_sane   : Fun 4 [] (toG []) 0 (bV true) (toG []) 0 := by
  refine Fun.mk (n := 77) Try.func4 rfl rfl (Nat.le_of_ble_eq_true rfl) ?_
  intro cx hcx
  refine AW.rgs [.no] [] [] (P := True) (l' := []) (g' := []) (nx' := 0) (by kernel_rfl) trivial ?_
  refine AW.rgs [.no, .no, .call [] (.tup [.agg [iC 2, iC 1, .own 0 0 2 1 true], iE 0]) [(0, some (3, .ds (dI .i64 ([23170, 23170] : List Int))))] 1 [none, none] none, .no, .no, .no, .no, .no, .no] [1, 2] [2, 3] (P := ([iD 1, iD 2].length = 2 * 1) ∧ ([iD 3].length = 1 * 1) ∧ (noSlPV (.tup [.agg [iC 2, iC 1, .own 0 0 2 1 true], iE 0]) = true) ∧ ((dI .i64 ([23170, 23170] : List Int)).all noSlD = true) ∧ (_)) (l' := [(1, rV 3 0), (2, iV 0)]) (g' := [(2, some (3, .ds (dI .i64 ([23170, 23170] : List Int)))), (3, some (26, .cs [iC 2, iC 1, .own 2 0 2 1 true]))]) (nx' := 4) (by kernel_rfl) ⟨(by first | omega | (rw [dI_len]; omega) | (simp [dI_len] <;> omega) | rfl), (by first | omega | (rw [dI_len]; omega) | (simp [dI_len] <;> omega) | rfl), rfl, (by first | exact dI_ns _ _ | rfl), (M_Default_s)⟩ ?_
  have hx1 : ((List.length (apA ([23170, 23170] : List Int) ([25600, 25600] : List Int) 2 1 1)) = 1) := apA_len ([23170, 23170] : List Int) ([25600, 25600] : List Int) (2 : Nat) (1 : Nat) ((1 : Nat) * (1 : Nat))
  have hx2 : ((1 : Nat) ≤ 524288) := Nat.le_trans (Nat.mul_le_mul (show (1 : Nat) ≤ 65536 by omega) (show (1 : Nat) ≤ 8 by omega)) (by omega)
  refine AW.rgs [.no, .no, .no, .call [] (.tup [.agg [iC 1, .own 0 0 1 1 true], iE 0]) [(0, some (21, .ds (dI .i32 ([36203] : List Int))))] 1 [none, none] none, .no, .no, .no, .no, .no, .no] [1, 2, 3, 4] [2, 3, 5, 6] (P := ((dI .i64 ([23170, 23170] : List Int)).length = 2 * 1) ∧ ([D.lit (.int .i32 25600), D.lit (.int .i32 25600)].length = 2 * 1) ∧ (noSlPV (.tup [.agg [iC 1, .own 0 0 1 1 true], iE 0]) = true) ∧ ((dI .i32 ([36203] : List Int)).all noSlD = true) ∧ (_)) (l' := [(1, rV 3 0), (2, iV 0), (3, rV 6 0), (4, iV 0)]) (g' := [(2, some (3, .ds (dI .i64 ([23170, 23170] : List Int)))), (3, some (26, .cs [iC 2, iC 1, .own 2 0 2 1 true])), (5, some (21, .ds (dI .i32 ([36203] : List Int)))), (6, some (33, .cs [iC 1, .own 5 0 1 1 true]))]) (nx' := 7) (by kernel_rfl) ⟨(by first | omega | (rw [dI_len]; omega) | (simp [dI_len] <;> omega) | rfl), (by first | omega | (rw [dI_len]; omega) | (simp [dI_len] <;> omega) | rfl), rfl, (by first | exact dI_ns _ _ | rfl), (Fun.cv (M_Apply 2 1 1 ([23170, 23170] : List Int) 2 ([25600, 25600] : List Int) 2 (by first | omega | with_reducible assumption | (simp <;> omega) | rfl | assumption) mv_sane (by first | omega | with_reducible assumption | (simp <;> omega) | rfl | assumption) bv_sane) (y' := .tup [.agg [iC 1, .own 0 0 1 1 true], iE 0]) (g1' := toG [(0, some (21, .ds (dI .i32 ([36203] : List Int))))]) (by kernel_rfl) (by kernel_rfl))⟩ ?_
  have hx3 : ((4 : Nat) ≤ 64) := Nat.mul_le_mul (show (2 : Nat) ≤ 8 by omega) (show (2 : Nat) ≤ 8 by omega)
  have hx4 : ((List.length (idL 2 2)) = 4) := idL_len (2 : Nat) (2 : Nat)
  refine AW.rgs [.call [] (.tup [.agg [iC 2, iC 2, .own 0 0 4 1 true], iE 0]) [(0, some (3, .ds (dI .i64 ([32768, 0, 0, 32768] : List Int))))] 1 [] none, .no, .no, .no, .no, .no, .no] [1, 2, 3, 4, 5, 6] [2, 3, 5, 6, 7, 8] (P := (_)) (l' := [(1, rV 3 0), (2, iV 0), (3, rV 6 0), (4, iV 0), (5, rV 8 0), (6, iV 0)]) (g' := [(2, some (3, .ds (dI .i64 ([23170, 23170] : List Int)))), (3, some (26, .cs [iC 2, iC 1, .own 2 0 2 1 true])), (5, some (21, .ds (dI .i32 ([36203] : List Int)))), (6, some (33, .cs [iC 1, .own 5 0 1 1 true])), (7, some (3, .ds (dI .i64 ([32768, 0, 0, 32768] : List Int)))), (8, some (26, .cs [iC 2, iC 2, .own 7 0 4 1 true]))]) (nx' := 9) (by kernel_rfl) (Fun.cv (M_Ident 2 (by omega) (by omega)) (y' := .tup [.agg [iC 2, iC 2, .own 0 0 4 1 true], iE 0]) (g1' := toG [(0, some (3, .ds (dI .i64 ([32768, 0, 0, 32768] : List Int))))]) (by kernel_rfl) (by kernel_rfl)) ?_
  refine AW.rgs [.no, .b true, .no, .no, .no, .no, .b true, .no, .no, .no, .no, .n2 0 0, .no, .b true, .no, .no, .no, .b true, .no, .no, .no, .no, .no, .b true, .no, .no, .no, .no, .n2 0 0, .no, .b true, .no, .no, .no, .b true, .no, .no, .no, .no, .no, .b true, .no, .no, .no, .no, .n2 3 3, .no, .b true, .no, .no, .no, .call [] (bV true) [] 0 [none] none, .no, .no] [0] [] (P := (((0 : Int) = 0)) ∧ (((2 : Int) = 2)) ∧ ((0 : Int) = 0) ∧ ((0 : Nat) < 2) ∧ ((0 : Nat) + 0 * 1 = 0) ∧ (((23170 : Int) = 23170)) ∧ (((0 : Int) = 0)) ∧ (((1 : Int) = 1)) ∧ ((0 : Int) = 0) ∧ ((0 : Nat) < 1) ∧ ((0 : Nat) + 0 * 1 = 0) ∧ (((36203 : Int) = 36203)) ∧ (((0 : Int) = 0)) ∧ (((4 : Int) = 4)) ∧ ((3 : Int) = 3) ∧ ((3 : Nat) < 4) ∧ ((0 : Nat) + 3 * 1 = 3) ∧ (((32768 : Int) = 32768)) ∧ ((dI .i64 ([23170, 23170] : List Int)).length = 2 * 1) ∧ (noSlPV (bV true) = true) ∧ (_)) (l' := [(0, bV true)]) (g' := []) (nx' := 9) (by kernel_rfl) ⟨(by omega), (by omega), rfl, (by omega), (by omega), (by omega), (by omega), (by omega), rfl, (by omega), (by omega), (by omega), (by omega), (by omega), rfl, (by omega), (by omega), (by omega), (by first | omega | (rw [dI_len]; omega) | (simp [dI_len] <;> omega) | rfl), rfl, (Fun.y (M_Valid 2 1 ([23170, 23170] : List Int) 2 (by first | omega | with_reducible assumption | (simp <;> omega) | rfl | assumption) (by omega)) (y' := bV true) (by kernel_rfl))⟩ ?_
  refine AW.ret ?_
  exact EndP.of (.inr rfl) [] (P := (true = true)) (by kernel_rfl) rfl

theorem Sl.max {k : IntKind} {w : World} {a : Option Addr} {len cap : Nat} {l : List Int} (h : Sl k w a len cap l) : List.length l ≤ 9223372036854775807 := by
  obtain ⟨h1, h2, h3, _⟩ := h
  unfold maxLen at h3
  omega

end Go.Proofs.Ytfnchjmghklmnaa
