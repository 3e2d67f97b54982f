/- Copies of slices. No statement is proved here. -/
import Derived.Test.YtigiolfloefjnaaGreatDoorZAmU
import Derived.Test.YtigiolfloefjnaaGreatDoorZAmD
namespace Go.Proofs.YtigiolfloefjnaaGreatDoor
open Go.ChangeShapes Go.WideShapes Go.ChangeAt Go.RowKit
set_option linter.unusedVariables false
set_option linter.unusedSimpArgs false
set_option maxHeartbeats 4000000
set_option maxRecDepth 100000
theorem zlsl0 {p : Prop} (h : p := by first | omega | (rw [dI_len]; omega) | (simp [dI_len] <;> omega) | rfl) : p := h
theorem C_Clone_i32_1 (l : List Int) (n : Nat) (hn : List.length l = n) (hb : n ≤ 1000000) (h1 : 1 ≤ n) : Fun 102 [.c (.d (D.sl (dI .i32 l) n))] (toG []) 0 (oV 0 0 n 1) (toG [(0, some (21, .ds (dI .i32 l)))]) 1 := by
 refine Fun.mk (n := 8) Tryz.func102 rfl rfl (Nat.le_of_ble_eq_true rfl) ?_
 intro cx hcx
 refine zr [.no] [0] [] True [(0, sV .i32 l n)] [] 0 trivial ?_
 refine AW.seq ?_
 refine zr [.no, .no] [0, 4] [] (1 ≤ n) [(0, sV .i32 l n), (4, bV false)] [] 0 zo ?_
 refine zfs ?_
 refine zr [.no, .no, .ap none (0 + n) (dI .i32 l), .no] [2] [1] (((dI .i32 l).length = n * 1) ∧ ((([] : List D) : List D).length = 0 * 1) ∧ ((0 + n) * 4 ≤ 140737488355328) ∧ ((0 : Nat) + n = (0 + n)) ∧ ((([] : List D) : List D) ++ (dI .i32 l) = (dI .i32 l))) [(2, oV 1 0 (0 + n) 1)] [(1, some (21, .ds (dI .i32 l)))] 2 ⟨zlsl0, zlsl0, zo, zo, rfl⟩ ?_
 refine AW.ret ?_
 exact EndP.of (.inr rfl) [(0, 1)] (P := ((0 : Nat) = 0) ∧ ((n : Nat) = (0 + n)) ∧ (((dI .i32 l) : List D) = (dI .i32 l))) zk ⟨rfl, (by first | omega | rfl | assumption | (simp; done) | (simp; omega)), rfl⟩
theorem C_Clone_i32_2   : Fun 102 [.c (.d (D.lit (.slice none 0 0)))] (toG []) 0 (oV 0 0 0 1) (toG [(0, some (21, .ds ([] : List D)))]) 1 := by
 refine Fun.mk (n := 8) Tryz.func102 rfl rfl (Nat.le_of_ble_eq_true rfl) ?_
 intro cx hcx
 refine zr [.no] [0] [] True [(0, nV)] [] 0 trivial ?_
 refine AW.seq ?_
 refine zr [.no, .no] [0, 4] [] True [(0, nV), (4, bV true)] [] 0 trivial ?_
 refine zt ?_
 refine zr [.no] [2] [] True [(2, nV)] [] 0 trivial ?_
 refine AW.adoptS 2 1 21 rfl ?_
 refine AW.ret ?_
 exact EndP.of (.inr rfl) [] (P := ((0 : Nat) = 0) ∧ ((0 : Nat) = 0) ∧ ((([] : List D) : List D) = ([] : List D))) zk ⟨rfl, rfl, rfl⟩
theorem C_Clone_i32_3 (a : Addr) (cap : Nat) (hm : cap ≤ maxLen) : Fun 102 [.c (.d (D.lit (.slice (some a) 0 cap)))] (toG []) 0 (oV 0 0 0 1) (toG [(0, some (21, .ds ([] : List D)))]) 1 := by
 refine Fun.mk (n := 8) Tryz.func102 rfl rfl (Nat.le_of_ble_eq_true rfl) ?_
 intro cx hcx
 refine zr [.no] [0] [] True [(0, .e (.c (.d (D.lit (.slice (some a) 0 cap)))))] [] 0 trivial ?_
 refine AW.seq ?_
 refine zr [.no, .no] [0, 4] [] True [(0, .e (.c (.d (D.lit (.slice (some a) 0 cap))))), (4, bV false)] [] 0 trivial ?_
 refine zfs ?_
 refine AW.relit 0 hm (fun h9 => by cases h9) rfl ?_
 refine zr [.no, .no, .ap none 0 ([] : List D), .no] [2] [1] ((([] : List D).length = 0 * 1) ∧ ((([] : List D) : List D).length = 0 * 1) ∧ ((0 + 0) * 4 ≤ 140737488355328) ∧ ((0 : Nat) + 0 = 0) ∧ ((([] : List D) : List D) ++ ([] : List D) = ([] : List D))) [(2, oV 1 0 0 1)] [(1, some (21, .ds ([] : List D)))] 2 ⟨zlsl0, zlsl0, zo, zo, rfl⟩ ?_
 refine AW.ret ?_
 exact EndP.of (.inr rfl) [(0, 1)] (P := ((0 : Nat) = 0) ∧ ((0 : Nat) = 0) ∧ ((([] : List D) : List D) = ([] : List D))) zk ⟨rfl, rfl, rfl⟩
theorem C_Clone_i32 (l : List Int) (n : Nat) (hn : List.length l = n) (hb : n ≤ 1000000) : Fun 102 [.c (.d (D.sl (dI .i32 l) n))] (toG []) 0 (oV 0 0 n 1) (toG [(0, some (21, .ds (dI .i32 l)))]) 1 := by
 by_cases h1 : 1 ≤ n
 ·exact C_Clone_i32_1 l n hn hb h1
 ·obtain rfl : n = 0 := by omega
  obtain rfl : l = [] := List.eq_nil_of_length_eq_zero hn
  exact Fun.nil0 C_Clone_i32_2 (fun a cap hm => C_Clone_i32_3 a cap hm)
theorem C_Grow_i32 (m : Nat) (hb : m ≤ 10000000) : Fun 135 [.c (.d (D.lit (.slice none 0 0))), iE ((m : Nat) : Int)] (toG []) 0 (oV 0 0 0 1) (toG [(0, some (21, .ds ([] : List D)))]) 1 := by
 refine Fun.mk (n := 27) Tryz.func135 rfl rfl (Nat.le_of_ble_eq_true rfl) ?_
 intro cx hcx
 refine zr [.no] [0, 1] [] True [(0, nV), (1, uV m)] [] 0 trivial ?_
 refine AW.seq ?_
 refine zr [.no, .b false] [0, 1, 6] [] (¬ (((m : Nat) : Int) < 0)) [(0, nV), (1, uV m), (6, bV false)] [] 0 zo ?_
 refine zfs ?_
 refine AW.seq ?_
 refine zr [.no, .no, .no, .no, .no, .w, .w, .no] [0, 1] [] (((-9223372036854775808) ≤ (0 : Int) ∧ (0 : Int) ≤ 9223372036854775807) ∧ ((-9223372036854775808) ≤ (((m : Nat) : Int) - 0) ∧ (((m : Nat) : Int) - 0) ≤ 9223372036854775807)) [(0, nV), (1, iV (↑m - 0))] [] 0 ⟨⟨by omega, by omega⟩, ⟨by omega, by omega⟩⟩ ?_
 by_cases hx1 : ((0 : Int) < (((m : Nat) : Int) - 0))
 ·refine zr [.no, .b true] [0, 1, 16] [] (((0 : Int) < (((m : Nat) : Int) - 0))) [(0, nV), (1, iV (↑m - 0)), (16, bV true)] [] 0 zo ?_
  refine zt ?_
  refine zg [.no, .no, .no, .no, .no, .az (m - 0) 0 (dI .i32 (List.replicate (m - 0) 0)), .no, .no, .mk 0 0 ([] : List D), .no] [0] [0] (((0 : Nat) = 0) ∧ ((0 : Int) = ((0 : Nat) : Int)) ∧ (((((m : Nat) : Int) - 0) : Int) = (((m - 0) : Nat) : Int)) ∧ ((m - 0) * 4 ≤ 140737488355328) ∧ (List.replicate (m - 0) (D.lit (.int .i32 0)) = dI .i32 (List.replicate (m - 0) 0)) ∧ ((0 : Int) = 0) ∧ ((0 : Nat) ≤ (m - 0)) ∧ (List.take (0 * 1) ((dI .i32 (List.replicate (m - 0) 0)) : List D) = ([] : List D))) [(0, oV 0 0 0 1)] [(0, some (21, .ds ([] : List D)))] 1 ⟨rfl, zo, (by first | rfl | omega), zo, (dI_rep _ _ _), rfl, zo, (by rw [Nat.zero_mul]; rfl)⟩ ?_
  refine zr [.no, .no] [4] [0] True [(4, oV 0 0 0 1)] [(0, some (21, .ds ([] : List D)))] 1 trivial ?_
  refine AW.ret ?_
  exact EndP.of (.inr rfl) [] (P := ((0 : Nat) = 0) ∧ ((0 : Nat) = 0) ∧ ((([] : List D) : List D) = ([] : List D))) zk ⟨rfl, rfl, rfl⟩
 ·refine zr [.no, .b false] [0, 1, 16] [] (¬ ((0 : Int) < (((m : Nat) : Int) - 0))) [(0, nV), (1, iV (↑m - 0)), (16, bV false)] [] 0 zo ?_
  refine zfs ?_
  refine zr [.no, .no] [4] [] True [(4, nV)] [] 0 trivial ?_
  refine AW.adoptS 4 1 21 rfl ?_
  refine AW.ret ?_
  exact EndP.of (.inr rfl) [] (P := ((0 : Nat) = 0) ∧ ((0 : Nat) = 0) ∧ ((([] : List D) : List D) = ([] : List D))) zk ⟨rfl, rfl, rfl⟩
theorem C_Concat_i32 (l m : List Int) (n k : Nat) (hn : List.length l = n) (hk : List.length m = k) (hb : n ≤ 1000000) (hb2 : k ≤ 1000000) : Fun 126 [.c (.d (D.sl [D.sl (dI .i32 l) n, D.sl (dI .i32 m) k] 2))] (toG []) 0 (oV 0 0 (n + k) 1) (toG [(0, some (21, .ds (dI .i32 (l ++ m))))]) 1 := by
 refine Fun.mk (n := 36) Tryz.func126 rfl rfl (Nat.le_of_ble_eq_true rfl) ?_
 intro cx hcx
 refine zr [.no] [0] [] True [(0, .e (.c (.d (D.sl [dm l n, dm m k] 2))))] [] 0 trivial ?_
 refine zr [.no] [0, 3] [] True [(0, .e (.c (.d (D.sl [dm l n, dm m k] 2)))), (3, iV 0)] [] 0 trivial ?_
 refine AW.seq ?_
 refine zr [.no, .no, .no] [0, 3, 9, 10, 11] [] True [(0, .e (.c (.d (D.sl [dm l n, dm m k] 2)))), (3, iV 0), (9, .e (.c (.d (D.sl [dm l n, dm m k] 2)))), (10, iV 2), (11, iV 0)] [] 0 trivial ?_
 refine AW.block ?_
 refine AW.rounds 3 ?_
 refine AWr.s ?_
 refine zr [.b true] [0, 3, 9, 10, 11, 12] [] (((0 : Int) < 2)) [(0, .e (.c (.d (D.sl [dm l n, dm m k] 2)))), (3, iV 0), (9, .e (.c (.d (D.sl [dm l n, dm m k] 2)))), (10, iV 2), (11, iV 0), (12, bV true)] [] 0 zo ?_
 refine AW.seq ?_
 refine zts ?_
 refine AW.seq ?_
 refine AW.block ?_
 refine zr [.n 0, .no, .no] [0, 3, 5, 9, 10, 11] [] (((0 : Int) = 0) ∧ ((0 : Nat) < 2)) [(0, .e (.c (.d (D.sl [dm l n, dm m k] 2)))), (3, iV 0), (5, sV .i32 l n), (9, .e (.c (.d (D.sl [dm l n, dm m k] 2)))), (10, iV 2), (11, iV 0)] [] 0 ⟨rfl, zo⟩ ?_
 refine zr [.no, .no, .no, .wi ((n : Nat) : Int), .no] [0, 3, 9, 10, 11] [] (((-9223372036854775808) ≤ (0 + ((n : Nat) : Int)) ∧ (0 + ((n : Nat) : Int)) ≤ 9223372036854775807) ∧ (((0 + ((n : Nat) : Int)) : Int) = ((n : Nat) : Int))) [(0, .e (.c (.d (D.sl [dm l n, dm m k] 2)))), (3, uV n), (9, .e (.c (.d (D.sl [dm l n, dm m k] 2)))), (10, iV 2), (11, iV 0)] [] 0 ⟨⟨by omega, by omega⟩, zo⟩ ?_
 refine zr [.no, .b false] [0, 3, 9, 10, 11, 20] [] (¬ (((n : Nat) : Int) < 0)) [(0, .e (.c (.d (D.sl [dm l n, dm m k] 2)))), (3, uV n), (9, .e (.c (.d (D.sl [dm l n, dm m k] 2)))), (10, iV 2), (11, iV 0), (20, bV false)] [] 0 zo ?_
 refine zfs ?_
 refine zg [.w, .no] [0, 3, 9, 10, 11] [] ((-9223372036854775808) ≤ (1 : Int) ∧ (1 : Int) ≤ 9223372036854775807) [(0, .e (.c (.d (D.sl [dm l n, dm m k] 2)))), (3, uV n), (9, .e (.c (.d (D.sl [dm l n, dm m k] 2)))), (10, iV 2), (11, iV 1)] [] 0 ⟨by omega, by omega⟩ ?_
 refine AWr.s ?_
 refine zr [.b true] [0, 3, 9, 10, 11, 12] [] (((1 : Int) < 2)) [(0, .e (.c (.d (D.sl [dm l n, dm m k] 2)))), (3, uV n), (9, .e (.c (.d (D.sl [dm l n, dm m k] 2)))), (10, iV 2), (11, iV 1), (12, bV true)] [] 0 zo ?_
 refine AW.seq ?_
 refine zts ?_
 refine AW.seq ?_
 refine AW.block ?_
 refine zr [.n 1, .no, .no] [0, 3, 5, 9, 10, 11] [] (((1 : Int) = 1) ∧ ((1 : Nat) < 2)) [(0, .e (.c (.d (D.sl [dm l n, dm m k] 2)))), (3, uV n), (5, sV .i32 m k), (9, .e (.c (.d (D.sl [dm l n, dm m k] 2)))), (10, iV 2), (11, iV 1)] [] 0 ⟨rfl, zo⟩ ?_
 refine zr [.no, .no, .no, .wi (((n + k) : Nat) : Int), .no] [0, 3, 9, 10, 11] [] (((-9223372036854775808) ≤ (((n : Nat) : Int) + ((k : Nat) : Int)) ∧ (((n : Nat) : Int) + ((k : Nat) : Int)) ≤ 9223372036854775807) ∧ (((((n : Nat) : Int) + ((k : Nat) : Int)) : Int) = (((n + k) : Nat) : Int))) [(0, .e (.c (.d (D.sl [dm l n, dm m k] 2)))), (3, uV (n + k)), (9, .e (.c (.d (D.sl [dm l n, dm m k] 2)))), (10, iV 2), (11, iV 1)] [] 0 ⟨⟨by omega, by omega⟩, zo⟩ ?_
 refine zr [.no, .b false] [0, 3, 9, 10, 11, 20] [] (¬ ((((n + k) : Nat) : Int) < 0)) [(0, .e (.c (.d (D.sl [dm l n, dm m k] 2)))), (3, uV (n + k)), (9, .e (.c (.d (D.sl [dm l n, dm m k] 2)))), (10, iV 2), (11, iV 1), (20, bV false)] [] 0 zo ?_
 refine zfs ?_
 refine zg [.w, .no] [0, 3, 9, 10, 11] [] ((-9223372036854775808) ≤ (2 : Int) ∧ (2 : Int) ≤ 9223372036854775807) [(0, .e (.c (.d (D.sl [dm l n, dm m k] 2)))), (3, uV (n + k)), (9, .e (.c (.d (D.sl [dm l n, dm m k] 2)))), (10, iV 2), (11, iV 2)] [] 0 ⟨by omega, by omega⟩ ?_
 refine AWr.s ?_
 refine zr [.b false] [0, 3, 9, 10, 11, 12] [] (¬ ((2 : Int) < 2)) [(0, .e (.c (.d (D.sl [dm l n, dm m k] 2)))), (3, uV (n + k)), (9, .e (.c (.d (D.sl [dm l n, dm m k] 2)))), (10, iV 2), (11, iV 2), (12, bV false)] [] 0 zo ?_
 refine AW.seq ?_
 refine zf ?_
 refine AW.exit ?_
 refine zr [.no, .call [] (oV 0 0 0 1) [(0, some (21, .ds ([] : List D)))] 1 [some [D.lit (.bool true)]] none, .no] [0, 6] [0] _ [(0, .e (.c (.d (D.sl [dm l n, dm m k] 2)))), (6, oV 0 0 0 1)] [(0, some (21, .ds ([] : List D)))] 1 (C_Grow_i32 (n + k) zo) ?_
 refine AW.seq ?_
 refine zr [.no, .no, .no] [6, 25, 26, 27] [0] True [(6, oV 0 0 0 1), (25, .e (.c (.d (D.sl [dm l n, dm m k] 2)))), (26, iV 2), (27, iV 0)] [(0, some (21, .ds ([] : List D)))] 1 trivial ?_
 refine AW.block ?_
 refine AW.rounds 3 ?_
 refine AWr.s ?_
 refine zr [.b true] [6, 25, 26, 27, 28] [0] (((0 : Int) < 2)) [(6, oV 0 0 0 1), (25, .e (.c (.d (D.sl [dm l n, dm m k] 2)))), (26, iV 2), (27, iV 0), (28, bV true)] [(0, some (21, .ds ([] : List D)))] 1 zo ?_
 refine AW.seq ?_
 refine zts ?_
 refine AW.seq ?_
 refine AW.block ?_
 refine zr [.n 0, .no, .no] [6, 8, 25, 26, 27] [0] (((0 : Int) = 0) ∧ ((0 : Nat) < 2)) [(6, oV 0 0 0 1), (8, sV .i32 l n), (25, .e (.c (.d (D.sl [dm l n, dm m k] 2)))), (26, iV 2), (27, iV 0)] [(0, some (21, .ds ([] : List D)))] 1 ⟨rfl, zo⟩ ?_
 refine zg [.no, .no, .ap none (0 + n) (dI .i32 l), .no] [6, 25, 26, 27] [1] (((dI .i32 l).length = n * 1) ∧ ((([] : List D) : List D).length = 0 * 1) ∧ ((0 + n) * 4 ≤ 140737488355328) ∧ ((0 : Nat) + n = (0 + n)) ∧ ((([] : List D) : List D) ++ (dI .i32 l) = (dI .i32 l))) [(6, oV 1 0 (0 + n) 1), (25, .e (.c (.d (D.sl [dm l n, dm m k] 2)))), (26, iV 2), (27, iV 0)] [(1, some (21, .ds (dI .i32 l)))] 2 ⟨zlsl0, zlsl0, zo, zo, rfl⟩ ?_
 refine zg [.w, .no] [6, 25, 26, 27] [1] ((-9223372036854775808) ≤ (1 : Int) ∧ (1 : Int) ≤ 9223372036854775807) [(6, oV 1 0 (0 + n) 1), (25, .e (.c (.d (D.sl [dm l n, dm m k] 2)))), (26, iV 2), (27, iV 1)] [(1, some (21, .ds (dI .i32 l)))] 2 ⟨by omega, by omega⟩ ?_
 refine AWr.s ?_
 refine zr [.b true] [6, 25, 26, 27, 28] [1] (((1 : Int) < 2)) [(6, oV 1 0 (0 + n) 1), (25, .e (.c (.d (D.sl [dm l n, dm m k] 2)))), (26, iV 2), (27, iV 1), (28, bV true)] [(1, some (21, .ds (dI .i32 l)))] 2 zo ?_
 refine AW.seq ?_
 refine zts ?_
 refine AW.seq ?_
 refine AW.block ?_
 refine zr [.n 1, .no, .no] [6, 8, 25, 26, 27] [1] (((1 : Int) = 1) ∧ ((1 : Nat) < 2)) [(6, oV 1 0 (0 + n) 1), (8, sV .i32 m k), (25, .e (.c (.d (D.sl [dm l n, dm m k] 2)))), (26, iV 2), (27, iV 1)] [(1, some (21, .ds (dI .i32 l)))] 2 ⟨rfl, zo⟩ ?_
 refine zg [.no, .no, .ap none ((0 + n) + k) (dI .i32 (l ++ m)), .no] [6, 25, 26, 27] [2] (((dI .i32 m).length = k * 1) ∧ (((dI .i32 l) : List D).length = (0 + n) * 1) ∧ (((0 + n) + k) * 4 ≤ 140737488355328) ∧ ((0 + n) + k = ((0 + n) + k)) ∧ (((dI .i32 l) : List D) ++ (dI .i32 m) = (dI .i32 (l ++ m)))) [(6, oV 2 0 ((0 + n) + k) 1), (25, .e (.c (.d (D.sl [dm l n, dm m k] 2)))), (26, iV 2), (27, iV 1)] [(2, some (21, .ds (dI .i32 (l ++ m))))] 3 ⟨zlsl0, zlsl0, zo, zo, (dI_app .i32 l m)⟩ ?_
 refine zg [.w, .no] [6, 25, 26, 27] [2] ((-9223372036854775808) ≤ (2 : Int) ∧ (2 : Int) ≤ 9223372036854775807) [(6, oV 2 0 ((0 + n) + k) 1), (25, .e (.c (.d (D.sl [dm l n, dm m k] 2)))), (26, iV 2), (27, iV 2)] [(2, some (21, .ds (dI .i32 (l ++ m))))] 3 ⟨by omega, by omega⟩ ?_
 refine AWr.s ?_
 refine zr [.b false] [6, 25, 26, 27, 28] [2] (¬ ((2 : Int) < 2)) [(6, oV 2 0 ((0 + n) + k) 1), (25, .e (.c (.d (D.sl [dm l n, dm m k] 2)))), (26, iV 2), (27, iV 2), (28, bV false)] [(2, some (21, .ds (dI .i32 (l ++ m))))] 3 zo ?_
 refine AW.seq ?_
 refine zf ?_
 refine AW.exit ?_
 refine zr [.no, .no] [2] [2] True [(2, oV 2 0 ((0 + n) + k) 1)] [(2, some (21, .ds (dI .i32 (l ++ m))))] 3 trivial ?_
 refine AW.ret ?_
 exact EndP.of (.inr rfl) [(0, 2)] (P := ((0 : Nat) = 0) ∧ (((n + k) : Nat) = ((0 + n) + k)) ∧ (((dI .i32 (l ++ m)) : List D) = (dI .i32 (l ++ m)))) zk ⟨rfl, (by first | omega | rfl | assumption | (simp; done) | (simp; omega)), rfl⟩
theorem C_Clone_i64_1 (l : List Int) (n : Nat) (hn : List.length l = n) (hb : n ≤ 1000000) (h1 : 1 ≤ n) : Fun 101 [.c (.d (D.sl (dI .i64 l) n))] (toG []) 0 (oV 0 0 n 1) (toG [(0, some (3, .ds (dI .i64 l)))]) 1 := by
 refine Fun.mk (n := 8) Tryz.func101 rfl rfl (Nat.le_of_ble_eq_true rfl) ?_
 intro cx hcx
 refine zr [.no] [0] [] True [(0, sV .i64 l n)] [] 0 trivial ?_
 refine AW.seq ?_
 refine zr [.no, .no] [0, 4] [] (1 ≤ n) [(0, sV .i64 l n), (4, bV false)] [] 0 zo ?_
 refine zfs ?_
 refine zr [.no, .no, .ap none (0 + n) (dI .i64 l), .no] [2] [1] (((dI .i64 l).length = n * 1) ∧ ((([] : List D) : List D).length = 0 * 1) ∧ ((0 + n) * 8 ≤ 140737488355328) ∧ ((0 : Nat) + n = (0 + n)) ∧ ((([] : List D) : List D) ++ (dI .i64 l) = (dI .i64 l))) [(2, oV 1 0 (0 + n) 1)] [(1, some (3, .ds (dI .i64 l)))] 2 ⟨zlsl0, zlsl0, zo, zo, rfl⟩ ?_
 refine AW.ret ?_
 exact EndP.of (.inr rfl) [(0, 1)] (P := ((0 : Nat) = 0) ∧ ((n : Nat) = (0 + n)) ∧ (((dI .i64 l) : List D) = (dI .i64 l))) zk ⟨rfl, (by first | omega | rfl | assumption | (simp; done) | (simp; omega)), rfl⟩
theorem C_Clone_i64_2   : Fun 101 [.c (.d (D.lit (.slice none 0 0)))] (toG []) 0 (oV 0 0 0 1) (toG [(0, some (3, .ds ([] : List D)))]) 1 := by
 refine Fun.mk (n := 8) Tryz.func101 rfl rfl (Nat.le_of_ble_eq_true rfl) ?_
 intro cx hcx
 refine zr [.no] [0] [] True [(0, nV)] [] 0 trivial ?_
 refine AW.seq ?_
 refine zr [.no, .no] [0, 4] [] True [(0, nV), (4, bV true)] [] 0 trivial ?_
 refine zt ?_
 refine zr [.no] [2] [] True [(2, nV)] [] 0 trivial ?_
 refine AW.adoptS 2 1 3 rfl ?_
 refine AW.ret ?_
 exact EndP.of (.inr rfl) [] (P := ((0 : Nat) = 0) ∧ ((0 : Nat) = 0) ∧ ((([] : List D) : List D) = ([] : List D))) zk ⟨rfl, rfl, rfl⟩
theorem C_Clone_i64_3 (a : Addr) (cap : Nat) (hm : cap ≤ maxLen) : Fun 101 [.c (.d (D.lit (.slice (some a) 0 cap)))] (toG []) 0 (oV 0 0 0 1) (toG [(0, some (3, .ds ([] : List D)))]) 1 := by
 refine Fun.mk (n := 8) Tryz.func101 rfl rfl (Nat.le_of_ble_eq_true rfl) ?_
 intro cx hcx
 refine zr [.no] [0] [] True [(0, .e (.c (.d (D.lit (.slice (some a) 0 cap)))))] [] 0 trivial ?_
 refine AW.seq ?_
 refine zr [.no, .no] [0, 4] [] True [(0, .e (.c (.d (D.lit (.slice (some a) 0 cap))))), (4, bV false)] [] 0 trivial ?_
 refine zfs ?_
 refine AW.relit 0 hm (fun h9 => by cases h9) rfl ?_
 refine zr [.no, .no, .ap none 0 ([] : List D), .no] [2] [1] ((([] : List D).length = 0 * 1) ∧ ((([] : List D) : List D).length = 0 * 1) ∧ ((0 + 0) * 8 ≤ 140737488355328) ∧ ((0 : Nat) + 0 = 0) ∧ ((([] : List D) : List D) ++ ([] : List D) = ([] : List D))) [(2, oV 1 0 0 1)] [(1, some (3, .ds ([] : List D)))] 2 ⟨zlsl0, zlsl0, zo, zo, rfl⟩ ?_
 refine AW.ret ?_
 exact EndP.of (.inr rfl) [(0, 1)] (P := ((0 : Nat) = 0) ∧ ((0 : Nat) = 0) ∧ ((([] : List D) : List D) = ([] : List D))) zk ⟨rfl, rfl, rfl⟩
theorem C_Clone_i64 (l : List Int) (n : Nat) (hn : List.length l = n) (hb : n ≤ 1000000) : Fun 101 [.c (.d (D.sl (dI .i64 l) n))] (toG []) 0 (oV 0 0 n 1) (toG [(0, some (3, .ds (dI .i64 l)))]) 1 := by
 by_cases h1 : 1 ≤ n
 ·exact C_Clone_i64_1 l n hn hb h1
 ·obtain rfl : n = 0 := by omega
  obtain rfl : l = [] := List.eq_nil_of_length_eq_zero hn
  exact Fun.nil0 C_Clone_i64_2 (fun a cap hm => C_Clone_i64_3 a cap hm)
end Go.Proofs.YtigiolfloefjnaaGreatDoor
