/- strings.Builder. No statement is proved here. -/
import Derived.Test.YtcmldnahohmieaaDoorLBy
namespace Go.Proofs.YtcmldnahohmieaaDoor
open Go.ChangeShapes Go.WideShapes Go.ChangeAt Go.RowKit
set_option linter.unusedVariables false
set_option linter.unusedSimpArgs false


theorem noEsc (v : Value) (w : World) : (callFunc 69 #[v]).run Tryd.prog w = .ok (.value v) w := by
  rw [run_callFunc_extern Tryd.func69 (by kernel_rfl) (by kernel_rfl) (by kernel_rfl) (e := Extern.AbiNoEscape.same) (by kernel_rfl), Lib.run_noEscape]; rfl

set_option maxHeartbeats 4000000 in
set_option maxRecDepth 100000 in
theorem B_cc0   : Fun 58 [.c (.ptr 0 0)] (toG [(0, some (57, .ds [D.lit ((.pointer none)), D.lit (.slice none 0 0)]))]) 1 (.tup []) (toG [(0, some (57, .cs [.ptr 0 0, .d (D.lit (.slice none 0 0))]))]) 1 := by
  refine Fun.mk (n := 20) Tryd.func58 rfl rfl (Nat.le_of_ble_eq_true rfl) ?_
  intro cx hcx
  refine AW.rgs [.no, .no, .no, .no, .no] [0, 6] [0] (P := True) (l' := [(0, rV 0 0), (6, bV true)]) (g' := [(0, some (57, .ds [D.lit ((.pointer none)), D.lit (.slice none 0 0)]))]) (nx' := 1) (by kernel_rfl) trivial ?_
  refine AW.cond_t (.tmp (Look.of rfl)) ?_
  refine AW.rg [.no, .no, .no, .w, .no, .no, .no, .no] [] [0] (P := (∀ (v : Value) (w : World), (callFunc 69 #[v]).run Tryd.prog w = .ok (.value v) w)) (l' := []) (g' := [(0, some (57, .cs [.ptr 0 0, .d (D.lit (.slice none 0 0))]))]) (nx' := 1) (by kernel_rfl) noEsc ?_
  exact EndP.of (.inl rfl) [] (P := ((0 : Nat) = 0) ∧ ((.slice none 0 0 : Value) = .slice none 0 0)) (by kernel_rfl) ⟨rfl, rfl⟩

set_option maxHeartbeats 4000000 in
set_option maxRecDepth 100000 in
theorem B_cc1 (l : List Int) (n : Nat)  : Fun 58 [.c (.ptr 0 0)] (toG [(0, some (57, .cs [.ptr 0 0, .own 1 0 n 1 true])), (1, some (5, .ds (dI .u8 l)))]) 2 (.tup []) (toG [(0, some (57, .cs [.ptr 0 0, .own 1 0 n 1 true])), (1, some (5, .ds (dI .u8 l)))]) 2 := by
  refine Fun.mk (n := 20) Tryd.func58 rfl rfl (Nat.le_of_ble_eq_true rfl) ?_
  intro cx hcx
  refine AW.rgs [.no, .no, .no, .no, .no] [0, 6] [0, 1] (P := True) (l' := [(0, rV 0 0), (6, bV false)]) (g' := [(0, some (57, .cs [.ptr 0 0, .own 1 0 n 1 true])), (1, some (5, .ds (dI .u8 l)))]) (nx' := 2) (by kernel_rfl) trivial ?_
  refine AW.cond_f (.tmp (Look.of rfl)) ?_
  refine AW.rgs [.no, .no, .no, .no, .no, .no] [19] [0, 1] (P := True) (l' := [(19, bV false)]) (g' := [(0, some (57, .cs [.ptr 0 0, .own 1 0 n 1 true])), (1, some (5, .ds (dI .u8 l)))]) (nx' := 2) (by kernel_rfl) trivial ?_
  refine AW.cond_f (.tmp (Look.of rfl)) ?_
  refine AW.skip ?_
  exact EndP.of (.inl rfl) [] (P := ((0 : Nat) = 0) ∧ ((0 : Nat) = 0) ∧ ((n : Nat) = n) ∧ (((dI .u8 l) : List D) = (dI .u8 l))) (by kernel_rfl) ⟨rfl, rfl, rfl, rfl⟩

set_option maxHeartbeats 4000000 in
set_option maxRecDepth 100000 in
theorem B_Len0   : Fun 45 [.c (.ptr 0 0)] (toG [(0, some (57, .ds [D.lit ((.pointer none)), D.lit (.slice none 0 0)]))]) 1 (iV 0) (toG [(0, some (57, .ds [D.lit ((.pointer none)), D.lit (.slice none 0 0)]))]) 1 := by
  refine Fun.mk (n := 8) Tryd.func45 rfl rfl (Nat.le_of_ble_eq_true rfl) ?_
  intro cx hcx
  refine AW.rgs [.no] [0] [0] (P := True) (l' := [(0, rV 0 0)]) (g' := [(0, some (57, .ds [D.lit ((.pointer none)), D.lit (.slice none 0 0)]))]) (nx' := 1) (by kernel_rfl) trivial ?_
  refine AW.rgs [.no, .no, .no, .no, .no, .no] [2] [0] (P := True) (l' := [(2, iV 0)]) (g' := [(0, some (57, .ds [D.lit ((.pointer none)), D.lit (.slice none 0 0)]))]) (nx' := 1) (by kernel_rfl) trivial ?_
  refine AW.ret ?_
  exact EndP.of (.inr rfl) [] (P := ((0 : Int) = 0) ∧ (([D.lit ((.pointer none)), D.lit (.slice none 0 0)] : List D) = [D.lit ((.pointer none)), D.lit (.slice none 0 0)])) (by kernel_rfl) ⟨rfl, rfl⟩

set_option maxHeartbeats 4000000 in
set_option maxRecDepth 100000 in
theorem B_Len1 (l : List Int) (n : Nat)  : Fun 45 [.c (.ptr 0 0)] (toG [(0, some (57, .cs [.ptr 0 0, .own 1 0 n 1 true])), (1, some (5, .ds (dI .u8 l)))]) 2 (iV ((n : Nat) : Int)) (toG [(0, some (57, .cs [.ptr 0 0, .own 1 0 n 1 true])), (1, some (5, .ds (dI .u8 l)))]) 2 := by
  refine Fun.mk (n := 8) Tryd.func45 rfl rfl (Nat.le_of_ble_eq_true rfl) ?_
  intro cx hcx
  refine AW.rgs [.no] [0] [0, 1] (P := True) (l' := [(0, rV 0 0)]) (g' := [(0, some (57, .cs [.ptr 0 0, .own 1 0 n 1 true])), (1, some (5, .ds (dI .u8 l)))]) (nx' := 2) (by kernel_rfl) trivial ?_
  refine AW.rgs [.no, .no, .no, .no, .no, .no] [2] [0, 1] (P := True) (l' := [(2, iV ↑n)]) (g' := [(0, some (57, .cs [.ptr 0 0, .own 1 0 n 1 true])), (1, some (5, .ds (dI .u8 l)))]) (nx' := 2) (by kernel_rfl) trivial ?_
  refine AW.ret ?_
  exact EndP.of (.inr rfl) [] (P := ((((n : Nat) : Int) : Int) = ((n : Nat) : Int)) ∧ ((0 : Nat) = 0) ∧ ((0 : Nat) = 0) ∧ ((n : Nat) = n) ∧ (((dI .u8 l) : List D) = (dI .u8 l))) (by kernel_rfl) ⟨rfl, rfl, rfl, rfl, rfl⟩

set_option maxHeartbeats 4000000 in
set_option maxRecDepth 100000 in
theorem B_Str0   : Fun 46 [.c (.ptr 0 0)] (toG [(0, some (57, .ds [D.lit ((.pointer none)), D.lit (.slice none 0 0)]))]) 1 (.e (.c (.d (D.lit (.string (strOfNums ([] : List Int))))))) (toG [(0, none)]) 1 := by
  refine Fun.mk (n := 14) Tryd.func46 rfl rfl (Nat.le_of_ble_eq_true rfl) ?_
  intro cx hcx
  refine AW.rgs [.no] [0] [0] (P := True) (l' := [(0, rV 0 0)]) (g' := [(0, some (57, .ds [D.lit ((.pointer none)), D.lit (.slice none 0 0)]))]) (nx' := 1) (by kernel_rfl) trivial ?_
  refine AW.rgs [.no, .no, .no, .no, .no, .no, .no, .no, .no, .no, .no, .no] [2] [0] (P := ((0 : Int) = 0)) (l' := [(2, .e (.c (.d (D.lit (.string (strOfNums ([] : List Int)))))))]) (g' := [(0, some (57, .ds [D.lit ((.pointer none)), D.lit (.slice none 0 0)]))]) (nx' := 1) (by kernel_rfl) (by omega) ?_
  refine AW.ret ?_
  exact EndP.of (.inr rfl) [] (P := ((.string (strOfNums ([] : List Int)) : Value) = .string (strOfNums ([] : List Int)))) (by kernel_rfl) rfl

set_option maxHeartbeats 4000000 in
set_option maxRecDepth 100000 in
theorem B_Str1 (l : List Int) (n : Nat) (hn : List.length l = n) (h1 : 1 ≤ n) (h2 : n ≤ 100000000) : Fun 46 [.c (.ptr 0 0)] (toG [(0, some (57, .cs [.ptr 0 0, .own 1 0 n 1 true])), (1, some (5, .ds (dI .u8 l)))]) 2 (.e (.c (.d (D.lit (.string (strOfNums l)))))) (toG [(0, none), (1, none)]) 2 := by
  refine Fun.mk (n := 14) Tryd.func46 rfl rfl (Nat.le_of_ble_eq_true rfl) ?_
  intro cx hcx
  refine AW.rgs [.no] [0] [0, 1] (P := True) (l' := [(0, rV 0 0)]) (g' := [(0, some (57, .cs [.ptr 0 0, .own 1 0 n 1 true])), (1, some (5, .ds (dI .u8 l)))]) (nx' := 2) (by kernel_rfl) trivial ?_
  refine AW.rgs [.no, .no, .no, .no, .no, .no, .no, .no, .no, .no, .st none l, .no] [2] [0] (P := (1 ≤ n) ∧ (((dI .u8 l) : List D) = dI .u8 l) ∧ ((((n : Nat) : Int) : Int) = (((l : List Int).length : Nat) : Int)) ∧ (1 ≤ (l : List Int).length) ∧ ((l : List Int).length ≤ 9223372036854775807)) (l' := [(2, .e (.c (.d (D.lit (.string (strOfNums l))))))]) (g' := [(0, some (57, .cs [.ptr 0 0, .own 1 0 n 1 true]))]) (nx' := 2) (by kernel_rfl) ⟨(by omega), rfl, (by first | omega | (simp only [bsD_len, List.length_append, List.length_cons, List.length_nil] <;> omega)), (by first | omega | (simp only [bsD_len, List.length_append, List.length_cons, List.length_nil] <;> omega)), (by first | omega | (simp only [bsD_len, List.length_append, List.length_cons, List.length_nil] <;> omega))⟩ ?_
  refine AW.ret ?_
  exact EndP.of (.inr rfl) [] (P := ((.string (strOfNums l) : Value) = .string (strOfNums l))) (by kernel_rfl) rfl

set_option maxHeartbeats 4000000 in
set_option maxRecDepth 100000 in
theorem B_WB0 (x : Int)  : Fun 41 [.c (.ptr 0 0), .c (.d (D.lit (.int .u8 x)))] (toG [(0, some (57, .ds [D.lit ((.pointer none)), D.lit (.slice none 0 0)]))]) 1 (.e (.c (.d (D.lit ((.nilIface)))))) (toG [(0, some (57, .cs [.ptr 0 0, .own 1 0 1 1 true])), (1, some (5, .ds (dI .u8 ([x] : List Int))))]) 2 := by
  refine Fun.mk (n := 17) Tryd.func41 rfl rfl (Nat.le_of_ble_eq_true rfl) ?_
  intro cx hcx
  refine AW.rgs [.no] [0, 1] [0] (P := True) (l' := [(0, rV 0 0), (1, .e (.c (.d (D.lit (.int .u8 x)))))]) (g' := [(0, some (57, .ds [D.lit ((.pointer none)), D.lit (.slice none 0 0)]))]) (nx' := 1) (by kernel_rfl) trivial ?_
  refine AW.rgs [.no, .call [0] (.tup []) [(0, some (57, .cs [.ptr 0 0, .d (D.lit (.slice none 0 0))]))] 1 [] none] [0, 1] [0] (P := (_)) (l' := [(0, rV 0 0), (1, .e (.c (.d (D.lit (.int .u8 x)))))]) (g' := [(0, some (57, .cs [.ptr 0 0, .d (D.lit (.slice none 0 0))]))]) (nx' := 1) (by kernel_rfl) (B_cc0) ?_
  refine AW.rgs [.no, .no, .no, .no, .no, .no, .no, .ap none 1 [D.lit (.int .u8 x)], .no, .no, .no] [] [0, 2] (P := ([D.lit (.int .u8 x)].length = 1 * 1) ∧ ((1 : Nat) * 1 ≤ 140737488355328) ∧ ((1 : Nat) = 1) ∧ (([D.lit (.int .u8 x)] : List D) = [D.lit (.int .u8 x)])) (l' := []) (g' := [(0, some (57, .cs [.ptr 0 0, .own 2 0 1 1 true])), (2, some (5, .ds [D.lit (.int .u8 x)]))]) (nx' := 3) (by kernel_rfl) ⟨(by first | omega | (simp only [bsD_len, dI_len, List.length_append, List.length_cons, List.length_nil, List.length_take, List.length_drop, List.length_replicate, List.length_set, List.length_map, List.length_reverse, Nat.mul_one] <;> omega) | rfl), (by omega), rfl, rfl⟩ ?_
  refine AW.rgs [.no] [4] [0, 2] (P := True) (l' := [(4, .e (.c (.d (D.lit ((.nilIface))))))]) (g' := [(0, some (57, .cs [.ptr 0 0, .own 2 0 1 1 true])), (2, some (5, .ds [D.lit (.int .u8 x)]))]) (nx' := 3) (by kernel_rfl) trivial ?_
  refine AW.ret ?_
  exact EndP.of (.inr rfl) [(1, 2)] (P := (((.nilIface) : Value) = (.nilIface)) ∧ ((0 : Nat) = 0) ∧ ((0 : Nat) = 0) ∧ ((1 : Nat) = 1) ∧ (((dI .u8 ([x] : List Int)) : List D) = [D.lit (.int .u8 x)])) (by kernel_rfl) ⟨rfl, rfl, rfl, rfl, (by first | rfl | with_reducible assumption | (simp only [dI_take, dI_drop, dI_app]; rfl) | (congr 1; first | assumption | (simp; done) | omega))⟩

set_option maxHeartbeats 4000000 in
set_option maxRecDepth 100000 in
theorem B_WB1 (l : List Int) (n : Nat) (x : Int) (hn : List.length l = n) (h2 : n ≤ 100000000) : Fun 41 [.c (.ptr 0 0), .c (.d (D.lit (.int .u8 x)))] (toG [(0, some (57, .cs [.ptr 0 0, .own 1 0 n 1 true])), (1, some (5, .ds (dI .u8 l)))]) 2 (.e (.c (.d (D.lit ((.nilIface)))))) (toG [(0, some (57, .cs [.ptr 0 0, .own 2 0 (n + 1) 1 true])), (1, none), (2, some (5, .ds (dI .u8 (l ++ ([x] : List Int)))))]) 3 := by
  refine Fun.mk (n := 17) Tryd.func41 rfl rfl (Nat.le_of_ble_eq_true rfl) ?_
  intro cx hcx
  refine AW.rgs [.no] [0, 1] [0, 1] (P := True) (l' := [(0, rV 0 0), (1, .e (.c (.d (D.lit (.int .u8 x)))))]) (g' := [(0, some (57, .cs [.ptr 0 0, .own 1 0 n 1 true])), (1, some (5, .ds (dI .u8 l)))]) (nx' := 2) (by kernel_rfl) trivial ?_
  refine AW.rgs [.no, .call [0, 1] (.tup []) [(0, some (57, .cs [.ptr 0 0, .own 1 0 n 1 true])), (1, some (5, .ds (dI .u8 l)))] 2 [] none] [0, 1] [0, 1] (P := (_)) (l' := [(0, rV 0 0), (1, .e (.c (.d (D.lit (.int .u8 x)))))]) (g' := [(0, some (57, .cs [.ptr 0 0, .own 1 0 n 1 true])), (1, some (5, .ds (dI .u8 l)))]) (nx' := 2) (by kernel_rfl) (B_cc1 l n) ?_
  refine AW.rgs [.no, .no, .no, .no, .no, .no, .no, .ap none (n + 1) (dI .u8 (l ++ ([x] : List Int))), .no, .no, .no] [] [0, 3] (P := ([D.lit (.int .u8 x)].length = 1 * 1) ∧ (((dI .u8 l) : List D).length = n * 1) ∧ ((n + 1) * 1 ≤ 140737488355328) ∧ (n + 1 = (n + 1)) ∧ (((dI .u8 l) : List D) ++ [D.lit (.int .u8 x)] = (dI .u8 (l ++ ([x] : List Int))))) (l' := []) (g' := [(0, some (57, .cs [.ptr 0 0, .own 3 0 (n + 1) 1 true])), (3, some (5, .ds (dI .u8 (l ++ ([x] : List Int)))))]) (nx' := 4) (by kernel_rfl) ⟨(by first | omega | (simp only [bsD_len, dI_len, List.length_append, List.length_cons, List.length_nil, List.length_take, List.length_drop, List.length_replicate, List.length_set, List.length_map, List.length_reverse, Nat.mul_one] <;> omega) | rfl), (by first | omega | (simp only [bsD_len, dI_len, List.length_append, List.length_cons, List.length_nil, List.length_take, List.length_drop, List.length_replicate, List.length_set, List.length_map, List.length_reverse, Nat.mul_one] <;> omega) | rfl), (by omega), (by omega), (dI_app .u8 l ([x] : List Int))⟩ ?_
  refine AW.rgs [.no] [4] [0, 3] (P := True) (l' := [(4, .e (.c (.d (D.lit ((.nilIface))))))]) (g' := [(0, some (57, .cs [.ptr 0 0, .own 3 0 (n + 1) 1 true])), (3, some (5, .ds (dI .u8 (l ++ ([x] : List Int)))))]) (nx' := 4) (by kernel_rfl) trivial ?_
  refine AW.ret ?_
  exact EndP.of (.inr rfl) [(2, 3)] (P := (((.nilIface) : Value) = (.nilIface)) ∧ ((0 : Nat) = 0) ∧ ((0 : Nat) = 0) ∧ (((n + 1) : Nat) = (n + 1)) ∧ (((dI .u8 (l ++ ([x] : List Int))) : List D) = (dI .u8 (l ++ ([x] : List Int))))) (by kernel_rfl) ⟨rfl, rfl, rfl, rfl, rfl⟩

set_option maxHeartbeats 4000000 in
set_option maxRecDepth 100000 in
theorem B_WS0 (s : List Int) (hs : Byt s) (h2 : List.length s ≤ 100000000) : Fun 43 [.c (.ptr 0 0), .c (.d (D.lit (.string (strOfNums s))))] (toG [(0, some (57, .ds [D.lit ((.pointer none)), D.lit (.slice none 0 0)]))]) 1 (.tup [iE (((List.length s) : Nat) : Int), .c (.d (D.lit ((.nilIface))))]) (toG [(0, some (57, .cs [.ptr 0 0, .own 1 0 (List.length s) 1 true])), (1, some (5, .ds (dI .u8 s)))]) 2 := by
  refine Fun.mk (n := 19) Tryd.func43 rfl rfl (Nat.le_of_ble_eq_true rfl) ?_
  intro cx hcx
  refine AW.rgs [.no, .no] [0, 1] [0] (P := True) (l' := [(0, rV 0 0), (1, .e (.c (.d (D.lit (.string (strOfNums s))))))]) (g' := [(0, some (57, .ds [D.lit ((.pointer none)), D.lit (.slice none 0 0)]))]) (nx' := 1) (by kernel_rfl) trivial ?_
  refine AW.rgs [.no, .call [0] (.tup []) [(0, some (57, .cs [.ptr 0 0, .d (D.lit (.slice none 0 0))]))] 1 [] none] [0, 1] [0] (P := (_)) (l' := [(0, rV 0 0), (1, .e (.c (.d (D.lit (.string (strOfNums s))))))]) (g' := [(0, some (57, .cs [.ptr 0 0, .d (D.lit (.slice none 0 0))]))]) (nx' := 1) (by kernel_rfl) (B_cc0) ?_
  refine AW.rgs [.no, .no, .no, .no, .no, .no, .ap none (List.length s) (dI .u8 s), .no, .no, .no] [1] [0, 1] (P := (ByteArray.size (strOfNums s) * 1 ≤ 140737488355328) ∧ (ByteArray.size (strOfNums s) = (List.length s)) ∧ (dI .u8 (numsOf (strOfNums s)) = dI .u8 s)) (l' := [(1, .e (.c (.d (D.lit (.string (strOfNums s))))))]) (g' := [(0, some (57, .cs [.ptr 0 0, .own 1 0 (List.length s) 1 true])), (1, some (5, .ds (dI .u8 s)))]) (nx' := 2) (by kernel_rfl) ⟨(by have h9 : ByteArray.size (strOfNums s) = _ := (strOfNums_size s); (try simp only [List.length_append, List.length_take, List.length_drop, List.length_cons, List.length_nil] at h9); omega), (by have h9 : ByteArray.size (strOfNums s) = _ := (strOfNums_size s); (try simp only [List.length_append, List.length_take, List.length_drop, List.length_cons, List.length_nil] at h9); omega), (by rw [show numsOf (strOfNums s) = s from (numsOf_str (show Byt s by with_reducible assumption))])⟩ ?_
  refine AW.rgs [.no, .i (((List.length s) : Nat) : Int), .no, .no] [4, 5] [0, 1] (P := (((ByteArray.size (strOfNums s) : Nat) : Int) = ((((List.length s) : Nat) : Int) : Int))) (l' := [(4, iV (((List.length s) : Nat) : Int)), (5, .e (.c (.d (D.lit ((.nilIface))))))]) (g' := [(0, some (57, .cs [.ptr 0 0, .own 1 0 (List.length s) 1 true])), (1, some (5, .ds (dI .u8 s)))]) (nx' := 2) (by kernel_rfl) (by rw [strOfNums_size]) ?_
  refine AW.ret ?_
  exact EndP.of (.inr rfl) [] (P := (((((List.length s) : Nat) : Int) : Int) = (((List.length s) : Nat) : Int)) ∧ (((.nilIface) : Value) = (.nilIface)) ∧ ((0 : Nat) = 0) ∧ ((0 : Nat) = 0) ∧ (((List.length s) : Nat) = (List.length s)) ∧ (((dI .u8 s) : List D) = (dI .u8 s))) (by kernel_rfl) ⟨rfl, rfl, rfl, rfl, rfl, rfl⟩

set_option maxHeartbeats 4000000 in
set_option maxRecDepth 100000 in
theorem B_WS1 (l s : List Int) (n : Nat) (hn : List.length l = n) (h2 : n ≤ 100000000) (hs : Byt s) (h3 : List.length s ≤ 100000000) : Fun 43 [.c (.ptr 0 0), .c (.d (D.lit (.string (strOfNums s))))] (toG [(0, some (57, .cs [.ptr 0 0, .own 1 0 n 1 true])), (1, some (5, .ds (dI .u8 l)))]) 2 (.tup [iE (((List.length s) : Nat) : Int), .c (.d (D.lit ((.nilIface))))]) (toG [(0, some (57, .cs [.ptr 0 0, .own 2 0 (n + (List.length s)) 1 true])), (1, none), (2, some (5, .ds (dI .u8 (l ++ s))))]) 3 := by
  refine Fun.mk (n := 19) Tryd.func43 rfl rfl (Nat.le_of_ble_eq_true rfl) ?_
  intro cx hcx
  refine AW.rgs [.no, .no] [0, 1] [0, 1] (P := True) (l' := [(0, rV 0 0), (1, .e (.c (.d (D.lit (.string (strOfNums s))))))]) (g' := [(0, some (57, .cs [.ptr 0 0, .own 1 0 n 1 true])), (1, some (5, .ds (dI .u8 l)))]) (nx' := 2) (by kernel_rfl) trivial ?_
  refine AW.rgs [.no, .call [0, 1] (.tup []) [(0, some (57, .cs [.ptr 0 0, .own 1 0 n 1 true])), (1, some (5, .ds (dI .u8 l)))] 2 [] none] [0, 1] [0, 1] (P := (_)) (l' := [(0, rV 0 0), (1, .e (.c (.d (D.lit (.string (strOfNums s))))))]) (g' := [(0, some (57, .cs [.ptr 0 0, .own 1 0 n 1 true])), (1, some (5, .ds (dI .u8 l)))]) (nx' := 2) (by kernel_rfl) (B_cc1 l n) ?_
  refine AW.rgs [.no, .no, .no, .no, .no, .no, .ap none (n + (List.length s)) (dI .u8 (l ++ s)), .no, .no, .no] [1] [0, 2] (P := (((dI .u8 l) : List D).length = n) ∧ ((n + ByteArray.size (strOfNums s)) * 1 ≤ 140737488355328) ∧ (n + ByteArray.size (strOfNums s) = (n + (List.length s))) ∧ (((dI .u8 l) : List D) ++ dI .u8 (numsOf (strOfNums s)) = dI .u8 (l ++ s))) (l' := [(1, .e (.c (.d (D.lit (.string (strOfNums s))))))]) (g' := [(0, some (57, .cs [.ptr 0 0, .own 2 0 (n + (List.length s)) 1 true])), (2, some (5, .ds (dI .u8 (l ++ s))))]) (nx' := 3) (by kernel_rfl) ⟨(by first | omega | (simp only [bsD_len, dI_len, List.length_append, List.length_cons, List.length_nil, List.length_take, List.length_drop, List.length_replicate, List.length_set, List.length_map, List.length_reverse, Nat.mul_one] <;> omega) | rfl), (by have h9 : ByteArray.size (strOfNums s) = _ := (strOfNums_size s); (try simp only [List.length_append, List.length_take, List.length_drop, List.length_cons, List.length_nil] at h9); omega), (by have h9 : ByteArray.size (strOfNums s) = _ := (strOfNums_size s); (try simp only [List.length_append, List.length_take, List.length_drop, List.length_cons, List.length_nil] at h9); omega), (by rw [show numsOf (strOfNums s) = s from (numsOf_str (show Byt s by with_reducible assumption))]; first | rfl | exact dI_app _ _ _)⟩ ?_
  refine AW.rgs [.no, .i (((List.length s) : Nat) : Int), .no, .no] [4, 5] [0, 2] (P := (((ByteArray.size (strOfNums s) : Nat) : Int) = ((((List.length s) : Nat) : Int) : Int))) (l' := [(4, iV (((List.length s) : Nat) : Int)), (5, .e (.c (.d (D.lit ((.nilIface))))))]) (g' := [(0, some (57, .cs [.ptr 0 0, .own 2 0 (n + (List.length s)) 1 true])), (2, some (5, .ds (dI .u8 (l ++ s))))]) (nx' := 3) (by kernel_rfl) (by rw [strOfNums_size]) ?_
  refine AW.ret ?_
  exact EndP.of (.inr rfl) [] (P := (((((List.length s) : Nat) : Int) : Int) = (((List.length s) : Nat) : Int)) ∧ (((.nilIface) : Value) = (.nilIface)) ∧ ((0 : Nat) = 0) ∧ ((0 : Nat) = 0) ∧ (((n + (List.length s)) : Nat) = (n + (List.length s))) ∧ (((dI .u8 (l ++ s)) : List D) = (dI .u8 (l ++ s)))) (by kernel_rfl) ⟨rfl, rfl, rfl, rfl, rfl, rfl⟩

end Go.Proofs.YtcmldnahohmieaaDoor
