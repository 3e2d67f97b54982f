/- The best choice, of the code. No statement is proved here. -/
import Derived.Test.YtcfmjpnffembpaaGreatZL10M
namespace Go.Proofs.YtcfmjpnffembpaaGreat
open Go.ChangeShapes Go.WideShapes Go.ChangeAt Go.RowKit
set_option linter.unusedVariables false
set_option linter.unusedSimpArgs false
set_option maxHeartbeats 4000000
set_option maxRecDepth 100000
theorem N_Format (k r : Int) (m : List Int) (n : Nat) (hm : List.length m = n) (h1 : n ≤ 1000000) : Fun 103 [.agg [iC k, iC r, .d (D.sl (dI .i64 m) n)]] (toG []) 0 (.e (.agg [iC k, iC r, .d (D.sl (dI .i64 m) n)])) (toG []) 0 := by
 refine Fun.mk (n := 8) Tryz.func103 rfl rfl (Nat.le_of_ble_eq_true rfl) ?_
 intro cx hcx
 refine y9r [.no, .no] True [(1, rV 0 0), (2, rV 1 0)] [(0, some (25, .ds [iD k, iD r, dl m n])), (1, some (25, .ds [iD 0, iD 0, nl9]))] 2 trivial ?_
 refine y9r [.no, .no, .call [] (oV 0 0 n 1) [(0, some (3, .ds (dI .i64 m)))] 1 [] none, .no, .no] _ [(1, rV 0 0), (2, rV 1 0)] [(0, some (25, .cs [iC k, iC r, .own 2 0 n 1 true])), (1, some (25, .ds [iD 0, iD 0, nl9])), (2, some (3, .ds (dI .i64 m)))] 3 (C_Clone_i64 m n zo zo) ?_
 refine y9r [.no, .no] True [(2, rV 1 0)] [(1, some (25, .cs [iC k, iC r, .own 2 0 n 1 true])), (2, some (3, .ds (dI .i64 m)))] 3 trivial ?_
 refine AW.freeze 2 (l' := [(2, rV 1 0)]) (g' := [(1, some (25, .ds [iD k, iD r, dl m n]))]) rfl (FzS.cons rfl (.same _) FzS.nil) (FzG.to (bc := .cs [iC k, iC r, .own 2 0 n 1 true]) rfl (by rfl) (FzL.cons (.same _) (FzL.cons (.same _) (FzL.cons (@FzC.own 2 ((dI .i64 m) : List D) 0 n 1 true ((dI .i64 m) : List D) (by rw [List.drop_zero, Nat.mul_one, List.take_of_length_le (by first | omega | (simp only [msD_len, bxD_len, dI_len, List.length_append, List.length_cons, List.length_nil, List.length_take, List.length_drop, List.length_replicate, List.length_set, List.length_map, List.length_reverse, Nat.mul_one] <;> omega))]) (by first | omega | (simp only [msD_len, bxD_len, dI_len, List.length_append, List.length_cons, List.length_nil, List.length_take, List.length_drop, List.length_replicate, List.length_set, List.length_map, List.length_reverse, Nat.mul_one] <;> omega) | rfl)) FzL.nil))) FzG.nil) ?_
 refine AW.ret ?_
 exact EndP.of (.inr rfl) [] (P := (q9i k) ∧ (q9i r) ∧ (q9d (dI .i64 m)) ∧ (q9n n)) zk ⟨rfl, rfl, rfl, rfl⟩
theorem N_Choice (k r : Int) (m : List Int) (n : Nat) (z : Int) (hm : List.length m = n) (h1 : n ≤ 1000000) : Fun 60 [.agg [iC k, iC r, .d (D.sl (dI .i64 m) n), iC z]] (toG []) 0 (.e (.agg [iC k, iC r, .d (D.sl (dI .i64 m) n), iC z])) (toG []) 0 := by
 refine Fun.mk (n := 8) Tryz.func60 rfl rfl (Nat.le_of_ble_eq_true rfl) ?_
 intro cx hcx
 refine y9r [.no, .no] True [(1, rV 0 0), (2, rV 1 0)] [(0, some (27, .ds [iD k, iD r, dl m n, iD z])), (1, some (27, .ds [iD 0, iD 0, nl9, iD 0]))] 2 trivial ?_
 refine y9s [.no, .no, .call [] (.e (.agg [iC k, iC r, .d (dl m n)])) [] 0 [] none, .no, .no] _ [(1, rV 0 0), (2, rV 1 0)] (N_Format k r m n zo zo) ?_
 refine y9r [.no, .no] True [(2, rV 1 0)] [(1, some (27, .ds [iD k, iD r, dl m n, iD z]))] 2 trivial ?_
 refine AW.ret ?_
 exact EndP.of (.inr rfl) [] (P := (q9i k) ∧ (q9i r) ∧ (q9d (dI .i64 m)) ∧ (q9n n) ∧ (q9i z)) zk ⟨rfl, rfl, rfl, rfl, rfl⟩
theorem N_best1 (w a b : List Int) (o n m : Nat) (wk wr wz : Int) (ho : List.length w = o) (hn : List.length a = n) (hm : List.length b = m) (h1 : o ≤ 1000000) (h2 : n ≤ 1000000) (h3 : m ≤ 1000000) : Fun 102 [.c (.d (D.sl (dI .i64 a) n)), .c (.d (D.sl (dI .i64 b) m)), .c (.ptr 0 0)] (toG [(0, some (27, .ds [iD wk, iD wr, D.sl (dI .i64 w) o, iD wz]))]) 1 (iV (mpV w a b)) (toG [(0, some (27, .ds [iD wk, iD wr, D.sl (dI .i64 w) o, iD wz]))]) 1 := by
 refine Fun.mk (n := 12) Tryz.func102 rfl rfl (Nat.le_of_ble_eq_true rfl) ?_
 intro cx hcx
 refine y9r [.no] True [(0, sV .i64 a n), (1, sV .i64 b m), (2, rV 0 0)] [(0, some (27, .ds [iD wk, iD wr, dl w o, iD wz]))] 1 trivial ?_
 have hx1 : ((((-1) : Int) ≤ (mpV w a b)) ∧ ((mpV w a b) ≤ 1)) := mpV_rng w a b
 refine y9s (nz9 5 [.call [] (iV (mpV w a b)) [] 0 [] none, .no]) _ [(5, iV (mpV w a b))] (Y_maps w a b o n m zo zo zo zo zo zo) ?_
 refine AW.ret ?_
 exact EndP.of (.inr rfl) [] (P := (q9i (mpV w a b)) ∧ (q9d [iD wk, iD wr, dl w o, iD wz])) zk ⟨rfl, rfl⟩
theorem zl10n1 {p : Prop} (h : p := by first | omega | (simp only [msD_len, bxD_len, List.length_append, List.length_cons, List.length_nil, List.length_take, List.length_drop] <;> omega)) : p := h
theorem zl10n4 {p : Prop} (h : p := by first | omega | assumption | simp) : p := h
theorem zl10n0 {p : Prop} (h : p := by first | omega | with_reducible assumption | (simp only [msD_len, bxD_len, List.length_append, List.length_cons, List.length_nil, List.length_take, List.length_drop, List.length_replicate, List.length_set] <;> omega) | rfl | assumption) : p := h
theorem zl10n2 {p : Prop} (h : p := by first | rfl | omega | assumption | (simp; done) | (simp; omega)) : p := h
theorem zl10n3 {p : Prop} (h : p := by first | omega | (show _ < _; simp; omega)) : p := h
abbrev t0N4_0 (wk : Int) (wr : Int) (w : List Int) (wn : Nat) (wz : Int) : BC := .ds [iD wk, iD wr, D.sl (dI .i64 w) wn, iD wz]
theorem N_min (m : List (List Int)) (c : Nat) (wk wr : Int) (w : List Int) (wn : Nat) (wz : Int) (hc : List.length m = c) (h3 : c ≤ 1000000) (h4 : 1 ≤ c) (hW : MsW m) (hw : List.length w = wn) (h5 : wn ≤ 1000000) : Fun 101 [.c (.d (D.sl (msD m) c)), .c (.fn 102 [(0, 0)])] (toG [(0, some (27, .ds [iD wk, iD wr, D.sl (dI .i64 w) wn, iD wz]))]) 1 (sV .i64 (bmM w m c) (List.length (bmM w m c))) (toG [(0, some (27, .ds [iD wk, iD wr, D.sl (dI .i64 w) wn, iD wz]))]) 1 := by
 refine Fun.mk (n := 33) Tryz.func101 rfl rfl (Nat.le_of_ble_eq_true rfl) ?_
 intro cx hcx
 refine y9r [.no] True [(0, .e (.c (.d (D.sl (msD m) c)))), (1, .e (.c (.fn 102 [(0, 0)])))] [(0, some (27, (t0N4_0 wk wr w wn wz)))] 1 trivial ?_
 refine AW.seq ?_
 refine y9s [.no, .no, .b false] (¬ ((c : Int) < 1)) [(0, .e (.c (.d (D.sl (msD m) c)))), (1, .e (.c (.fn 102 [(0, 0)]))), (9, bV false)] zo ?_
 refine zfs ?_
 have hx1 : ((List.length (List.getD m 0 ([] : List Int))) ≤ 1000000) := MsW.at (show MsW m by with_reducible assumption) _
 refine y9s [.no, .n 0, .d (dl (List.getD m 0 ([] : List Int)) (List.length (List.getD m 0 ([] : List Int)))), .no] ((q9i 0) ∧ ((0 : Nat) < c) ∧ ((List.drop 0 (msD m))[0]? = some (dl (List.getD m 0 ([] : List Int)) (List.length (List.getD m 0 ([] : List Int)))))) [(0, .e (.c (.d (D.sl (msD m) c)))), (1, .e (.c (.fn 102 [(0, 0)]))), (5, sV .i64 (List.getD m 0 ([] : List Int)) (List.length (List.getD m 0 ([] : List Int))))] ⟨rfl, zo, (msD_at _ _ zl10n1)⟩ ?_
 refine AW.seq ?_
 refine y9s [.no] True [(0, .e (.c (.d (D.sl (msD m) c)))), (1, .e (.c (.fn 102 [(0, 0)]))), (5, sV .i64 (List.getD m 0 ([] : List Int)) (List.length (List.getD m 0 ([] : List Int)))), (6, iV 1)] trivial ?_
 refine AW.block ?_
 refine AW.loopE 1 hcx (fun (x : {x : Nat × List Int // match x with | (j, u) => (1 ≤ j ∧ j ≤ c) ∧ (bmM w m j = u) ∧ (List.length u ≤ 1000000)}) => match x with | ⟨(j, u), _⟩ => (⟨[(0, .e (.c (.d (D.sl (msD m) c)))), (1, .e (.c (.fn 102 [(0, 0)]))), (5, sV .i64 u (List.length u)), (6, uV j)], [(0, some (27, (t0N4_0 wk wr w wn wz)))], 1⟩ : ES)) (fun x => match x with | ⟨(j, u), _⟩ => c - j) ⟨((1 : Nat), ((List.getD m 0 ([] : List Int)) : List Int)), ⟨zl10n4, (bm_1 rfl), zo⟩⟩ [] (P := (q9d (msD m)) ∧ (q9n c) ∧ (q9d (dI .i64 (List.getD m 0 ([] : List Int)))) ∧ (q9n (List.length (List.getD m 0 ([] : List Int)))) ∧ (q9i 1) ∧ (q9d [iD wk, iD wr, dl w wn, iD wz])) zk ⟨rfl, rfl, rfl, rfl, rfl, rfl⟩ ?_
 rintro ⟨⟨j, u⟩, hinv0⟩
 obtain ⟨hj, hu, hul⟩ : (1 ≤ j ∧ j ≤ c) ∧ (bmM w m j = u) ∧ (List.length u ≤ 1000000) := hinv0
 refine AW.es (l := [(0, .e (.c (.d (D.sl (msD m) c)))), (1, .e (.c (.fn 102 [(0, 0)]))), (5, sV .i64 u (List.length u)), (6, uV j)]) (g := [(0, some (27, (t0N4_0 wk wr w wn wz)))]) (nx := 1) rfl rfl rfl ?_
 refine AW.seq ?_
 by_cases hx2 : (((j : Nat) : Int) < ((c : Nat) : Int))
 ·refine y9r [.no, .no, .no, .b true] (((j : Int) < (c : Int))) [(0, .e (.c (.d (D.sl (msD m) c)))), (1, .e (.c (.fn 102 [(0, 0)]))), (5, sV .i64 u (List.length u)), (6, uV j), (17, bV true)] [(0, some (27, (t0N4_0 wk wr w wn wz)))] 1 zo ?_
  refine zts ?_
  refine AW.seq ?_
  refine AW.block ?_
  by_cases hx5 : ((mpV w (List.getD m j ([] : List Int)) u) < 0)
  ·have hx6 : ((List.length (List.getD m j ([] : List Int))) ≤ 1000000) := MsW.at (show MsW m by with_reducible assumption) _
   have hx7 : ((((-1) : Int) ≤ (mpV w (List.getD m j ([] : List Int)) u)) ∧ ((mpV w (List.getD m j ([] : List Int)) u) ≤ 1)) := mpV_rng w (List.getD m j ([] : List Int)) u
   refine y9s [.no, .no, .no, .n j, .d (dl (List.getD m j ([] : List Int)) (List.length (List.getD m j ([] : List Int)))), .no, .call [0] (iV (mpV w (List.getD m j ([] : List Int)) u)) [(0, some (27, (t0N4_0 wk wr w wn wz)))] 1 [] none, .b true] ((q9i (j : Int)) ∧ (j < c) ∧ ((List.drop j (msD m))[0]? = some (dl (List.getD m j ([] : List Int)) (List.length (List.getD m j ([] : List Int))))) ∧ (_) ∧ (((mpV w (List.getD m j ([] : List Int)) u) < 0))) [(0, .e (.c (.d (D.sl (msD m) c)))), (1, .e (.c (.fn 102 [(0, 0)]))), (5, sV .i64 u (List.length u)), (6, uV j), (27, bV true)] ⟨rfl, zo, (msD_at _ _ zl10n1), (N_best1 w (List.getD m j ([] : List Int)) u wn (List.length (List.getD m j ([] : List Int))) (List.length u) wk wr wz zo rfl rfl zo zl10n0 zo), zo⟩ ?_
   refine zt ?_
   refine y9h [.no, .no, .n j, .d (dl (List.getD m j ([] : List Int)) (List.length (List.getD m j ([] : List Int)))), .no] ((q9i (j : Int)) ∧ (j < c) ∧ ((List.drop j (msD m))[0]? = some (dl (List.getD m j ([] : List Int)) (List.length (List.getD m j ([] : List Int)))))) [(0, .e (.c (.d (D.sl (msD m) c)))), (1, .e (.c (.fn 102 [(0, 0)]))), (5, sV .i64 (List.getD m j ([] : List Int)) (List.length (List.getD m j ([] : List Int)))), (6, uV j)] ⟨rfl, zo, (msD_at _ _ zl10n1)⟩ ?_
   refine y9h [.no, .w, .no] ((-9223372036854775808) ≤ ((j : Int) + 1) ∧ ((j : Int) + 1) ≤ 9223372036854775807) [(0, .e (.c (.d (D.sl (msD m) c)))), (1, .e (.c (.fn 102 [(0, 0)]))), (5, sV .i64 (List.getD m j ([] : List Int)) (List.length (List.getD m j ([] : List Int)))), (6, iV (↑j + 1))] ⟨by omega, by omega⟩ ?_
   exact Rd.of ⟨(((j + 1) : Nat), ((List.getD m j ([] : List Int)) : List Int)), ⟨zl10n4, (by first | exact bm_y hu zo rfl | exact bm_n hu zo zo), (by first | omega | assumption)⟩⟩ [] (P := (q9d (msD m)) ∧ (q9n c) ∧ (q9d (dI .i64 (List.getD m j ([] : List Int)))) ∧ (q9n (List.length (List.getD m j ([] : List Int)))) ∧ (((((j + 1) : Nat) : Int) : Int) = ((j : Int) + 1)) ∧ (q9d [iD wk, iD wr, dl w wn, iD wz])) zk ⟨rfl, rfl, rfl, rfl, zl10n2, rfl⟩ (show c - (j + 1) < c - j from zl10n3)
  ·have hx8 : ((List.length (List.getD m j ([] : List Int))) ≤ 1000000) := MsW.at (show MsW m by with_reducible assumption) _
   have hx9 : ((((-1) : Int) ≤ (mpV w (List.getD m j ([] : List Int)) u)) ∧ ((mpV w (List.getD m j ([] : List Int)) u) ≤ 1)) := mpV_rng w (List.getD m j ([] : List Int)) u
   refine y9s [.no, .no, .no, .n j, .d (dl (List.getD m j ([] : List Int)) (List.length (List.getD m j ([] : List Int)))), .no, .call [0] (iV (mpV w (List.getD m j ([] : List Int)) u)) [(0, some (27, (t0N4_0 wk wr w wn wz)))] 1 [] none, .b false] ((q9i (j : Int)) ∧ (j < c) ∧ ((List.drop j (msD m))[0]? = some (dl (List.getD m j ([] : List Int)) (List.length (List.getD m j ([] : List Int))))) ∧ (_) ∧ (¬ ((mpV w (List.getD m j ([] : List Int)) u) < 0))) [(0, .e (.c (.d (D.sl (msD m) c)))), (1, .e (.c (.fn 102 [(0, 0)]))), (5, sV .i64 u (List.length u)), (6, uV j), (27, bV false)] ⟨rfl, zo, (msD_at _ _ zl10n1), (N_best1 w (List.getD m j ([] : List Int)) u wn (List.length (List.getD m j ([] : List Int))) (List.length u) wk wr wz zo rfl rfl zo zl10n0 zo), zo⟩ ?_
   refine zfs ?_
   refine y9h [.no, .w, .no] ((-9223372036854775808) ≤ ((j : Int) + 1) ∧ ((j : Int) + 1) ≤ 9223372036854775807) [(0, .e (.c (.d (D.sl (msD m) c)))), (1, .e (.c (.fn 102 [(0, 0)]))), (5, sV .i64 u (List.length u)), (6, iV (↑j + 1))] ⟨by omega, by omega⟩ ?_
   exact Rd.of ⟨(((j + 1) : Nat), (u : List Int)), ⟨zl10n4, (by first | exact bm_y hu zo rfl | exact bm_n hu zo zo), (by first | omega | assumption)⟩⟩ [] (P := (q9d (msD m)) ∧ (q9n c) ∧ (q9d (dI .i64 u)) ∧ (q9n (List.length u)) ∧ (((((j + 1) : Nat) : Int) : Int) = ((j : Int) + 1)) ∧ (q9d [iD wk, iD wr, dl w wn, iD wz])) zk ⟨rfl, rfl, rfl, rfl, zl10n2, rfl⟩ (show c - (j + 1) < c - j from zl10n3)
 ·refine y9r [.no, .no, .no, .b false] (¬ ((j : Int) < (c : Int))) [(0, .e (.c (.d (D.sl (msD m) c)))), (1, .e (.c (.fn 102 [(0, 0)]))), (5, sV .i64 u (List.length u)), (6, uV j), (17, bV false)] [(0, some (27, (t0N4_0 wk wr w wn wz)))] 1 zo ?_
  refine zf ?_
  refine AW.exit ?_
  refine y9r [.no, .no] True [(4, sV .i64 u (List.length u))] [(0, some (27, (t0N4_0 wk wr w wn wz)))] 1 trivial ?_
  have hz2 : bmM w m c = u := by have h9 := hu; rw [show j = c by omega] at h9; exact h9
  refine AW.ret ?_
  exact EndP.of (.inr rfl) [] (P := (((dI .i64 (bmM w m c)) : List D) = (dI .i64 u)) ∧ (((List.length (bmM w m c)) : Nat) = (List.length u)) ∧ (q9d [iD wk, iD wr, dl w wn, iD wz])) zk ⟨(by first | rfl | rw [hz2]), (by first | rfl | rw [hz2] | omega), rfl⟩
abbrev t0N5_0 : BC := .ds [iD 0, iD 0, D.lit (.slice none 0 0), iD 0]
abbrev t0N5_1 (k : Int) (r : List Int) (rn : Nat) (m : List (List Int)) (c : Nat) (s : List Int) (sn : Nat) : BC := .ds [iD k, D.sl (dI .i64 r) rn, D.sl (msD m) c, D.sl (dI .i64 s) sn]
abbrev t0N5_2 (wk : Int) (wr : Int) (w : List Int) (wn : Nat) (wz : Int) : BC := .ds [iD wk, iD wr, D.sl (dI .i64 w) wn, iD wz]
theorem N_bestOf (k : Int) (r : List Int) (rn : Nat) (m : List (List Int)) (c : Nat) (s : List Int) (sn : Nat) (wk wr : Int) (w : List Int) (wn : Nat) (wz : Int) (hr : List.length r = rn * 2) (hs : List.length s = sn * 2) (hc : List.length m = c) (h1 : rn ≤ 1000000) (h2 : sn ≤ 1000000) (h3 : c ≤ 1000000) (h4 : 1 ≤ c) (hW : MsW m) (hw : List.length w = wn) (h5 : wn ≤ 1000000) (hwr : -9223372036854775808 ≤ wr ∧ wr ≤ 9223372036854775807) (hwz : -9223372036854775808 ≤ wz ∧ wz ≤ 9223372036854775807) : Fun 59 [.agg [iC k, .d (D.sl (dI .i64 r) rn), .d (D.sl (msD m) c), .d (D.sl (dI .i64 s) sn)], .agg [iC wk, iC wr, .d (D.sl (dI .i64 w) wn), iC wz]] (toG []) 0 (.e (.agg [iC (bkK k wk 7), iC (neV wr (spS r rn)), .d (D.sl (dI .i64 (bmM w m c)) (List.length (bmM w m c))), iC (neV wz (spS s sn))])) (toG []) 0 := by
 refine Fun.mk (n := 63) Tryz.func59 rfl rfl (Nat.le_of_ble_eq_true rfl) ?_
 intro cx hcx
 refine y9r [.no, .no, .no] True [(2, rV 0 0), (3, rV 1 0), (4, rV 2 0)] [(0, some (59, (t0N5_1 k r rn m c s sn))), (1, some (27, (t0N5_2 wk wr w wn wz))), (2, some (27, t0N5_0))] 3 trivial ?_
 refine y9s [.no] True [(2, rV 0 0), (3, rV 1 0), (4, rV 2 0), (5, iV 0)] trivial ?_
 refine AW.seq ?_
 refine y9s [.no] True [(2, rV 0 0), (3, rV 1 0), (4, rV 2 0), (5, iV 0), (6, iV 1)] trivial ?_
 refine AW.block ?_
 refine AW.loopE 0 hcx (fun (x : {x : Nat × Int // match x with | (i, y) => (i ≤ 7 ∧ 0 ≤ y ∧ y ≤ 7) ∧ (bkK k wk i = y)}) => match x with | ⟨(i, y), _⟩ => (⟨[(2, rV 0 0), (3, rV 1 0), (4, rV 2 0), (5, iV y), (6, iV ((i : Int) + 1))], [(0, some (59, (t0N5_1 k r rn m c s sn))), (1, some (27, (t0N5_2 wk wr w wn wz))), (2, some (27, t0N5_0))], 3⟩ : ES)) (fun x => match x with | ⟨(i, y), _⟩ => 7 - i) ⟨((0 : Nat), (0 : Int)), ⟨zl10n4, rfl⟩⟩ [] (P := (q9n 0) ∧ (q9n 0) ∧ (q9n 0) ∧ (q9i 0) ∧ (q9i 1) ∧ (q9d [iD k, dl r rn, D.sl (msD m) c, dl s sn]) ∧ (q9d [iD wk, iD wr, dl w wn, iD wz]) ∧ (q9d [iD 0, iD 0, nl9, iD 0])) zk ⟨rfl, rfl, rfl, rfl, rfl, rfl, rfl, rfl⟩ ?_
 rintro ⟨⟨i, y⟩, hinv0⟩
 obtain ⟨hi, hy⟩ : (i ≤ 7 ∧ 0 ≤ y ∧ y ≤ 7) ∧ (bkK k wk i = y) := hinv0
 refine AW.es (l := [(2, rV 0 0), (3, rV 1 0), (4, rV 2 0), (5, iV y), (6, iV ((i : Int) + 1))]) (g := [(0, some (59, (t0N5_1 k r rn m c s sn))), (1, some (27, (t0N5_2 wk wr w wn wz))), (2, some (27, t0N5_0))]) (nx := 3) rfl rfl rfl ?_
 refine AW.seq ?_
 by_cases hx1 : ((((i : Nat) : Int) + 1) ≤ 7)
 ·refine y9r [.no, .b true] ((((i : Int) + 1) ≤ 7)) [(2, rV 0 0), (3, rV 1 0), (4, rV 2 0), (5, iV y), (6, iV (↑i + 1)), (13, bV true)] [(0, some (59, (t0N5_1 k r rn m c s sn))), (1, some (27, (t0N5_2 wk wr w wn wz))), (2, some (27, t0N5_0))] 3 zo ?_
  refine zts ?_
  refine AW.seq ?_
  refine AW.block ?_
  by_cases hx2 : ((odV (k / (((2 ^ (i + 1)) : Nat) : Int))) = 1)
  ·by_cases hx3 : (y = 0)
   ·refine y9s [.no, .no, .no, .n (i + 1), .i (odV (k / (((2 ^ (i + 1)) : Nat) : Int))), .b true, .no, .no, .b true, .no, .no, .no] (((((i : Int) + 1) : Int) = (((i + 1) : Nat) : Int)) ∧ ((i + 1) ≤ 64) ∧ (bitsI .and .i64 (k / (((2 ^ (i + 1)) : Nat) : Int)) 1 = (odV (k / (((2 ^ (i + 1)) : Nat) : Int)))) ∧ (((odV (k / (((2 ^ (i + 1)) : Nat) : Int))) = 1)) ∧ ((y = 0))) [(2, rV 0 0), (3, rV 1 0), (4, rV 2 0), (5, iV y), (6, iV (↑i + 1)), (34, bV true)] ⟨(by first | rfl | omega), zo, rfl, zo, zo⟩ ?_
    refine zt ?_
    refine y9h [.no, .no] True [(2, rV 0 0), (3, rV 1 0), (4, rV 2 0), (5, iV (↑i + 1)), (6, iV (↑i + 1))] trivial ?_
    refine y9h [.no, .w, .no] ((-9223372036854775808) ≤ (((i : Int) + 1) + 1) ∧ (((i : Int) + 1) + 1) ≤ 9223372036854775807) [(2, rV 0 0), (3, rV 1 0), (4, rV 2 0), (5, iV (↑i + 1)), (6, iV ((↑i + 1) + 1))] ⟨by omega, by omega⟩ ?_
    exact Rd.of ⟨(((i + 1) : Nat), (((i : Int) + 1) : Int)), ⟨zl10n4, (by first | exact bk_y hy (decide_eq_true ⟨by omega, by omega, by omega⟩) zo rfl | exact bk_k hy (decide_eq_false (fun e9 => by omega)) | exact bk_n hy zo zo)⟩⟩ [] (P := (q9n 0) ∧ (q9n 0) ∧ (q9n 0) ∧ (q9i ((i : Int) + 1)) ∧ ((((((i + 1) : Nat) : Int) + 1) : Int) = (((i : Int) + 1) + 1)) ∧ (q9d [iD k, dl r rn, D.sl (msD m) c, dl s sn]) ∧ (q9d [iD wk, iD wr, dl w wn, iD wz]) ∧ (q9d [iD 0, iD 0, nl9, iD 0])) zk ⟨rfl, rfl, rfl, rfl, zl10n2, rfl, rfl, rfl⟩ (show 7 - (i + 1) < 7 - i from zl10n3)
   ·by_cases hx5 : ((kdV wk (((i : Nat) : Int) + 1) y) < 0)
    ·have hx6 : ((((-1) : Int) ≤ (kdV wk (((i : Nat) : Int) + 1) y)) ∧ ((kdV wk (((i : Nat) : Int) + 1) y) ≤ 1)) := kdV_rng wk (((i : Nat) : Int) + 1) y
     refine y9s (.no :: .no :: .no :: .n (i + 1) :: .i (odV (k / (((2 ^ (i + 1)) : Nat) : Int))) :: .b true :: .no :: .no :: .b false :: nz9 6 [.call [] (iV (kdV wk ((i : Int) + 1) y)) [] 0 [] none, .b true, .no, .no]) (((((i : Int) + 1) : Int) = (((i + 1) : Nat) : Int)) ∧ ((i + 1) ≤ 64) ∧ (bitsI .and .i64 (k / (((2 ^ (i + 1)) : Nat) : Int)) 1 = (odV (k / (((2 ^ (i + 1)) : Nat) : Int)))) ∧ (((odV (k / (((2 ^ (i + 1)) : Nat) : Int))) = 1)) ∧ (¬ (y = 0)) ∧ (_) ∧ (((kdV wk ((i : Int) + 1) y) < 0))) [(2, rV 0 0), (3, rV 1 0), (4, rV 2 0), (5, iV y), (6, iV (↑i + 1)), (34, bV true)] ⟨(by first | rfl | omega), zo, rfl, zo, zo, (Y_kinds wk ((i : Int) + 1) y), zo⟩ ?_
     refine zt ?_
     refine y9h [.no, .no] True [(2, rV 0 0), (3, rV 1 0), (4, rV 2 0), (5, iV (↑i + 1)), (6, iV (↑i + 1))] trivial ?_
     refine y9h [.no, .w, .no] ((-9223372036854775808) ≤ (((i : Int) + 1) + 1) ∧ (((i : Int) + 1) + 1) ≤ 9223372036854775807) [(2, rV 0 0), (3, rV 1 0), (4, rV 2 0), (5, iV (↑i + 1)), (6, iV ((↑i + 1) + 1))] ⟨by omega, by omega⟩ ?_
     exact Rd.of ⟨(((i + 1) : Nat), (((i : Int) + 1) : Int)), ⟨zl10n4, (by first | exact bk_y hy (decide_eq_true ⟨by omega, by omega, by omega⟩) zo rfl | exact bk_k hy (decide_eq_false (fun e9 => by omega)) | exact bk_n hy zo zo)⟩⟩ [] (P := (q9n 0) ∧ (q9n 0) ∧ (q9n 0) ∧ (q9i ((i : Int) + 1)) ∧ ((((((i + 1) : Nat) : Int) + 1) : Int) = (((i : Int) + 1) + 1)) ∧ (q9d [iD k, dl r rn, D.sl (msD m) c, dl s sn]) ∧ (q9d [iD wk, iD wr, dl w wn, iD wz]) ∧ (q9d [iD 0, iD 0, nl9, iD 0])) zk ⟨rfl, rfl, rfl, rfl, zl10n2, rfl, rfl, rfl⟩ (show 7 - (i + 1) < 7 - i from zl10n3)
    ·have hx7 : ((((-1) : Int) ≤ (kdV wk (((i : Nat) : Int) + 1) y)) ∧ ((kdV wk (((i : Nat) : Int) + 1) y) ≤ 1)) := kdV_rng wk (((i : Nat) : Int) + 1) y
     refine y9s (.no :: .no :: .no :: .n (i + 1) :: .i (odV (k / (((2 ^ (i + 1)) : Nat) : Int))) :: .b true :: .no :: .no :: .b false :: nz9 6 [.call [] (iV (kdV wk ((i : Int) + 1) y)) [] 0 [] none, .b false, .no, .no]) (((((i : Int) + 1) : Int) = (((i + 1) : Nat) : Int)) ∧ ((i + 1) ≤ 64) ∧ (bitsI .and .i64 (k / (((2 ^ (i + 1)) : Nat) : Int)) 1 = (odV (k / (((2 ^ (i + 1)) : Nat) : Int)))) ∧ (((odV (k / (((2 ^ (i + 1)) : Nat) : Int))) = 1)) ∧ (¬ (y = 0)) ∧ (_) ∧ (¬ ((kdV wk ((i : Int) + 1) y) < 0))) [(2, rV 0 0), (3, rV 1 0), (4, rV 2 0), (5, iV y), (6, iV (↑i + 1)), (34, bV false)] ⟨(by first | rfl | omega), zo, rfl, zo, zo, (Y_kinds wk ((i : Int) + 1) y), zo⟩ ?_
     refine zfs ?_
     refine y9h [.no, .w, .no] ((-9223372036854775808) ≤ (((i : Int) + 1) + 1) ∧ (((i : Int) + 1) + 1) ≤ 9223372036854775807) [(2, rV 0 0), (3, rV 1 0), (4, rV 2 0), (5, iV y), (6, iV ((↑i + 1) + 1))] ⟨by omega, by omega⟩ ?_
     exact Rd.of ⟨(((i + 1) : Nat), (y : Int)), ⟨zl10n4, (by first | exact bk_y hy (decide_eq_true ⟨by omega, by omega, by omega⟩) zo rfl | exact bk_k hy (decide_eq_false (fun e9 => by omega)) | exact bk_n hy zo zo)⟩⟩ [] (P := (q9n 0) ∧ (q9n 0) ∧ (q9n 0) ∧ (q9i y) ∧ ((((((i + 1) : Nat) : Int) + 1) : Int) = (((i : Int) + 1) + 1)) ∧ (q9d [iD k, dl r rn, D.sl (msD m) c, dl s sn]) ∧ (q9d [iD wk, iD wr, dl w wn, iD wz]) ∧ (q9d [iD 0, iD 0, nl9, iD 0])) zk ⟨rfl, rfl, rfl, rfl, zl10n2, rfl, rfl, rfl⟩ (show 7 - (i + 1) < 7 - i from zl10n3)
  ·refine y9s [.no, .no, .no, .n (i + 1), .i (odV (k / (((2 ^ (i + 1)) : Nat) : Int))), .b false, .no, .no] (((((i : Int) + 1) : Int) = (((i + 1) : Nat) : Int)) ∧ ((i + 1) ≤ 64) ∧ (bitsI .and .i64 (k / (((2 ^ (i + 1)) : Nat) : Int)) 1 = (odV (k / (((2 ^ (i + 1)) : Nat) : Int)))) ∧ (¬ ((odV (k / (((2 ^ (i + 1)) : Nat) : Int))) = 1))) [(2, rV 0 0), (3, rV 1 0), (4, rV 2 0), (5, iV y), (6, iV (↑i + 1)), (34, bV false)] ⟨(by first | rfl | omega), zo, rfl, zo⟩ ?_
   refine zfs ?_
   refine y9h [.no, .w, .no] ((-9223372036854775808) ≤ (((i : Int) + 1) + 1) ∧ (((i : Int) + 1) + 1) ≤ 9223372036854775807) [(2, rV 0 0), (3, rV 1 0), (4, rV 2 0), (5, iV y), (6, iV ((↑i + 1) + 1))] ⟨by omega, by omega⟩ ?_
   exact Rd.of ⟨(((i + 1) : Nat), (y : Int)), ⟨zl10n4, (by first | exact bk_y hy (decide_eq_true ⟨by omega, by omega, by omega⟩) zo rfl | exact bk_k hy (decide_eq_false (fun e9 => by omega)) | exact bk_n hy zo zo)⟩⟩ [] (P := (q9n 0) ∧ (q9n 0) ∧ (q9n 0) ∧ (q9i y) ∧ ((((((i + 1) : Nat) : Int) + 1) : Int) = (((i : Int) + 1) + 1)) ∧ (q9d [iD k, dl r rn, D.sl (msD m) c, dl s sn]) ∧ (q9d [iD wk, iD wr, dl w wn, iD wz]) ∧ (q9d [iD 0, iD 0, nl9, iD 0])) zk ⟨rfl, rfl, rfl, rfl, zl10n2, rfl, rfl, rfl⟩ (show 7 - (i + 1) < 7 - i from zl10n3)
 ·refine y9r [.no, .b false] (¬ (((i : Int) + 1) ≤ 7)) [(2, rV 0 0), (3, rV 1 0), (4, rV 2 0), (5, iV y), (6, iV (↑i + 1)), (13, bV false)] [(0, some (59, (t0N5_1 k r rn m c s sn))), (1, some (27, (t0N5_2 wk wr w wn wz))), (2, some (27, t0N5_0))] 3 zo ?_
  refine zf ?_
  refine AW.exit ?_
  refine y9r (nz9 5 (.call [] (.tup [iE (neV wr (spS r rn)), .c (.d (D.lit (.bool (nrF wr (spS r rn)))))]) [] 0 [] none :: nz9 5 [])) _ [(2, rV 0 0), (3, rV 1 0), (4, rV 2 0), (5, iV y), (7, iV (neV wr (spS r rn)))] [(0, some (59, (t0N5_1 k r rn m c s sn))), (1, some (27, (t0N5_2 wk wr w wn wz))), (2, some (27, t0N5_0))] 3 (U_Near r rn wr zo zo zo) ?_
  refine y9s (nz9 4 (.call [] (.tup [iE (neV wz (spS s sn)), .c (.d (D.lit (.bool (nrF wz (spS s sn)))))]) [] 0 [] none :: nz9 5 [])) _ [(2, rV 0 0), (3, rV 1 0), (4, rV 2 0), (5, iV y), (7, iV (neV wr (spS r rn))), (9, iV (neV wz (spS s sn)))] (U_Near s sn wz zo zo zo) ?_
  have hx8 : ((List.length (bmM w m c)) ≤ 1000000) := bm_W ((show MsW m by with_reducible assumption)) c
  refine y9r [.no, .no, .no, .call [1] (sV .i64 (bmM w m c) (List.length (bmM w m c))) [(0, some (27, (t0N5_2 wk wr w wn wz)))] 1 [] none, .no] _ [(4, rV 2 0), (5, iV y), (7, iV (neV wr (spS r rn))), (9, iV (neV wz (spS s sn))), (11, sV .i64 (bmM w m c) (List.length (bmM w m c)))] [(2, some (27, t0N5_0))] 3 (N_min m c wk wr w wn wz zo zo zo (show MsW m by with_reducible assumption) zo zo) ?_
  refine y9r (nz9 7 []) True [(4, rV 2 0)] [(2, some (27, .ds [iD y, iD (neV wr (spS r rn)), dl (bmM w m c) (List.length (bmM w m c)), iD (neV wz (spS s sn))]))] 3 trivial ?_
  have hz1 : bkK k wk 7 = y := by have h9 := hy; rw [show i = 7 by omega] at h9; exact h9
  refine AW.ret ?_
  exact EndP.of (.inr rfl) [] (P := (((bkK k wk 7) : Int) = y) ∧ (q9i (neV wr (spS r rn))) ∧ (q9d (dI .i64 (bmM w m c))) ∧ (q9n (List.length (bmM w m c))) ∧ (q9i (neV wz (spS s sn)))) zk ⟨(by first | rfl | exact hz1 | omega), rfl, rfl, rfl, rfl⟩
abbrev t0N6_0 (w : List Int) (bs : List Bx) (j : Nat) := bmM w (qbM (bxL bs) j) (List.length (qbM (bxL bs) j))
abbrev t0N6_1 (w : List Int) (bs : List Bx) := bmM w (qbM (bxL bs) 0) (List.length (qbM (bxL bs) 0))
abbrev t0N6_2 (bs : List Bx) (j : Nat) := spS (qbR (bxL bs) j) (qbN (bxL bs) j)
abbrev t0N6_3 (bs : List Bx) (j : Nat) := spS (qbS (bxL bs) j) (qbT (bxL bs) j)
abbrev t0N6_4 (bs : List Bx) := spS (qbR (bxL bs) 0) (qbN (bxL bs) 0)
abbrev t0N6_5 (bs : List Bx) := spS (qbS (bxL bs) 0) (qbT (bxL bs) 0)
abbrev t0N6_6 : BC := .ds [iD 0, iD 0, D.lit (.slice none 0 0), iD 0]
abbrev t0N6_7 (bs : List Bx) (j : Nat) (wk : Int) (wr : Int) (w : List Int) (wz : Int) : BC := .ds [iD (bkK (qbK (bxL bs) j) wk 7), iD (neV wr (t0N6_2 bs j)), D.sl (dI .i64 (t0N6_0 w bs j)) (List.length (t0N6_0 w bs j)), iD (neV wz (t0N6_3 bs j))]
abbrev t0N6_8 (wk : Int) (wr : Int) (w : List Int) (wn : Nat) (wz : Int) : BC := .ds [iD wk, iD wr, D.sl (dI .i64 w) wn, iD wz]
abbrev t0N6_9 (yk : Int) (yr : Int) (u : List Int) (yz : Int) : BC := .ds [iD yk, iD yr, D.sl (dI .i64 u) (List.length u), iD yz]
abbrev t0N6_10 (bs : List Bx) (wk : Int) (wr : Int) (w : List Int) (wz : Int) : BC := .ds [iD (bkK (qbK (bxL bs) 0) wk 7), iD (neV wr (t0N6_4 bs)), D.sl (dI .i64 (t0N6_1 w bs)) (List.length (t0N6_1 w bs)), iD (neV wz (t0N6_5 bs))]
theorem N_Best1 (bs : List Bx) (n : Nat) (wk wr : Int) (w : List Int) (wn : Nat) (wz : Int) (hn : List.length bs = n) (h1 : n ≤ 1000000) (hW : BsW bs) (hw : List.length w = wn) (h5 : wn ≤ 1000000) (hwr : -9223372036854775808 ≤ wr ∧ wr ≤ 9223372036854775807) (hwz : -9223372036854775808 ≤ wz ∧ wz ≤ 9223372036854775807) (h9 : 1 ≤ List.length (bxL bs)) : Fun 26 [.c (.d (D.sl (bxD bs) n)), .agg [iC wk, iC wr, .d (D.sl (dI .i64 w) wn), iC wz]] (toG []) 0 (.tup [.agg [iC (beK bs wk wr w wz), iC (beR bs wk wr w wz), .d (D.sl (dI .i64 (beM bs wk wr w wz)) (List.length (beM bs wk wr w wz))), iC (beZ bs wk wr w wz)], .c (.d (D.lit (.bool true)))]) (toG []) 0 := by
 refine Fun.mk (n := 35) Tryz.func26 rfl rfl (Nat.le_of_ble_eq_true rfl) ?_
 intro cx hcx
 refine y9r [.no, .no, .no] True [(0, .e (.c (.d (D.sl (bxD bs) n)))), (3, rV 0 0), (4, rV 1 0)] [(0, some (27, (t0N6_8 wk wr w wn wz))), (1, some (27, t0N6_6))] 2 trivial ?_
 refine y9r [.no] True [(0, .e (.c (.d (D.sl (bxD bs) n)))), (3, rV 0 0), (4, rV 1 0), (6, rV 2 0)] [(0, some (27, (t0N6_8 wk wr w wn wz))), (1, some (27, t0N6_6)), (2, some (27, t0N6_6))] 3 trivial ?_
 refine y9s [.no] True [(0, .e (.c (.d (D.sl (bxD bs) n)))), (3, rV 0 0), (4, rV 1 0), (6, rV 2 0), (7, bV false)] trivial ?_
 refine AW.seq ?_
 have hx1 : ((List.length (bxL bs)) ≤ n) := (by have h9 := bxL_le bs; omega)
 refine y9s [.no, .call [] (.e (.c (.d (D.sl (bxD (bxL bs)) (List.length (bxL bs)))))) [] 0 [] none, .no, .no] _ [(3, rV 0 0), (4, rV 1 0), (6, rV 2 0), (7, bV false), (12, .e (.c (.d (D.sl (bxD (bxL bs)) (List.length (bxL bs)))))), (13, uV (List.length (bxL bs))), (14, iV 0)] (M_boxes bs n zo zo (show BsW bs by with_reducible assumption)) ?_
 refine AW.block ?_
 refine AW.peel 1 ?_
 refine AWp.s ?_
 refine y9r [.b true] (((0 : Int) < (List.length (bxL bs) : Int))) [(3, rV 0 0), (4, rV 1 0), (6, rV 2 0), (7, bV false), (12, .e (.c (.d (D.sl (bxD (bxL bs)) (List.length (bxL bs)))))), (13, uV (List.length (bxL bs))), (14, iV 0), (15, bV true)] [(0, some (27, (t0N6_8 wk wr w wn wz))), (1, some (27, t0N6_6)), (2, some (27, t0N6_6))] 3 zo ?_
 refine AW.seq ?_
 refine zts ?_
 refine AW.seq ?_
 refine AW.block ?_
 obtain ⟨hx2, hx3, hx4, hx5, hx6⟩ := BsW.at (bxL_W (show BsW bs by with_reducible assumption)) (0)
 have hx7 : ((1 : Nat) ≤ (List.length (qbM (bxL bs) 0))) := bxL_ne zo
 refine y9r [.n 0, .ds [iD (qbK (bxL bs) 0), dl (qbR (bxL bs) 0) (qbN (bxL bs) 0), D.sl (msD (qbM (bxL bs) 0)) (List.length (qbM (bxL bs) 0)), dl (qbS (bxL bs) 0) (qbT (bxL bs) 0)], .no, .no] ((q9i 0) ∧ ((0 : Nat) < (List.length (bxL bs))) ∧ (List.take 4 (List.drop 0 (bxD (bxL bs))) = [iD (qbK (bxL bs) 0), dl (qbR (bxL bs) 0) (qbN (bxL bs) 0), D.sl (msD (qbM (bxL bs) 0)) (List.length (qbM (bxL bs) 0)), dl (qbS (bxL bs) 0) (qbT (bxL bs) 0)]) ∧ (([iD (qbK (bxL bs) 0), dl (qbR (bxL bs) 0) (qbN (bxL bs) 0), D.sl (msD (qbM (bxL bs) 0)) (List.length (qbM (bxL bs) 0)), dl (qbS (bxL bs) 0) (qbT (bxL bs) 0)] : List D).length = 4)) [(3, rV 0 0), (4, rV 1 0), (6, rV 2 0), (7, bV false), (9, rV 3 0), (12, .e (.c (.d (D.sl (bxD (bxL bs)) (List.length (bxL bs)))))), (13, uV (List.length (bxL bs))), (14, iV 0)] [(0, some (27, (t0N6_8 wk wr w wn wz))), (1, some (27, t0N6_6)), (2, some (27, t0N6_6)), (3, some (59, .ds [iD (qbK (bxL bs) 0), dl (qbR (bxL bs) 0) (qbN (bxL bs) 0), D.sl (msD (qbM (bxL bs) 0)) (List.length (qbM (bxL bs) 0)), dl (qbS (bxL bs) 0) (qbT (bxL bs) 0)]))] 4 ⟨rfl, zo, (bx_at (i := 0) zl10n1), rfl⟩ ?_
 have hx8 : (((0 : Int) ≤ (bkK (qbK (bxL bs) 0) wk 7)) ∧ ((bkK (qbK (bxL bs) 0) wk 7) ≤ 7)) := bk_rng (qbK (bxL bs) 0) wk 7
 have hx9 : (((0 : Int) ≤ (neV wr (t0N6_4 bs))) ∧ ((neV wr (t0N6_4 bs)) ≤ 2147483647)) := ne_rng (zl10n0)
 have hx10 : (((0 : Int) ≤ (neV wz (t0N6_5 bs))) ∧ ((neV wz (t0N6_5 bs)) ≤ 2147483647)) := ne_rng (zl10n0)
 have hx11 : ((List.length (t0N6_1 w bs)) ≤ 1000000) := bm_W ((BsW.ms (bxL_W (show BsW bs by with_reducible assumption)) _)) (List.length (qbM (bxL bs) 0))
 refine y9r [.no, .no, .call [] (.e (.agg [iC (bkK (qbK (bxL bs) 0) wk 7), iC (neV wr (t0N6_4 bs)), .d (dl (t0N6_1 w bs) (List.length (t0N6_1 w bs))), iC (neV wz (t0N6_5 bs))])) [] 0 [] none, .no, .no] _ [(3, rV 0 0), (4, rV 1 0), (6, rV 2 0), (7, bV false), (10, rV 4 0), (12, .e (.c (.d (D.sl (bxD (bxL bs)) (List.length (bxL bs)))))), (13, uV (List.length (bxL bs))), (14, iV 0)] [(0, some (27, (t0N6_8 wk wr w wn wz))), (1, some (27, t0N6_6)), (2, some (27, t0N6_6)), (4, some (27, (t0N6_10 bs wk wr w wz)))] 5 (N_bestOf (qbK (bxL bs) 0) (qbR (bxL bs) 0) (qbN (bxL bs) 0) (qbM (bxL bs) 0) (List.length (qbM (bxL bs) 0)) (qbS (bxL bs) 0) (qbT (bxL bs) 0) wk wr w wn wz zl10n0 zl10n0 rfl zl10n0 zl10n0 zl10n0 zl10n0 (BsW.ms (bxL_W (show BsW bs by with_reducible assumption)) _) zo zo zo zo) ?_
 refine y9s (nz9 4 []) True [(3, rV 0 0), (4, rV 1 0), (6, rV 2 0), (7, bV false), (10, rV 4 0), (12, .e (.c (.d (D.sl (bxD (bxL bs)) (List.length (bxL bs)))))), (13, uV (List.length (bxL bs))), (14, iV 0), (29, bV true)] trivial ?_
 refine zt ?_
 refine y9g [.no, .no, .no] True [(3, rV 0 0), (4, rV 1 0), (6, rV 2 0), (7, bV true), (12, .e (.c (.d (D.sl (bxD (bxL bs)) (List.length (bxL bs)))))), (13, uV (List.length (bxL bs))), (14, iV 0)] [(0, some (27, (t0N6_8 wk wr w wn wz))), (1, some (27, t0N6_6)), (2, some (27, (t0N6_10 bs wk wr w wz)))] 5 trivial ?_
 refine y9h [.w, .no] ((-9223372036854775808) ≤ (1 : Int) ∧ (1 : Int) ≤ 9223372036854775807) [(3, rV 0 0), (4, rV 1 0), (6, rV 2 0), (7, bV true), (12, .e (.c (.d (D.sl (bxD (bxL bs)) (List.length (bxL bs)))))), (13, uV (List.length (bxL bs))), (14, iV 1)] ⟨by omega, by omega⟩ ?_
 refine AWp.z ?_
 refine AW.loopE 0 hcx (fun (x : {x : Nat × Int × Int × List Int × Int // match x with | (j, yk, yr, u, yz) => (1 ≤ j ∧ j ≤ List.length (bxL bs)) ∧ (BE (bxL bs) wk wr w wz j yk yr u yz) ∧ ((0 ≤ yk ∧ yk ≤ 7) ∧ (0 ≤ yr ∧ yr ≤ 2147483647) ∧ (0 ≤ yz ∧ yz ≤ 2147483647) ∧ List.length u ≤ 1000000)}) => match x with | ⟨(j, yk, yr, u, yz), _⟩ => (⟨[(3, rV 0 0), (4, rV 1 0), (6, rV 2 0), (7, bV true), (12, .e (.c (.d (D.sl (bxD (bxL bs)) (List.length (bxL bs)))))), (13, uV (List.length (bxL bs))), (14, uV j)], [(0, some (27, (t0N6_8 wk wr w wn wz))), (1, some (27, t0N6_6)), (2, some (27, (t0N6_9 yk yr u yz)))], 5⟩ : ES)) (fun x => match x with | ⟨(j, yk, yr, u, yz), _⟩ => List.length (bxL bs) - j) ⟨((1 : Nat), ((bkK (qbK (bxL bs) 0) wk 7) : Int), ((neV wr (t0N6_4 bs)) : Int), ((t0N6_1 w bs) : List Int), ((neV wz (t0N6_5 bs)) : Int)), ⟨zl10n4, (BE.first rfl rfl rfl rfl), zo⟩⟩ [] (P := (q9n 0) ∧ (q9n 0) ∧ (q9n 0) ∧ (true = true) ∧ (q9d (bxD (bxL bs))) ∧ (q9n (List.length (bxL bs))) ∧ (q9i (List.length (bxL bs) : Int)) ∧ (q9i 1) ∧ (q9d [iD wk, iD wr, dl w wn, iD wz]) ∧ (q9d [iD 0, iD 0, nl9, iD 0]) ∧ (q9d [iD (bkK (qbK (bxL bs) 0) wk 7), iD (neV wr (t0N6_4 bs)), dl (t0N6_1 w bs) (List.length (t0N6_1 w bs)), iD (neV wz (t0N6_5 bs))])) zk ⟨rfl, rfl, rfl, (by first | rfl | assumption | simp), rfl, rfl, rfl, rfl, rfl, rfl, rfl⟩ ?_
 rintro ⟨⟨j, yk, yr, u, yz⟩, hinv0⟩
 obtain ⟨hj, hE, hy⟩ : (1 ≤ j ∧ j ≤ List.length (bxL bs)) ∧ (BE (bxL bs) wk wr w wz j yk yr u yz) ∧ ((0 ≤ yk ∧ yk ≤ 7) ∧ (0 ≤ yr ∧ yr ≤ 2147483647) ∧ (0 ≤ yz ∧ yz ≤ 2147483647) ∧ List.length u ≤ 1000000) := hinv0
 refine AW.es (l := [(3, rV 0 0), (4, rV 1 0), (6, rV 2 0), (7, bV true), (12, .e (.c (.d (D.sl (bxD (bxL bs)) (List.length (bxL bs)))))), (13, uV (List.length (bxL bs))), (14, uV j)]) (g := [(0, some (27, (t0N6_8 wk wr w wn wz))), (1, some (27, t0N6_6)), (2, some (27, (t0N6_9 yk yr u yz)))]) (nx := 5) rfl rfl rfl ?_
 by_cases hx12 : (((j : Nat) : Int) < (((List.length (bxL bs)) : Nat) : Int))
 ·refine y9r [.b true] (((j : Int) < (List.length (bxL bs) : Int))) [(3, rV 0 0), (4, rV 1 0), (6, rV 2 0), (7, bV true), (12, .e (.c (.d (D.sl (bxD (bxL bs)) (List.length (bxL bs)))))), (13, uV (List.length (bxL bs))), (14, uV j), (15, bV true)] [(0, some (27, (t0N6_8 wk wr w wn wz))), (1, some (27, t0N6_6)), (2, some (27, (t0N6_9 yk yr u yz)))] 5 zo ?_
  refine AW.seq ?_
  refine zts ?_
  refine AW.seq ?_
  refine AW.block ?_
  obtain ⟨hx13, hx14, hx15, hx16, hx17⟩ := BsW.at (bxL_W (show BsW bs by with_reducible assumption)) (j)
  have hx18 : ((1 : Nat) ≤ (List.length (qbM (bxL bs) j))) := bxL_ne zo
  refine y9r [.n j, .ds [iD (qbK (bxL bs) j), dl (qbR (bxL bs) j) (qbN (bxL bs) j), D.sl (msD (qbM (bxL bs) j)) (List.length (qbM (bxL bs) j)), dl (qbS (bxL bs) j) (qbT (bxL bs) j)], .no, .no] ((q9i (j : Int)) ∧ (j < (List.length (bxL bs))) ∧ (List.take 4 (List.drop (j * 4) (bxD (bxL bs))) = [iD (qbK (bxL bs) j), dl (qbR (bxL bs) j) (qbN (bxL bs) j), D.sl (msD (qbM (bxL bs) j)) (List.length (qbM (bxL bs) j)), dl (qbS (bxL bs) j) (qbT (bxL bs) j)]) ∧ (([iD (qbK (bxL bs) j), dl (qbR (bxL bs) j) (qbN (bxL bs) j), D.sl (msD (qbM (bxL bs) j)) (List.length (qbM (bxL bs) j)), dl (qbS (bxL bs) j) (qbT (bxL bs) j)] : List D).length = 4)) [(3, rV 0 0), (4, rV 1 0), (6, rV 2 0), (7, bV true), (9, rV 5 0), (12, .e (.c (.d (D.sl (bxD (bxL bs)) (List.length (bxL bs)))))), (13, uV (List.length (bxL bs))), (14, uV j)] [(0, some (27, (t0N6_8 wk wr w wn wz))), (1, some (27, t0N6_6)), (2, some (27, (t0N6_9 yk yr u yz))), (5, some (59, .ds [iD (qbK (bxL bs) j), dl (qbR (bxL bs) j) (qbN (bxL bs) j), D.sl (msD (qbM (bxL bs) j)) (List.length (qbM (bxL bs) j)), dl (qbS (bxL bs) j) (qbT (bxL bs) j)]))] 6 ⟨rfl, zo, (bx_at zl10n1), rfl⟩ ?_
  have hx19 : (((0 : Int) ≤ (bkK (qbK (bxL bs) j) wk 7)) ∧ ((bkK (qbK (bxL bs) j) wk 7) ≤ 7)) := bk_rng (qbK (bxL bs) j) wk 7
  have hx20 : (((0 : Int) ≤ (neV wr (t0N6_2 bs j))) ∧ ((neV wr (t0N6_2 bs j)) ≤ 2147483647)) := ne_rng (zl10n0)
  have hx21 : (((0 : Int) ≤ (neV wz (t0N6_3 bs j))) ∧ ((neV wz (t0N6_3 bs j)) ≤ 2147483647)) := ne_rng (zl10n0)
  have hx22 : ((List.length (t0N6_0 w bs j)) ≤ 1000000) := bm_W ((BsW.ms (bxL_W (show BsW bs by with_reducible assumption)) _)) (List.length (qbM (bxL bs) j))
  refine y9r [.no, .no, .call [] (.e (.agg [iC (bkK (qbK (bxL bs) j) wk 7), iC (neV wr (t0N6_2 bs j)), .d (dl (t0N6_0 w bs j) (List.length (t0N6_0 w bs j))), iC (neV wz (t0N6_3 bs j))])) [] 0 [] none, .no, .no] _ [(3, rV 0 0), (4, rV 1 0), (6, rV 2 0), (7, bV true), (10, rV 6 0), (12, .e (.c (.d (D.sl (bxD (bxL bs)) (List.length (bxL bs)))))), (13, uV (List.length (bxL bs))), (14, uV j)] [(0, some (27, (t0N6_8 wk wr w wn wz))), (1, some (27, t0N6_6)), (2, some (27, (t0N6_9 yk yr u yz))), (6, some (27, (t0N6_7 bs j wk wr w wz)))] 7 (N_bestOf (qbK (bxL bs) j) (qbR (bxL bs) j) (qbN (bxL bs) j) (qbM (bxL bs) j) (List.length (qbM (bxL bs) j)) (qbS (bxL bs) j) (qbT (bxL bs) j) wk wr w wn wz zl10n0 zl10n0 rfl zl10n0 zl10n0 zl10n0 zl10n0 (BsW.ms (bxL_W (show BsW bs by with_reducible assumption)) _) zo zo zo zo) ?_
  by_cases hx24 : ((coK wk wr wz (bkK (qbK (bxL bs) j) wk 7) (neV wr (t0N6_2 bs j)) (neV wz (t0N6_3 bs j)) yk yr yz w (t0N6_0 w bs j) u) < 0)
  ·have hx25 : ((((-1) : Int) ≤ (coK wk wr wz (bkK (qbK (bxL bs) j) wk 7) (neV wr (t0N6_2 bs j)) (neV wz (t0N6_3 bs j)) yk yr yz w (t0N6_0 w bs j) u)) ∧ ((coK wk wr wz (bkK (qbK (bxL bs) j) wk 7) (neV wr (t0N6_2 bs j)) (neV wz (t0N6_3 bs j)) yk yr yz w (t0N6_0 w bs j) u) ≤ 1)) := coK_rng ..
   refine y9s (nz9 6 [.call [] (iV (coK wk wr wz (bkK (qbK (bxL bs) j) wk 7) (neV wr (t0N6_2 bs j)) (neV wz (t0N6_3 bs j)) yk yr yz w (t0N6_0 w bs j) u)) [] 0 [] none, .b true, .no]) ((_) ∧ (((coK wk wr wz (bkK (qbK (bxL bs) j) wk 7) (neV wr (t0N6_2 bs j)) (neV wz (t0N6_3 bs j)) yk yr yz w (t0N6_0 w bs j) u) < 0))) [(3, rV 0 0), (4, rV 1 0), (6, rV 2 0), (7, bV true), (10, rV 6 0), (12, .e (.c (.d (D.sl (bxD (bxL bs)) (List.length (bxL bs)))))), (13, uV (List.length (bxL bs))), (14, uV j), (29, bV true)] ⟨(Y_Compare wk wr wz (bkK (qbK (bxL bs) j) wk 7) (neV wr (t0N6_2 bs j)) (neV wz (t0N6_3 bs j)) yk yr yz w (t0N6_0 w bs j) u wn (List.length (t0N6_0 w bs j)) (List.length u) zo rfl rfl zo zl10n0 zo zo zl10n0 zo zo zl10n0 zo), zo⟩ ?_
   refine zt ?_
   refine y9g [.no, .no, .no] True [(3, rV 0 0), (4, rV 1 0), (6, rV 2 0), (7, bV true), (12, .e (.c (.d (D.sl (bxD (bxL bs)) (List.length (bxL bs)))))), (13, uV (List.length (bxL bs))), (14, uV j)] [(0, some (27, (t0N6_8 wk wr w wn wz))), (1, some (27, t0N6_6)), (2, some (27, (t0N6_7 bs j wk wr w wz)))] 7 trivial ?_
   refine y9h [.w, .no] ((-9223372036854775808) ≤ ((j : Int) + 1) ∧ ((j : Int) + 1) ≤ 9223372036854775807) [(3, rV 0 0), (4, rV 1 0), (6, rV 2 0), (7, bV true), (12, .e (.c (.d (D.sl (bxD (bxL bs)) (List.length (bxL bs)))))), (13, uV (List.length (bxL bs))), (14, iV (↑j + 1))] ⟨by omega, by omega⟩ ?_
   exact Rd.of ⟨(((j + 1) : Nat), ((bkK (qbK (bxL bs) j) wk 7) : Int), ((neV wr (t0N6_2 bs j)) : Int), ((t0N6_0 w bs j) : List Int), ((neV wz (t0N6_3 bs j)) : Int)), ⟨zl10n4, (by first | exact BE.y hE rfl rfl rfl rfl zo | exact BE.n hE zo zo), (by first | omega | assumption)⟩⟩ [] (P := (q9n 0) ∧ (q9n 0) ∧ (q9n 0) ∧ (true = true) ∧ (q9d (bxD (bxL bs))) ∧ (q9n (List.length (bxL bs))) ∧ (q9i (List.length (bxL bs) : Int)) ∧ (((((j + 1) : Nat) : Int) : Int) = ((j : Int) + 1)) ∧ (q9d [iD wk, iD wr, dl w wn, iD wz]) ∧ (q9d [iD 0, iD 0, nl9, iD 0]) ∧ (q9d [iD (bkK (qbK (bxL bs) j) wk 7), iD (neV wr (t0N6_2 bs j)), dl (t0N6_0 w bs j) (List.length (t0N6_0 w bs j)), iD (neV wz (t0N6_3 bs j))])) zk ⟨rfl, rfl, rfl, (by first | rfl | assumption | simp), rfl, rfl, rfl, zl10n2, rfl, rfl, rfl⟩ (show List.length (bxL bs) - (j + 1) < List.length (bxL bs) - j from zl10n3)
  ·have hx26 : ((((-1) : Int) ≤ (coK wk wr wz (bkK (qbK (bxL bs) j) wk 7) (neV wr (t0N6_2 bs j)) (neV wz (t0N6_3 bs j)) yk yr yz w (t0N6_0 w bs j) u)) ∧ ((coK wk wr wz (bkK (qbK (bxL bs) j) wk 7) (neV wr (t0N6_2 bs j)) (neV wz (t0N6_3 bs j)) yk yr yz w (t0N6_0 w bs j) u) ≤ 1)) := coK_rng ..
   refine y9s (nz9 6 [.call [] (iV (coK wk wr wz (bkK (qbK (bxL bs) j) wk 7) (neV wr (t0N6_2 bs j)) (neV wz (t0N6_3 bs j)) yk yr yz w (t0N6_0 w bs j) u)) [] 0 [] none, .b false, .no]) ((_) ∧ (¬ ((coK wk wr wz (bkK (qbK (bxL bs) j) wk 7) (neV wr (t0N6_2 bs j)) (neV wz (t0N6_3 bs j)) yk yr yz w (t0N6_0 w bs j) u) < 0))) [(3, rV 0 0), (4, rV 1 0), (6, rV 2 0), (7, bV true), (10, rV 6 0), (12, .e (.c (.d (D.sl (bxD (bxL bs)) (List.length (bxL bs)))))), (13, uV (List.length (bxL bs))), (14, uV j), (29, bV false)] ⟨(Y_Compare wk wr wz (bkK (qbK (bxL bs) j) wk 7) (neV wr (t0N6_2 bs j)) (neV wz (t0N6_3 bs j)) yk yr yz w (t0N6_0 w bs j) u wn (List.length (t0N6_0 w bs j)) (List.length u) zo rfl rfl zo zl10n0 zo zo zl10n0 zo zo zl10n0 zo), zo⟩ ?_
   refine zfs ?_
   refine y9g [.w, .no] ((-9223372036854775808) ≤ ((j : Int) + 1) ∧ ((j : Int) + 1) ≤ 9223372036854775807) [(3, rV 0 0), (4, rV 1 0), (6, rV 2 0), (7, bV true), (12, .e (.c (.d (D.sl (bxD (bxL bs)) (List.length (bxL bs)))))), (13, uV (List.length (bxL bs))), (14, iV (↑j + 1))] [(0, some (27, (t0N6_8 wk wr w wn wz))), (1, some (27, t0N6_6)), (2, some (27, (t0N6_9 yk yr u yz)))] 7 ⟨by omega, by omega⟩ ?_
   exact Rd.of ⟨(((j + 1) : Nat), (yk : Int), (yr : Int), (u : List Int), (yz : Int)), ⟨zl10n4, (by first | exact BE.y hE rfl rfl rfl rfl zo | exact BE.n hE zo zo), (by first | omega | assumption)⟩⟩ [] (P := (q9n 0) ∧ (q9n 0) ∧ (q9n 0) ∧ (true = true) ∧ (q9d (bxD (bxL bs))) ∧ (q9n (List.length (bxL bs))) ∧ (q9i (List.length (bxL bs) : Int)) ∧ (((((j + 1) : Nat) : Int) : Int) = ((j : Int) + 1)) ∧ (q9d [iD wk, iD wr, dl w wn, iD wz]) ∧ (q9d [iD 0, iD 0, nl9, iD 0]) ∧ (q9d [iD yk, iD yr, dl u (List.length u), iD yz])) zk ⟨rfl, rfl, rfl, (by first | rfl | assumption | simp), rfl, rfl, rfl, zl10n2, rfl, rfl, rfl⟩ (show List.length (bxL bs) - (j + 1) < List.length (bxL bs) - j from zl10n3)
 ·refine y9r [.b false] (¬ ((j : Int) < (List.length (bxL bs) : Int))) [(3, rV 0 0), (4, rV 1 0), (6, rV 2 0), (7, bV true), (12, .e (.c (.d (D.sl (bxD (bxL bs)) (List.length (bxL bs)))))), (13, uV (List.length (bxL bs))), (14, uV j), (15, bV false)] [(0, some (27, (t0N6_8 wk wr w wn wz))), (1, some (27, t0N6_6)), (2, some (27, (t0N6_9 yk yr u yz)))] 5 zo ?_
  refine AW.seq ?_
  refine zf ?_
  refine AW.exit ?_
  refine y9r [.no, .call [] (.e (.agg [iC yk, iC yr, .d (dl u (List.length u)), iC yz])) [] 0 [] none, .no, .no, .no] _ [(4, rV 1 0), (5, bV true)] [(1, some (27, (t0N6_9 yk yr u yz)))] 5 (N_Choice yk yr u (List.length u) yz rfl zo) ?_
  obtain ⟨hz1, hz2, hz3, hz4⟩ := hE.fin zo
  refine AW.ret ?_
  exact EndP.of (.inr rfl) [] (P := (((beK bs wk wr w wz) : Int) = yk) ∧ (((beR bs wk wr w wz) : Int) = yr) ∧ (((dI .i64 (beM bs wk wr w wz)) : List D) = (dI .i64 u)) ∧ (((List.length (beM bs wk wr w wz)) : Nat) = (List.length u)) ∧ (((beZ bs wk wr w wz) : Int) = yz) ∧ (true = true)) zk ⟨(by first | rfl | exact hz1 | exact hz2 | exact hz4 | rw [hz3] | omega), (by first | rfl | exact hz1 | exact hz2 | exact hz4 | rw [hz3] | omega), (by first | rfl | rw [hz3]), (by first | rfl | exact hz1 | exact hz2 | exact hz4 | rw [hz3] | omega), (by first | rfl | exact hz1 | exact hz2 | exact hz4 | rw [hz3] | omega), rfl⟩
end Go.Proofs.YtcfmjpnffembpaaGreat
