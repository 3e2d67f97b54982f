/- Merged texts. -/
import Derived.Test.YtbicifcgghmhaaaGreatZL10R
import Derived.Test.YtbicifcgghmhaaaGreatZL12U
import Derived.Test.YtbicifcgghmhaaaGreatZW12
namespace Go.Proofs.YtbicifcgghmhaaaGreat
open Go.ChangeShapes Go.WideShapes Go.ChangeAt Go.RowKit
set_option linter.unusedVariables false
set_option linter.unusedSimpArgs false
set_option maxHeartbeats 4000000
set_option maxRecDepth 100000
def pT (k r z j q y : Int) (m u : List Int) : Bool := decide (k = j ∧ r = q ∧ z = y ∧ m = u)
theorem v3l {k r z j q y : Int} {m u : List Int} (h : k = j ∧ r = q ∧ z = y) (h1 : aI m u = true) : pT k r z j q y m u = true := decide_eq_true ⟨h.1, h.2.1, h.2.2, k4t h1⟩
theorem u62 {k r z j q y : Int} {m u : List Int} (h : ¬ (k = j ∧ r = q ∧ z = y)) : pT k r z j q y m u = false := decide_eq_false fun e => h ⟨e.1, e.2.1, e.2.2.1⟩
theorem v3m {k r z j q y : Int} {m u : List Int} (h1 : aI m u = false) : pT k r z j q y m u = false := decide_eq_false fun e => k4r h1 e.2.2.2
theorem u9f {k r z j q y : Int} {m u : List Int} {w : Bool} (h : z = y) (h1 : pT k r 0 j q 0 m u = w) : pT k r z j q y m u = w := by
 subst h1; unfold pT; simp [h]
theorem u9g {k r z j q y : Int} {m u : List Int} : pT k r z j q y m u = true ↔ (⟨k, r, m, z⟩ : Co) = ⟨j, q, u, y⟩ := by
 unfold pT
 rw [decide_eq_true_iff, Co.mk.injEq]
 exact ⟨fun h => ⟨h.1, h.2.1, h.2.2.2, h.2.2.1⟩, fun h => ⟨h.1, h.2.1, h.2.2.2, h.2.2.1⟩⟩
theorem k2v (k r j q : Int) (m u : List Int) (a b : Nat) (ha : List.length m = a) (hb : List.length u = b) (h1 : a ≤ 1000000) (h2 : b ≤ 1000000) : Fun 57 [.agg [iC k, iC r, .d (D.sl (dI .i64 m) a)], .agg [iC j, iC q, .d (D.sl (dI .i64 u) b)]] (kF []) 0 (uJ (D.lit (.bool (pT k r 0 j q 0 m u)))) (kF []) 0 := by
 refine Fun.mk (n := 24) Tryz.func57 rfl rfl (Nat.le_of_ble_eq_true rfl) ?_
 intro cx hcx
 refine kH [.no, .no, .no] True [(2, rV 0 0), (3, rV 1 0)] [(0, some (40, .ds [iD k, iD r, dl m a])), (1, some (40, .ds [iD j, iD q, dl u b]))] 2 trivial ?_
 by_cases hx1 : (k = j)
 ·by_cases hx2 : (r = q)
  ·rcases Bool.eq_false_or_eq_true (aI m u) with hx3 | hx3
   ·refine kH (qD 4 (.b true :: qD 5 (.b true :: qD 6 [.call [] (bV true) [] 0 [] none, .no, .no]))) (((k = j)) ∧ ((r = q)) ∧ (Fun 87 [.c (.d (dl m a)), .c (.d (dl u b))] (kF []) 0 (bV true) (kF []) 0)) [(4, bV true)] [] 2 ⟨zo, zo, (by have h0 := (k2n m u a b zo zo zo zo); rw [hx3] at h0; exact h0)⟩ ?_
    refine AW.ret ?_
    exact kA (.inr rfl) [] (P := ((pT k r 0 j q 0 m u) = true)) zk (by exact v3l ⟨by omega, by omega, rfl⟩ (by assumption))
   ·refine kH (qD 4 (.b true :: qD 5 (.b true :: qD 6 [.call [] (bV false) [] 0 [] none, .no, .no]))) (((k = j)) ∧ ((r = q)) ∧ (Fun 87 [.c (.d (dl m a)), .c (.d (dl u b))] (kF []) 0 (bV false) (kF []) 0)) [(4, bV false)] [] 2 ⟨zo, zo, (by have h0 := (k2n m u a b zo zo zo zo); rw [hx3] at h0; exact h0)⟩ ?_
    refine AW.ret ?_
    exact kA (.inr rfl) [] (P := ((pT k r 0 j q 0 m u) = false)) zk (by exact v3m (by assumption))
  ·refine kH (qD 4 (.b true :: qD 5 (.b false :: qD 4 []))) (((k = j)) ∧ (¬ (r = q))) [(4, bV false)] [] 2 ⟨zo, zo⟩ ?_
   refine AW.ret ?_
   exact kA (.inr rfl) [] (P := ((pT k r 0 j q 0 m u) = false)) zk (by exact u62 (fun e9 => by omega))
 ·refine kH (qD 4 (.b false :: qD 5 [])) (¬ (k = j)) [(4, bV false)] [] 2 zo ?_
  refine AW.ret ?_
  exact kA (.inr rfl) [] (P := ((pT k r 0 j q 0 m u) = false)) zk (by exact u62 (fun e9 => by omega))
theorem u8h (k r z j q y : Int) (m u : List Int) (a b : Nat) (ha : List.length m = a) (hb : List.length u = b) (h1 : a ≤ 1000000) (h2 : b ≤ 1000000) : Fun 26 [.agg [iC k, iC r, .d (D.sl (dI .i64 m) a), iC z], .agg [iC j, iC q, .d (D.sl (dI .i64 u) b), iC y]] (kF []) 0 (uJ (D.lit (.bool (pT k r z j q y m u)))) (kF []) 0 := by
 refine Fun.mk (n := 17) Tryz.func26 rfl rfl (Nat.le_of_ble_eq_true rfl) ?_
 intro cx hcx
 refine kH [.no, .no, .no] True [(2, rV 0 0), (3, rV 1 0)] [(0, some (42, .ds [iD k, iD r, dl m a, iD z])), (1, some (42, .ds [iD j, iD q, dl u b, iD y]))] 2 trivial ?_
 by_cases hx1 : (z = y)
 ·rcases Bool.eq_false_or_eq_true (pT k r 0 j q 0 m u) with hx2 | hx2
  ·refine kH (qD 4 (.b true :: qD 5 [.call [] (bV true) [] 0 [] none, .no, .no])) (((z = y)) ∧ (Fun 57 [.agg [iC k, iC r, .d (dl m a)], .agg [iC j, iC q, .d (dl u b)]] (kF []) 0 (bV true) (kF []) 0)) [(4, bV true)] [] 2 ⟨zo, (by have h0 := (k2v k r j q m u a b zo zo zo zo); rw [hx2] at h0; exact h0)⟩ ?_
   refine AW.ret ?_
   exact kA (.inr rfl) [] (P := ((pT k r z j q y m u) = true)) zk (by exact u9f zo (by assumption))
  ·refine kH (qD 4 (.b true :: qD 5 [.call [] (bV false) [] 0 [] none, .no, .no])) (((z = y)) ∧ (Fun 57 [.agg [iC k, iC r, .d (dl m a)], .agg [iC j, iC q, .d (dl u b)]] (kF []) 0 (bV false) (kF []) 0)) [(4, bV false)] [] 2 ⟨zo, (by have h0 := (k2v k r j q m u a b zo zo zo zo); rw [hx2] at h0; exact h0)⟩ ?_
   refine AW.ret ?_
   exact kA (.inr rfl) [] (P := ((pT k r z j q y m u) = false)) zk (by exact u9f zo (by assumption))
 ·refine kH (qD 4 [.b false, .no, .no, .no]) (¬ (z = y)) [(4, bV false)] [] 2 zo ?_
  refine AW.ret ?_
  exact kA (.inr rfl) [] (P := ((pT k r z j q y m u) = false)) zk (by exact u62 (fun e9 => by omega))
end Go.Proofs.YtbicifcgghmhaaaGreat
namespace Go.Proofs.YtbicifcgghmhaaaGreat
open Go.ChangeShapes Go.WideShapes Go.ChangeAt Go.RowKit
set_option linter.unusedVariables false
set_option linter.unusedSimpArgs false
set_option maxHeartbeats 4000000
set_option maxRecDepth 100000
theorem k4a {p : Prop} (h : p := by rw [List.drop_zero, List.take_of_length_le (by (simp only [qA, k9, qS, qY, q5, vG, y4, vU, aB, qP, List.length_append, List.length_cons, List.length_nil, List.length_take, List.length_drop, List.length_replicate, List.length_set, List.length_map, List.length_reverse, Nat.mul_one] <;> omega))]) : p := h
theorem dZ {p : Prop} (h : p := by (simp only [qA, k9, qS, qY, q5, vG, y4, vU, aB, qP, List.length_append, List.length_cons, List.length_nil, List.length_take, List.length_drop, List.length_replicate, List.length_set, List.length_map, List.length_reverse, Nat.mul_one] <;> omega)) : p := h
theorem dY {p : Prop} (h : p := by with_reducible assumption) : p := h
theorem v2t (s : List Int) (n : Nat) (p : Int) (hy : Byt s) (hn : List.length s = n) (h1 : n ≤ 9223372036854775807) (hp : 0 ≤ p ∧ p ≤ 255) : Fun 8 [.c (.d (D.sl (dI .u8 s) n)), .c (.d (D.lit (.int .u8 p)))] (kF []) 0 (bV true) (kF []) 0 := by
  refine Fun.mk (n := 131) Tryz.func8 rfl rfl (Nat.le_of_ble_eq_true rfl) ?_
  intro cx hcx
  refine kH [.no] True [(0, sV .u8 s n), (1, uJ (D.lit (.int .u8 p)))] [] 0 trivial ?_
  refine AW.seq ?_
  refine kQ [.call [] (bV true) [] 0 [] none, .no] _ [(0, sV .u8 s n), (1, uJ (D.lit (.int .u8 p))), (21, bV false)] (u88) ?_
  refine uP ?_
  obtain ⟨ps1, np2, qp3, hx1, hx2, hx3, hx4, hF3⟩ := (u2t (q1T n s) (Byt.take (qC : Byt s) _))
  refine kH [.no, .call [] (rV 0 0) [(0, some (70, .ds [db (q1T n s) (List.length (q1T n s))]))] 1 [] none, .call [0] (oV 1 0 np2 2) [(0, some (70, .ds [db qp3 (List.length qp3)])), (1, some (47, .ds (qH ps1)))] 2 [] none, .no] ((_) ∧ (_)) [(1, uJ (D.lit (.int .u8 p))), (5, oV 1 0 np2 2)] [(1, some (47, .ds (qH ps1)))] 2 ⟨(v2u s n zo zo), hF3⟩ ?_
  refine kQ [.no] True [(1, uJ (D.lit (.int .u8 p))), (5, oV 1 0 np2 2), (6, nV)] trivial ?_
  refine AW.seq ?_
  refine AW.freeze 1 (l' := [(1, uJ (D.lit (.int .u8 p))), (5, qB (qH ps1) np2), (6, nV)]) (g' := []) rfl (FzS.cons rfl (.same _) (FzS.cons rfl (.e (.c (@FzC.own 1 ((qH ps1) : List D) 0 np2 2 true ((qH ps1) : List D) k4a dZ))) (FzS.cons rfl (.same _) FzS.nil))) FzG.nil ?_
  refine kH [.no, .no, .w, .no] (uZ ((np2 : Int) - 1)) [(1, uJ (D.lit (.int .u8 p))), (5, qB (qH ps1) np2), (6, nV), (7, iV (↑np2 - 1))] [] 2 ⟨by omega, by omega⟩ ?_
  refine AW.block ?_
  refine AW.adoptS 6 2 47 rfl ?_
  refine kX 0 hcx (fun (x : {x : Nat × Nat × List Pt // match x with | (i, j, bs) => (i + j = (np2)) ∧ (cN ps1 (np2) j = bs) ∧ (List.length bs = j)}) => match x with | ⟨(i, j, bs), _⟩ => (⟨[(1, uJ (D.lit (.int .u8 p))), (5, qB (qH ps1) np2), (6, oV 3 0 j 2), (7, iV ((i : Int) - 1))], [(3, some (47, .ds (qH bs)))], 4⟩ : ES)) (fun x => match x with | ⟨(i, j, bs), _⟩ => i) ⟨((np2 : Nat), (0 : Nat), (([] : List Pt) : List Pt)), ⟨zo, rfl, rfl⟩⟩ [(3, 2)] (P := (kM p) ∧ (kJ (qH ps1)) ∧ (kG np2) ∧ (kG 0) ∧ (kG 0) ∧ (kM ((np2 : Int) - 1)) ∧ (((qH ([] : List Pt)) : List D) = ([] : List D))) zk ⟨rfl, rfl, rfl, rfl, rfl, rfl, (by rfl)⟩ ?_
  rintro ⟨⟨i, j, bs⟩, hinv0⟩
  obtain ⟨hij, hB, hl⟩ : (i + j = (np2)) ∧ (cN ps1 (np2) j = bs) ∧ (List.length bs = j) := hinv0
  refine qU (l := [(1, uJ (D.lit (.int .u8 p))), (5, qB (qH ps1) np2), (6, oV 3 0 j 2), (7, iV ((i : Int) - 1))]) (g := [(3, some (47, .ds (qH bs)))]) (nx := 4) rfl rfl rfl ?_
  refine AW.seq ?_
  by_cases hx5 : ((0 : Int) ≤ (((i : Nat) : Int) - 1))
  · refine zr [.no, .b true] [1, 5, 6, 7, 29] [3] (((0 : Int) ≤ ((i : Int) - 1))) [(1, uJ (D.lit (.int .u8 p))), (5, qB (qH ps1) np2), (6, oV 3 0 j 2), (7, iV (↑i - 1)), (29, bV true)] [(3, some (47, .ds (qH bs)))] 4 zo ?_
    refine vI ?_
    refine AW.seq ?_
    refine AW.block ?_
    have hx6 : ((List.length (qF ps1 (i - 1))) ≤ 1000) := (PsW.get (PkW.w dY) ((i - 1))).2
    refine kH [.no, .no, .n (i - 1), .no, .d (D.sl (kP (qF ps1 (i - 1))) (List.length (qF ps1 (i - 1)))), .no, .no, .no] (((((i : Int) - 1) : Int) = (((i - 1) : Nat) : Int)) ∧ ((i - 1) < np2) ∧ ((List.drop 0 (List.drop ((i - 1) * 2) (qH ps1)))[0]? = some (D.sl (kP (qF ps1 (i - 1))) (List.length (qF ps1 (i - 1)))))) [(1, uJ (D.lit (.int .u8 p))), (5, qB (qH ps1) np2), (6, oV 3 0 j 2), (7, iV (↑i - 1)), (8, rV 4 0)] [(3, some (47, .ds (qH bs))), (4, some (47, .ds [D.sl (kP (qF ps1 (i - 1))) (List.length (qF ps1 (i - 1))), iD 0]))] 5 ⟨zo, zo, (by (rw [List.drop_drop]; exact (zV (i := (i - 1)) zo)))⟩ ?_
    refine AW.seq ?_
    by_cases hx7 : ((0 : Int) < (((i : Nat) : Int) - 1))
    · refine zr [.no, .b true] [1, 5, 6, 7, 8, 39] [3, 4] (((0 : Int) < ((i : Int) - 1))) [(1, uJ (D.lit (.int .u8 p))), (5, qB (qH ps1) np2), (6, oV 3 0 j 2), (7, iV (↑i - 1)), (8, rV 4 0), (39, bV true)] [(3, some (47, .ds (qH bs))), (4, some (47, .ds [D.sl (kP (qF ps1 (i - 1))) (List.length (qF ps1 (i - 1))), iD 0]))] 5 zo ?_
      refine zt ?_
      have hx8 : ((List.length (qF ps1 ((i - 1) - 1))) ≤ 1000) := (PsW.get (PkW.w dY) (((i - 1) - 1))).2
      refine vY [.no, .no, .w, .n ((i - 1) - 1), .no, .d (iD (q6 ps1 ((i - 1) - 1))), .no, .no] ((uZ (((i : Int) - 1) - 1)) ∧ (((((i : Int) - 1) - 1) : Int) = ((((i - 1) - 1) : Nat) : Int)) ∧ (((i - 1) - 1) < np2) ∧ ((List.drop 1 (List.drop (((i - 1) - 1) * 2) (qH ps1)))[0]? = some (iD (q6 ps1 ((i - 1) - 1))))) [(1, uJ (D.lit (.int .u8 p))), (5, qB (qH ps1) np2), (6, oV 3 0 j 2), (7, iV (↑i - 1)), (8, rV 4 0)] [(3, some (47, .ds (qH bs))), (4, some (47, .ds [D.sl (kP (qF ps1 (i - 1))) (List.length (qF ps1 (i - 1))), iD (q6 ps1 ((i - 1) - 1))]))] 5 ⟨⟨by omega, by omega⟩, zo, zo, (by (rw [List.drop_drop]; exact (u0p (i := ((i - 1) - 1)) zo)))⟩ ?_
      refine vY [.no, .no, .no, .ap none (j + 1) (qH (bs ++ ([(u0 (qF ps1 (i - 1)) (q6 ps1 ((i - 1) - 1)))] : List Pt))), .no] (([D.sl (kP (qF ps1 (i - 1))) (List.length (qF ps1 (i - 1))), iD (q6 ps1 ((i - 1) - 1))].length = 1 * 2) ∧ (((qH bs) : List D).length = j * 2) ∧ ((j + 1) * 32 ≤ 140737488355328) ∧ (j + 1 = (j + 1)) ∧ (((qH bs) : List D) ++ [D.sl (kP (qF ps1 (i - 1))) (List.length (qF ps1 (i - 1))), iD (q6 ps1 ((i - 1) - 1))] = (qH (bs ++ ([(u0 (qF ps1 (i - 1)) (q6 ps1 ((i - 1) - 1)))] : List Pt))))) [(1, uJ (D.lit (.int .u8 p))), (5, qB (qH ps1) np2), (6, oV 6 0 (j + 1) 2), (7, iV (↑i - 1))] [(6, some (47, .ds (qH (bs ++ ([(u0 (qF ps1 (i - 1)) (q6 ps1 ((i - 1) - 1)))] : List Pt)))))] 7 ⟨dZ, dZ, zo, zo, (lD bs (qF ps1 (i - 1)) (List.length (qF ps1 (i - 1))) (q6 ps1 ((i - 1) - 1)) (by rfl))⟩ ?_
      refine u2 [.no, .w, .no] (uZ (((i : Int) - 1) - 1)) [(1, uJ (D.lit (.int .u8 p))), (5, qB (qH ps1) np2), (6, oV 6 0 (j + 1) 2), (7, iV ((↑i - 1) - 1))] ⟨by omega, by omega⟩ ?_
      exact kV ⟨(((i - 1) : Nat), ((j + 1) : Nat), ((bs ++ ([(u0 (qF ps1 (i - 1)) (q6 ps1 ((i - 1) - 1)))] : List Pt)) : List Pt)), ⟨zo, (by exact v5k hB zo zo), (by (simp only [qA, k9, qS, qY, q5, vG, y4, vU, aB, List.length_append, List.length_cons, List.length_nil] <;> omega))⟩⟩ [(3, 6)] (P := (kM p) ∧ (kJ (qH ps1)) ∧ (kG np2) ∧ (kG 0) ∧ (kG (j + 1)) ∧ ((((((i - 1) : Nat) : Int) - 1) : Int) = (((i : Int) - 1) - 1)) ∧ (kJ (qH (bs ++ ([(u0 (qF ps1 (i - 1)) (q6 ps1 ((i - 1) - 1)))] : List Pt))))) zk ⟨rfl, rfl, rfl, rfl, rfl, zo, rfl⟩ (show (i - 1) < i from zo)
    · refine zr [.no, .b false] [1, 5, 6, 7, 8, 39] [3, 4] (¬ ((0 : Int) < ((i : Int) - 1))) [(1, uJ (D.lit (.int .u8 p))), (5, qB (qH ps1) np2), (6, oV 3 0 j 2), (7, iV (↑i - 1)), (8, rV 4 0), (39, bV false)] [(3, some (47, .ds (qH bs))), (4, some (47, .ds [D.sl (kP (qF ps1 (i - 1))) (List.length (qF ps1 (i - 1))), iD 0]))] 5 zo ?_
      refine uP ?_
      refine vY [.no, .no, .no, .ap none (j + 1) (qH (bs ++ ([(u0 (qF ps1 (i - 1)) 0)] : List Pt))), .no] (([D.sl (kP (qF ps1 (i - 1))) (List.length (qF ps1 (i - 1))), iD 0].length = 1 * 2) ∧ (((qH bs) : List D).length = j * 2) ∧ ((j + 1) * 32 ≤ 140737488355328) ∧ (j + 1 = (j + 1)) ∧ (((qH bs) : List D) ++ [D.sl (kP (qF ps1 (i - 1))) (List.length (qF ps1 (i - 1))), iD 0] = (qH (bs ++ ([(u0 (qF ps1 (i - 1)) 0)] : List Pt))))) [(1, uJ (D.lit (.int .u8 p))), (5, qB (qH ps1) np2), (6, oV 6 0 (j + 1) 2), (7, iV (↑i - 1))] [(6, some (47, .ds (qH (bs ++ ([(u0 (qF ps1 (i - 1)) 0)] : List Pt)))))] 7 ⟨dZ, dZ, zo, zo, (lD bs (qF ps1 (i - 1)) (List.length (qF ps1 (i - 1))) (0 : Int) (by rfl))⟩ ?_
      refine u2 [.no, .w, .no] (uZ (((i : Int) - 1) - 1)) [(1, uJ (D.lit (.int .u8 p))), (5, qB (qH ps1) np2), (6, oV 6 0 (j + 1) 2), (7, iV ((↑i - 1) - 1))] ⟨by omega, by omega⟩ ?_
      exact kV ⟨(((i - 1) : Nat), ((j + 1) : Nat), ((bs ++ ([(u0 (qF ps1 (i - 1)) 0)] : List Pt)) : List Pt)), ⟨zo, (by exact v5l hB zo zo), (by (simp only [qA, k9, qS, qY, q5, vG, y4, vU, aB, List.length_append, List.length_cons, List.length_nil] <;> omega))⟩⟩ [(3, 6)] (P := (kM p) ∧ (kJ (qH ps1)) ∧ (kG np2) ∧ (kG 0) ∧ (kG (j + 1)) ∧ ((((((i - 1) : Nat) : Int) - 1) : Int) = (((i : Int) - 1) - 1)) ∧ (kJ (qH (bs ++ ([(u0 (qF ps1 (i - 1)) 0)] : List Pt))))) zk ⟨rfl, rfl, rfl, rfl, rfl, zo, rfl⟩ (show (i - 1) < i from zo)
  · refine zr [.no, .b false] [1, 5, 6, 7, 29] [3] (¬ ((0 : Int) ≤ ((i : Int) - 1))) [(1, uJ (D.lit (.int .u8 p))), (5, qB (qH ps1) np2), (6, oV 3 0 j 2), (7, iV (↑i - 1)), (29, bV false)] [(3, some (47, .ds (qH bs)))] 4 zo ?_
    refine zf ?_
    refine AW.exit ?_
    obtain rfl : i = 0 := (by omega)
    obtain rfl : np2 = j := (by omega)
    obtain rfl : bs = (cN ps1 np2 np2) := hB.symm
    refine AW.freeze 3 (l' := [(1, uJ (D.lit (.int .u8 p))), (5, qB (qH ps1) np2), (6, qB (qH (cN ps1 np2 np2)) np2), (7, iV (-1)), (29, bV false)]) (g' := []) rfl (FzS.cons rfl (.same _) (FzS.cons rfl (.same _) (FzS.cons rfl (.e (.c (@FzC.own 3 ((qH (cN ps1 np2 np2)) : List D) 0 np2 2 true ((qH (cN ps1 np2 np2)) : List D) k4a dZ))) (FzS.cons rfl (.same _) (FzS.cons rfl (.same _) FzS.nil))))) FzG.nil ?_
    refine kH [.no, .w, .no, .no, .ps, .no] ((uZ p) ∧ ((0 : Int) ≤ (p : Int)) ∧ ((0 : Int) < ((np2 : Int) : Int))) [(5, qB (qH ps1) np2), (6, qB (qH (cN ps1 np2 np2)) np2), (9, iV (p % ↑np2))] [] 4 ⟨⟨by omega, by omega⟩, zo, zo⟩ ?_
    have hx9 : 0 ≤ (p % ((np2 : Nat) : Int)) ∧ (p % ((np2 : Nat) : Int)) < ((np2 : Nat) : Int) := ⟨Int.emod_nonneg _ zo, Int.emod_lt_of_pos _ zo⟩
    obtain ⟨kk, hkk⟩ : ∃ kk : Nat, (p % ((np2 : Nat) : Int)) = ((kk : Nat) : Int) := ⟨Int.toNat ((p % ((np2 : Nat) : Int))), by omega⟩
    rw [hkk]
    have hx10 : kk < np2 := zo
    refine kH [.no, .no, .sls 0 kk kk (qH (List.take kk ps1)), .ap none kk (qH (List.take kk ps1)), .no] ((kG 0) ∧ (kM (kk : Int)) ∧ ((0 : Nat) ≤ kk) ∧ (kk ≤ np2) ∧ (kk - 0 = kk) ∧ (List.take (kk * 2) (List.drop (0 * 2) (qH ps1)) = (qH (List.take kk ps1))) ∧ ((qH (List.take kk ps1)).length = kk * 2) ∧ (kk * 32 ≤ 140737488355328) ∧ (kk = kk) ∧ (kJ (qH (List.take kk ps1)))) [(5, qB (qH ps1) np2), (6, qB (qH (cN ps1 np2 np2)) np2), (9, uV kk), (10, oV 4 0 kk 2)] [(4, some (47, .ds (qH (List.take kk ps1))))] 5 ⟨rfl, rfl, zo, zo, zo, (by exact mI _ _), dZ, zo, rfl, rfl⟩ ?_
    have hx11 : ((List.length (qF ps1 kk)) ≤ 1000) := (PsW.get (PkW.w dY) (kk)).2
    refine kH [.no, .no, .no, .n kk, .no, .d (D.sl (kP (qF ps1 kk)) (List.length (qF ps1 kk))), .no, .no, .ap none (kk + 1) (qH ((List.take kk ps1) ++ ([(u0 (qF ps1 kk) 0)] : List Pt))), .no] ((kM (kk : Int)) ∧ (kk < np2) ∧ ((List.drop 0 (List.drop (kk * 2) (qH ps1)))[0]? = some (D.sl (kP (qF ps1 kk)) (List.length (qF ps1 kk)))) ∧ ([D.sl (kP (qF ps1 kk)) (List.length (qF ps1 kk)), iD 0].length = 1 * 2) ∧ (((qH (List.take kk ps1)) : List D).length = kk * 2) ∧ ((kk + 1) * 32 ≤ 140737488355328) ∧ (kk + 1 = (kk + 1)) ∧ (((qH (List.take kk ps1)) : List D) ++ [D.sl (kP (qF ps1 kk)) (List.length (qF ps1 kk)), iD 0] = (qH ((List.take kk ps1) ++ ([(u0 (qF ps1 kk) 0)] : List Pt))))) [(5, qB (qH ps1) np2), (6, qB (qH (cN ps1 np2 np2)) np2), (9, uV kk), (10, oV 6 0 (kk + 1) 2)] [(6, some (47, .ds (qH ((List.take kk ps1) ++ ([(u0 (qF ps1 kk) 0)] : List Pt)))))] 7 ⟨rfl, zo, (by (rw [List.drop_drop]; exact (zV (i := kk) zo))), dZ, dZ, zo, zo, (lD (List.take kk ps1) (qF ps1 kk) (List.length (qF ps1 kk)) (0 : Int) (by rfl))⟩ ?_
    refine kH [.no, .no, .no, .sls kk np2 (np2 - kk) (qH (List.take (np2 - kk) (List.drop kk ps1))), .ap none ((kk + 1) + (np2 - kk)) (qH (((List.take kk ps1) ++ ([(u0 (qF ps1 kk) 0)] : List Pt)) ++ (List.take (np2 - kk) (List.drop kk ps1)))), .no] ((kM (kk : Int)) ∧ (np2 = np2) ∧ (kk ≤ np2) ∧ (np2 ≤ np2) ∧ (np2 - kk = (np2 - kk)) ∧ (List.take ((np2 - kk) * 2) (List.drop (kk * 2) (qH ps1)) = (qH (List.take (np2 - kk) (List.drop kk ps1)))) ∧ ((qH (List.take (np2 - kk) (List.drop kk ps1))).length = (np2 - kk) * 2) ∧ (((qH ((List.take kk ps1) ++ ([(u0 (qF ps1 kk) 0)] : List Pt))) : List D).length = (kk + 1) * 2) ∧ (((kk + 1) + (np2 - kk)) * 32 ≤ 140737488355328) ∧ ((kk + 1) + (np2 - kk) = ((kk + 1) + (np2 - kk))) ∧ (((qH ((List.take kk ps1) ++ ([(u0 (qF ps1 kk) 0)] : List Pt))) : List D) ++ (qH (List.take (np2 - kk) (List.drop kk ps1))) = (qH (((List.take kk ps1) ++ ([(u0 (qF ps1 kk) 0)] : List Pt)) ++ (List.take (np2 - kk) (List.drop kk ps1)))))) [(5, qB (qH ps1) np2), (6, qB (qH (cN ps1 np2 np2)) np2), (9, uV kk), (10, oV 7 0 ((kk + 1) + (np2 - kk)) 2)] [(7, some (47, .ds (qH (((List.take kk ps1) ++ ([(u0 (qF ps1 kk) 0)] : List Pt)) ++ (List.take (np2 - kk) (List.drop kk ps1))))))] 8 ⟨rfl, rfl, zo, zo, zo, (by rw [eS, mI]), dZ, dZ, zo, zo, (pZ _ _).symm⟩ ?_
    have hx12 : PkG (cN ps1 np2 np2) := u7y dY zo
    have hx13 : PkG (((List.take kk ps1) ++ ([(u0 (qF ps1 kk) 0)] : List Pt)) ++ (List.take (np2 - kk) (List.drop kk ps1))) := u0g dY zo zo
    have hx14 : (uK ps1 = 0 ∧ uK (cN ps1 np2 np2) = 0 ∧ uK (((List.take kk ps1) ++ ([(u0 (qF ps1 kk) 0)] : List Pt)) ++ (List.take (np2 - kk) (List.drop kk ps1))) = 0) ∨ (uK ps1 = 13 ∧ uK (cN ps1 np2 np2) = 13 ∧ uK (((List.take kk ps1) ++ ([(u0 (qF ps1 kk) 0)] : List Pt)) ++ (List.take (np2 - kk) (List.drop kk ps1))) = 13) := u7u dY zo zo zo
    have hx15 : List.length (((List.take kk ps1) ++ ([(u0 (qF ps1 kk) 0)] : List Pt)) ++ (List.take (np2 - kk) (List.drop kk ps1))) = np2 + 1 := (tR zo zo).1.trans zo
    have hx16 : PsW (((List.take kk ps1) ++ ([(u0 (qF ps1 kk) 0)] : List Pt)) ++ (List.take (np2 - kk) (List.drop kk ps1))) := (PkG.w dY)
    have hsm : ∀ N, N = (np2 + 1) → uK (((List.take kk ps1) ++ ([(u0 (qF ps1 kk) 0)] : List Pt)) ++ (List.take (np2 - kk) (List.drop kk ps1))) = 0 → cG (uF (((List.take kk ps1) ++ ([(u0 (qF ps1 kk) 0)] : List Pt)) ++ (List.take (np2 - kk) (List.drop kk ps1))) N 0 0 ([] : List Int) 0) kk = cG (uF (((List.take kk ps1) ++ ([(u0 (qF ps1 kk) 0)] : List Pt)) ++ (List.take (np2 - kk) (List.drop kk ps1))) N 0 0 ([] : List Int) 0) (kk + 1) := fun N h8 h9 => u0f (by with_reducible assumption) (by omega) (by omega) (by omega) h9
    generalize hgt : (((List.take kk ps1) ++ ([(u0 (qF ps1 kk) 0)] : List Pt)) ++ (List.take (np2 - kk) (List.drop kk ps1))) = tw at *
    obtain ⟨nt, hnt⟩ : ∃ nt, ((kk + 1) + (np2 - kk)) = nt := ⟨_, rfl⟩
    rw [hnt]
    have hx17 : nt = np2 + 1 := zo
    have hsm := hsm nt (by omega)
    have hx18 : ¬ uK tw = 0 ∨ List.length (uF tw nt 0 0 ([] : List Int) 0) = nt := Decidable.or_iff_not_imp_left.2 fun h9 => u2e.1 (Decidable.of_not_not h9)
    refine AW.freeze 7 (l' := [(5, qB (qH ps1) np2), (6, qB (qH (cN ps1 np2 np2)) np2), (9, uV kk), (10, qB (qH tw) nt)]) (g' := []) rfl (FzS.cons rfl (.same _) (FzS.cons rfl (.same _) (FzS.cons rfl (.same _) (FzS.cons rfl (.e (.c (@FzC.own 7 ((qH tw) : List D) 0 nt 2 true ((qH tw) : List D) k4a dZ))) FzS.nil)))) FzG.nil ?_
    refine kH (.no :: .call [] (.tup [.c (.d (D.sl (v8 (uL ps1)) (List.length (uL ps1)))), .agg [iC (cK ps1), iC (cL ps1)], iE (uK ps1)]) [] 0 [] none :: qD 8 []) _ [(6, qB (qH (cN ps1 np2 np2)) np2), (9, uV kk), (10, qB (qH tw) nt), (13, iV (uK ps1))] [] 9 (k2t ps1 np2 zo zo (PkW.w dY)) ?_
    refine kH (.no :: .call [] (.tup [.c (.d (D.sl (v8 (uL (cN ps1 np2 np2))) (List.length (uL (cN ps1 np2 np2))))), .agg [iC (cK (cN ps1 np2 np2)), iC (cL (cN ps1 np2 np2))], iE (uK (cN ps1 np2 np2))]) [] 0 [] none :: qD 8 []) _ [(9, uV kk), (10, qB (qH tw) nt), (13, iV (uK ps1)), (16, iV (uK (cN ps1 np2 np2)))] [] 10 (k2t (cN ps1 np2 np2) np2 zo zo (PkG.w dY)) ?_
    have hx19 : (ChW (uF tw nt 0 0 ([] : List Int) 0)) := (u4q ((PkG.w dY)) (zo) (zo) (by decide))
    refine kH (.no :: .no :: .call [] (.tup [.c (.d (D.sl (uI 0 (uF tw nt 0 0 ([] : List Int) 0)) (List.length (uF tw nt 0 0 ([] : List Int) 0)))), .agg [iC (cK tw), iC (cL tw)], iE (uK tw)]) [] 0 [] none :: qD 8 []) _ [(9, uV kk), (13, iV (uK ps1)), (16, iV (uK (cN ps1 np2 np2))), (17, qB (uI 0 (uF tw nt 0 0 ([] : List Int) 0)) (List.length (uF tw nt 0 0 ([] : List Int) 0))), (19, iV (uK tw))] [] 11 (u5h tw nt 0 0 ([] : List Int) 0 0 zo zo (PkG.w dY) (by (simp only [qA, k9, qS, qY, q5, vG, y4, vU, aB, List.length_append, List.length_cons, List.length_nil, List.length_take, List.length_drop, List.length_replicate, List.length_set] <;> omega)) zo zo zo (v50 dY zo)) ?_
    refine AW.seq ?_
    refine kQ [.no, .b false, .no, .no, .b false, .no, .no, .no, .b false, .no] ((¬ ((uK ps1) = 3)) ∧ (¬ ((uK (cN ps1 np2 np2)) = 3)) ∧ (¬ ((uK tw) = 3))) [(9, uV kk), (13, iV (uK ps1)), (16, iV (uK (cN ps1 np2 np2))), (17, qB (uI 0 (uF tw nt 0 0 ([] : List Int) 0)) (List.length (uF tw nt 0 0 ([] : List Int) 0))), (19, iV (uK tw)), (102, bV false)] ⟨zo, zo, zo⟩ ?_
    refine uP ?_
    by_cases hx20 : ((uK ps1) = 0)
    · rcases Bool.eq_false_or_eq_true (pT (bD (uF tw nt 0 0 ([] : List Int) 0) kk) (aV (uF tw nt 0 0 ([] : List Int) 0) kk) (bC (uF tw nt 0 0 ([] : List Int) 0) kk) (bD (uF tw nt 0 0 ([] : List Int) 0) (kk + 1)) (aV (uF tw nt 0 0 ([] : List Int) 0) (kk + 1)) (bC (uF tw nt 0 0 ([] : List Int) 0) (kk + 1)) (u7 (uF tw nt 0 0 ([] : List Int) 0) kk) (u7 (uF tw nt 0 0 ([] : List Int) 0) (kk + 1))) with hx23 | hx23
      · have hx24 : ((List.length (u7 (uF tw nt 0 0 ([] : List Int) 0) kk)) ≤ 1000000) := (ChW.get (qC : ChW (uF tw nt 0 0 ([] : List Int) 0)) (kk))
        have hx25 : ((List.length (u7 (uF tw nt 0 0 ([] : List Int) 0) (kk + 1))) ≤ 1000000) := (ChW.get (qC : ChW (uF tw nt 0 0 ([] : List Int) 0)) ((kk + 1)))
        refine kH [.no, .b true, .no, .b true, .no, .no, .no, .b true, .no, .b true, .no, .no, .no, .no, .b false, .no, .no, .no, .n kk, .ds [iD (bD (uF tw nt 0 0 ([] : List Int) 0) kk), iD (aV (uF tw nt 0 0 ([] : List Int) 0) kk), dl (u7 (uF tw nt 0 0 ([] : List Int) 0) kk) (List.length (u7 (uF tw nt 0 0 ([] : List Int) 0) kk)), iD (bC (uF tw nt 0 0 ([] : List Int) 0) kk)], .no, .no, .w, .n (kk + 1), .ds [iD (bD (uF tw nt 0 0 ([] : List Int) 0) (kk + 1)), iD (aV (uF tw nt 0 0 ([] : List Int) 0) (kk + 1)), dl (u7 (uF tw nt 0 0 ([] : List Int) 0) (kk + 1)) (List.length (u7 (uF tw nt 0 0 ([] : List Int) 0) (kk + 1))), iD (bC (uF tw nt 0 0 ([] : List Int) 0) (kk + 1))], .call [] (bV true) [] 0 [] none, .no, .no, .no] ((((uK ps1) = 0)) ∧ (((uK (cN ps1 np2 np2)) = 0)) ∧ (((uK ps1) = 0)) ∧ (((uK tw) = 0)) ∧ (¬ ((uK tw) ≠ 0)) ∧ (kM (kk : Int)) ∧ (kk < (List.length (uF tw nt 0 0 ([] : List Int) 0))) ∧ (List.take 4 (List.drop (kk * 4) (uI 0 (uF tw nt 0 0 ([] : List Int) 0))) = [iD (bD (uF tw nt 0 0 ([] : List Int) 0) kk), iD (aV (uF tw nt 0 0 ([] : List Int) 0) kk), dl (u7 (uF tw nt 0 0 ([] : List Int) 0) kk) (List.length (u7 (uF tw nt 0 0 ([] : List Int) 0) kk)), iD (bC (uF tw nt 0 0 ([] : List Int) 0) kk)]) ∧ (([iD (bD (uF tw nt 0 0 ([] : List Int) 0) kk), iD (aV (uF tw nt 0 0 ([] : List Int) 0) kk), dl (u7 (uF tw nt 0 0 ([] : List Int) 0) kk) (List.length (u7 (uF tw nt 0 0 ([] : List Int) 0) kk)), iD (bC (uF tw nt 0 0 ([] : List Int) 0) kk)] : List D).length = 4) ∧ (uZ ((kk : Int) + 1)) ∧ ((((kk : Int) + 1) : Int) = (((kk + 1) : Nat) : Int)) ∧ ((kk + 1) < (List.length (uF tw nt 0 0 ([] : List Int) 0))) ∧ (List.take 4 (List.drop ((kk + 1) * 4) (uI 0 (uF tw nt 0 0 ([] : List Int) 0))) = [iD (bD (uF tw nt 0 0 ([] : List Int) 0) (kk + 1)), iD (aV (uF tw nt 0 0 ([] : List Int) 0) (kk + 1)), dl (u7 (uF tw nt 0 0 ([] : List Int) 0) (kk + 1)) (List.length (u7 (uF tw nt 0 0 ([] : List Int) 0) (kk + 1))), iD (bC (uF tw nt 0 0 ([] : List Int) 0) (kk + 1))]) ∧ (([iD (bD (uF tw nt 0 0 ([] : List Int) 0) (kk + 1)), iD (aV (uF tw nt 0 0 ([] : List Int) 0) (kk + 1)), dl (u7 (uF tw nt 0 0 ([] : List Int) 0) (kk + 1)) (List.length (u7 (uF tw nt 0 0 ([] : List Int) 0) (kk + 1))), iD (bC (uF tw nt 0 0 ([] : List Int) 0) (kk + 1))] : List D).length = 4) ∧ (Fun 26 [.agg [iC (bD (uF tw nt 0 0 ([] : List Int) 0) kk), iC (aV (uF tw nt 0 0 ([] : List Int) 0) kk), .d (dl (u7 (uF tw nt 0 0 ([] : List Int) 0) kk) (List.length (u7 (uF tw nt 0 0 ([] : List Int) 0) kk))), iC (bC (uF tw nt 0 0 ([] : List Int) 0) kk)], .agg [iC (bD (uF tw nt 0 0 ([] : List Int) 0) (kk + 1)), iC (aV (uF tw nt 0 0 ([] : List Int) 0) (kk + 1)), .d (dl (u7 (uF tw nt 0 0 ([] : List Int) 0) (kk + 1)) (List.length (u7 (uF tw nt 0 0 ([] : List Int) 0) (kk + 1)))), iC (bC (uF tw nt 0 0 ([] : List Int) 0) (kk + 1))]] (kF []) 0 (bV true) (kF []) 0)) [(4, bV true)] [] 11 ⟨zo, zo, zo, zo, zo, rfl, zo, (o5 (i := kk) zo), rfl, ⟨by omega, by omega⟩, (by rfl), zo, (o5 (i := (kk + 1)) zo), rfl, (by have h0 := (u8h (bD (uF tw nt 0 0 ([] : List Int) 0) kk) (aV (uF tw nt 0 0 ([] : List Int) 0) kk) (bC (uF tw nt 0 0 ([] : List Int) 0) kk) (bD (uF tw nt 0 0 ([] : List Int) 0) (kk + 1)) (aV (uF tw nt 0 0 ([] : List Int) 0) (kk + 1)) (bC (uF tw nt 0 0 ([] : List Int) 0) (kk + 1)) (u7 (uF tw nt 0 0 ([] : List Int) 0) kk) (u7 (uF tw nt 0 0 ([] : List Int) 0) (kk + 1)) (List.length (u7 (uF tw nt 0 0 ([] : List Int) 0) kk)) (List.length (u7 (uF tw nt 0 0 ([] : List Int) 0) (kk + 1))) rfl rfl zo zo); rw [hx23] at h0; exact h0)⟩ ?_
        refine AW.ret ?_
        exact kA (.inr rfl) [] (P := (true = true)) zk rfl
      · have hx26 : ¬ uK tw = 0 := fun h9 => Bool.false_ne_true (hx23.symm.trans (u9g.2 (hsm h9)))
        refine kH [.no, .b true, .no, .b true, .no, .no, .no, .b true, .no, .b true, .no, .no, .no, .no, .b true, .no, .no, .no, .no] ((((uK ps1) = 0)) ∧ (((uK (cN ps1 np2 np2)) = 0)) ∧ (((uK ps1) = 0)) ∧ (((uK tw) = 0)) ∧ (((uK tw) ≠ 0))) [(4, bV true)] [] 11 ⟨zo, zo, zo, zo, zo⟩ ?_
        refine AW.ret ?_
        exact kA (.inr rfl) [] (P := (true = true)) zk rfl
    · refine zr [.no, .b false, .no, .b false, .no, .no, .no, .b false, .no, .b false, .no, .no, .no, .no, .b true, .no, .no, .no, .no] [4] [] ((¬ ((uK ps1) = 0)) ∧ (¬ ((uK (cN ps1 np2 np2)) = 0)) ∧ (¬ ((uK ps1) = 0)) ∧ (¬ ((uK tw) = 0)) ∧ (((uK tw) ≠ 0))) [(4, bV true)] [] 11 ⟨zo, zo, zo, zo, zo⟩ ?_
      refine AW.ret ?_
      exact kA (.inr rfl) [] (P := (true = true)) zk rfl
theorem Sl.max {k : IntKind} {w : World} {a : Option Addr} {len cap : Nat} {l : List Int} (h : Sl k w a len cap l) : List.length l ≤ 9223372036854775807 := by
  obtain ⟨h1, h2, h3, _⟩ := h
  unfold maxLen at h3
  omega
theorem k0p {w : World} {p : Int} {xa0 : Option Addr} {xl0 xc0 : Nat} {s : List Int} (hs0 : Sl .u8 w xa0 xl0 xc0 s) (hi_p : 0 ≤ p ∧ p ≤ 255) : Calls Tryz.prog 8 #[.slice xa0 xl0 xc0, .int .u8 p] w fun e w' => e = .returned (.bool true) ∧ Below w.heap.size w w' :=
  (v2t s (List.length s) p (u8j fun x hx => bounds_u8 (hs0.wf x hx)) rfl hs0.max hi_p).walk ⟨u0m hs0, k54 rfl, trivial⟩
end Go.Proofs.YtbicifcgghmhaaaGreat
