/- slices.DeleteFunc; Remember, Lookup, Forget. No statement is proved here. -/
import Derived.Test.YtkjmlililpgamaaZC30B
namespace Go.Proofs.Ytkjmlililpgamaa
open Go.ChangeShapes Go.WideShapes Go.ChangeAt Go.RowKit
open Bool renaming eq_false_or_eq_true → ka6
open Int renaming toNat → kc6
open List renaming drop → kb2, getD → ka2, length → ka0, length_append → ka4, length_cons → kb5, length_drop → kc0, length_map → kc8, length_nil → kb6, length_replicate → kc4, length_reverse → kd6, length_set → ka8, length_take → kb8, replicate → kb0, set → ke2, take → ka5
open Nat renaming le_of_ble_eq_true → ka3
set_option linter.unusedVariables false
set_option linter.unusedSimpArgs false
set_option maxHeartbeats 4000000
set_option maxRecDepth 100000
theorem qG {p : Prop} (h : p := by first | omega | assumption | simp) : p := h
theorem aG {p : Prop} (h : p := by first | omega | (simp only [kK, kH, kO, ka8, ka4, kb5, kb6, kb8, kc0] <;> omega)) : p := h
theorem qQ {p : Prop} (h : p := by first | omega | with_reducible assumption | (simp only [kK, kH, kO, ka8, ka4, kb5, kb6, kb8, kc0, kc4, ka8] <;> omega) | rfl | assumption) : p := h
theorem e6 {p : Prop} (h : p := by first | assumption | exact decide_eq_true (by assumption)) : p := h
theorem qT {p : Prop} (h : p := by first | rfl | omega | assumption | (simp; done) | (simp; omega)) : p := h
theorem u1 {p : Prop} (h : p := by first | omega | (show _ < _; simp; omega)) : p := h
theorem k1j (xs : List Ch) (q : Nat) (r s : List Int) (n : Nat) (d : Int) (hq : ka0 xs = q) (h0 : q ≤ 1000000) (hX : CsW xs) (hr : Byt r) (hl : ka0 r ≤ 1000000) (hn : ka0 s = n) (h1 : n ≤ 1000000) : Fun 41 [.c (.own 0 0 q 3 true), .c (.fn 29 [(1, 0)])] (kC [(0, some (29, .ds (kB xs))), (1, some (29, .ds [D.lit (.string (strOfNums r)), D.sl (dI .u64 s) n, D.lit (.int .u64 d)]))]) 2 (iV (uX xs r s q)) (kC [(0, some (29, .ds (kB xs))), (1, some (29, .ds [D.lit (.string (strOfNums r)), D.sl (dI .u64 s) n, D.lit (.int .u64 d)]))]) 2 := by
  refine Fun.mk (n := 19) Try.func41 rfl rfl (ka3 rfl) ?_
  intro cx hcx
  refine kI [.no] True [(0, oV 0 0 q 3), (1, .e (.c (.fn 29 [(1, 0)])))] [(0, some (29, .ds (kB xs))), (1, some (29, .ds [D.lit (.string (strOfNums r)), D.sl (dI .u64 s) n, D.lit (.int .u64 d)]))] 2 trivial ?_
  refine AW.seq ?_
  refine yT [.no, .no, .no] True [(0, oV 0 0 q 3), (1, .e (.c (.fn 29 [(1, 0)]))), (7, uV q), (8, iV 0)] trivial ?_
  refine AW.block ?_
  refine kV 2 hcx (fun (x : {x : Nat // match x with | k => (k ≤ q) ∧ (uX xs r s k = -1)}) => match x with | ⟨k, _⟩ => (⟨[(0, oV 0 0 q 3), (1, .e (.c (.fn 29 [(1, 0)]))), (7, uV q), (8, uV k)], [(0, some (29, .ds (kB xs))), (1, some (29, .ds [D.lit (.string (strOfNums r)), D.sl (dI .u64 s) n, D.lit (.int .u64 d)]))], 2⟩ : ES)) (fun x => match x with | ⟨k, _⟩ => q - k) ⟨(0 : Nat), ⟨qG, rfl⟩⟩ [] (P := (kT 0) ∧ (kT q) ∧ (k8 (q : Int)) ∧ (k8 0) ∧ (kR (kB xs)) ∧ (kR [D.lit (.string (strOfNums r)), D.sl (dI .u64 s) n, D.lit (.int .u64 d)])) zk ⟨rfl, rfl, rfl, rfl, rfl, rfl⟩ ?_
  rintro ⟨k, hinv0⟩
  obtain ⟨hk, hi⟩ : (k ≤ q) ∧ (uX xs r s k = -1) := hinv0
  refine qW (l := [(0, oV 0 0 q 3), (1, .e (.c (.fn 29 [(1, 0)]))), (7, uV q), (8, uV k)]) (g := [(0, some (29, .ds (kB xs))), (1, some (29, .ds [D.lit (.string (strOfNums r)), D.sl (dI .u64 s) n, D.lit (.int .u64 d)]))]) (nx := 2) rfl rfl rfl ?_
  by_cases hx1 : (((k : Nat) : Int) < ((q : Nat) : Int))
  · refine zr [.b true] [0, 1, 7, 8, 9] [0, 1] (((k : Int) < (q : Int))) [(0, oV 0 0 q 3), (1, .e (.c (.fn 29 [(1, 0)]))), (7, uV q), (8, uV k), (9, bV true)] [(0, some (29, .ds (kB xs))), (1, some (29, .ds [D.lit (.string (strOfNums r)), D.sl (dI .u64 s) n, D.lit (.int .u64 d)]))] 2 zo ?_
    refine AW.seq ?_
    refine cB ?_
    refine AW.seq ?_
    refine AW.block ?_
    refine kI [.no, .no] True [(0, oV 0 0 q 3), (1, .e (.c (.fn 29 [(1, 0)]))), (5, uV k), (7, uV q), (8, uV k)] [(0, some (29, .ds (kB xs))), (1, some (29, .ds [D.lit (.string (strOfNums r)), D.sl (dI .u64 s) n, D.lit (.int .u64 d)]))] 2 trivial ?_
    rcases ka6 (uM (kF xs k) (kD xs k) r s) with hx5 | hx5
    · obtain ⟨hx6, hx7, hx8⟩ := CsW.at (kQ : CsW xs) (k)
      refine kI [.no, .no, .no, .n2 k (k * 3), .ds [D.lit (.string (strOfNums (kF xs k))), D.sl (dI .u64 (kD xs k)) (ka0 (kD xs k)), D.lit (.int .u64 (kM xs k))], .call [1] (bV true) [(0, some (29, .ds [D.lit (.string (strOfNums r)), D.sl (dI .u64 s) n, D.lit (.int .u64 d)]))] 1 [] none] ((k8 (k : Int)) ∧ (k < q) ∧ ((0 : Nat) + k * 3 = (k * 3)) ∧ (ka5 3 (kb2 (k * 3) (kB xs)) = [D.lit (.string (strOfNums (kF xs k))), D.sl (dI .u64 (kD xs k)) (ka0 (kD xs k)), D.lit (.int .u64 (kM xs k))]) ∧ (([D.lit (.string (strOfNums (kF xs k))), D.sl (dI .u64 (kD xs k)) (ka0 (kD xs k)), D.lit (.int .u64 (kM xs k))] : List D).length = 3) ∧ (Fun 29 [.agg [.d (D.lit (.string (strOfNums (kF xs k)))), .d (D.sl (dI .u64 (kD xs k)) (ka0 (kD xs k))), .d (D.lit (.int .u64 (kM xs k)))], .c (.ptr 0 0)] (kC [(0, some (29, .ds [D.lit (.string (strOfNums r)), D.sl (dI .u64 s) n, D.lit (.int .u64 d)]))]) 1 (bV true) (kC [(0, some (29, .ds [D.lit (.string (strOfNums r)), D.sl (dI .u64 s) n, D.lit (.int .u64 d)]))]) 1)) [(0, oV 0 0 q 3), (1, .e (.c (.fn 29 [(1, 0)]))), (5, uV k), (7, uV q), (8, uV k), (16, bV true)] [(0, some (29, .ds (kB xs))), (1, some (29, .ds [D.lit (.string (strOfNums r)), D.sl (dI .u64 s) n, D.lit (.int .u64 d)]))] 2 ⟨rfl, zo, zo, (q7 (i := k) aG), rfl, (by have h0 := (mW (kF xs k) (kD xs k) (ka0 (kD xs k)) (kM xs k) r s n d (kQ : Byt (kF xs k)) qQ rfl qQ (kQ : Byt r) zo zo zo); rw [hx5] at h0; exact h0)⟩ ?_
      refine zt ?_
      refine yT [.no, .no] True [(4, uV k)] trivial ?_
      refine AW.ret ?_
      exact kA (.inr rfl) [] (P := (((uX xs r s q) : Int) = (k : Int)) ∧ (kR (kB xs)) ∧ (kR [D.lit (.string (strOfNums r)), D.sl (dI .u64 s) n, D.lit (.int .u64 d)])) zk ⟨(by first | rfl | exact lZ hi e6 zo | (rw [show q = k by omega]; exact hi) | omega), rfl, rfl⟩
    · obtain ⟨hx9, hx10, hx11⟩ := CsW.at (kQ : CsW xs) (k)
      refine kI [.no, .no, .no, .n2 k (k * 3), .ds [D.lit (.string (strOfNums (kF xs k))), D.sl (dI .u64 (kD xs k)) (ka0 (kD xs k)), D.lit (.int .u64 (kM xs k))], .call [1] (bV false) [(0, some (29, .ds [D.lit (.string (strOfNums r)), D.sl (dI .u64 s) n, D.lit (.int .u64 d)]))] 1 [] none] ((k8 (k : Int)) ∧ (k < q) ∧ ((0 : Nat) + k * 3 = (k * 3)) ∧ (ka5 3 (kb2 (k * 3) (kB xs)) = [D.lit (.string (strOfNums (kF xs k))), D.sl (dI .u64 (kD xs k)) (ka0 (kD xs k)), D.lit (.int .u64 (kM xs k))]) ∧ (([D.lit (.string (strOfNums (kF xs k))), D.sl (dI .u64 (kD xs k)) (ka0 (kD xs k)), D.lit (.int .u64 (kM xs k))] : List D).length = 3) ∧ (Fun 29 [.agg [.d (D.lit (.string (strOfNums (kF xs k)))), .d (D.sl (dI .u64 (kD xs k)) (ka0 (kD xs k))), .d (D.lit (.int .u64 (kM xs k)))], .c (.ptr 0 0)] (kC [(0, some (29, .ds [D.lit (.string (strOfNums r)), D.sl (dI .u64 s) n, D.lit (.int .u64 d)]))]) 1 (bV false) (kC [(0, some (29, .ds [D.lit (.string (strOfNums r)), D.sl (dI .u64 s) n, D.lit (.int .u64 d)]))]) 1)) [(0, oV 0 0 q 3), (1, .e (.c (.fn 29 [(1, 0)]))), (5, uV k), (7, uV q), (8, uV k), (16, bV false)] [(0, some (29, .ds (kB xs))), (1, some (29, .ds [D.lit (.string (strOfNums r)), D.sl (dI .u64 s) n, D.lit (.int .u64 d)]))] 2 ⟨rfl, zo, zo, (q7 (i := k) aG), rfl, (by have h0 := (mW (kF xs k) (kD xs k) (ka0 (kD xs k)) (kM xs k) r s n d (kQ : Byt (kF xs k)) qQ rfl qQ (kQ : Byt r) zo zo zo); rw [hx5] at h0; exact h0)⟩ ?_
      refine uF ?_
      refine cG [.w, .no] (uU ((k : Int) + 1)) [(0, oV 0 0 q 3), (1, .e (.c (.fn 29 [(1, 0)]))), (7, uV q), (8, iV (↑k + 1))] ⟨by omega, by omega⟩ ?_
      exact kY ⟨((k + 1) : Nat), ⟨qG, (zB hi (by first | assumption | exact decide_eq_false (by assumption)))⟩⟩ [] (P := (kT 0) ∧ (kT q) ∧ (k8 (q : Int)) ∧ (y4 k) ∧ (kR (kB xs)) ∧ (kR [D.lit (.string (strOfNums r)), D.sl (dI .u64 s) n, D.lit (.int .u64 d)])) zk ⟨rfl, rfl, rfl, qT, rfl, rfl⟩ (show q - (k + 1) < q - k from u1)
  · refine zr [.b false] [0, 1, 7, 8, 9] [0, 1] (¬ ((k : Int) < (q : Int))) [(0, oV 0 0 q 3), (1, .e (.c (.fn 29 [(1, 0)]))), (7, uV q), (8, uV k), (9, bV false)] [(0, some (29, .ds (kB xs))), (1, some (29, .ds [D.lit (.string (strOfNums r)), D.sl (dI .u64 s) n, D.lit (.int .u64 d)]))] 2 zo ?_
    refine AW.seq ?_
    refine zf ?_
    refine AW.exit ?_
    refine kI [.no] True [(4, iV (-1))] [(0, some (29, .ds (kB xs))), (1, some (29, .ds [D.lit (.string (strOfNums r)), D.sl (dI .u64 s) n, D.lit (.int .u64 d)]))] 2 trivial ?_
    refine AW.ret ?_
    exact kA (.inr rfl) [] (P := (((uX xs r s q) : Int) = (-1)) ∧ (kR (kB xs)) ∧ (kR [D.lit (.string (strOfNums r)), D.sl (dI .u64 s) n, D.lit (.int .u64 d)])) zk ⟨(by first | rfl | exact lZ hi e6 zo | (rw [show q = k by omega]; exact hi) | omega), rfl, rfl⟩
theorem eY {p : Prop} (h : p := by first | assumption | exact decide_eq_false (by omega)) : p := h
theorem eX {p : Prop} (h : p := by first | assumption | exact decide_eq_true (by omega)) : p := h
theorem eZ {p : Prop} (h : p := by first | assumption | (rw [ka8]; assumption)) : p := h
theorem u2 {p : Prop} (h : p := by first | omega | (simp only [kK, kH, kO, ka8, uL, ka4, kb5, kb6, kb8, kc0, kc4, ka8, kc8, kd6, Nat.mul_one] <;> omega) | rfl) : p := h
theorem k1l (xs : List Ch) (q : Nat) (r s : List Int) (n : Nat) (d : Int) (hq : ka0 xs = q) (h0 : q ≤ 1000000) (hX : CsW xs) (hr : Byt r) (hl : ka0 r ≤ 1000000) (hn : ka0 s = n) (h1 : n ≤ 1000000) : Fun 45 [.c (.own 0 0 q 3 true), .c (.fn 29 [(1, 0)])] (kC [(0, some (29, .ds (kB xs))), (1, some (29, .ds [D.lit (.string (strOfNums r)), D.sl (dI .u64 s) n, D.lit (.int .u64 d)]))]) 2 (oV 0 0 (ka0 (qZ xs r s)) 3) (kC [(0, some (29, .ds (kB (qZ xs r s)))), (1, some (29, .ds [D.lit (.string (strOfNums r)), D.sl (dI .u64 s) n, D.lit (.int .u64 d)]))]) 2 := by
  refine Fun.mk (n := 42) Try.func45 rfl rfl (ka3 rfl) ?_
  intro cx hcx
  refine kI [.no] True [(0, oV 0 0 q 3), (1, .e (.c (.fn 29 [(1, 0)])))] [(0, some (29, .ds (kB xs))), (1, some (29, .ds [D.lit (.string (strOfNums r)), D.sl (dI .u64 s) n, D.lit (.int .u64 d)]))] 2 trivial ?_
  have hx1 : (((((-1) : Int) ≤ (uX xs r s q)) ∧ ((uX xs r s q) < ((q : Nat) : Int))) ∨ ((q = 0) ∧ ((uX xs r s q) = (-1)))) := gC _ _
  refine yT [.no, .no, .call [0, 1] (iV (uX xs r s q)) [(0, some (29, .ds (kB xs))), (1, some (29, .ds [D.lit (.string (strOfNums r)), D.sl (dI .u64 s) n, D.lit (.int .u64 d)]))] 2 [] none, .no] _ [(0, oV 0 0 q 3), (1, .e (.c (.fn 29 [(1, 0)]))), (5, iV (uX xs r s q))] (k1j xs q r s n d zo zo (kQ : CsW xs) (kQ : Byt r) zo zo zo) ?_
  refine AW.seq ?_
  by_cases hx2 : ((uX xs r s q) = (-1))
  · refine zr [.no, .b true] [0, 1, 5, 12] [0, 1] (((uX xs r s q) = (-1))) [(0, oV 0 0 q 3), (1, .e (.c (.fn 29 [(1, 0)]))), (5, iV (uX xs r s q)), (12, bV true)] [(0, some (29, .ds (kB xs))), (1, some (29, .ds [D.lit (.string (strOfNums r)), D.sl (dI .u64 s) n, D.lit (.int .u64 d)]))] 2 zo ?_
    refine zt ?_
    refine kI [.no, .no] True [(4, oV 0 0 q 3)] [(0, some (29, .ds (kB xs))), (1, some (29, .ds [D.lit (.string (strOfNums r)), D.sl (dI .u64 s) n, D.lit (.int .u64 d)]))] 2 trivial ?_
    have hz1 : qZ xs r s = xs := mP (p := fun c => uM c.r c.s r s) hq (by assumption)
    have hz2 : ka0 (qZ xs r s) = q := by rw [hz1]; assumption
    refine AW.ret ?_
    exact kA (.inr rfl) [] (P := (kT 0) ∧ (((ka0 (qZ xs r s)) : Nat) = q) ∧ (((kB (qZ xs r s)) : List D) = (kB xs)) ∧ (kR [D.lit (.string (strOfNums r)), D.sl (dI .u64 s) n, D.lit (.int .u64 d)])) zk ⟨rfl, (by first | rfl | exact hz2 | exact hz2.symm | (rw [hz1]; done) | (rw [hz1]; rfl) | omega), (by first | rfl | exact hz2 | exact hz2.symm | (rw [hz1]; done) | (rw [hz1]; rfl) | omega), rfl⟩
  · refine zr [.no, .b false] [0, 1, 5, 12] [0, 1] (¬ ((uX xs r s q) = (-1))) [(0, oV 0 0 q 3), (1, .e (.c (.fn 29 [(1, 0)]))), (5, iV (uX xs r s q)), (12, bV false)] [(0, some (29, .ds (kB xs))), (1, some (29, .ds [D.lit (.string (strOfNums r)), D.sl (dI .u64 s) n, D.lit (.int .u64 d)]))] 2 zo ?_
    refine uF ?_
    refine AW.seq ?_
    refine kI [.no, .w, .no] (uU ((uX xs r s q) + 1)) [(0, oV 0 0 q 3), (1, .e (.c (.fn 29 [(1, 0)]))), (5, iV (uX xs r s q)), (6, iV ((uX xs r s q) + 1))] [(0, some (29, .ds (kB xs))), (1, some (29, .ds [D.lit (.string (strOfNums r)), D.sl (dI .u64 s) n, D.lit (.int .u64 d)]))] 2 ⟨by omega, by omega⟩ ?_
    refine AW.block ?_
    refine kV 2 hcx (fun (x : {x : Nat × Nat × List Ch // match x with | (i, j, ys) => (i < j ∧ j ≤ q) ∧ (dfC xs ys r s i j) ∧ (ka0 ys = q) ∧ (CsW ys)}) => match x with | ⟨(i, j, ys), _⟩ => (⟨[(0, oV 0 0 q 3), (1, .e (.c (.fn 29 [(1, 0)]))), (5, uV i), (6, uV j)], [(0, some (29, .ds (kB ys))), (1, some (29, .ds [D.lit (.string (strOfNums r)), D.sl (dI .u64 s) n, D.lit (.int .u64 d)]))], 2⟩ : ES)) (fun x => match x with | ⟨(i, j, ys), _⟩ => q - j) ⟨(((kc6 (uX xs r s q)) : Nat), (((kc6 (uX xs r s q)) + 1) : Nat), (xs : List Ch)), ⟨qG, (k2y (p := fun c => uM c.r c.s r s) hq (by show uX xs r s q = _; omega)), (by assumption), hX⟩⟩ [] (P := (kT 0) ∧ (kT q) ∧ (((kc6 (uX xs r s q) : Int) : Int) = (uX xs r s q)) ∧ ((((((kc6 (uX xs r s q)) + 1) : Nat) : Int) : Int) = ((uX xs r s q) + 1)) ∧ (kR (kB xs)) ∧ (kR [D.lit (.string (strOfNums r)), D.sl (dI .u64 s) n, D.lit (.int .u64 d)])) zk ⟨rfl, rfl, qT, qT, rfl, rfl⟩ ?_
    rintro ⟨⟨i, j, ys⟩, hinv0⟩
    obtain ⟨hj, hS, hY, hW⟩ : (i < j ∧ j ≤ q) ∧ (dfC xs ys r s i j) ∧ (ka0 ys = q) ∧ (CsW ys) := hinv0
    refine qW (l := [(0, oV 0 0 q 3), (1, .e (.c (.fn 29 [(1, 0)]))), (5, uV i), (6, uV j)]) (g := [(0, some (29, .ds (kB ys))), (1, some (29, .ds [D.lit (.string (strOfNums r)), D.sl (dI .u64 s) n, D.lit (.int .u64 d)]))]) (nx := 2) rfl rfl rfl ?_
    refine AW.seq ?_
    by_cases hx3 : (((j : Nat) : Int) < ((q : Nat) : Int))
    · refine zr [.no, .no, .no, .b true] [0, 1, 5, 6, 19] [0, 1] (((j : Int) < (q : Int))) [(0, oV 0 0 q 3), (1, .e (.c (.fn 29 [(1, 0)]))), (5, uV i), (6, uV j), (19, bV true)] [(0, some (29, .ds (kB ys))), (1, some (29, .ds [D.lit (.string (strOfNums r)), D.sl (dI .u64 s) n, D.lit (.int .u64 d)]))] 2 zo ?_
      refine cB ?_
      refine AW.seq ?_
      refine AW.block ?_
      obtain ⟨hx4, hx5, hx6⟩ := CsW.at (kQ : CsW ys) (j)
      refine kI [.no, .no, .n2 j (j * 3), .ds [D.lit (.string (strOfNums (kF ys j))), D.sl (dI .u64 (kD ys j)) (ka0 (kD ys j)), D.lit (.int .u64 (kM ys j))], .no, .no] ((k8 (j : Int)) ∧ (j < q) ∧ ((0 : Nat) + j * 3 = (j * 3)) ∧ (ka5 3 (kb2 (j * 3) (kB ys)) = [D.lit (.string (strOfNums (kF ys j))), D.sl (dI .u64 (kD ys j)) (ka0 (kD ys j)), D.lit (.int .u64 (kM ys j))]) ∧ (([D.lit (.string (strOfNums (kF ys j))), D.sl (dI .u64 (kD ys j)) (ka0 (kD ys j)), D.lit (.int .u64 (kM ys j))] : List D).length = 3)) [(0, oV 0 0 q 3), (1, .e (.c (.fn 29 [(1, 0)]))), (5, uV i), (6, uV j), (7, rV 2 0)] [(0, some (29, .ds (kB ys))), (1, some (29, .ds [D.lit (.string (strOfNums r)), D.sl (dI .u64 s) n, D.lit (.int .u64 d)])), (2, some (29, .ds [D.lit (.string (strOfNums (kF ys j))), D.sl (dI .u64 (kD ys j)) (ka0 (kD ys j)), D.lit (.int .u64 (kM ys j))]))] 3 ⟨rfl, zo, zo, (q7 (i := j) aG), rfl⟩ ?_
      rcases ka6 (uM (kF ys j) (kD ys j) r s) with hx7 | hx7
      · refine zr [.no, .no, .call [1] (bV true) [(0, some (29, .ds [D.lit (.string (strOfNums r)), D.sl (dI .u64 s) n, D.lit (.int .u64 d)]))] 1 [] none, .no] [0, 1, 5, 6, 7, 29] [0, 1, 2] (Fun 29 [.agg [.d (D.lit (.string (strOfNums (kF ys j)))), .d (D.sl (dI .u64 (kD ys j)) (ka0 (kD ys j))), .d (D.lit (.int .u64 (kM ys j)))], .c (.ptr 0 0)] (kC [(0, some (29, .ds [D.lit (.string (strOfNums r)), D.sl (dI .u64 s) n, D.lit (.int .u64 d)]))]) 1 (bV true) (kC [(0, some (29, .ds [D.lit (.string (strOfNums r)), D.sl (dI .u64 s) n, D.lit (.int .u64 d)]))]) 1) [(0, oV 0 0 q 3), (1, .e (.c (.fn 29 [(1, 0)]))), (5, uV i), (6, uV j), (7, rV 2 0), (29, bV false)] [(0, some (29, .ds (kB ys))), (1, some (29, .ds [D.lit (.string (strOfNums r)), D.sl (dI .u64 s) n, D.lit (.int .u64 d)])), (2, some (29, .ds [D.lit (.string (strOfNums (kF ys j))), D.sl (dI .u64 (kD ys j)) (ka0 (kD ys j)), D.lit (.int .u64 (kM ys j))]))] 3 (by have h0 := (mW (kF ys j) (kD ys j) (ka0 (kD ys j)) (kM ys j) r s n d (kQ : Byt (kF ys j)) qQ rfl qQ (kQ : Byt r) zo zo zo); rw [hx7] at h0; exact h0) ?_
        refine uF ?_
        refine bQ [.no, .w, .no] (uU ((j : Int) + 1)) [(0, oV 0 0 q 3), (1, .e (.c (.fn 29 [(1, 0)]))), (5, uV i), (6, iV (↑j + 1))] [(0, some (29, .ds (kB ys))), (1, some (29, .ds [D.lit (.string (strOfNums r)), D.sl (dI .u64 s) n, D.lit (.int .u64 d)]))] 3 ⟨by omega, by omega⟩ ?_
        exact kY ⟨((i : Nat), ((j + 1) : Nat), (ys : List Ch)), ⟨qG, (by first | exact (xW (p := fun c => uM c.r c.s r s) hS zo zo eY) | exact (xX (p := fun c => uM c.r c.s r s) hS zo eX)), eZ, (by first | assumption | exact CsW.set hW (hW.get _) _)⟩⟩ [] (P := (kT 0) ∧ (kT q) ∧ (k8 (i : Int)) ∧ (y4 j) ∧ (kR (kB ys)) ∧ (kR [D.lit (.string (strOfNums r)), D.sl (dI .u64 s) n, D.lit (.int .u64 d)])) zk ⟨rfl, rfl, rfl, qT, rfl, rfl⟩ (show q - (j + 1) < q - j from u1)
      · refine zr [.no, .no, .call [1] (bV false) [(0, some (29, .ds [D.lit (.string (strOfNums r)), D.sl (dI .u64 s) n, D.lit (.int .u64 d)]))] 1 [] none, .no] [0, 1, 5, 6, 7, 29] [0, 1, 2] (Fun 29 [.agg [.d (D.lit (.string (strOfNums (kF ys j)))), .d (D.sl (dI .u64 (kD ys j)) (ka0 (kD ys j))), .d (D.lit (.int .u64 (kM ys j)))], .c (.ptr 0 0)] (kC [(0, some (29, .ds [D.lit (.string (strOfNums r)), D.sl (dI .u64 s) n, D.lit (.int .u64 d)]))]) 1 (bV false) (kC [(0, some (29, .ds [D.lit (.string (strOfNums r)), D.sl (dI .u64 s) n, D.lit (.int .u64 d)]))]) 1) [(0, oV 0 0 q 3), (1, .e (.c (.fn 29 [(1, 0)]))), (5, uV i), (6, uV j), (7, rV 2 0), (29, bV true)] [(0, some (29, .ds (kB ys))), (1, some (29, .ds [D.lit (.string (strOfNums r)), D.sl (dI .u64 s) n, D.lit (.int .u64 d)])), (2, some (29, .ds [D.lit (.string (strOfNums (kF ys j))), D.sl (dI .u64 (kD ys j)) (ka0 (kD ys j)), D.lit (.int .u64 (kM ys j))]))] 3 (by have h0 := (mW (kF ys j) (kD ys j) (ka0 (kD ys j)) (kM ys j) r s n d (kQ : Byt (kF ys j)) qQ rfl qQ (kQ : Byt r) zo zo zo); rw [hx7] at h0; exact h0) ?_
        refine zt ?_
        refine kI [.no, .no, .no, .n2 i (i * 3), .ds (kB (ke2 ys i (kZ (kF ys j) (kD ys j) (kM ys j))))] ((k8 (i : Int)) ∧ (i < q) ∧ ((0 : Nat) + i * 3 = (i * 3)) ∧ ((i * 3) + 3 ≤ (kB ys).length) ∧ (jN (kB ys) (i * 3) [D.lit (.string (strOfNums (kF ys j))), D.sl (dI .u64 (kD ys j)) (ka0 (kD ys j)), D.lit (.int .u64 (kM ys j))] = (kB (ke2 ys i (kZ (kF ys j) (kD ys j) (kM ys j)))))) [(0, oV 0 0 q 3), (1, .e (.c (.fn 29 [(1, 0)]))), (5, uV i), (6, uV j)] [(0, some (29, .ds (kB (ke2 ys i (kZ (kF ys j) (kD ys j) (kM ys j)))))), (1, some (29, .ds [D.lit (.string (strOfNums r)), D.sl (dI .u64 s) n, D.lit (.int .u64 d)]))] 3 ⟨rfl, zo, zo, u2, (lQ (kF ys j) (kD ys j) (kM ys j) (ka0 (kD ys j)) (by first | rfl | assumption | omega) _ _ (by first | omega | (simp only [ka8]; omega)))⟩ ?_
        refine cG [.no, .w, .no] (uU ((i : Int) + 1)) [(0, oV 0 0 q 3), (1, .e (.c (.fn 29 [(1, 0)]))), (5, iV (↑i + 1)), (6, uV j)] ⟨by omega, by omega⟩ ?_
        refine cG [.no, .w, .no] (uU ((j : Int) + 1)) [(0, oV 0 0 q 3), (1, .e (.c (.fn 29 [(1, 0)]))), (5, iV (↑i + 1)), (6, iV (↑j + 1))] ⟨by omega, by omega⟩ ?_
        exact kY ⟨(((i + 1) : Nat), ((j + 1) : Nat), ((ke2 ys i (kZ (kF ys j) (kD ys j) (kM ys j))) : List Ch)), ⟨qG, (by first | exact (xW (p := fun c => uM c.r c.s r s) hS zo zo eY) | exact (xX (p := fun c => uM c.r c.s r s) hS zo eX)), eZ, (by first | assumption | exact CsW.set hW (hW.get _) _)⟩⟩ [] (P := (kT 0) ∧ (kT q) ∧ (y4 i) ∧ (y4 j) ∧ (kR (kB (ke2 ys i (kZ (kF ys j) (kD ys j) (kM ys j))))) ∧ (kR [D.lit (.string (strOfNums r)), D.sl (dI .u64 s) n, D.lit (.int .u64 d)])) zk ⟨rfl, rfl, qT, qT, rfl, rfl⟩ (show q - (j + 1) < q - j from u1)
    · refine zr [.no, .no, .no, .b false] [0, 1, 5, 6, 19] [0, 1] (¬ ((j : Int) < (q : Int))) [(0, oV 0 0 q 3), (1, .e (.c (.fn 29 [(1, 0)]))), (5, uV i), (6, uV j), (19, bV false)] [(0, some (29, .ds (kB ys))), (1, some (29, .ds [D.lit (.string (strOfNums r)), D.sl (dI .u64 s) n, D.lit (.int .u64 d)]))] 2 zo ?_
      refine zf ?_
      refine AW.exit ?_
      refine kI [.no, .no, .sl i q (i * 3) (q - i), .mk 0 0 (oA ys i (q - i))] ((k8 (i : Int)) ∧ (q = q) ∧ (i ≤ q) ∧ (q ≤ q) ∧ ((0 : Nat) + i * 3 = (i * 3)) ∧ (q - i = (q - i)) ∧ ((i * 3) + (q - i) * 3 ≤ ((kB ys) : List D).length) ∧ (ka5 (i * 3) ((kB ys) : List D) ++ (kb0 (q - i) ([D.lit (.string { data := #[] }), uC, D.lit (.int .u64 0)] : List D)).flatten ++ kb2 ((i * 3) + (q - i) * 3) ((kB ys) : List D) = (oA ys i (q - i)))) [(0, oV 0 0 q 3), (5, uV i)] [(0, some (29, .ds (oA ys i (q - i)))), (1, some (29, .ds [D.lit (.string (strOfNums r)), D.sl (dI .u64 s) n, D.lit (.int .u64 d)]))] 2 ⟨rfl, rfl, zo, zo, zo, zo, u2, (tI ys i (q - i) zo)⟩ ?_
      refine kI [.no, .no, .mk i 0 (kB (ka5 i ys)), .no] ((k8 (i : Int)) ∧ (i ≤ q) ∧ (ka5 (i * 3) ((oA ys i (q - i)) : List D) = (kB (ka5 i ys)))) [(4, oV 0 0 i 3)] [(0, some (29, .ds (kB (ka5 i ys)))), (1, some (29, .ds [D.lit (.string (strOfNums r)), D.sl (dI .u64 s) n, D.lit (.int .u64 d)]))] 2 ⟨rfl, zo, (i1 ys i (q - i) zo)⟩ ?_
      have hz1 : qZ xs r s = ka5 i ys := (k2x (p := fun c => uM c.r c.s r s) hS (by omega)).symm
      have hz2 : ka0 (qZ xs r s) = i := by rw [hz1, kb8]; omega
      refine AW.ret ?_
      exact kA (.inr rfl) [] (P := (kT 0) ∧ (((ka0 (qZ xs r s)) : Nat) = i) ∧ (((kB (qZ xs r s)) : List D) = (kB (ka5 i ys))) ∧ (kR [D.lit (.string (strOfNums r)), D.sl (dI .u64 s) n, D.lit (.int .u64 d)])) zk ⟨rfl, (by first | rfl | exact hz2 | exact hz2.symm | (rw [hz1]; done) | (rw [hz1]; rfl) | omega), (by first | rfl | exact hz2 | exact hz2.symm | (rw [hz1]; done) | (rw [hz1]; rfl) | omega), rfl⟩
theorem k3g (xs : List Ch) (q : Nat) (r s : List Int) (n : Nat) (d : Int) (hq : ka0 xs = q) (h0 : q ≤ 1000000) (hX : CsW xs) (hr : Byt r) (hl : ka0 r ≤ 1000000) (hn : ka0 s = n) (h1 : n ≤ 1000000) : Fun 28 [.agg [.d (D.sl (kB xs) q)], .c (.fn 29 [(0, 0)])] (kC [(0, some (29, .ds [D.lit (.string (strOfNums r)), D.sl (dI .u64 s) n, D.lit (.int .u64 d)]))]) 1 (.e (.agg [.own 1 0 (ka0 (qZ xs r s)) 3 true])) (kC [(0, some (29, .ds [D.lit (.string (strOfNums r)), D.sl (dI .u64 s) n, D.lit (.int .u64 d)])), (1, some (29, .ds (kB (qZ xs r s))))]) 2 := by
  refine Fun.mk (n := 11) Try.func28 rfl rfl (ka3 rfl) ?_
  intro cx hcx
  refine kI [.no, .no] True [(1, .e (.c (.fn 29 [(0, 0)]))), (2, rV 1 0), (4, rV 2 0)] [(0, some (29, .ds [D.lit (.string (strOfNums r)), D.sl (dI .u64 s) n, D.lit (.int .u64 d)])), (1, some (25, .ds [D.sl (kB xs) q])), (2, some (25, .ds [uC]))] 3 trivial ?_
  have hx1 : ((ka0 (qZ xs r s)) ≤ q) := (by have h9 := f9 xs r s; omega)
  refine kI [.no, .call [] (.e (.agg [.own 0 0 q 3 true])) [(0, some (29, .ds (kB xs)))] 1 [] none, .no, .no, .call [3, 0] (oV 0 0 (ka0 (qZ xs r s)) 3) [(0, some (29, .ds (kB (qZ xs r s)))), (1, some (29, .ds [D.lit (.string (strOfNums r)), D.sl (dI .u64 s) n, D.lit (.int .u64 d)]))] 2 [] none, .no, .no] ((_) ∧ (_)) [(4, rV 2 0)] [(0, some (29, .ds [D.lit (.string (strOfNums r)), D.sl (dI .u64 s) n, D.lit (.int .u64 d)])), (2, some (25, .cs [.own 3 0 (ka0 (qZ xs r s)) 3 true])), (3, some (29, .ds (kB (qZ xs r s))))] 4 ⟨(lS xs q zo zo (kQ : CsW xs)), (k1l xs q r s n d zo zo (kQ : CsW xs) (kQ : Byt r) zo zo zo)⟩ ?_
  refine AW.ret ?_
  exact kA (.inr rfl) [(1, 3)] (P := (kT 0) ∧ (kT (ka0 (qZ xs r s))) ∧ (kR [D.lit (.string (strOfNums r)), D.sl (dI .u64 s) n, D.lit (.int .u64 d)]) ∧ (kR (kB (qZ xs r s)))) zk ⟨rfl, rfl, rfl, rfl⟩
theorem k1i (xs : List Ch) (q : Nat) (z : Int) (hq : ka0 xs = q) (h0 : q ≤ 1000000) (hX : CsW xs) : Fun 41 [.c (.own 0 0 q 3 true), .c (.fn 36 [(1, 0)])] (kC [(0, some (29, .ds (kB xs))), (1, some (27, .ds [D.lit (.int .u64 z)]))]) 2 (iV (a4 xs z q)) (kC [(0, some (29, .ds (kB xs))), (1, some (27, .ds [D.lit (.int .u64 z)]))]) 2 := by
  refine Fun.mk (n := 19) Try.func41 rfl rfl (ka3 rfl) ?_
  intro cx hcx
  refine kI [.no] True [(0, oV 0 0 q 3), (1, .e (.c (.fn 36 [(1, 0)])))] [(0, some (29, .ds (kB xs))), (1, some (27, .ds [D.lit (.int .u64 z)]))] 2 trivial ?_
  refine AW.seq ?_
  refine yT [.no, .no, .no] True [(0, oV 0 0 q 3), (1, .e (.c (.fn 36 [(1, 0)]))), (7, uV q), (8, iV 0)] trivial ?_
  refine AW.block ?_
  refine kV 2 hcx (fun (x : {x : Nat // match x with | k => (k ≤ q) ∧ (a4 xs z k = -1)}) => match x with | ⟨k, _⟩ => (⟨[(0, oV 0 0 q 3), (1, .e (.c (.fn 36 [(1, 0)]))), (7, uV q), (8, uV k)], [(0, some (29, .ds (kB xs))), (1, some (27, .ds [D.lit (.int .u64 z)]))], 2⟩ : ES)) (fun x => match x with | ⟨k, _⟩ => q - k) ⟨(0 : Nat), ⟨qG, rfl⟩⟩ [] (P := (kT 0) ∧ (kT q) ∧ (k8 (q : Int)) ∧ (k8 0) ∧ (kR (kB xs)) ∧ (kR [D.lit (.int .u64 z)])) zk ⟨rfl, rfl, rfl, rfl, rfl, rfl⟩ ?_
  rintro ⟨k, hinv0⟩
  obtain ⟨hk, hi⟩ : (k ≤ q) ∧ (a4 xs z k = -1) := hinv0
  refine qW (l := [(0, oV 0 0 q 3), (1, .e (.c (.fn 36 [(1, 0)]))), (7, uV q), (8, uV k)]) (g := [(0, some (29, .ds (kB xs))), (1, some (27, .ds [D.lit (.int .u64 z)]))]) (nx := 2) rfl rfl rfl ?_
  by_cases hx1 : (((k : Nat) : Int) < ((q : Nat) : Int))
  · refine zr [.b true] [0, 1, 7, 8, 9] [0, 1] (((k : Int) < (q : Int))) [(0, oV 0 0 q 3), (1, .e (.c (.fn 36 [(1, 0)]))), (7, uV q), (8, uV k), (9, bV true)] [(0, some (29, .ds (kB xs))), (1, some (27, .ds [D.lit (.int .u64 z)]))] 2 zo ?_
    refine AW.seq ?_
    refine cB ?_
    refine AW.seq ?_
    refine AW.block ?_
    refine kI [.no, .no] True [(0, oV 0 0 q 3), (1, .e (.c (.fn 36 [(1, 0)]))), (5, uV k), (7, uV q), (8, uV k)] [(0, some (29, .ds (kB xs))), (1, some (27, .ds [D.lit (.int .u64 z)]))] 2 trivial ?_
    rcases ka6 (decide ((kM xs k) = z)) with hx5 | hx5
    · have hx6 : ((kM xs k) = z) := of_decide_eq_true hx5
      obtain ⟨hx7, hx8, hx9⟩ := CsW.at (kQ : CsW xs) (k)
      refine kI [.no, .no, .no, .n2 k (k * 3), .ds [D.lit (.string (strOfNums (kF xs k))), D.sl (dI .u64 (kD xs k)) (ka0 (kD xs k)), D.lit (.int .u64 (kM xs k))], .call [1] (bV true) [(0, some (27, .ds [D.lit (.int .u64 z)]))] 1 [] none] ((k8 (k : Int)) ∧ (k < q) ∧ ((0 : Nat) + k * 3 = (k * 3)) ∧ (ka5 3 (kb2 (k * 3) (kB xs)) = [D.lit (.string (strOfNums (kF xs k))), D.sl (dI .u64 (kD xs k)) (ka0 (kD xs k)), D.lit (.int .u64 (kM xs k))]) ∧ (([D.lit (.string (strOfNums (kF xs k))), D.sl (dI .u64 (kD xs k)) (ka0 (kD xs k)), D.lit (.int .u64 (kM xs k))] : List D).length = 3) ∧ (Fun 36 [.agg [.d (D.lit (.string (strOfNums (kF xs k)))), .d (D.sl (dI .u64 (kD xs k)) (ka0 (kD xs k))), .d (D.lit (.int .u64 (kM xs k)))], .c (.ptr 0 0)] (kC [(0, some (27, .ds [D.lit (.int .u64 z)]))]) 1 (bV true) (kC [(0, some (27, .ds [D.lit (.int .u64 z)]))]) 1)) [(0, oV 0 0 q 3), (1, .e (.c (.fn 36 [(1, 0)]))), (5, uV k), (7, uV q), (8, uV k), (16, bV true)] [(0, some (29, .ds (kB xs))), (1, some (27, .ds [D.lit (.int .u64 z)]))] 2 ⟨rfl, zo, zo, (q7 (i := k) aG), rfl, (by have h0 := (x4 (kF xs k) (kD xs k) (ka0 (kD xs k)) (kM xs k) z (kQ : Byt (kF xs k)) qQ rfl qQ); rw [hx5] at h0; exact h0)⟩ ?_
      refine zt ?_
      refine yT [.no, .no] True [(4, uV k)] trivial ?_
      refine AW.ret ?_
      exact kA (.inr rfl) [] (P := (((a4 xs z q) : Int) = (k : Int)) ∧ (kR (kB xs)) ∧ (kR [D.lit (.int .u64 z)])) zk ⟨(by first | rfl | exact zT hi e6 zo | (rw [show q = k by omega]; exact hi) | omega), rfl, rfl⟩
    · have hx10 : ¬ ((kM xs k) = z) := of_decide_eq_false hx5
      obtain ⟨hx11, hx12, hx13⟩ := CsW.at (kQ : CsW xs) (k)
      refine kI [.no, .no, .no, .n2 k (k * 3), .ds [D.lit (.string (strOfNums (kF xs k))), D.sl (dI .u64 (kD xs k)) (ka0 (kD xs k)), D.lit (.int .u64 (kM xs k))], .call [1] (bV false) [(0, some (27, .ds [D.lit (.int .u64 z)]))] 1 [] none] ((k8 (k : Int)) ∧ (k < q) ∧ ((0 : Nat) + k * 3 = (k * 3)) ∧ (ka5 3 (kb2 (k * 3) (kB xs)) = [D.lit (.string (strOfNums (kF xs k))), D.sl (dI .u64 (kD xs k)) (ka0 (kD xs k)), D.lit (.int .u64 (kM xs k))]) ∧ (([D.lit (.string (strOfNums (kF xs k))), D.sl (dI .u64 (kD xs k)) (ka0 (kD xs k)), D.lit (.int .u64 (kM xs k))] : List D).length = 3) ∧ (Fun 36 [.agg [.d (D.lit (.string (strOfNums (kF xs k)))), .d (D.sl (dI .u64 (kD xs k)) (ka0 (kD xs k))), .d (D.lit (.int .u64 (kM xs k)))], .c (.ptr 0 0)] (kC [(0, some (27, .ds [D.lit (.int .u64 z)]))]) 1 (bV false) (kC [(0, some (27, .ds [D.lit (.int .u64 z)]))]) 1)) [(0, oV 0 0 q 3), (1, .e (.c (.fn 36 [(1, 0)]))), (5, uV k), (7, uV q), (8, uV k), (16, bV false)] [(0, some (29, .ds (kB xs))), (1, some (27, .ds [D.lit (.int .u64 z)]))] 2 ⟨rfl, zo, zo, (q7 (i := k) aG), rfl, (by have h0 := (x4 (kF xs k) (kD xs k) (ka0 (kD xs k)) (kM xs k) z (kQ : Byt (kF xs k)) qQ rfl qQ); rw [hx5] at h0; exact h0)⟩ ?_
      refine uF ?_
      refine cG [.w, .no] (uU ((k : Int) + 1)) [(0, oV 0 0 q 3), (1, .e (.c (.fn 36 [(1, 0)]))), (7, uV q), (8, iV (↑k + 1))] ⟨by omega, by omega⟩ ?_
      exact kY ⟨((k + 1) : Nat), ⟨qG, (k2v hi (by first | assumption | exact decide_eq_false (by assumption)))⟩⟩ [] (P := (kT 0) ∧ (kT q) ∧ (k8 (q : Int)) ∧ (y4 k) ∧ (kR (kB xs)) ∧ (kR [D.lit (.int .u64 z)])) zk ⟨rfl, rfl, rfl, qT, rfl, rfl⟩ (show q - (k + 1) < q - k from u1)
  · refine zr [.b false] [0, 1, 7, 8, 9] [0, 1] (¬ ((k : Int) < (q : Int))) [(0, oV 0 0 q 3), (1, .e (.c (.fn 36 [(1, 0)]))), (7, uV q), (8, uV k), (9, bV false)] [(0, some (29, .ds (kB xs))), (1, some (27, .ds [D.lit (.int .u64 z)]))] 2 zo ?_
    refine AW.seq ?_
    refine zf ?_
    refine AW.exit ?_
    refine kI [.no] True [(4, iV (-1))] [(0, some (29, .ds (kB xs))), (1, some (27, .ds [D.lit (.int .u64 z)]))] 2 trivial ?_
    refine AW.ret ?_
    exact kA (.inr rfl) [] (P := (((a4 xs z q) : Int) = (-1)) ∧ (kR (kB xs)) ∧ (kR [D.lit (.int .u64 z)])) zk ⟨(by first | rfl | exact zT hi e6 zo | (rw [show q = k by omega]; exact hi) | omega), rfl, rfl⟩
theorem k1k (xs : List Ch) (q : Nat) (z : Int) (hq : ka0 xs = q) (h0 : q ≤ 1000000) (hX : CsW xs) : Fun 45 [.c (.own 0 0 q 3 true), .c (.fn 36 [(1, 0)])] (kC [(0, some (29, .ds (kB xs))), (1, some (27, .ds [D.lit (.int .u64 z)]))]) 2 (oV 0 0 (ka0 (vB xs z)) 3) (kC [(0, some (29, .ds (kB (vB xs z)))), (1, some (27, .ds [D.lit (.int .u64 z)]))]) 2 := by
  refine Fun.mk (n := 42) Try.func45 rfl rfl (ka3 rfl) ?_
  intro cx hcx
  refine kI [.no] True [(0, oV 0 0 q 3), (1, .e (.c (.fn 36 [(1, 0)])))] [(0, some (29, .ds (kB xs))), (1, some (27, .ds [D.lit (.int .u64 z)]))] 2 trivial ?_
  have hx1 : (((((-1) : Int) ≤ (a4 xs z q)) ∧ ((a4 xs z q) < ((q : Nat) : Int))) ∨ ((q = 0) ∧ ((a4 xs z q) = (-1)))) := gC _ _
  refine yT [.no, .no, .call [0, 1] (iV (a4 xs z q)) [(0, some (29, .ds (kB xs))), (1, some (27, .ds [D.lit (.int .u64 z)]))] 2 [] none, .no] _ [(0, oV 0 0 q 3), (1, .e (.c (.fn 36 [(1, 0)]))), (5, iV (a4 xs z q))] (k1i xs q z zo zo (kQ : CsW xs)) ?_
  refine AW.seq ?_
  by_cases hx2 : ((a4 xs z q) = (-1))
  · refine zr [.no, .b true] [0, 1, 5, 12] [0, 1] (((a4 xs z q) = (-1))) [(0, oV 0 0 q 3), (1, .e (.c (.fn 36 [(1, 0)]))), (5, iV (a4 xs z q)), (12, bV true)] [(0, some (29, .ds (kB xs))), (1, some (27, .ds [D.lit (.int .u64 z)]))] 2 zo ?_
    refine zt ?_
    refine kI [.no, .no] True [(4, oV 0 0 q 3)] [(0, some (29, .ds (kB xs))), (1, some (27, .ds [D.lit (.int .u64 z)]))] 2 trivial ?_
    have hz1 : vB xs z = xs := mP (p := fun c => decide (c.d = z)) hq (by assumption)
    have hz2 : ka0 (vB xs z) = q := by rw [hz1]; assumption
    refine AW.ret ?_
    exact kA (.inr rfl) [] (P := (kT 0) ∧ (((ka0 (vB xs z)) : Nat) = q) ∧ (((kB (vB xs z)) : List D) = (kB xs)) ∧ (kR [D.lit (.int .u64 z)])) zk ⟨rfl, (by first | rfl | exact hz2 | exact hz2.symm | (rw [hz1]; done) | (rw [hz1]; rfl) | omega), (by first | rfl | exact hz2 | exact hz2.symm | (rw [hz1]; done) | (rw [hz1]; rfl) | omega), rfl⟩
  · refine zr [.no, .b false] [0, 1, 5, 12] [0, 1] (¬ ((a4 xs z q) = (-1))) [(0, oV 0 0 q 3), (1, .e (.c (.fn 36 [(1, 0)]))), (5, iV (a4 xs z q)), (12, bV false)] [(0, some (29, .ds (kB xs))), (1, some (27, .ds [D.lit (.int .u64 z)]))] 2 zo ?_
    refine uF ?_
    refine AW.seq ?_
    refine kI [.no, .w, .no] (uU ((a4 xs z q) + 1)) [(0, oV 0 0 q 3), (1, .e (.c (.fn 36 [(1, 0)]))), (5, iV (a4 xs z q)), (6, iV ((a4 xs z q) + 1))] [(0, some (29, .ds (kB xs))), (1, some (27, .ds [D.lit (.int .u64 z)]))] 2 ⟨by omega, by omega⟩ ?_
    refine AW.block ?_
    refine kV 2 hcx (fun (x : {x : Nat × Nat × List Ch // match x with | (i, j, ys) => (i < j ∧ j ≤ q) ∧ (dfD xs ys z i j) ∧ (ka0 ys = q) ∧ (CsW ys)}) => match x with | ⟨(i, j, ys), _⟩ => (⟨[(0, oV 0 0 q 3), (1, .e (.c (.fn 36 [(1, 0)]))), (5, uV i), (6, uV j)], [(0, some (29, .ds (kB ys))), (1, some (27, .ds [D.lit (.int .u64 z)]))], 2⟩ : ES)) (fun x => match x with | ⟨(i, j, ys), _⟩ => q - j) ⟨(((kc6 (a4 xs z q)) : Nat), (((kc6 (a4 xs z q)) + 1) : Nat), (xs : List Ch)), ⟨qG, (k2y (p := fun c => decide (c.d = z)) hq (by show a4 xs z q = _; omega)), (by assumption), hX⟩⟩ [] (P := (kT 0) ∧ (kT q) ∧ (((kc6 (a4 xs z q) : Int) : Int) = (a4 xs z q)) ∧ ((((((kc6 (a4 xs z q)) + 1) : Nat) : Int) : Int) = ((a4 xs z q) + 1)) ∧ (kR (kB xs)) ∧ (kR [D.lit (.int .u64 z)])) zk ⟨rfl, rfl, qT, qT, rfl, rfl⟩ ?_
    rintro ⟨⟨i, j, ys⟩, hinv0⟩
    obtain ⟨hj, hS, hY, hW⟩ : (i < j ∧ j ≤ q) ∧ (dfD xs ys z i j) ∧ (ka0 ys = q) ∧ (CsW ys) := hinv0
    refine qW (l := [(0, oV 0 0 q 3), (1, .e (.c (.fn 36 [(1, 0)]))), (5, uV i), (6, uV j)]) (g := [(0, some (29, .ds (kB ys))), (1, some (27, .ds [D.lit (.int .u64 z)]))]) (nx := 2) rfl rfl rfl ?_
    refine AW.seq ?_
    by_cases hx3 : (((j : Nat) : Int) < ((q : Nat) : Int))
    · refine zr [.no, .no, .no, .b true] [0, 1, 5, 6, 19] [0, 1] (((j : Int) < (q : Int))) [(0, oV 0 0 q 3), (1, .e (.c (.fn 36 [(1, 0)]))), (5, uV i), (6, uV j), (19, bV true)] [(0, some (29, .ds (kB ys))), (1, some (27, .ds [D.lit (.int .u64 z)]))] 2 zo ?_
      refine cB ?_
      refine AW.seq ?_
      refine AW.block ?_
      obtain ⟨hx4, hx5, hx6⟩ := CsW.at (kQ : CsW ys) (j)
      refine kI [.no, .no, .n2 j (j * 3), .ds [D.lit (.string (strOfNums (kF ys j))), D.sl (dI .u64 (kD ys j)) (ka0 (kD ys j)), D.lit (.int .u64 (kM ys j))], .no, .no] ((k8 (j : Int)) ∧ (j < q) ∧ ((0 : Nat) + j * 3 = (j * 3)) ∧ (ka5 3 (kb2 (j * 3) (kB ys)) = [D.lit (.string (strOfNums (kF ys j))), D.sl (dI .u64 (kD ys j)) (ka0 (kD ys j)), D.lit (.int .u64 (kM ys j))]) ∧ (([D.lit (.string (strOfNums (kF ys j))), D.sl (dI .u64 (kD ys j)) (ka0 (kD ys j)), D.lit (.int .u64 (kM ys j))] : List D).length = 3)) [(0, oV 0 0 q 3), (1, .e (.c (.fn 36 [(1, 0)]))), (5, uV i), (6, uV j), (7, rV 2 0)] [(0, some (29, .ds (kB ys))), (1, some (27, .ds [D.lit (.int .u64 z)])), (2, some (29, .ds [D.lit (.string (strOfNums (kF ys j))), D.sl (dI .u64 (kD ys j)) (ka0 (kD ys j)), D.lit (.int .u64 (kM ys j))]))] 3 ⟨rfl, zo, zo, (q7 (i := j) aG), rfl⟩ ?_
      rcases ka6 (decide ((kM ys j) = z)) with hx7 | hx7
      · have hx8 : ((kM ys j) = z) := of_decide_eq_true hx7
        refine kI [.no, .no, .call [1] (bV true) [(0, some (27, .ds [D.lit (.int .u64 z)]))] 1 [] none, .no] (Fun 36 [.agg [.d (D.lit (.string (strOfNums (kF ys j)))), .d (D.sl (dI .u64 (kD ys j)) (ka0 (kD ys j))), .d (D.lit (.int .u64 (kM ys j)))], .c (.ptr 0 0)] (kC [(0, some (27, .ds [D.lit (.int .u64 z)]))]) 1 (bV true) (kC [(0, some (27, .ds [D.lit (.int .u64 z)]))]) 1) [(0, oV 0 0 q 3), (1, .e (.c (.fn 36 [(1, 0)]))), (5, uV i), (6, uV j), (7, rV 2 0), (29, bV false)] [(0, some (29, .ds (kB ys))), (1, some (27, .ds [D.lit (.int .u64 z)])), (2, some (29, .ds [D.lit (.string (strOfNums (kF ys j))), D.sl (dI .u64 (kD ys j)) (ka0 (kD ys j)), D.lit (.int .u64 (kM ys j))]))] 3 (by have h0 := (x4 (kF ys j) (kD ys j) (ka0 (kD ys j)) (kM ys j) z (kQ : Byt (kF ys j)) qQ rfl qQ); rw [hx7] at h0; exact h0) ?_
        refine uF ?_
        refine bQ [.no, .w, .no] (uU ((j : Int) + 1)) [(0, oV 0 0 q 3), (1, .e (.c (.fn 36 [(1, 0)]))), (5, uV i), (6, iV (↑j + 1))] [(0, some (29, .ds (kB ys))), (1, some (27, .ds [D.lit (.int .u64 z)]))] 3 ⟨by omega, by omega⟩ ?_
        exact kY ⟨((i : Nat), ((j + 1) : Nat), (ys : List Ch)), ⟨qG, (by first | exact (xW (p := fun c => decide (c.d = z)) hS zo zo eY) | exact (xX (p := fun c => decide (c.d = z)) hS zo eX)), eZ, (by first | assumption | exact CsW.set hW (hW.get _) _)⟩⟩ [] (P := (kT 0) ∧ (kT q) ∧ (k8 (i : Int)) ∧ (y4 j) ∧ (kR (kB ys)) ∧ (kR [D.lit (.int .u64 z)])) zk ⟨rfl, rfl, rfl, qT, rfl, rfl⟩ (show q - (j + 1) < q - j from u1)
      · have hx9 : ¬ ((kM ys j) = z) := of_decide_eq_false hx7
        refine kI [.no, .no, .call [1] (bV false) [(0, some (27, .ds [D.lit (.int .u64 z)]))] 1 [] none, .no] (Fun 36 [.agg [.d (D.lit (.string (strOfNums (kF ys j)))), .d (D.sl (dI .u64 (kD ys j)) (ka0 (kD ys j))), .d (D.lit (.int .u64 (kM ys j)))], .c (.ptr 0 0)] (kC [(0, some (27, .ds [D.lit (.int .u64 z)]))]) 1 (bV false) (kC [(0, some (27, .ds [D.lit (.int .u64 z)]))]) 1) [(0, oV 0 0 q 3), (1, .e (.c (.fn 36 [(1, 0)]))), (5, uV i), (6, uV j), (7, rV 2 0), (29, bV true)] [(0, some (29, .ds (kB ys))), (1, some (27, .ds [D.lit (.int .u64 z)])), (2, some (29, .ds [D.lit (.string (strOfNums (kF ys j))), D.sl (dI .u64 (kD ys j)) (ka0 (kD ys j)), D.lit (.int .u64 (kM ys j))]))] 3 (by have h0 := (x4 (kF ys j) (kD ys j) (ka0 (kD ys j)) (kM ys j) z (kQ : Byt (kF ys j)) qQ rfl qQ); rw [hx7] at h0; exact h0) ?_
        refine zt ?_
        refine kI [.no, .no, .no, .n2 i (i * 3), .ds (kB (ke2 ys i (kZ (kF ys j) (kD ys j) (kM ys j))))] ((k8 (i : Int)) ∧ (i < q) ∧ ((0 : Nat) + i * 3 = (i * 3)) ∧ ((i * 3) + 3 ≤ (kB ys).length) ∧ (jN (kB ys) (i * 3) [D.lit (.string (strOfNums (kF ys j))), D.sl (dI .u64 (kD ys j)) (ka0 (kD ys j)), D.lit (.int .u64 (kM ys j))] = (kB (ke2 ys i (kZ (kF ys j) (kD ys j) (kM ys j)))))) [(0, oV 0 0 q 3), (1, .e (.c (.fn 36 [(1, 0)]))), (5, uV i), (6, uV j)] [(0, some (29, .ds (kB (ke2 ys i (kZ (kF ys j) (kD ys j) (kM ys j)))))), (1, some (27, .ds [D.lit (.int .u64 z)]))] 3 ⟨rfl, zo, zo, u2, (lQ (kF ys j) (kD ys j) (kM ys j) (ka0 (kD ys j)) (by first | rfl | assumption | omega) _ _ (by first | omega | (simp only [ka8]; omega)))⟩ ?_
        refine cG [.no, .w, .no] (uU ((i : Int) + 1)) [(0, oV 0 0 q 3), (1, .e (.c (.fn 36 [(1, 0)]))), (5, iV (↑i + 1)), (6, uV j)] ⟨by omega, by omega⟩ ?_
        refine cG [.no, .w, .no] (uU ((j : Int) + 1)) [(0, oV 0 0 q 3), (1, .e (.c (.fn 36 [(1, 0)]))), (5, iV (↑i + 1)), (6, iV (↑j + 1))] ⟨by omega, by omega⟩ ?_
        exact kY ⟨(((i + 1) : Nat), ((j + 1) : Nat), ((ke2 ys i (kZ (kF ys j) (kD ys j) (kM ys j))) : List Ch)), ⟨qG, (by first | exact (xW (p := fun c => decide (c.d = z)) hS zo zo eY) | exact (xX (p := fun c => decide (c.d = z)) hS zo eX)), eZ, (by first | assumption | exact CsW.set hW (hW.get _) _)⟩⟩ [] (P := (kT 0) ∧ (kT q) ∧ (y4 i) ∧ (y4 j) ∧ (kR (kB (ke2 ys i (kZ (kF ys j) (kD ys j) (kM ys j))))) ∧ (kR [D.lit (.int .u64 z)])) zk ⟨rfl, rfl, qT, qT, rfl, rfl⟩ (show q - (j + 1) < q - j from u1)
    · refine zr [.no, .no, .no, .b false] [0, 1, 5, 6, 19] [0, 1] (¬ ((j : Int) < (q : Int))) [(0, oV 0 0 q 3), (1, .e (.c (.fn 36 [(1, 0)]))), (5, uV i), (6, uV j), (19, bV false)] [(0, some (29, .ds (kB ys))), (1, some (27, .ds [D.lit (.int .u64 z)]))] 2 zo ?_
      refine zf ?_
      refine AW.exit ?_
      refine kI [.no, .no, .sl i q (i * 3) (q - i), .mk 0 0 (oA ys i (q - i))] ((k8 (i : Int)) ∧ (q = q) ∧ (i ≤ q) ∧ (q ≤ q) ∧ ((0 : Nat) + i * 3 = (i * 3)) ∧ (q - i = (q - i)) ∧ ((i * 3) + (q - i) * 3 ≤ ((kB ys) : List D).length) ∧ (ka5 (i * 3) ((kB ys) : List D) ++ (kb0 (q - i) ([D.lit (.string { data := #[] }), uC, D.lit (.int .u64 0)] : List D)).flatten ++ kb2 ((i * 3) + (q - i) * 3) ((kB ys) : List D) = (oA ys i (q - i)))) [(0, oV 0 0 q 3), (5, uV i)] [(0, some (29, .ds (oA ys i (q - i)))), (1, some (27, .ds [D.lit (.int .u64 z)]))] 2 ⟨rfl, rfl, zo, zo, zo, zo, u2, (tI ys i (q - i) zo)⟩ ?_
      refine kI [.no, .no, .mk i 0 (kB (ka5 i ys)), .no] ((k8 (i : Int)) ∧ (i ≤ q) ∧ (ka5 (i * 3) ((oA ys i (q - i)) : List D) = (kB (ka5 i ys)))) [(4, oV 0 0 i 3)] [(0, some (29, .ds (kB (ka5 i ys)))), (1, some (27, .ds [D.lit (.int .u64 z)]))] 2 ⟨rfl, zo, (i1 ys i (q - i) zo)⟩ ?_
      have hz1 : vB xs z = ka5 i ys := (k2x (p := fun c => decide (c.d = z)) hS (by omega)).symm
      have hz2 : ka0 (vB xs z) = i := by rw [hz1, kb8]; omega
      refine AW.ret ?_
      exact kA (.inr rfl) [] (P := (kT 0) ∧ (((ka0 (vB xs z)) : Nat) = i) ∧ (((kB (vB xs z)) : List D) = (kB (ka5 i ys))) ∧ (kR [D.lit (.int .u64 z)])) zk ⟨rfl, (by first | rfl | exact hz2 | exact hz2.symm | (rw [hz1]; done) | (rw [hz1]; rfl) | omega), (by first | rfl | exact hz2 | exact hz2.symm | (rw [hz1]; done) | (rw [hz1]; rfl) | omega), rfl⟩
theorem k3f (xs : List Ch) (q : Nat) (z : Int) (hq : ka0 xs = q) (h0 : q ≤ 1000000) (hX : CsW xs) : Fun 28 [.agg [.d (D.sl (kB xs) q)], .c (.fn 36 [(0, 0)])] (kC [(0, some (27, .ds [D.lit (.int .u64 z)]))]) 1 (.e (.agg [.own 1 0 (ka0 (vB xs z)) 3 true])) (kC [(0, some (27, .ds [D.lit (.int .u64 z)])), (1, some (29, .ds (kB (vB xs z))))]) 2 := by
  refine Fun.mk (n := 11) Try.func28 rfl rfl (ka3 rfl) ?_
  intro cx hcx
  refine kI [.no, .no] True [(1, .e (.c (.fn 36 [(0, 0)]))), (2, rV 1 0), (4, rV 2 0)] [(0, some (27, .ds [D.lit (.int .u64 z)])), (1, some (25, .ds [D.sl (kB xs) q])), (2, some (25, .ds [uC]))] 3 trivial ?_
  have hx1 : ((ka0 (vB xs z)) ≤ q) := (by have h9 := lA xs z; omega)
  refine kI [.no, .call [] (.e (.agg [.own 0 0 q 3 true])) [(0, some (29, .ds (kB xs)))] 1 [] none, .no, .no, .call [3, 0] (oV 0 0 (ka0 (vB xs z)) 3) [(0, some (29, .ds (kB (vB xs z)))), (1, some (27, .ds [D.lit (.int .u64 z)]))] 2 [] none, .no, .no] ((_) ∧ (_)) [(4, rV 2 0)] [(0, some (27, .ds [D.lit (.int .u64 z)])), (2, some (25, .cs [.own 3 0 (ka0 (vB xs z)) 3 true])), (3, some (29, .ds (kB (vB xs z))))] 4 ⟨(lS xs q zo zo (kQ : CsW xs)), (k1k xs q z zo zo (kQ : CsW xs))⟩ ?_
  refine AW.ret ?_
  exact kA (.inr rfl) [(1, 3)] (P := (kT 0) ∧ (kT (ka0 (vB xs z))) ∧ (kR [D.lit (.int .u64 z)]) ∧ (kR (kB (vB xs z)))) zk ⟨rfl, rfl, rfl, rfl⟩
theorem zW (b : List Int) (m : Nat) (x : Int) (hm : ka0 b = m) (h2 : m ≤ 1000000) : Fun 48 [.c (.d (D.lit (.int .u64 x))), .c (.ptr 0 0)] (kC [(0, some (26, .ds [D.sl (dI .u64 b) m]))]) 1 (kL (D.lit (.bool (oE b x)))) (kC [(0, some (26, .ds [D.sl (dI .u64 b) m]))]) 1 := by
  refine Fun.mk (n := 8) Try.func48 rfl rfl (ka3 rfl) ?_
  intro cx hcx
  refine kI [.no] True [(0, kL (D.lit (.int .u64 x))), (1, rV 0 0)] [(0, some (26, .ds [D.sl (dI .u64 b) m]))] 1 trivial ?_
  rcases ka6 (yZ b x) with hx1 | hx1
  · refine zr [.no, .no, .call [] (bV true) [] 0 [] none, .no, .no] [3] [0] (Fun 40 [.c (.d (D.sl (dI .u64 b) m)), .c (.d (D.lit (.int .u64 x)))] (kC []) 0 (bV true) (kC []) 0) [(3, bV false)] [(0, some (26, .ds [D.sl (dI .u64 b) m]))] 1 (by have h0 := (mX b m x zo zo); rw [hx1] at h0; exact h0) ?_
    refine AW.ret ?_
    exact kA (.inr rfl) [] (P := ((oE b x) = false) ∧ (kR [D.sl (dI .u64 b) m])) zk ⟨(by first | exact k2k (by assumption) | exact k2m (by assumption)), rfl⟩
  · refine zr [.no, .no, .call [] (bV false) [] 0 [] none, .no, .no] [3] [0] (Fun 40 [.c (.d (D.sl (dI .u64 b) m)), .c (.d (D.lit (.int .u64 x)))] (kC []) 0 (bV false) (kC []) 0) [(3, bV true)] [(0, some (26, .ds [D.sl (dI .u64 b) m]))] 1 (by have h0 := (mX b m x zo zo); rw [hx1] at h0; exact h0) ?_
    refine AW.ret ?_
    exact kA (.inr rfl) [] (P := ((oE b x) = true) ∧ (kR [D.sl (dI .u64 b) m])) zk ⟨(by first | exact k2k (by assumption) | exact k2m (by assumption)), rfl⟩
theorem zY (a b : List Int) (n m : Nat) (hn : ka0 a = n) (hm : ka0 b = m) (h1 : n ≤ 1000000) (h2 : m ≤ 1000000) : Fun 54 [.c (.d (D.sl (dI .u64 a) n)), .c (.fn 48 [(0, 0)])] (kC [(0, some (26, .ds [D.sl (dI .u64 b) m]))]) 1 (iV (gS a b n)) (kC [(0, some (26, .ds [D.sl (dI .u64 b) m]))]) 1 := by
  refine Fun.mk (n := 19) Try.func54 rfl rfl (ka3 rfl) ?_
  intro cx hcx
  refine kI [.no] True [(0, sV .u64 a n), (1, .e (.c (.fn 48 [(0, 0)])))] [(0, some (26, .ds [D.sl (dI .u64 b) m]))] 1 trivial ?_
  refine AW.seq ?_
  refine yT [.no, .no, .no] True [(0, sV .u64 a n), (1, .e (.c (.fn 48 [(0, 0)]))), (7, uV n), (8, iV 0)] trivial ?_
  refine AW.block ?_
  refine kV 1 hcx (fun (x : {x : Nat // match x with | k => (k ≤ n) ∧ (gS a b k = -1)}) => match x with | ⟨k, _⟩ => (⟨[(0, sV .u64 a n), (1, .e (.c (.fn 48 [(0, 0)]))), (7, uV n), (8, uV k)], [(0, some (26, .ds [D.sl (dI .u64 b) m]))], 1⟩ : ES)) (fun x => match x with | ⟨k, _⟩ => n - k) ⟨(0 : Nat), ⟨qG, rfl⟩⟩ [] (P := (kR (dI .u64 a)) ∧ (kT n) ∧ (k8 (n : Int)) ∧ (k8 0) ∧ (kR [D.sl (dI .u64 b) m])) zk ⟨rfl, rfl, rfl, rfl, rfl⟩ ?_
  rintro ⟨k, hinv0⟩
  obtain ⟨hk, hi⟩ : (k ≤ n) ∧ (gS a b k = -1) := hinv0
  refine qW (l := [(0, sV .u64 a n), (1, .e (.c (.fn 48 [(0, 0)]))), (7, uV n), (8, uV k)]) (g := [(0, some (26, .ds [D.sl (dI .u64 b) m]))]) (nx := 1) rfl rfl rfl ?_
  by_cases hx1 : (((k : Nat) : Int) < ((n : Nat) : Int))
  · refine zr [.b true] [0, 1, 7, 8, 9] [0] (((k : Int) < (n : Int))) [(0, sV .u64 a n), (1, .e (.c (.fn 48 [(0, 0)]))), (7, uV n), (8, uV k), (9, bV true)] [(0, some (26, .ds [D.sl (dI .u64 b) m]))] 1 zo ?_
    refine AW.seq ?_
    refine cB ?_
    refine AW.seq ?_
    refine AW.block ?_
    refine kI [.no, .no] True [(0, sV .u64 a n), (1, .e (.c (.fn 48 [(0, 0)]))), (5, uV k), (7, uV n), (8, uV k)] [(0, some (26, .ds [D.sl (dI .u64 b) m]))] 1 trivial ?_
    rcases ka6 (oE b (ka2 a k 0)) with hx2 | hx2
    · refine zr [.no, .no, .no, .n k, .d (D.lit (.int .u64 (ka2 a k 0))), .call [0] (bV true) [(0, some (26, .ds [D.sl (dI .u64 b) m]))] 1 [] none] [0, 1, 5, 7, 8, 16] [0] ((k8 (k : Int)) ∧ (k < n) ∧ ((kb2 k (dI .u64 a))[0]? = some (D.lit (.int .u64 (ka2 a k 0)))) ∧ (Fun 48 [.c (.d (D.lit (.int .u64 (ka2 a k 0)))), .c (.ptr 0 0)] (kC [(0, some (26, .ds [D.sl (dI .u64 b) m]))]) 1 (bV true) (kC [(0, some (26, .ds [D.sl (dI .u64 b) m]))]) 1)) [(0, sV .u64 a n), (1, .e (.c (.fn 48 [(0, 0)]))), (5, uV k), (7, uV n), (8, uV k), (16, bV true)] [(0, some (26, .ds [D.sl (dI .u64 b) m]))] 1 ⟨rfl, zo, (qV _ _ _ u2), (by have h0 := (zW b m (ka2 a k 0) zo zo); rw [hx2] at h0; exact h0)⟩ ?_
      refine zt ?_
      refine kI [.no, .no] True [(4, uV k)] [(0, some (26, .ds [D.sl (dI .u64 b) m]))] 1 trivial ?_
      refine AW.ret ?_
      exact kA (.inr rfl) [] (P := (((gS a b n) : Int) = (k : Int)) ∧ (kR [D.sl (dI .u64 b) m])) zk ⟨(by first | rfl | exact k2i hi (zF (by assumption)) zo | (rw [show n = k by omega]; exact hi) | omega), rfl⟩
    · refine zr [.no, .no, .no, .n k, .d (D.lit (.int .u64 (ka2 a k 0))), .call [0] (bV false) [(0, some (26, .ds [D.sl (dI .u64 b) m]))] 1 [] none] [0, 1, 5, 7, 8, 16] [0] ((k8 (k : Int)) ∧ (k < n) ∧ ((kb2 k (dI .u64 a))[0]? = some (D.lit (.int .u64 (ka2 a k 0)))) ∧ (Fun 48 [.c (.d (D.lit (.int .u64 (ka2 a k 0)))), .c (.ptr 0 0)] (kC [(0, some (26, .ds [D.sl (dI .u64 b) m]))]) 1 (bV false) (kC [(0, some (26, .ds [D.sl (dI .u64 b) m]))]) 1)) [(0, sV .u64 a n), (1, .e (.c (.fn 48 [(0, 0)]))), (5, uV k), (7, uV n), (8, uV k), (16, bV false)] [(0, some (26, .ds [D.sl (dI .u64 b) m]))] 1 ⟨rfl, zo, (qV _ _ _ u2), (by have h0 := (zW b m (ka2 a k 0) zo zo); rw [hx2] at h0; exact h0)⟩ ?_
      refine uF ?_
      refine bQ [.w, .no] (uU ((k : Int) + 1)) [(0, sV .u64 a n), (1, .e (.c (.fn 48 [(0, 0)]))), (7, uV n), (8, iV (↑k + 1))] [(0, some (26, .ds [D.sl (dI .u64 b) m]))] 1 ⟨by omega, by omega⟩ ?_
      exact kY ⟨((k + 1) : Nat), ⟨qG, (k3v hi (k2l (by assumption)))⟩⟩ [] (P := (kR (dI .u64 a)) ∧ (kT n) ∧ (k8 (n : Int)) ∧ (y4 k) ∧ (kR [D.sl (dI .u64 b) m])) zk ⟨rfl, rfl, rfl, qT, rfl⟩ (show n - (k + 1) < n - k from u1)
  · refine zr [.b false] [0, 1, 7, 8, 9] [0] (¬ ((k : Int) < (n : Int))) [(0, sV .u64 a n), (1, .e (.c (.fn 48 [(0, 0)]))), (7, uV n), (8, uV k), (9, bV false)] [(0, some (26, .ds [D.sl (dI .u64 b) m]))] 1 zo ?_
    refine AW.seq ?_
    refine zf ?_
    refine AW.exit ?_
    refine kI [.no] True [(4, iV (-1))] [(0, some (26, .ds [D.sl (dI .u64 b) m]))] 1 trivial ?_
    refine AW.ret ?_
    exact kA (.inr rfl) [] (P := (((gS a b n) : Int) = (-1)) ∧ (kR [D.sl (dI .u64 b) m])) zk ⟨(by first | rfl | exact k2i hi (zF (by assumption)) zo | (rw [show n = k by omega]; exact hi) | omega), rfl⟩
theorem z5 (a b : List Int) (n m : Nat) (hn : ka0 a = n) (hm : ka0 b = m) (h1 : n ≤ 1000000) (h2 : m ≤ 1000000) : Fun 47 [.c (.d (D.sl (dI .u64 a) n)), .c (.fn 48 [(0, 0)])] (kC [(0, some (26, .ds [D.sl (dI .u64 b) m]))]) 1 (kL (D.lit (.bool (oD a b)))) (kC [(0, some (26, .ds [D.sl (dI .u64 b) m]))]) 1 := by
  refine Fun.mk (n := 9) Try.func47 rfl rfl (ka3 rfl) ?_
  intro cx hcx
  refine kI [.no] True [(0, sV .u64 a n), (1, .e (.c (.fn 48 [(0, 0)])))] [(0, some (26, .ds [D.sl (dI .u64 b) m]))] 1 trivial ?_
  by_cases hx1 : ((0 : Int) ≤ (gS a b n))
  · refine zr [.no, .no, .call [0] (iV (gS a b n)) [(0, some (26, .ds [D.sl (dI .u64 b) m]))] 1 [] none, .b true, .no] [4] [0] ((_) ∧ (((0 : Int) ≤ (gS a b n)))) [(4, bV true)] [(0, some (26, .ds [D.sl (dI .u64 b) m]))] 1 ⟨(zY a b n m zo zo zo zo), zo⟩ ?_
    refine AW.ret ?_
    exact kA (.inr rfl) [] (P := ((oD a b) = true) ∧ (kR [D.sl (dI .u64 b) m])) zk ⟨(by first | exact zD hn zo | exact zE hn zo), rfl⟩
  · refine zr [.no, .no, .call [0] (iV (gS a b n)) [(0, some (26, .ds [D.sl (dI .u64 b) m]))] 1 [] none, .b false, .no] [4] [0] ((_) ∧ (¬ ((0 : Int) ≤ (gS a b n)))) [(4, bV false)] [(0, some (26, .ds [D.sl (dI .u64 b) m]))] 1 ⟨(zY a b n m zo zo zo zo), zo⟩ ?_
    refine AW.ret ?_
    exact kA (.inr rfl) [] (P := ((oD a b) = false) ∧ (kR [D.sl (dI .u64 b) m])) zk ⟨(by first | exact zD hn zo | exact zE hn zo), rfl⟩
theorem jE (a b : List Int) (n m : Nat) (hn : ka0 a = n) (hm : ka0 b = m) (h1 : n ≤ 1000000) (h2 : m ≤ 1000000) : Fun 34 [.c (.d (D.sl (dI .u64 a) n)), .c (.d (D.sl (dI .u64 b) m))] (kC []) 0 (kL (D.lit (.bool (vT a b)))) (kC []) 0 := by
  refine Fun.mk (n := 9) Try.func34 rfl rfl (ka3 rfl) ?_
  intro cx hcx
  refine kI [.no, .no] True [(0, sV .u64 a n), (3, rV 0 0)] [(0, some (26, .ds [D.sl (dI .u64 b) m]))] 1 trivial ?_
  rcases ka6 (oD a b) with hx1 | hx1
  · refine zr [.no, .no, .call [0] (bV true) [(0, some (26, .ds [D.sl (dI .u64 b) m]))] 1 [] none, .no, .no] [4] [] (Fun 47 [.c (.d (D.sl (dI .u64 a) n)), .c (.fn 48 [(0, 0)])] (kC [(0, some (26, .ds [D.sl (dI .u64 b) m]))]) 1 (bV true) (kC [(0, some (26, .ds [D.sl (dI .u64 b) m]))]) 1) [(4, bV false)] [] 1 (by have h0 := (z5 a b n m zo zo zo zo); rw [hx1] at h0; exact h0) ?_
    refine AW.ret ?_
    exact kA (.inr rfl) [] (P := ((vT a b) = false)) zk (by first | exact pJ (by assumption) | exact pK (by assumption))
  · refine zr [.no, .no, .call [0] (bV false) [(0, some (26, .ds [D.sl (dI .u64 b) m]))] 1 [] none, .no, .no] [4] [] (Fun 47 [.c (.d (D.sl (dI .u64 a) n)), .c (.fn 48 [(0, 0)])] (kC [(0, some (26, .ds [D.sl (dI .u64 b) m]))]) 1 (bV false) (kC [(0, some (26, .ds [D.sl (dI .u64 b) m]))]) 1) [(4, bV true)] [] 1 (by have h0 := (z5 a b n m zo zo zo zo); rw [hx1] at h0; exact h0) ?_
    refine AW.ret ?_
    exact kA (.inr rfl) [] (P := ((vT a b) = true)) zk (by first | exact pJ (by assumption) | exact pK (by assumption))
theorem qP (xs : List Ch) (q : Nat) (r s : List Int) (n : Nat) (hq : ka0 xs = q) (h0 : q ≤ 1000000) (hX : CsW xs) (hr : Byt r) (hl : ka0 r ≤ 1000000) (hn : ka0 s = n) (h1 : n ≤ 1000000) : Fun 16 [.agg [.d (D.sl (kB xs) q)], .c (.d (D.lit (.string (strOfNums r)))), .c (.d (D.sl (dI .u64 s) n))] (kC []) 0 (kL (D.lit (.int .u64 (kS xs r s)))) (kC []) 0 := by
  refine Fun.mk (n := 50) Try.func16 rfl rfl (ka3 rfl) ?_
  intro cx hcx
  refine kI [.no, .no] True [(1, kL (D.lit (.string (strOfNums r)))), (2, sV .u64 s n), (3, rV 0 0)] [(0, some (25, .ds [D.sl (kB xs) q]))] 1 trivial ?_
  refine AW.seq ?_
  rcases ka6 (yF xs) with hx1 | hx1
  · rcases ka6 (v3 s) with hx2 | hx2
    · refine zr [.no, .call [] (bV true) [] 0 [] none, .no, .no, .no, .call [] (bV true) [] 0 [] none, .no, .no] [1, 2, 3, 18] [0] ((Fun 10 [.agg [.d (D.sl (kB xs) q)]] (kC []) 0 (bV true) (kC []) 0) ∧ (Fun 33 [.c (.d (D.sl (dI .u64 s) n))] (kC []) 0 (bV true) (kC []) 0)) [(1, kL (D.lit (.string (strOfNums r)))), (2, sV .u64 s n), (3, rV 0 0), (18, bV false)] [(0, some (25, .ds [D.sl (kB xs) q]))] 1 ⟨(by have h0 := (yK xs q zo zo (kQ : CsW xs)); rw [hx1] at h0; exact h0), (by have h0 := (jG s n zo zo); rw [hx2] at h0; exact h0)⟩ ?_
      refine uF ?_
      refine kI [.no, .no] True [(1, kL (D.lit (.string (strOfNums r)))), (2, sV .u64 s n), (3, rV 0 0), (7, kL (D.lit (.int .u64 0))), (8, iV 0)] [(0, some (25, .ds [D.sl (kB xs) q]))] 1 trivial ?_
      refine AW.seq ?_
      refine kI (qA 4 []) True [(1, kL (D.lit (.string (strOfNums r)))), (2, sV .u64 s n), (7, kL (D.lit (.int .u64 0))), (8, iV 0), (20, uT (kB xs) q), (21, uV q), (22, iV 0)] [] 1 trivial ?_
      refine AW.block ?_
      refine kV 0 hcx (fun (x : {x : Nat × Nat × Int // match x with | (k, m, y) => (k ≤ q ∧ m ≤ 1000000) ∧ (oG xs r s k = y) ∧ (mH xs r s k = m)}) => match x with | ⟨(k, m, y), _⟩ => (⟨[(1, kL (D.lit (.string (strOfNums r)))), (2, sV .u64 s n), (7, kL (D.lit (.int .u64 y))), (8, uV m), (20, uT (kB xs) q), (21, uV q), (22, uV k)], [], 1⟩ : ES)) (fun x => match x with | ⟨(k, m, y), _⟩ => q - k) ⟨((0 : Nat), (0 : Nat), (0 : Int)), ⟨qG, rfl, rfl⟩⟩ [] (P := ((.string (strOfNums r) : Value) = .string (strOfNums r)) ∧ (kR (dI .u64 s)) ∧ (kT n) ∧ (k8 0) ∧ (k8 0) ∧ (kR (kB xs)) ∧ (kT q) ∧ (k8 (q : Int)) ∧ (k8 0)) zk ⟨rfl, rfl, rfl, rfl, rfl, rfl, rfl, rfl, rfl⟩ ?_
      rintro ⟨⟨k, m, y⟩, hinv0⟩
      obtain ⟨hk, hD, hM⟩ : (k ≤ q ∧ m ≤ 1000000) ∧ (oG xs r s k = y) ∧ (mH xs r s k = m) := hinv0
      refine qW (l := [(1, kL (D.lit (.string (strOfNums r)))), (2, sV .u64 s n), (7, kL (D.lit (.int .u64 y))), (8, uV m), (20, uT (kB xs) q), (21, uV q), (22, uV k)]) (g := []) (nx := 1) rfl rfl rfl ?_
      by_cases hx3 : (((k : Nat) : Int) < ((q : Nat) : Int))
      · refine zr [.b true] [1, 2, 7, 8, 20, 21, 22, 23] [] (((k : Int) < (q : Int))) [(1, kL (D.lit (.string (strOfNums r)))), (2, sV .u64 s n), (7, kL (D.lit (.int .u64 y))), (8, uV m), (20, uT (kB xs) q), (21, uV q), (22, uV k), (23, bV true)] [] 1 zo ?_
        refine AW.seq ?_
        refine cB ?_
        refine AW.seq ?_
        refine AW.block ?_
        obtain ⟨hx4, hx5, hx6⟩ := CsW.at (kQ : CsW xs) (k)
        refine kI [.n k, .ds [D.lit (.string (strOfNums (kF xs k))), D.sl (dI .u64 (kD xs k)) (ka0 (kD xs k)), D.lit (.int .u64 (kM xs k))], .no, .no] ((k8 (k : Int)) ∧ (k < q) ∧ (ka5 3 (kb2 (k * 3) (kB xs)) = [D.lit (.string (strOfNums (kF xs k))), D.sl (dI .u64 (kD xs k)) (ka0 (kD xs k)), D.lit (.int .u64 (kM xs k))]) ∧ (([D.lit (.string (strOfNums (kF xs k))), D.sl (dI .u64 (kD xs k)) (ka0 (kD xs k)), D.lit (.int .u64 (kM xs k))] : List D).length = 3)) [(1, kL (D.lit (.string (strOfNums r)))), (2, sV .u64 s n), (7, kL (D.lit (.int .u64 y))), (8, uV m), (10, rV 1 0), (20, uT (kB xs) q), (21, uV q), (22, uV k)] [(1, some (29, .ds [D.lit (.string (strOfNums (kF xs k))), D.sl (dI .u64 (kD xs k)) (ka0 (kD xs k)), D.lit (.int .u64 (kM xs k))]))] 2 ⟨rfl, zo, (q7 (i := k) aG), rfl⟩ ?_
        by_cases hx7 : ((kF xs k) = r)
        · by_cases hx8 : (((m : Nat) : Int) ≤ (((ka0 (kD xs k)) : Nat) : Int))
          · rcases ka6 (vT (kD xs k) s) with hx9 | hx9
            · refine zr (.no :: .no :: .no :: .b true :: qA 5 (.b true :: qA 5 [.call [] (bV true) [] 0 [] none, .no])) [1, 2, 7, 8, 10, 20, 21, 22, 42] [1] (((ByteArray.toList (strOfNums (kF xs k)) == ByteArray.toList (strOfNums r)) = true) ∧ (((m : Int) ≤ (ka0 (kD xs k) : Int))) ∧ (Fun 34 [.c (.d (D.sl (dI .u64 (kD xs k)) (ka0 (kD xs k)))), .c (.d (D.sl (dI .u64 s) n))] (kC []) 0 (bV true) (kC []) 0)) [(1, kL (D.lit (.string (strOfNums r)))), (2, sV .u64 s n), (7, kL (D.lit (.int .u64 y))), (8, uV m), (10, rV 1 0), (20, uT (kB xs) q), (21, uV q), (22, uV k), (42, bV true)] [(1, some (29, .ds [D.lit (.string (strOfNums (kF xs k))), D.sl (dI .u64 (kD xs k)) (ka0 (kD xs k)), D.lit (.int .u64 (kM xs k))]))] 2 ⟨(v8 (by first | assumption | rfl)), zo, (by have h0 := (jE (kD xs k) s (ka0 (kD xs k)) n rfl zo qQ zo); rw [hx9] at h0; exact h0)⟩ ?_
              refine zt ?_
              refine bQ (qA 7 []) True [(1, kL (D.lit (.string (strOfNums r)))), (2, sV .u64 s n), (7, kL (D.lit (.int .u64 (kM xs k)))), (8, uV (ka0 (kD xs k))), (20, uT (kB xs) q), (21, uV q), (22, uV k)] [] 2 trivial ?_
              refine cG [.w, .no] (uU ((k : Int) + 1)) [(1, kL (D.lit (.string (strOfNums r)))), (2, sV .u64 s n), (7, kL (D.lit (.int .u64 (kM xs k)))), (8, uV (ka0 (kD xs k))), (20, uT (kB xs) q), (21, uV q), (22, iV (↑k + 1))] ⟨by omega, by omega⟩ ?_
              exact kY ⟨(((k + 1) : Nat), ((ka0 (kD xs k)) : Nat), ((kM xs k) : Int)), ⟨qG, (by first | exact (c9 (by assumption) (by rw [hM]; omega) (by assumption)).1 | exact (dY (by first | (intro h9; exact absurd h9.1 (by assumption)) | (rw [hM]; intro h9; omega) | (intro h9; exact aQ h9.2.2 (by assumption)))).1.trans hD), (by first | exact (c9 (by assumption) (by rw [hM]; omega) (by assumption)).2 | exact (dY (by first | (intro h9; exact absurd h9.1 (by assumption)) | (rw [hM]; intro h9; omega) | (intro h9; exact aQ h9.2.2 (by assumption)))).2.trans hM)⟩⟩ [] (P := ((.string (strOfNums r) : Value) = .string (strOfNums r)) ∧ (kR (dI .u64 s)) ∧ (kT n) ∧ (k8 (kM xs k)) ∧ (k8 (ka0 (kD xs k) : Int)) ∧ (kR (kB xs)) ∧ (kT q) ∧ (k8 (q : Int)) ∧ (y4 k)) zk ⟨rfl, rfl, rfl, rfl, rfl, rfl, rfl, rfl, qT⟩ (show q - (k + 1) < q - k from u1)
            · refine zr (.no :: .no :: .no :: .b true :: qA 5 (.b true :: qA 5 [.call [] (bV false) [] 0 [] none, .no])) [1, 2, 7, 8, 10, 20, 21, 22, 42] [1] (((ByteArray.toList (strOfNums (kF xs k)) == ByteArray.toList (strOfNums r)) = true) ∧ (((m : Int) ≤ (ka0 (kD xs k) : Int))) ∧ (Fun 34 [.c (.d (D.sl (dI .u64 (kD xs k)) (ka0 (kD xs k)))), .c (.d (D.sl (dI .u64 s) n))] (kC []) 0 (bV false) (kC []) 0)) [(1, kL (D.lit (.string (strOfNums r)))), (2, sV .u64 s n), (7, kL (D.lit (.int .u64 y))), (8, uV m), (10, rV 1 0), (20, uT (kB xs) q), (21, uV q), (22, uV k), (42, bV false)] [(1, some (29, .ds [D.lit (.string (strOfNums (kF xs k))), D.sl (dI .u64 (kD xs k)) (ka0 (kD xs k)), D.lit (.int .u64 (kM xs k))]))] 2 ⟨(v8 (by first | assumption | rfl)), zo, (by have h0 := (jE (kD xs k) s (ka0 (kD xs k)) n rfl zo qQ zo); rw [hx9] at h0; exact h0)⟩ ?_
              refine uF ?_
              refine bQ [.w, .no] (uU ((k : Int) + 1)) [(1, kL (D.lit (.string (strOfNums r)))), (2, sV .u64 s n), (7, kL (D.lit (.int .u64 y))), (8, uV m), (20, uT (kB xs) q), (21, uV q), (22, iV (↑k + 1))] [] 2 ⟨by omega, by omega⟩ ?_
              exact kY ⟨(((k + 1) : Nat), (m : Nat), (y : Int)), ⟨qG, (by first | exact (c9 (by assumption) (by rw [hM]; omega) (by assumption)).1 | exact (dY (by first | (intro h9; exact absurd h9.1 (by assumption)) | (rw [hM]; intro h9; omega) | (intro h9; exact aQ h9.2.2 (by assumption)))).1.trans hD), (by first | exact (c9 (by assumption) (by rw [hM]; omega) (by assumption)).2 | exact (dY (by first | (intro h9; exact absurd h9.1 (by assumption)) | (rw [hM]; intro h9; omega) | (intro h9; exact aQ h9.2.2 (by assumption)))).2.trans hM)⟩⟩ [] (P := ((.string (strOfNums r) : Value) = .string (strOfNums r)) ∧ (kR (dI .u64 s)) ∧ (kT n) ∧ (k8 y) ∧ (k8 (m : Int)) ∧ (kR (kB xs)) ∧ (kT q) ∧ (k8 (q : Int)) ∧ (y4 k)) zk ⟨rfl, rfl, rfl, rfl, rfl, rfl, rfl, rfl, qT⟩ (show q - (k + 1) < q - k from u1)
          · refine zr (.no :: .no :: .no :: .b true :: qA 5 [.b false, .no, .no, .no]) [1, 2, 7, 8, 10, 20, 21, 22, 42] [1] (((ByteArray.toList (strOfNums (kF xs k)) == ByteArray.toList (strOfNums r)) = true) ∧ (¬ ((m : Int) ≤ (ka0 (kD xs k) : Int)))) [(1, kL (D.lit (.string (strOfNums r)))), (2, sV .u64 s n), (7, kL (D.lit (.int .u64 y))), (8, uV m), (10, rV 1 0), (20, uT (kB xs) q), (21, uV q), (22, uV k), (42, bV false)] [(1, some (29, .ds [D.lit (.string (strOfNums (kF xs k))), D.sl (dI .u64 (kD xs k)) (ka0 (kD xs k)), D.lit (.int .u64 (kM xs k))]))] 2 ⟨(v8 (by first | assumption | rfl)), zo⟩ ?_
            refine uF ?_
            refine bQ [.w, .no] (uU ((k : Int) + 1)) [(1, kL (D.lit (.string (strOfNums r)))), (2, sV .u64 s n), (7, kL (D.lit (.int .u64 y))), (8, uV m), (20, uT (kB xs) q), (21, uV q), (22, iV (↑k + 1))] [] 2 ⟨by omega, by omega⟩ ?_
            exact kY ⟨(((k + 1) : Nat), (m : Nat), (y : Int)), ⟨qG, (by first | exact (c9 (by assumption) (by rw [hM]; omega) (by assumption)).1 | exact (dY (by first | (intro h9; exact absurd h9.1 (by assumption)) | (rw [hM]; intro h9; omega) | (intro h9; exact aQ h9.2.2 (by assumption)))).1.trans hD), (by first | exact (c9 (by assumption) (by rw [hM]; omega) (by assumption)).2 | exact (dY (by first | (intro h9; exact absurd h9.1 (by assumption)) | (rw [hM]; intro h9; omega) | (intro h9; exact aQ h9.2.2 (by assumption)))).2.trans hM)⟩⟩ [] (P := ((.string (strOfNums r) : Value) = .string (strOfNums r)) ∧ (kR (dI .u64 s)) ∧ (kT n) ∧ (k8 y) ∧ (k8 (m : Int)) ∧ (kR (kB xs)) ∧ (kT q) ∧ (k8 (q : Int)) ∧ (y4 k)) zk ⟨rfl, rfl, rfl, rfl, rfl, rfl, rfl, rfl, qT⟩ (show q - (k + 1) < q - k from u1)
        · refine zr (.no :: .no :: .no :: .b false :: qA 4 []) [1, 2, 7, 8, 10, 20, 21, 22, 42] [1] ((ByteArray.toList (strOfNums (kF xs k)) == ByteArray.toList (strOfNums r)) = false) [(1, kL (D.lit (.string (strOfNums r)))), (2, sV .u64 s n), (7, kL (D.lit (.int .u64 y))), (8, uV m), (10, rV 1 0), (20, uT (kB xs) q), (21, uV q), (22, uV k), (42, bV false)] [(1, some (29, .ds [D.lit (.string (strOfNums (kF xs k))), D.sl (dI .u64 (kD xs k)) (ka0 (kD xs k)), D.lit (.int .u64 (kM xs k))]))] 2 (g7 (kQ : Byt (kF xs k)) (kQ : Byt r) (by assumption)) ?_
          refine uF ?_
          refine bQ [.w, .no] (uU ((k : Int) + 1)) [(1, kL (D.lit (.string (strOfNums r)))), (2, sV .u64 s n), (7, kL (D.lit (.int .u64 y))), (8, uV m), (20, uT (kB xs) q), (21, uV q), (22, iV (↑k + 1))] [] 2 ⟨by omega, by omega⟩ ?_
          exact kY ⟨(((k + 1) : Nat), (m : Nat), (y : Int)), ⟨qG, (by first | exact (c9 (by assumption) (by rw [hM]; omega) (by assumption)).1 | exact (dY (by first | (intro h9; exact absurd h9.1 (by assumption)) | (rw [hM]; intro h9; omega) | (intro h9; exact aQ h9.2.2 (by assumption)))).1.trans hD), (by first | exact (c9 (by assumption) (by rw [hM]; omega) (by assumption)).2 | exact (dY (by first | (intro h9; exact absurd h9.1 (by assumption)) | (rw [hM]; intro h9; omega) | (intro h9; exact aQ h9.2.2 (by assumption)))).2.trans hM)⟩⟩ [] (P := ((.string (strOfNums r) : Value) = .string (strOfNums r)) ∧ (kR (dI .u64 s)) ∧ (kT n) ∧ (k8 y) ∧ (k8 (m : Int)) ∧ (kR (kB xs)) ∧ (kT q) ∧ (k8 (q : Int)) ∧ (y4 k)) zk ⟨rfl, rfl, rfl, rfl, rfl, rfl, rfl, rfl, qT⟩ (show q - (k + 1) < q - k from u1)
      · refine zr [.b false] [1, 2, 7, 8, 20, 21, 22, 23] [] (¬ ((k : Int) < (q : Int))) [(1, kL (D.lit (.string (strOfNums r)))), (2, sV .u64 s n), (7, kL (D.lit (.int .u64 y))), (8, uV m), (20, uT (kB xs) q), (21, uV q), (22, uV k), (23, bV false)] [] 1 zo ?_
        refine AW.seq ?_
        refine zf ?_
        refine AW.exit ?_
        refine kI [.no, .no] True [(6, kL (D.lit (.int .u64 y)))] [] 1 trivial ?_
        refine AW.ret ?_
        exact kA (.inr rfl) [] (P := (((kS xs r s) : Int) = y)) zk (by first | rfl | exact (dB (by assumption)).symm | exact dB (by assumption) | exact (aW (by assumption)).symm | exact aW (by assumption) | (rw [dA (by assumption) (by assumption), show ka0 xs = k by omega]; first | exact hD | exact hD.symm) | omega)
    · refine zr [.no, .call [] (bV true) [] 0 [] none, .no, .no, .no, .call [] (bV false) [] 0 [] none, .no, .no] [1, 2, 3, 18] [0] ((Fun 10 [.agg [.d (D.sl (kB xs) q)]] (kC []) 0 (bV true) (kC []) 0) ∧ (Fun 33 [.c (.d (D.sl (dI .u64 s) n))] (kC []) 0 (bV false) (kC []) 0)) [(1, kL (D.lit (.string (strOfNums r)))), (2, sV .u64 s n), (3, rV 0 0), (18, bV true)] [(0, some (25, .ds [D.sl (kB xs) q]))] 1 ⟨(by have h0 := (yK xs q zo zo (kQ : CsW xs)); rw [hx1] at h0; exact h0), (by have h0 := (jG s n zo zo); rw [hx2] at h0; exact h0)⟩ ?_
      refine zt ?_
      refine kI [.no] True [(6, kL (D.lit (.int .u64 0)))] [] 1 trivial ?_
      refine AW.ret ?_
      exact kA (.inr rfl) [] (P := (((kS xs r s) : Int) = 0)) zk (by first | rfl | exact (dB (by assumption)).symm | exact dB (by assumption) | exact (aW (by assumption)).symm | exact aW (by assumption) | (rw [dA (by assumption) (by assumption), show ka0 xs = k by omega]; first | exact hD | exact hD.symm) | omega)
  · refine zr [.no, .call [] (bV false) [] 0 [] none, .no, .no, .no] [1, 2, 3, 18] [0] (Fun 10 [.agg [.d (D.sl (kB xs) q)]] (kC []) 0 (bV false) (kC []) 0) [(1, kL (D.lit (.string (strOfNums r)))), (2, sV .u64 s n), (3, rV 0 0), (18, bV true)] [(0, some (25, .ds [D.sl (kB xs) q]))] 1 (by have h0 := (yK xs q zo zo (kQ : CsW xs)); rw [hx1] at h0; exact h0) ?_
    refine zt ?_
    refine kI [.no] True [(6, kL (D.lit (.int .u64 0)))] [] 1 trivial ?_
    refine AW.ret ?_
    exact kA (.inr rfl) [] (P := (((kS xs r s) : Int) = 0)) zk (by first | rfl | exact (dB (by assumption)).symm | exact dB (by assumption) | exact (aW (by assumption)).symm | exact aW (by assumption) | (rw [dA (by assumption) (by assumption), show ka0 xs = k by omega]; first | exact hD | exact hD.symm) | omega)
theorem jL {p : Prop} (h : p := by rw [List.drop_zero, List.take_of_length_le (by first | omega | (simp only [kK, kH, kO, ka8, uL, ka4, kb5, kb6, kb8, kc0, kc4, ka8, kc8, kd6, Nat.mul_one] <;> omega))]) : p := h
theorem yY (xs : List Ch) (q : Nat) (z : Int) (hq : ka0 xs = q) (h0 : q ≤ 1000000) (hX : CsW xs) : Fun 20 [.agg [.d (D.sl (kB xs) q)], .c (.d (D.lit (.int .u64 z)))] (kC []) 0 (.e (.agg [.d (D.sl (kB (q5 xs z)) (ka0 (q5 xs z)))])) (kC []) 0 := by
  refine Fun.mk (n := 13) Try.func20 rfl rfl (ka3 rfl) ?_
  intro cx hcx
  refine kI [.no, .no, .no] True [(2, rV 0 0), (3, rV 1 0), (4, rV 2 0)] [(0, some (25, .ds [D.sl (kB xs) q])), (1, some (27, .ds [D.lit (.int .u64 z)])), (2, some (25, .ds [uC]))] 3 trivial ?_
  refine AW.seq ?_
  rcases ka6 (yF xs) with hx1 | hx1
  · refine zr [.no, .call [] (bV true) [] 0 [] none, .no] [2, 3, 4, 7] [0, 1, 2] (Fun 10 [.agg [.d (D.sl (kB xs) q)]] (kC []) 0 (bV true) (kC []) 0) [(2, rV 0 0), (3, rV 1 0), (4, rV 2 0), (7, bV false)] [(0, some (25, .ds [D.sl (kB xs) q])), (1, some (27, .ds [D.lit (.int .u64 z)])), (2, some (25, .ds [uC]))] 3 (by have h0 := (yK xs q zo zo (kQ : CsW xs)); rw [hx1] at h0; exact h0) ?_
    refine uF ?_
    have hx2 : ((ka0 (vB xs z)) ≤ q) := (by have h9 := lA xs z; omega)
    refine kI [.no, .no, .call [1] (.e (.agg [.own 1 0 (ka0 (vB xs z)) 3 true])) [(0, some (27, .ds [D.lit (.int .u64 z)])), (1, some (29, .ds (kB (vB xs z))))] 2 [] none, .no] _ [(4, rV 2 0)] [(2, some (25, .cs [.own 3 0 (ka0 (vB xs z)) 3 true])), (3, some (29, .ds (kB (vB xs z))))] 4 (k3f xs q z zo zo (kQ : CsW xs)) ?_
    refine AW.freeze 3 (l' := [(4, rV 2 0)]) (g' := [(2, some (25, .ds [D.sl (kB (vB xs z)) (ka0 (vB xs z))]))]) rfl (FzS.cons rfl (.same _) FzS.nil) (FzG.to (bc := .cs [.own 3 0 (ka0 (vB xs z)) 3 true]) rfl (by rfl) (FzL.cons (@FzC.own 3 ((kB (vB xs z)) : List D) 0 (ka0 (vB xs z)) 3 true ((kB (vB xs z)) : List D) jL u2) FzL.nil) FzG.nil) ?_
    have hz1 : q5 xs z = vB xs z := k2s hx1
    refine AW.ret ?_
    exact kA (.inr rfl) [] (P := (((kB (q5 xs z)) : List D) = (kB (vB xs z))) ∧ (((ka0 (q5 xs z)) : Nat) = (ka0 (vB xs z)))) zk ⟨(by first | rfl | (rw [hz1]; done) | (rw [hz1]; rfl) | (rw [hz1]; omega) | omega), (by first | rfl | (rw [hz1]; done) | (rw [hz1]; rfl) | (rw [hz1]; omega) | omega)⟩
  · refine zr [.no, .call [] (bV false) [] 0 [] none, .no] [2, 3, 4, 7] [0, 1, 2] (Fun 10 [.agg [.d (D.sl (kB xs) q)]] (kC []) 0 (bV false) (kC []) 0) [(2, rV 0 0), (3, rV 1 0), (4, rV 2 0), (7, bV true)] [(0, some (25, .ds [D.sl (kB xs) q])), (1, some (27, .ds [D.lit (.int .u64 z)])), (2, some (25, .ds [uC]))] 3 (by have h0 := (yK xs q zo zo (kQ : CsW xs)); rw [hx1] at h0; exact h0) ?_
    refine zt ?_
    refine kI [.no, .call [] (.e (.agg [.own 0 0 q 3 true])) [(0, some (29, .ds (kB xs)))] 1 [] none, .no] _ [(4, rV 2 0)] [(2, some (25, .cs [.own 3 0 q 3 true])), (3, some (29, .ds (kB xs)))] 4 (lS xs q zo zo (kQ : CsW xs)) ?_
    refine AW.freeze 3 (l' := [(4, rV 2 0)]) (g' := [(2, some (25, .ds [D.sl (kB xs) q]))]) rfl (FzS.cons rfl (.same _) FzS.nil) (FzG.to (bc := .cs [.own 3 0 q 3 true]) rfl (by rfl) (FzL.cons (@FzC.own 3 ((kB xs) : List D) 0 q 3 true ((kB xs) : List D) jL u2) FzL.nil) FzG.nil) ?_
    have hz1 : q5 xs z = xs := k3y hx1
    refine AW.ret ?_
    exact kA (.inr rfl) [] (P := (((kB (q5 xs z)) : List D) = (kB xs)) ∧ (((ka0 (q5 xs z)) : Nat) = q)) zk ⟨(by first | rfl | (rw [hz1]; done) | (rw [hz1]; rfl) | (rw [hz1]; omega) | omega), (by first | rfl | (rw [hz1]; done) | (rw [hz1]; rfl) | (rw [hz1]; omega) | omega)⟩
theorem z6 (xs : List Ch) (q : Nat) (r s : List Int) (n : Nat) (d : Int) (hq : ka0 xs = q) (h0 : q ≤ 1000000) (hX : CsW xs) (hr : Byt r) (hl : ka0 r ≤ 1000000) (hn : ka0 s = n) (h1 : n ≤ 1000000) (h9 : q ≤ 31) : Fun 12 [.agg [.d (D.sl (kB xs) q)], .agg [.d (D.lit (.string (strOfNums r))), .d (D.sl (dI .u64 s) n), .d (D.lit (.int .u64 d))]] (kC []) 0 (.tup [.agg [.d (D.sl (kB (kE xs r s d)) (ka0 (kE xs r s d)))], iE (aA xs r s d)]) (kC []) 0 := by
  refine Fun.mk (n := 34) Try.func12 rfl rfl (ka3 rfl) ?_
  intro cx hcx
  refine kI (qA 4 []) True [(2, rV 0 0), (3, rV 1 0), (4, rV 2 0)] [(0, some (25, .ds [D.sl (kB xs) q])), (1, some (29, .ds [D.lit (.string (strOfNums r)), D.sl (dI .u64 s) n, D.lit (.int .u64 d)])), (2, some (25, .ds [uC]))] 3 trivial ?_
  refine AW.seq ?_
  rcases ka6 (yF xs) with hx1 | hx1
  · refine zr [.no, .call [] (bV true) [] 0 [] none, .no] [2, 3, 4, 9] [0, 1, 2] (Fun 10 [.agg [.d (D.sl (kB xs) q)]] (kC []) 0 (bV true) (kC []) 0) [(2, rV 0 0), (3, rV 1 0), (4, rV 2 0), (9, bV false)] [(0, some (25, .ds [D.sl (kB xs) q])), (1, some (29, .ds [D.lit (.string (strOfNums r)), D.sl (dI .u64 s) n, D.lit (.int .u64 d)])), (2, some (25, .ds [uC]))] 3 (by have h0 := (yK xs q zo zo (kQ : CsW xs)); rw [hx1] at h0; exact h0) ?_
    refine uF ?_
    refine AW.seq ?_
    rcases ka6 (uS r s d) with hx2 | hx2
    · refine zr [.no, .call [] (bV true) [] 0 [] none, .no] [2, 3, 4, 13] [0, 1, 2] (Fun 24 [.agg [.d (D.lit (.string (strOfNums r))), .d (D.sl (dI .u64 s) n), .d (D.lit (.int .u64 d))]] (kC []) 0 (bV true) (kC []) 0) [(2, rV 0 0), (3, rV 1 0), (4, rV 2 0), (13, bV false)] [(0, some (25, .ds [D.sl (kB xs) q])), (1, some (29, .ds [D.lit (.string (strOfNums r)), D.sl (dI .u64 s) n, D.lit (.int .u64 d)])), (2, some (25, .ds [uC]))] 3 (by have h0 := (gP r s n d (kQ : Byt r) zo zo zo); rw [hx2] at h0; exact h0) ?_
      refine uF ?_
      have hx3 : ((ka0 (qZ xs r s)) ≤ q) := (by have h9 := f9 xs r s; omega)
      refine kI [.no, .no, .call [1] (.e (.agg [.own 1 0 (ka0 (qZ xs r s)) 3 true])) [(0, some (29, .ds [D.lit (.string (strOfNums r)), D.sl (dI .u64 s) n, D.lit (.int .u64 d)])), (1, some (29, .ds (kB (qZ xs r s))))] 2 [] none, .no, .no] _ [(3, rV 1 0), (4, rV 2 0), (6, rV 4 0)] [(1, some (29, .ds [D.lit (.string (strOfNums r)), D.sl (dI .u64 s) n, D.lit (.int .u64 d)])), (2, some (25, .ds [uC])), (3, some (29, .ds (kB (qZ xs r s)))), (4, some (25, .cs [.own 3 0 (ka0 (qZ xs r s)) 3 true]))] 5 (k3g xs q r s n d zo zo (kQ : CsW xs) (kQ : Byt r) zo zo zo) ?_
      refine kI [.no, .no, .no, .call [] (.e (.agg [.d (D.lit (.string (strOfNums r))), .d (D.sl (dI .u64 s) n), .d (D.lit (.int .u64 d))])) [] 0 [] none, .no, .ap none ((ka0 (qZ xs r s)) + 1) (kB ((qZ xs r s) ++ ([(kZ r s d)] : List Ch))), .no, .no] ((_) ∧ ([D.lit (.string (strOfNums r)), D.sl (dI .u64 s) n, D.lit (.int .u64 d)].length = 1 * 3) ∧ (((kB (qZ xs r s)) : List D).length = (ka0 (qZ xs r s)) * 3) ∧ (((ka0 (qZ xs r s)) + 1) * 48 ≤ 140737488355328) ∧ ((ka0 (qZ xs r s)) + 1 = ((ka0 (qZ xs r s)) + 1)) ∧ (((kB (qZ xs r s)) : List D) ++ [D.lit (.string (strOfNums r)), D.sl (dI .u64 s) n, D.lit (.int .u64 d)] = (kB ((qZ xs r s) ++ ([(kZ r s d)] : List Ch))))) [(4, rV 2 0), (6, rV 4 0)] [(2, some (25, .ds [uC])), (4, some (25, .cs [.own 6 0 ((ka0 (qZ xs r s)) + 1) 3 true])), (6, some (29, .ds (kB ((qZ xs r s) ++ ([(kZ r s d)] : List Ch)))))] 7 ⟨(z3 r s n d (kQ : Byt r) zo zo zo), u2, u2, zo, zo, (gL (qZ xs r s) r s n d (by first | rfl | assumption | omega))⟩ ?_
      refine AW.seq ?_
      refine yT [.no, .no, .no, .b false] (¬ ((32 : Int) < ((((ka0 (qZ xs r s)) + 1) : Nat) : Int))) [(4, rV 2 0), (6, rV 4 0), (28, bV false)] zo ?_
      refine uF ?_
      refine kI [.no, .no, .no] True [(4, rV 2 0), (5, iV 0)] [(2, some (25, .cs [.own 6 0 ((ka0 (qZ xs r s)) + 1) 3 true])), (6, some (29, .ds (kB ((qZ xs r s) ++ ([(kZ r s d)] : List Ch)))))] 7 trivial ?_
      refine AW.freeze 6 (l' := [(4, rV 2 0), (5, iV 0)]) (g' := [(2, some (25, .ds [D.sl (kB ((qZ xs r s) ++ ([(kZ r s d)] : List Ch))) ((ka0 (qZ xs r s)) + 1)]))]) rfl (FzS.cons rfl (.same _) (FzS.cons rfl (.same _) FzS.nil)) (FzG.to (bc := .cs [.own 6 0 ((ka0 (qZ xs r s)) + 1) 3 true]) rfl (by rfl) (FzL.cons (@FzC.own 6 ((kB ((qZ xs r s) ++ ([(kZ r s d)] : List Ch))) : List D) 0 ((ka0 (qZ xs r s)) + 1) 3 true ((kB ((qZ xs r s) ++ ([(kZ r s d)] : List Ch))) : List D) jL u2) FzL.nil) FzG.nil) ?_
      obtain ⟨hz1, hz2⟩ := jT hx1 hx2
      rw [oS (by omega)] at hz1
      refine AW.ret ?_
      exact kA (.inr rfl) [] (P := (((kB (kE xs r s d)) : List D) = (kB ((qZ xs r s) ++ ([(kZ r s d)] : List Ch)))) ∧ (((ka0 (kE xs r s d)) : Nat) = ((ka0 (qZ xs r s)) + 1)) ∧ (((aA xs r s d) : Int) = 0)) zk ⟨(by first | rfl | exact hz2 | exact hz2.symm | (rw [hz1]; done) | (rw [hz1]; rfl) | (rw [hz1, ka4]; rfl) | (rw [hz1]; simp only [kK, kH, kO, ka8, ka4, kb5, kb6] <;> omega) | omega), (by first | rfl | exact hz2 | exact hz2.symm | (rw [hz1]; done) | (rw [hz1]; rfl) | (rw [hz1, ka4]; rfl) | (rw [hz1]; simp only [kK, kH, kO, ka8, ka4, kb5, kb6] <;> omega) | omega), (by first | rfl | exact hz2 | exact hz2.symm | (rw [hz1]; done) | (rw [hz1]; rfl) | (rw [hz1, ka4]; rfl) | (rw [hz1]; simp only [kK, kH, kO, ka8, ka4, kb5, kb6] <;> omega) | omega)⟩
    · refine zr [.no, .call [] (bV false) [] 0 [] none, .no] [2, 3, 4, 13] [0, 1, 2] (Fun 24 [.agg [.d (D.lit (.string (strOfNums r))), .d (D.sl (dI .u64 s) n), .d (D.lit (.int .u64 d))]] (kC []) 0 (bV false) (kC []) 0) [(2, rV 0 0), (3, rV 1 0), (4, rV 2 0), (13, bV true)] [(0, some (25, .ds [D.sl (kB xs) q])), (1, some (29, .ds [D.lit (.string (strOfNums r)), D.sl (dI .u64 s) n, D.lit (.int .u64 d)])), (2, some (25, .ds [uC]))] 3 (by have h0 := (gP r s n d (kQ : Byt r) zo zo zo); rw [hx2] at h0; exact h0) ?_
      refine zt ?_
      refine kI [.no, .no, .no] True [(4, rV 2 0), (5, iV 2)] [(2, some (25, .ds [uC]))] 3 trivial ?_
      obtain ⟨hz1, hz2⟩ := k1w hx1 hx2
      refine dN (l' := [(4, rV 2 0), (5, iV 2)]) (g' := [(2, some (25, .ds [D.sl ([] : List D) 0]))]) (NlS.cons rfl (.same _) (NlS.cons rfl (.same _) NlS.nil)) (NlG.to (bc := .ds [uC]) rfl (NlL.cons (.nil) NlL.nil) NlG.nil) ?_
      refine AW.ret ?_
      exact kA (.inr rfl) [] (P := (((kB (kE xs r s d)) : List D) = ([] : List D)) ∧ (((ka0 (kE xs r s d)) : Nat) = 0) ∧ (((aA xs r s d) : Int) = 2)) zk ⟨(by first | rfl | exact hz2 | exact hz2.symm | (rw [hz1]; done) | (rw [hz1]; rfl) | (rw [hz1, ka4]; rfl) | (rw [hz1]; simp only [kK, kH, kO, ka8, ka4, kb5, kb6] <;> omega) | omega), (by first | rfl | exact hz2 | exact hz2.symm | (rw [hz1]; done) | (rw [hz1]; rfl) | (rw [hz1, ka4]; rfl) | (rw [hz1]; simp only [kK, kH, kO, ka8, ka4, kb5, kb6] <;> omega) | omega), (by first | rfl | exact hz2 | exact hz2.symm | (rw [hz1]; done) | (rw [hz1]; rfl) | (rw [hz1, ka4]; rfl) | (rw [hz1]; simp only [kK, kH, kO, ka8, ka4, kb5, kb6] <;> omega) | omega)⟩
  · refine zr [.no, .call [] (bV false) [] 0 [] none, .no] [2, 3, 4, 9] [0, 1, 2] (Fun 10 [.agg [.d (D.sl (kB xs) q)]] (kC []) 0 (bV false) (kC []) 0) [(2, rV 0 0), (3, rV 1 0), (4, rV 2 0), (9, bV true)] [(0, some (25, .ds [D.sl (kB xs) q])), (1, some (29, .ds [D.lit (.string (strOfNums r)), D.sl (dI .u64 s) n, D.lit (.int .u64 d)])), (2, some (25, .ds [uC]))] 3 (by have h0 := (yK xs q zo zo (kQ : CsW xs)); rw [hx1] at h0; exact h0) ?_
    refine zt ?_
    refine kI [.no, .no, .no] True [(4, rV 2 0), (5, iV 1)] [(2, some (25, .ds [uC]))] 3 trivial ?_
    obtain ⟨hz1, hz2⟩ := k1x (r := r) (s := s) (d := d) hx1
    refine dN (l' := [(4, rV 2 0), (5, iV 1)]) (g' := [(2, some (25, .ds [D.sl ([] : List D) 0]))]) (NlS.cons rfl (.same _) (NlS.cons rfl (.same _) NlS.nil)) (NlG.to (bc := .ds [uC]) rfl (NlL.cons (.nil) NlL.nil) NlG.nil) ?_
    refine AW.ret ?_
    exact kA (.inr rfl) [] (P := (((kB (kE xs r s d)) : List D) = ([] : List D)) ∧ (((ka0 (kE xs r s d)) : Nat) = 0) ∧ (((aA xs r s d) : Int) = 1)) zk ⟨(by first | rfl | exact hz2 | exact hz2.symm | (rw [hz1]; done) | (rw [hz1]; rfl) | (rw [hz1, ka4]; rfl) | (rw [hz1]; simp only [kK, kH, kO, ka8, ka4, kb5, kb6] <;> omega) | omega), (by first | rfl | exact hz2 | exact hz2.symm | (rw [hz1]; done) | (rw [hz1]; rfl) | (rw [hz1, ka4]; rfl) | (rw [hz1]; simp only [kK, kH, kO, ka8, ka4, kb5, kb6] <;> omega) | omega), (by first | rfl | exact hz2 | exact hz2.symm | (rw [hz1]; done) | (rw [hz1]; rfl) | (rw [hz1, ka4]; rfl) | (rw [hz1]; simp only [kK, kH, kO, ka8, ka4, kb5, kb6] <;> omega) | omega)⟩
end Go.Proofs.Ytkjmlililpgamaa
