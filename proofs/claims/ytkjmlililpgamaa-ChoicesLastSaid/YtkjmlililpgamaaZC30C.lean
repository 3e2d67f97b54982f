/- slices.DeleteFunc; Remember, Lookup, Forget. No statement is proved here. -/
import Derived.Test.YtkjmlililpgamaaZC30B
namespace Go.Proofs.Ytkjmlililpgamaa
open Go.ChangeShapes Go.WideShapes Go.ChangeAt Go.RowKit
open Bool renaming eq_false_or_eq_true → ka7
open Int renaming toNat → kc9
open List renaming drop → kb4, getD → ka2, length → ka0, length_append → ka5, length_cons → kb7, length_drop → kc0, length_map → kd1, length_nil → kb8, length_replicate → kc5, length_reverse → kd8, length_set → ka8, length_take → kb9, replicate → kb1, set → ke6, take → ka6
open Nat renaming le_of_ble_eq_true → ka3
set_option linter.unusedVariables false
set_option linter.unusedSimpArgs false
set_option maxHeartbeats 4000000
set_option maxRecDepth 100000
theorem qH {p : Prop} (h : p := by first | omega | assumption | simp) : p := h
theorem aL {p : Prop} (h : p := by first | omega | (simp only [kL, kJ, kO, ka8, ka5, kb7, kb8, kb9, kc0] <;> omega)) : p := h
theorem qR {p : Prop} (h : p := by first | omega | with_reducible assumption | (simp only [kL, kJ, kO, ka8, ka5, kb7, kb8, kb9, kc0, kc5, ka8] <;> omega) | rfl | assumption) : p := h
theorem fV {p : Prop} (h : p := by first | assumption | exact decide_eq_true (by assumption)) : p := h
theorem qU {p : Prop} (h : p := by first | rfl | omega | assumption | (simp; done) | (simp; omega)) : p := h
theorem u5 {p : Prop} (h : p := by first | omega | (show _ < _; simp; omega)) : p := h
theorem k2m (xs : List Ch) (q : Nat) (r s : List Int) (n : Nat) (d : Int) (hq : ka0 xs = q) (h0 : q ≤ 1000000) (hX : CsW xs) (hr : Byt r) (hl : ka0 r ≤ 1000000) (hn : ka0 s = n) (h1 : n ≤ 1000000) : Fun 41 [.c (.own 0 0 q 3 true), .c (.fn 29 [(1, 0)])] (kC [(0, some (29, .ds (kB xs))), (1, some (29, .ds [D.lit (.string (strOfNums r)), D.sl (dI .u64 s) n, D.lit (.int .u64 d)]))]) 2 (iV (u0 xs r s q)) (kC [(0, some (29, .ds (kB xs))), (1, some (29, .ds [D.lit (.string (strOfNums r)), D.sl (dI .u64 s) n, D.lit (.int .u64 d)]))]) 2 := by
  refine Fun.mk (n := 19) Try.func41 rfl rfl (ka3 rfl) ?_
  intro cx hcx
  refine kK [.no] True [(0, oV 0 0 q 3), (1, .e (.c (.fn 29 [(1, 0)])))] [(0, some (29, .ds (kB xs))), (1, some (29, .ds [D.lit (.string (strOfNums r)), D.sl (dI .u64 s) n, D.lit (.int .u64 d)]))] 2 trivial ?_
  refine AW.seq ?_
  refine yZ [.no, .no, .no] True [(0, oV 0 0 q 3), (1, .e (.c (.fn 29 [(1, 0)]))), (7, uV q), (8, iV 0)] trivial ?_
  refine AW.block ?_
  refine kW 2 hcx (fun (x : {x : Nat // match x with | k => (k ≤ q) ∧ (u0 xs r s k = -1)}) => match x with | ⟨k, _⟩ => (⟨[(0, oV 0 0 q 3), (1, .e (.c (.fn 29 [(1, 0)]))), (7, uV q), (8, uV k)], [(0, some (29, .ds (kB xs))), (1, some (29, .ds [D.lit (.string (strOfNums r)), D.sl (dI .u64 s) n, D.lit (.int .u64 d)]))], 2⟩ : ES)) (fun x => match x with | ⟨k, _⟩ => q - k) ⟨(0 : Nat), ⟨qH, rfl⟩⟩ [] (P := (kU 0) ∧ (kU q) ∧ (qA (q : Int)) ∧ (qA 0) ∧ (kS (kB xs)) ∧ (kS [D.lit (.string (strOfNums r)), D.sl (dI .u64 s) n, D.lit (.int .u64 d)])) zk ⟨rfl, rfl, rfl, rfl, rfl, rfl⟩ ?_
  rintro ⟨k, hinv0⟩
  obtain ⟨hk, hi⟩ : (k ≤ q) ∧ (u0 xs r s k = -1) := hinv0
  refine qX (l := [(0, oV 0 0 q 3), (1, .e (.c (.fn 29 [(1, 0)]))), (7, uV q), (8, uV k)]) (g := [(0, some (29, .ds (kB xs))), (1, some (29, .ds [D.lit (.string (strOfNums r)), D.sl (dI .u64 s) n, D.lit (.int .u64 d)]))]) (nx := 2) rfl rfl rfl ?_
  by_cases hx1 : (((k : Nat) : Int) < ((q : Nat) : Int))
  · refine zr [.b true] [0, 1, 7, 8, 9] [0, 1] (((k : Int) < (q : Int))) [(0, oV 0 0 q 3), (1, .e (.c (.fn 29 [(1, 0)]))), (7, uV q), (8, uV k), (9, bV true)] [(0, some (29, .ds (kB xs))), (1, some (29, .ds [D.lit (.string (strOfNums r)), D.sl (dI .u64 s) n, D.lit (.int .u64 d)]))] 2 zo ?_
    refine AW.seq ?_
    refine cQ ?_
    refine AW.seq ?_
    refine AW.block ?_
    refine kK [.no, .no] True [(0, oV 0 0 q 3), (1, .e (.c (.fn 29 [(1, 0)]))), (5, uV k), (7, uV q), (8, uV k)] [(0, some (29, .ds (kB xs))), (1, some (29, .ds [D.lit (.string (strOfNums r)), D.sl (dI .u64 s) n, D.lit (.int .u64 d)]))] 2 trivial ?_
    rcases ka7 (uQ (kH xs k) (kD xs k) r s) with hx5 | hx5
    · obtain ⟨hx6, hx7, hx8⟩ := CsW.at (kR : CsW xs) (k)
      refine kK [.no, .no, .no, .n2 k (k * 3), .ds [D.lit (.string (strOfNums (kH xs k))), D.sl (dI .u64 (kD xs k)) (ka0 (kD xs k)), D.lit (.int .u64 (kN xs k))], .call [1] (bV true) [(0, some (29, .ds [D.lit (.string (strOfNums r)), D.sl (dI .u64 s) n, D.lit (.int .u64 d)]))] 1 [] none] ((qA (k : Int)) ∧ (k < q) ∧ ((0 : Nat) + k * 3 = (k * 3)) ∧ (ka6 3 (kb4 (k * 3) (kB xs)) = [D.lit (.string (strOfNums (kH xs k))), D.sl (dI .u64 (kD xs k)) (ka0 (kD xs k)), D.lit (.int .u64 (kN xs k))]) ∧ (([D.lit (.string (strOfNums (kH xs k))), D.sl (dI .u64 (kD xs k)) (ka0 (kD xs k)), D.lit (.int .u64 (kN xs k))] : List D).length = 3) ∧ (Fun 29 [.agg [.d (D.lit (.string (strOfNums (kH xs k)))), .d (D.sl (dI .u64 (kD xs k)) (ka0 (kD xs k))), .d (D.lit (.int .u64 (kN xs k)))], .c (.ptr 0 0)] (kC [(0, some (29, .ds [D.lit (.string (strOfNums r)), D.sl (dI .u64 s) n, D.lit (.int .u64 d)]))]) 1 (bV true) (kC [(0, some (29, .ds [D.lit (.string (strOfNums r)), D.sl (dI .u64 s) n, D.lit (.int .u64 d)]))]) 1)) [(0, oV 0 0 q 3), (1, .e (.c (.fn 29 [(1, 0)]))), (5, uV k), (7, uV q), (8, uV k), (16, bV true)] [(0, some (29, .ds (kB xs))), (1, some (29, .ds [D.lit (.string (strOfNums r)), D.sl (dI .u64 s) n, D.lit (.int .u64 d)]))] 2 ⟨rfl, zo, zo, (q8 (i := k) aL), rfl, (by have h0 := (n3 (kH xs k) (kD xs k) (ka0 (kD xs k)) (kN xs k) r s n d (kR : Byt (kH xs k)) qR rfl qR (kR : Byt r) zo zo zo); rw [hx5] at h0; exact h0)⟩ ?_
      refine zt ?_
      refine yZ [.no, .no] True [(4, uV k)] trivial ?_
      refine AW.ret ?_
      exact kA (.inr rfl) [] (P := (((u0 xs r s q) : Int) = (k : Int)) ∧ (kS (kB xs)) ∧ (kS [D.lit (.string (strOfNums r)), D.sl (dI .u64 s) n, D.lit (.int .u64 d)])) zk ⟨(by first | rfl | exact mV hi fV zo | (rw [show q = k by omega]; exact hi) | omega), rfl, rfl⟩
    · obtain ⟨hx9, hx10, hx11⟩ := CsW.at (kR : CsW xs) (k)
      refine kK [.no, .no, .no, .n2 k (k * 3), .ds [D.lit (.string (strOfNums (kH xs k))), D.sl (dI .u64 (kD xs k)) (ka0 (kD xs k)), D.lit (.int .u64 (kN xs k))], .call [1] (bV false) [(0, some (29, .ds [D.lit (.string (strOfNums r)), D.sl (dI .u64 s) n, D.lit (.int .u64 d)]))] 1 [] none] ((qA (k : Int)) ∧ (k < q) ∧ ((0 : Nat) + k * 3 = (k * 3)) ∧ (ka6 3 (kb4 (k * 3) (kB xs)) = [D.lit (.string (strOfNums (kH xs k))), D.sl (dI .u64 (kD xs k)) (ka0 (kD xs k)), D.lit (.int .u64 (kN xs k))]) ∧ (([D.lit (.string (strOfNums (kH xs k))), D.sl (dI .u64 (kD xs k)) (ka0 (kD xs k)), D.lit (.int .u64 (kN xs k))] : List D).length = 3) ∧ (Fun 29 [.agg [.d (D.lit (.string (strOfNums (kH xs k)))), .d (D.sl (dI .u64 (kD xs k)) (ka0 (kD xs k))), .d (D.lit (.int .u64 (kN xs k)))], .c (.ptr 0 0)] (kC [(0, some (29, .ds [D.lit (.string (strOfNums r)), D.sl (dI .u64 s) n, D.lit (.int .u64 d)]))]) 1 (bV false) (kC [(0, some (29, .ds [D.lit (.string (strOfNums r)), D.sl (dI .u64 s) n, D.lit (.int .u64 d)]))]) 1)) [(0, oV 0 0 q 3), (1, .e (.c (.fn 29 [(1, 0)]))), (5, uV k), (7, uV q), (8, uV k), (16, bV false)] [(0, some (29, .ds (kB xs))), (1, some (29, .ds [D.lit (.string (strOfNums r)), D.sl (dI .u64 s) n, D.lit (.int .u64 d)]))] 2 ⟨rfl, zo, zo, (q8 (i := k) aL), rfl, (by have h0 := (n3 (kH xs k) (kD xs k) (ka0 (kD xs k)) (kN xs k) r s n d (kR : Byt (kH xs k)) qR rfl qR (kR : Byt r) zo zo zo); rw [hx5] at h0; exact h0)⟩ ?_
      refine uI ?_
      refine cW [.w, .no] (uY ((k : Int) + 1)) [(0, oV 0 0 q 3), (1, .e (.c (.fn 29 [(1, 0)]))), (7, uV q), (8, iV (↑k + 1))] ⟨by omega, by omega⟩ ?_
      exact k8 ⟨((k + 1) : Nat), ⟨qH, (k0a hi (by first | assumption | exact decide_eq_false (by assumption)))⟩⟩ [] (P := (kU 0) ∧ (kU q) ∧ (qA (q : Int)) ∧ (vA k) ∧ (kS (kB xs)) ∧ (kS [D.lit (.string (strOfNums r)), D.sl (dI .u64 s) n, D.lit (.int .u64 d)])) zk ⟨rfl, rfl, rfl, qU, rfl, rfl⟩ (show q - (k + 1) < q - k from u5)
  · refine zr [.b false] [0, 1, 7, 8, 9] [0, 1] (¬ ((k : Int) < (q : Int))) [(0, oV 0 0 q 3), (1, .e (.c (.fn 29 [(1, 0)]))), (7, uV q), (8, uV k), (9, bV false)] [(0, some (29, .ds (kB xs))), (1, some (29, .ds [D.lit (.string (strOfNums r)), D.sl (dI .u64 s) n, D.lit (.int .u64 d)]))] 2 zo ?_
    refine AW.seq ?_
    refine zf ?_
    refine AW.exit ?_
    refine kK [.no] True [(4, iV (-1))] [(0, some (29, .ds (kB xs))), (1, some (29, .ds [D.lit (.string (strOfNums r)), D.sl (dI .u64 s) n, D.lit (.int .u64 d)]))] 2 trivial ?_
    refine AW.ret ?_
    exact kA (.inr rfl) [] (P := (((u0 xs r s q) : Int) = (-1)) ∧ (kS (kB xs)) ∧ (kS [D.lit (.string (strOfNums r)), D.sl (dI .u64 s) n, D.lit (.int .u64 d)])) zk ⟨(by first | rfl | exact mV hi fV zo | (rw [show q = k by omega]; exact hi) | omega), rfl, rfl⟩
theorem fT {p : Prop} (h : p := by first | assumption | exact decide_eq_false (by omega)) : p := h
theorem fS {p : Prop} (h : p := by first | assumption | exact decide_eq_true (by omega)) : p := h
theorem fU {p : Prop} (h : p := by first | assumption | (rw [ka8]; assumption)) : p := h
theorem u6 {p : Prop} (h : p := by first | omega | (simp only [kL, kJ, kO, ka8, uO, ka5, kb7, kb8, kb9, kc0, kc5, ka8, kd1, kd8, Nat.mul_one] <;> omega) | rfl) : p := h
theorem k2o (xs : List Ch) (q : Nat) (r s : List Int) (n : Nat) (d : Int) (hq : ka0 xs = q) (h0 : q ≤ 1000000) (hX : CsW xs) (hr : Byt r) (hl : ka0 r ≤ 1000000) (hn : ka0 s = n) (h1 : n ≤ 1000000) : Fun 45 [.c (.own 0 0 q 3 true), .c (.fn 29 [(1, 0)])] (kC [(0, some (29, .ds (kB xs))), (1, some (29, .ds [D.lit (.string (strOfNums r)), D.sl (dI .u64 s) n, D.lit (.int .u64 d)]))]) 2 (oV 0 0 (ka0 (q5 xs r s)) 3) (kC [(0, some (29, .ds (kB (q5 xs r s)))), (1, some (29, .ds [D.lit (.string (strOfNums r)), D.sl (dI .u64 s) n, D.lit (.int .u64 d)]))]) 2 := by
  refine Fun.mk (n := 42) Try.func45 rfl rfl (ka3 rfl) ?_
  intro cx hcx
  refine kK [.no] True [(0, oV 0 0 q 3), (1, .e (.c (.fn 29 [(1, 0)])))] [(0, some (29, .ds (kB xs))), (1, some (29, .ds [D.lit (.string (strOfNums r)), D.sl (dI .u64 s) n, D.lit (.int .u64 d)]))] 2 trivial ?_
  have hx1 : (((((-1) : Int) ≤ (u0 xs r s q)) ∧ ((u0 xs r s q) < ((q : Nat) : Int))) ∨ ((q = 0) ∧ ((u0 xs r s q) = (-1)))) := hC _ _
  refine yZ [.no, .no, .call [0, 1] (iV (u0 xs r s q)) [(0, some (29, .ds (kB xs))), (1, some (29, .ds [D.lit (.string (strOfNums r)), D.sl (dI .u64 s) n, D.lit (.int .u64 d)]))] 2 [] none, .no] _ [(0, oV 0 0 q 3), (1, .e (.c (.fn 29 [(1, 0)]))), (5, iV (u0 xs r s q))] (k2m xs q r s n d zo zo (kR : CsW xs) (kR : Byt r) zo zo zo) ?_
  refine AW.seq ?_
  by_cases hx2 : ((u0 xs r s q) = (-1))
  · refine zr [.no, .b true] [0, 1, 5, 12] [0, 1] (((u0 xs r s q) = (-1))) [(0, oV 0 0 q 3), (1, .e (.c (.fn 29 [(1, 0)]))), (5, iV (u0 xs r s q)), (12, bV true)] [(0, some (29, .ds (kB xs))), (1, some (29, .ds [D.lit (.string (strOfNums r)), D.sl (dI .u64 s) n, D.lit (.int .u64 d)]))] 2 zo ?_
    refine zt ?_
    refine kK [.no, .no] True [(4, oV 0 0 q 3)] [(0, some (29, .ds (kB xs))), (1, some (29, .ds [D.lit (.string (strOfNums r)), D.sl (dI .u64 s) n, D.lit (.int .u64 d)]))] 2 trivial ?_
    have hz1 : q5 xs r s = xs := nS (p := fun c => uQ c.r c.s r s) hq (by assumption)
    have hz2 : ka0 (q5 xs r s) = q := by rw [hz1]; assumption
    refine AW.ret ?_
    exact kA (.inr rfl) [] (P := (kU 0) ∧ (((ka0 (q5 xs r s)) : Nat) = q) ∧ (((kB (q5 xs r s)) : List D) = (kB xs)) ∧ (kS [D.lit (.string (strOfNums r)), D.sl (dI .u64 s) n, D.lit (.int .u64 d)])) zk ⟨rfl, (by first | rfl | exact hz2 | exact hz2.symm | (rw [hz1]; done) | (rw [hz1]; rfl) | omega), (by first | rfl | exact hz2 | exact hz2.symm | (rw [hz1]; done) | (rw [hz1]; rfl) | omega), rfl⟩
  · refine zr [.no, .b false] [0, 1, 5, 12] [0, 1] (¬ ((u0 xs r s q) = (-1))) [(0, oV 0 0 q 3), (1, .e (.c (.fn 29 [(1, 0)]))), (5, iV (u0 xs r s q)), (12, bV false)] [(0, some (29, .ds (kB xs))), (1, some (29, .ds [D.lit (.string (strOfNums r)), D.sl (dI .u64 s) n, D.lit (.int .u64 d)]))] 2 zo ?_
    refine uI ?_
    refine AW.seq ?_
    refine kK [.no, .w, .no] (uY ((u0 xs r s q) + 1)) [(0, oV 0 0 q 3), (1, .e (.c (.fn 29 [(1, 0)]))), (5, iV (u0 xs r s q)), (6, iV ((u0 xs r s q) + 1))] [(0, some (29, .ds (kB xs))), (1, some (29, .ds [D.lit (.string (strOfNums r)), D.sl (dI .u64 s) n, D.lit (.int .u64 d)]))] 2 ⟨by omega, by omega⟩ ?_
    refine AW.block ?_
    refine kW 2 hcx (fun (x : {x : Nat × Nat × List Ch // match x with | (i, j, ys) => (i < j ∧ j ≤ q) ∧ (dfC xs ys r s i j) ∧ (ka0 ys = q) ∧ (CsW ys)}) => match x with | ⟨(i, j, ys), _⟩ => (⟨[(0, oV 0 0 q 3), (1, .e (.c (.fn 29 [(1, 0)]))), (5, uV i), (6, uV j)], [(0, some (29, .ds (kB ys))), (1, some (29, .ds [D.lit (.string (strOfNums r)), D.sl (dI .u64 s) n, D.lit (.int .u64 d)]))], 2⟩ : ES)) (fun x => match x with | ⟨(i, j, ys), _⟩ => q - j) ⟨(((kc9 (u0 xs r s q)) : Nat), (((kc9 (u0 xs r s q)) + 1) : Nat), (xs : List Ch)), ⟨qH, (k41 (p := fun c => uQ c.r c.s r s) hq (by show u0 xs r s q = _; omega)), (by assumption), hX⟩⟩ [] (P := (kU 0) ∧ (kU q) ∧ (((kc9 (u0 xs r s q) : Int) : Int) = (u0 xs r s q)) ∧ ((((((kc9 (u0 xs r s q)) + 1) : Nat) : Int) : Int) = ((u0 xs r s q) + 1)) ∧ (kS (kB xs)) ∧ (kS [D.lit (.string (strOfNums r)), D.sl (dI .u64 s) n, D.lit (.int .u64 d)])) zk ⟨rfl, rfl, qU, qU, rfl, rfl⟩ ?_
    rintro ⟨⟨i, j, ys⟩, hinv0⟩
    obtain ⟨hj, hS, hY, hW⟩ : (i < j ∧ j ≤ q) ∧ (dfC xs ys r s i j) ∧ (ka0 ys = q) ∧ (CsW ys) := hinv0
    refine qX (l := [(0, oV 0 0 q 3), (1, .e (.c (.fn 29 [(1, 0)]))), (5, uV i), (6, uV j)]) (g := [(0, some (29, .ds (kB ys))), (1, some (29, .ds [D.lit (.string (strOfNums r)), D.sl (dI .u64 s) n, D.lit (.int .u64 d)]))]) (nx := 2) rfl rfl rfl ?_
    refine AW.seq ?_
    by_cases hx3 : (((j : Nat) : Int) < ((q : Nat) : Int))
    · refine zr [.no, .no, .no, .b true] [0, 1, 5, 6, 19] [0, 1] (((j : Int) < (q : Int))) [(0, oV 0 0 q 3), (1, .e (.c (.fn 29 [(1, 0)]))), (5, uV i), (6, uV j), (19, bV true)] [(0, some (29, .ds (kB ys))), (1, some (29, .ds [D.lit (.string (strOfNums r)), D.sl (dI .u64 s) n, D.lit (.int .u64 d)]))] 2 zo ?_
      refine cQ ?_
      refine AW.seq ?_
      refine AW.block ?_
      obtain ⟨hx4, hx5, hx6⟩ := CsW.at (kR : CsW ys) (j)
      refine kK [.no, .no, .n2 j (j * 3), .ds [D.lit (.string (strOfNums (kH ys j))), D.sl (dI .u64 (kD ys j)) (ka0 (kD ys j)), D.lit (.int .u64 (kN ys j))], .no, .no] ((qA (j : Int)) ∧ (j < q) ∧ ((0 : Nat) + j * 3 = (j * 3)) ∧ (ka6 3 (kb4 (j * 3) (kB ys)) = [D.lit (.string (strOfNums (kH ys j))), D.sl (dI .u64 (kD ys j)) (ka0 (kD ys j)), D.lit (.int .u64 (kN ys j))]) ∧ (([D.lit (.string (strOfNums (kH ys j))), D.sl (dI .u64 (kD ys j)) (ka0 (kD ys j)), D.lit (.int .u64 (kN ys j))] : List D).length = 3)) [(0, oV 0 0 q 3), (1, .e (.c (.fn 29 [(1, 0)]))), (5, uV i), (6, uV j), (7, rV 2 0)] [(0, some (29, .ds (kB ys))), (1, some (29, .ds [D.lit (.string (strOfNums r)), D.sl (dI .u64 s) n, D.lit (.int .u64 d)])), (2, some (29, .ds [D.lit (.string (strOfNums (kH ys j))), D.sl (dI .u64 (kD ys j)) (ka0 (kD ys j)), D.lit (.int .u64 (kN ys j))]))] 3 ⟨rfl, zo, zo, (q8 (i := j) aL), rfl⟩ ?_
      rcases ka7 (uQ (kH ys j) (kD ys j) r s) with hx7 | hx7
      · refine zr [.no, .no, .call [1] (bV true) [(0, some (29, .ds [D.lit (.string (strOfNums r)), D.sl (dI .u64 s) n, D.lit (.int .u64 d)]))] 1 [] none, .no] [0, 1, 5, 6, 7, 29] [0, 1, 2] (Fun 29 [.agg [.d (D.lit (.string (strOfNums (kH ys j)))), .d (D.sl (dI .u64 (kD ys j)) (ka0 (kD ys j))), .d (D.lit (.int .u64 (kN ys j)))], .c (.ptr 0 0)] (kC [(0, some (29, .ds [D.lit (.string (strOfNums r)), D.sl (dI .u64 s) n, D.lit (.int .u64 d)]))]) 1 (bV true) (kC [(0, some (29, .ds [D.lit (.string (strOfNums r)), D.sl (dI .u64 s) n, D.lit (.int .u64 d)]))]) 1) [(0, oV 0 0 q 3), (1, .e (.c (.fn 29 [(1, 0)]))), (5, uV i), (6, uV j), (7, rV 2 0), (29, bV false)] [(0, some (29, .ds (kB ys))), (1, some (29, .ds [D.lit (.string (strOfNums r)), D.sl (dI .u64 s) n, D.lit (.int .u64 d)])), (2, some (29, .ds [D.lit (.string (strOfNums (kH ys j))), D.sl (dI .u64 (kD ys j)) (ka0 (kD ys j)), D.lit (.int .u64 (kN ys j))]))] 3 (by have h0 := (n3 (kH ys j) (kD ys j) (ka0 (kD ys j)) (kN ys j) r s n d (kR : Byt (kH ys j)) qR rfl qR (kR : Byt r) zo zo zo); rw [hx7] at h0; exact h0) ?_
        refine uI ?_
        refine b9 [.no, .w, .no] (uY ((j : Int) + 1)) [(0, oV 0 0 q 3), (1, .e (.c (.fn 29 [(1, 0)]))), (5, uV i), (6, iV (↑j + 1))] [(0, some (29, .ds (kB ys))), (1, some (29, .ds [D.lit (.string (strOfNums r)), D.sl (dI .u64 s) n, D.lit (.int .u64 d)]))] 3 ⟨by omega, by omega⟩ ?_
        exact k8 ⟨((i : Nat), ((j + 1) : Nat), (ys : List Ch)), ⟨qH, (by first | exact (z8 (p := fun c => uQ c.r c.s r s) hS zo zo fT) | exact (z9 (p := fun c => uQ c.r c.s r s) hS zo fS)), fU, (by first | assumption | exact CsW.set hW (hW.get _) _)⟩⟩ [] (P := (kU 0) ∧ (kU q) ∧ (qA (i : Int)) ∧ (vA j) ∧ (kS (kB ys)) ∧ (kS [D.lit (.string (strOfNums r)), D.sl (dI .u64 s) n, D.lit (.int .u64 d)])) zk ⟨rfl, rfl, rfl, qU, rfl, rfl⟩ (show q - (j + 1) < q - j from u5)
      · refine zr [.no, .no, .call [1] (bV false) [(0, some (29, .ds [D.lit (.string (strOfNums r)), D.sl (dI .u64 s) n, D.lit (.int .u64 d)]))] 1 [] none, .no] [0, 1, 5, 6, 7, 29] [0, 1, 2] (Fun 29 [.agg [.d (D.lit (.string (strOfNums (kH ys j)))), .d (D.sl (dI .u64 (kD ys j)) (ka0 (kD ys j))), .d (D.lit (.int .u64 (kN ys j)))], .c (.ptr 0 0)] (kC [(0, some (29, .ds [D.lit (.string (strOfNums r)), D.sl (dI .u64 s) n, D.lit (.int .u64 d)]))]) 1 (bV false) (kC [(0, some (29, .ds [D.lit (.string (strOfNums r)), D.sl (dI .u64 s) n, D.lit (.int .u64 d)]))]) 1) [(0, oV 0 0 q 3), (1, .e (.c (.fn 29 [(1, 0)]))), (5, uV i), (6, uV j), (7, rV 2 0), (29, bV true)] [(0, some (29, .ds (kB ys))), (1, some (29, .ds [D.lit (.string (strOfNums r)), D.sl (dI .u64 s) n, D.lit (.int .u64 d)])), (2, some (29, .ds [D.lit (.string (strOfNums (kH ys j))), D.sl (dI .u64 (kD ys j)) (ka0 (kD ys j)), D.lit (.int .u64 (kN ys j))]))] 3 (by have h0 := (n3 (kH ys j) (kD ys j) (ka0 (kD ys j)) (kN ys j) r s n d (kR : Byt (kH ys j)) qR rfl qR (kR : Byt r) zo zo zo); rw [hx7] at h0; exact h0) ?_
        refine zt ?_
        refine kK [.no, .no, .no, .n2 i (i * 3), .ds (kB (ke6 ys i (k9 (kH ys j) (kD ys j) (kN ys j))))] ((qA (i : Int)) ∧ (i < q) ∧ ((0 : Nat) + i * 3 = (i * 3)) ∧ ((i * 3) + 3 ≤ (kB ys).length) ∧ (lH (kB ys) (i * 3) [D.lit (.string (strOfNums (kH ys j))), D.sl (dI .u64 (kD ys j)) (ka0 (kD ys j)), D.lit (.int .u64 (kN ys j))] = (kB (ke6 ys i (k9 (kH ys j) (kD ys j) (kN ys j)))))) [(0, oV 0 0 q 3), (1, .e (.c (.fn 29 [(1, 0)]))), (5, uV i), (6, uV j)] [(0, some (29, .ds (kB (ke6 ys i (k9 (kH ys j) (kD ys j) (kN ys j)))))), (1, some (29, .ds [D.lit (.string (strOfNums r)), D.sl (dI .u64 s) n, D.lit (.int .u64 d)]))] 3 ⟨rfl, zo, zo, u6, (mM (kH ys j) (kD ys j) (kN ys j) (ka0 (kD ys j)) (by first | rfl | assumption | omega) _ _ (by first | omega | (simp only [ka8]; omega)))⟩ ?_
        refine cW [.no, .w, .no] (uY ((i : Int) + 1)) [(0, oV 0 0 q 3), (1, .e (.c (.fn 29 [(1, 0)]))), (5, iV (↑i + 1)), (6, uV j)] ⟨by omega, by omega⟩ ?_
        refine cW [.no, .w, .no] (uY ((j : Int) + 1)) [(0, oV 0 0 q 3), (1, .e (.c (.fn 29 [(1, 0)]))), (5, iV (↑i + 1)), (6, iV (↑j + 1))] ⟨by omega, by omega⟩ ?_
        exact k8 ⟨(((i + 1) : Nat), ((j + 1) : Nat), ((ke6 ys i (k9 (kH ys j) (kD ys j) (kN ys j))) : List Ch)), ⟨qH, (by first | exact (z8 (p := fun c => uQ c.r c.s r s) hS zo zo fT) | exact (z9 (p := fun c => uQ c.r c.s r s) hS zo fS)), fU, (by first | assumption | exact CsW.set hW (hW.get _) _)⟩⟩ [] (P := (kU 0) ∧ (kU q) ∧ (vA i) ∧ (vA j) ∧ (kS (kB (ke6 ys i (k9 (kH ys j) (kD ys j) (kN ys j))))) ∧ (kS [D.lit (.string (strOfNums r)), D.sl (dI .u64 s) n, D.lit (.int .u64 d)])) zk ⟨rfl, rfl, qU, qU, rfl, rfl⟩ (show q - (j + 1) < q - j from u5)
    · refine zr [.no, .no, .no, .b false] [0, 1, 5, 6, 19] [0, 1] (¬ ((j : Int) < (q : Int))) [(0, oV 0 0 q 3), (1, .e (.c (.fn 29 [(1, 0)]))), (5, uV i), (6, uV j), (19, bV false)] [(0, some (29, .ds (kB ys))), (1, some (29, .ds [D.lit (.string (strOfNums r)), D.sl (dI .u64 s) n, D.lit (.int .u64 d)]))] 2 zo ?_
      refine zf ?_
      refine AW.exit ?_
      refine kK [.no, .no, .sl i q (i * 3) (q - i), .mk 0 0 (pE ys i (q - i))] ((qA (i : Int)) ∧ (q = q) ∧ (i ≤ q) ∧ (q ≤ q) ∧ ((0 : Nat) + i * 3 = (i * 3)) ∧ (q - i = (q - i)) ∧ ((i * 3) + (q - i) * 3 ≤ ((kB ys) : List D).length) ∧ (ka6 (i * 3) ((kB ys) : List D) ++ (kb1 (q - i) ([D.lit (.string { data := #[] }), uH, D.lit (.int .u64 0)] : List D)).flatten ++ kb4 ((i * 3) + (q - i) * 3) ((kB ys) : List D) = (pE ys i (q - i)))) [(0, oV 0 0 q 3), (5, uV i)] [(0, some (29, .ds (pE ys i (q - i)))), (1, some (29, .ds [D.lit (.string (strOfNums r)), D.sl (dI .u64 s) n, D.lit (.int .u64 d)]))] 2 ⟨rfl, rfl, zo, zo, zo, zo, u6, (wR ys i (q - i) zo)⟩ ?_
      refine kK [.no, .no, .mk i 0 (kB (ka6 i ys)), .no] ((qA (i : Int)) ∧ (i ≤ q) ∧ (ka6 (i * 3) ((pE ys i (q - i)) : List D) = (kB (ka6 i ys)))) [(4, oV 0 0 i 3)] [(0, some (29, .ds (kB (ka6 i ys)))), (1, some (29, .ds [D.lit (.string (strOfNums r)), D.sl (dI .u64 s) n, D.lit (.int .u64 d)]))] 2 ⟨rfl, zo, (j1 ys i (q - i) zo)⟩ ?_
      have hz1 : q5 xs r s = ka6 i ys := (k40 (p := fun c => uQ c.r c.s r s) hS (by omega)).symm
      have hz2 : ka0 (q5 xs r s) = i := by rw [hz1, kb9]; omega
      refine AW.ret ?_
      exact kA (.inr rfl) [] (P := (kU 0) ∧ (((ka0 (q5 xs r s)) : Nat) = i) ∧ (((kB (q5 xs r s)) : List D) = (kB (ka6 i ys))) ∧ (kS [D.lit (.string (strOfNums r)), D.sl (dI .u64 s) n, D.lit (.int .u64 d)])) zk ⟨rfl, (by first | rfl | exact hz2 | exact hz2.symm | (rw [hz1]; done) | (rw [hz1]; rfl) | omega), (by first | rfl | exact hz2 | exact hz2.symm | (rw [hz1]; done) | (rw [hz1]; rfl) | omega), rfl⟩
theorem k4j (xs : List Ch) (q : Nat) (r s : List Int) (n : Nat) (d : Int) (hq : ka0 xs = q) (h0 : q ≤ 1000000) (hX : CsW xs) (hr : Byt r) (hl : ka0 r ≤ 1000000) (hn : ka0 s = n) (h1 : n ≤ 1000000) : Fun 28 [.agg [.d (D.sl (kB xs) q)], .c (.fn 29 [(0, 0)])] (kC [(0, some (29, .ds [D.lit (.string (strOfNums r)), D.sl (dI .u64 s) n, D.lit (.int .u64 d)]))]) 1 (.e (.agg [.own 1 0 (ka0 (q5 xs r s)) 3 true])) (kC [(0, some (29, .ds [D.lit (.string (strOfNums r)), D.sl (dI .u64 s) n, D.lit (.int .u64 d)])), (1, some (29, .ds (kB (q5 xs r s))))]) 2 := by
  refine Fun.mk (n := 11) Try.func28 rfl rfl (ka3 rfl) ?_
  intro cx hcx
  refine kK [.no, .no] True [(1, .e (.c (.fn 29 [(0, 0)]))), (2, rV 1 0), (4, rV 2 0)] [(0, some (29, .ds [D.lit (.string (strOfNums r)), D.sl (dI .u64 s) n, D.lit (.int .u64 d)])), (1, some (25, .ds [D.sl (kB xs) q])), (2, some (25, .ds [uH]))] 3 trivial ?_
  have hx1 : ((ka0 (q5 xs r s)) ≤ q) := (by have h9 := g7 xs r s; omega)
  refine kK [.no, .call [] (.e (.agg [.own 0 0 q 3 true])) [(0, some (29, .ds (kB xs)))] 1 [] none, .no, .no, .call [3, 0] (oV 0 0 (ka0 (q5 xs r s)) 3) [(0, some (29, .ds (kB (q5 xs r s)))), (1, some (29, .ds [D.lit (.string (strOfNums r)), D.sl (dI .u64 s) n, D.lit (.int .u64 d)]))] 2 [] none, .no, .no] ((_) ∧ (_)) [(4, rV 2 0)] [(0, some (29, .ds [D.lit (.string (strOfNums r)), D.sl (dI .u64 s) n, D.lit (.int .u64 d)])), (2, some (25, .cs [.own 3 0 (ka0 (q5 xs r s)) 3 true])), (3, some (29, .ds (kB (q5 xs r s))))] 4 ⟨(mO xs q zo zo (kR : CsW xs)), (k2o xs q r s n d zo zo (kR : CsW xs) (kR : Byt r) zo zo zo)⟩ ?_
  refine AW.ret ?_
  exact kA (.inr rfl) [(1, 3)] (P := (kU 0) ∧ (kU (ka0 (q5 xs r s))) ∧ (kS [D.lit (.string (strOfNums r)), D.sl (dI .u64 s) n, D.lit (.int .u64 d)]) ∧ (kS (kB (q5 xs r s)))) zk ⟨rfl, rfl, rfl, rfl⟩
theorem k2l (xs : List Ch) (q : Nat) (z : Int) (hq : ka0 xs = q) (h0 : q ≤ 1000000) (hX : CsW xs) : Fun 41 [.c (.own 0 0 q 3 true), .c (.fn 36 [(1, 0)])] (kC [(0, some (29, .ds (kB xs))), (1, some (27, .ds [D.lit (.int .u64 z)]))]) 2 (iV (bI xs z q)) (kC [(0, some (29, .ds (kB xs))), (1, some (27, .ds [D.lit (.int .u64 z)]))]) 2 := by
  refine Fun.mk (n := 19) Try.func41 rfl rfl (ka3 rfl) ?_
  intro cx hcx
  refine kK [.no] True [(0, oV 0 0 q 3), (1, .e (.c (.fn 36 [(1, 0)])))] [(0, some (29, .ds (kB xs))), (1, some (27, .ds [D.lit (.int .u64 z)]))] 2 trivial ?_
  refine AW.seq ?_
  refine yZ [.no, .no, .no] True [(0, oV 0 0 q 3), (1, .e (.c (.fn 36 [(1, 0)]))), (7, uV q), (8, iV 0)] trivial ?_
  refine AW.block ?_
  refine kW 2 hcx (fun (x : {x : Nat // match x with | k => (k ≤ q) ∧ (bI xs z k = -1)}) => match x with | ⟨k, _⟩ => (⟨[(0, oV 0 0 q 3), (1, .e (.c (.fn 36 [(1, 0)]))), (7, uV q), (8, uV k)], [(0, some (29, .ds (kB xs))), (1, some (27, .ds [D.lit (.int .u64 z)]))], 2⟩ : ES)) (fun x => match x with | ⟨k, _⟩ => q - k) ⟨(0 : Nat), ⟨qH, rfl⟩⟩ [] (P := (kU 0) ∧ (kU q) ∧ (qA (q : Int)) ∧ (qA 0) ∧ (kS (kB xs)) ∧ (kS [D.lit (.int .u64 z)])) zk ⟨rfl, rfl, rfl, rfl, rfl, rfl⟩ ?_
  rintro ⟨k, hinv0⟩
  obtain ⟨hk, hi⟩ : (k ≤ q) ∧ (bI xs z k = -1) := hinv0
  refine qX (l := [(0, oV 0 0 q 3), (1, .e (.c (.fn 36 [(1, 0)]))), (7, uV q), (8, uV k)]) (g := [(0, some (29, .ds (kB xs))), (1, some (27, .ds [D.lit (.int .u64 z)]))]) (nx := 2) rfl rfl rfl ?_
  by_cases hx1 : (((k : Nat) : Int) < ((q : Nat) : Int))
  · refine zr [.b true] [0, 1, 7, 8, 9] [0, 1] (((k : Int) < (q : Int))) [(0, oV 0 0 q 3), (1, .e (.c (.fn 36 [(1, 0)]))), (7, uV q), (8, uV k), (9, bV true)] [(0, some (29, .ds (kB xs))), (1, some (27, .ds [D.lit (.int .u64 z)]))] 2 zo ?_
    refine AW.seq ?_
    refine cQ ?_
    refine AW.seq ?_
    refine AW.block ?_
    refine kK [.no, .no] True [(0, oV 0 0 q 3), (1, .e (.c (.fn 36 [(1, 0)]))), (5, uV k), (7, uV q), (8, uV k)] [(0, some (29, .ds (kB xs))), (1, some (27, .ds [D.lit (.int .u64 z)]))] 2 trivial ?_
    rcases ka7 (decide ((kN xs k) = z)) with hx5 | hx5
    · have hx6 : ((kN xs k) = z) := of_decide_eq_true hx5
      obtain ⟨hx7, hx8, hx9⟩ := CsW.at (kR : CsW xs) (k)
      refine kK [.no, .no, .no, .n2 k (k * 3), .ds [D.lit (.string (strOfNums (kH xs k))), D.sl (dI .u64 (kD xs k)) (ka0 (kD xs k)), D.lit (.int .u64 (kN xs k))], .call [1] (bV true) [(0, some (27, .ds [D.lit (.int .u64 z)]))] 1 [] none] ((qA (k : Int)) ∧ (k < q) ∧ ((0 : Nat) + k * 3 = (k * 3)) ∧ (ka6 3 (kb4 (k * 3) (kB xs)) = [D.lit (.string (strOfNums (kH xs k))), D.sl (dI .u64 (kD xs k)) (ka0 (kD xs k)), D.lit (.int .u64 (kN xs k))]) ∧ (([D.lit (.string (strOfNums (kH xs k))), D.sl (dI .u64 (kD xs k)) (ka0 (kD xs k)), D.lit (.int .u64 (kN xs k))] : List D).length = 3) ∧ (Fun 36 [.agg [.d (D.lit (.string (strOfNums (kH xs k)))), .d (D.sl (dI .u64 (kD xs k)) (ka0 (kD xs k))), .d (D.lit (.int .u64 (kN xs k)))], .c (.ptr 0 0)] (kC [(0, some (27, .ds [D.lit (.int .u64 z)]))]) 1 (bV true) (kC [(0, some (27, .ds [D.lit (.int .u64 z)]))]) 1)) [(0, oV 0 0 q 3), (1, .e (.c (.fn 36 [(1, 0)]))), (5, uV k), (7, uV q), (8, uV k), (16, bV true)] [(0, some (29, .ds (kB xs))), (1, some (27, .ds [D.lit (.int .u64 z)]))] 2 ⟨rfl, zo, zo, (q8 (i := k) aL), rfl, (by have h0 := (k05 (kH xs k) (kD xs k) (ka0 (kD xs k)) (kN xs k) z (kR : Byt (kH xs k)) qR rfl qR); rw [hx5] at h0; exact h0)⟩ ?_
      refine zt ?_
      refine yZ [.no, .no] True [(4, uV k)] trivial ?_
      refine AW.ret ?_
      exact kA (.inr rfl) [] (P := (((bI xs z q) : Int) = (k : Int)) ∧ (kS (kB xs)) ∧ (kS [D.lit (.int .u64 z)])) zk ⟨(by first | rfl | exact k0j hi fV zo | (rw [show q = k by omega]; exact hi) | omega), rfl, rfl⟩
    · have hx10 : ¬ ((kN xs k) = z) := of_decide_eq_false hx5
      obtain ⟨hx11, hx12, hx13⟩ := CsW.at (kR : CsW xs) (k)
      refine kK [.no, .no, .no, .n2 k (k * 3), .ds [D.lit (.string (strOfNums (kH xs k))), D.sl (dI .u64 (kD xs k)) (ka0 (kD xs k)), D.lit (.int .u64 (kN xs k))], .call [1] (bV false) [(0, some (27, .ds [D.lit (.int .u64 z)]))] 1 [] none] ((qA (k : Int)) ∧ (k < q) ∧ ((0 : Nat) + k * 3 = (k * 3)) ∧ (ka6 3 (kb4 (k * 3) (kB xs)) = [D.lit (.string (strOfNums (kH xs k))), D.sl (dI .u64 (kD xs k)) (ka0 (kD xs k)), D.lit (.int .u64 (kN xs k))]) ∧ (([D.lit (.string (strOfNums (kH xs k))), D.sl (dI .u64 (kD xs k)) (ka0 (kD xs k)), D.lit (.int .u64 (kN xs k))] : List D).length = 3) ∧ (Fun 36 [.agg [.d (D.lit (.string (strOfNums (kH xs k)))), .d (D.sl (dI .u64 (kD xs k)) (ka0 (kD xs k))), .d (D.lit (.int .u64 (kN xs k)))], .c (.ptr 0 0)] (kC [(0, some (27, .ds [D.lit (.int .u64 z)]))]) 1 (bV false) (kC [(0, some (27, .ds [D.lit (.int .u64 z)]))]) 1)) [(0, oV 0 0 q 3), (1, .e (.c (.fn 36 [(1, 0)]))), (5, uV k), (7, uV q), (8, uV k), (16, bV false)] [(0, some (29, .ds (kB xs))), (1, some (27, .ds [D.lit (.int .u64 z)]))] 2 ⟨rfl, zo, zo, (q8 (i := k) aL), rfl, (by have h0 := (k05 (kH xs k) (kD xs k) (ka0 (kD xs k)) (kN xs k) z (kR : Byt (kH xs k)) qR rfl qR); rw [hx5] at h0; exact h0)⟩ ?_
      refine uI ?_
      refine cW [.w, .no] (uY ((k : Int) + 1)) [(0, oV 0 0 q 3), (1, .e (.c (.fn 36 [(1, 0)]))), (7, uV q), (8, iV (↑k + 1))] ⟨by omega, by omega⟩ ?_
      exact k8 ⟨((k + 1) : Nat), ⟨qH, (k3y hi (by first | assumption | exact decide_eq_false (by assumption)))⟩⟩ [] (P := (kU 0) ∧ (kU q) ∧ (qA (q : Int)) ∧ (vA k) ∧ (kS (kB xs)) ∧ (kS [D.lit (.int .u64 z)])) zk ⟨rfl, rfl, rfl, qU, rfl, rfl⟩ (show q - (k + 1) < q - k from u5)
  · refine zr [.b false] [0, 1, 7, 8, 9] [0, 1] (¬ ((k : Int) < (q : Int))) [(0, oV 0 0 q 3), (1, .e (.c (.fn 36 [(1, 0)]))), (7, uV q), (8, uV k), (9, bV false)] [(0, some (29, .ds (kB xs))), (1, some (27, .ds [D.lit (.int .u64 z)]))] 2 zo ?_
    refine AW.seq ?_
    refine zf ?_
    refine AW.exit ?_
    refine kK [.no] True [(4, iV (-1))] [(0, some (29, .ds (kB xs))), (1, some (27, .ds [D.lit (.int .u64 z)]))] 2 trivial ?_
    refine AW.ret ?_
    exact kA (.inr rfl) [] (P := (((bI xs z q) : Int) = (-1)) ∧ (kS (kB xs)) ∧ (kS [D.lit (.int .u64 z)])) zk ⟨(by first | rfl | exact k0j hi fV zo | (rw [show q = k by omega]; exact hi) | omega), rfl, rfl⟩
theorem k2n (xs : List Ch) (q : Nat) (z : Int) (hq : ka0 xs = q) (h0 : q ≤ 1000000) (hX : CsW xs) : Fun 45 [.c (.own 0 0 q 3 true), .c (.fn 36 [(1, 0)])] (kC [(0, some (29, .ds (kB xs))), (1, some (27, .ds [D.lit (.int .u64 z)]))]) 2 (oV 0 0 (ka0 (vJ xs z)) 3) (kC [(0, some (29, .ds (kB (vJ xs z)))), (1, some (27, .ds [D.lit (.int .u64 z)]))]) 2 := by
  refine Fun.mk (n := 42) Try.func45 rfl rfl (ka3 rfl) ?_
  intro cx hcx
  refine kK [.no] True [(0, oV 0 0 q 3), (1, .e (.c (.fn 36 [(1, 0)])))] [(0, some (29, .ds (kB xs))), (1, some (27, .ds [D.lit (.int .u64 z)]))] 2 trivial ?_
  have hx1 : (((((-1) : Int) ≤ (bI xs z q)) ∧ ((bI xs z q) < ((q : Nat) : Int))) ∨ ((q = 0) ∧ ((bI xs z q) = (-1)))) := hC _ _
  refine yZ [.no, .no, .call [0, 1] (iV (bI xs z q)) [(0, some (29, .ds (kB xs))), (1, some (27, .ds [D.lit (.int .u64 z)]))] 2 [] none, .no] _ [(0, oV 0 0 q 3), (1, .e (.c (.fn 36 [(1, 0)]))), (5, iV (bI xs z q))] (k2l xs q z zo zo (kR : CsW xs)) ?_
  refine AW.seq ?_
  by_cases hx2 : ((bI xs z q) = (-1))
  · refine zr [.no, .b true] [0, 1, 5, 12] [0, 1] (((bI xs z q) = (-1))) [(0, oV 0 0 q 3), (1, .e (.c (.fn 36 [(1, 0)]))), (5, iV (bI xs z q)), (12, bV true)] [(0, some (29, .ds (kB xs))), (1, some (27, .ds [D.lit (.int .u64 z)]))] 2 zo ?_
    refine zt ?_
    refine kK [.no, .no] True [(4, oV 0 0 q 3)] [(0, some (29, .ds (kB xs))), (1, some (27, .ds [D.lit (.int .u64 z)]))] 2 trivial ?_
    have hz1 : vJ xs z = xs := nS (p := fun c => decide (c.d = z)) hq (by assumption)
    have hz2 : ka0 (vJ xs z) = q := by rw [hz1]; assumption
    refine AW.ret ?_
    exact kA (.inr rfl) [] (P := (kU 0) ∧ (((ka0 (vJ xs z)) : Nat) = q) ∧ (((kB (vJ xs z)) : List D) = (kB xs)) ∧ (kS [D.lit (.int .u64 z)])) zk ⟨rfl, (by first | rfl | exact hz2 | exact hz2.symm | (rw [hz1]; done) | (rw [hz1]; rfl) | omega), (by first | rfl | exact hz2 | exact hz2.symm | (rw [hz1]; done) | (rw [hz1]; rfl) | omega), rfl⟩
  · refine zr [.no, .b false] [0, 1, 5, 12] [0, 1] (¬ ((bI xs z q) = (-1))) [(0, oV 0 0 q 3), (1, .e (.c (.fn 36 [(1, 0)]))), (5, iV (bI xs z q)), (12, bV false)] [(0, some (29, .ds (kB xs))), (1, some (27, .ds [D.lit (.int .u64 z)]))] 2 zo ?_
    refine uI ?_
    refine AW.seq ?_
    refine kK [.no, .w, .no] (uY ((bI xs z q) + 1)) [(0, oV 0 0 q 3), (1, .e (.c (.fn 36 [(1, 0)]))), (5, iV (bI xs z q)), (6, iV ((bI xs z q) + 1))] [(0, some (29, .ds (kB xs))), (1, some (27, .ds [D.lit (.int .u64 z)]))] 2 ⟨by omega, by omega⟩ ?_
    refine AW.block ?_
    refine kW 2 hcx (fun (x : {x : Nat × Nat × List Ch // match x with | (i, j, ys) => (i < j ∧ j ≤ q) ∧ (dfD xs ys z i j) ∧ (ka0 ys = q) ∧ (CsW ys)}) => match x with | ⟨(i, j, ys), _⟩ => (⟨[(0, oV 0 0 q 3), (1, .e (.c (.fn 36 [(1, 0)]))), (5, uV i), (6, uV j)], [(0, some (29, .ds (kB ys))), (1, some (27, .ds [D.lit (.int .u64 z)]))], 2⟩ : ES)) (fun x => match x with | ⟨(i, j, ys), _⟩ => q - j) ⟨(((kc9 (bI xs z q)) : Nat), (((kc9 (bI xs z q)) + 1) : Nat), (xs : List Ch)), ⟨qH, (k41 (p := fun c => decide (c.d = z)) hq (by show bI xs z q = _; omega)), (by assumption), hX⟩⟩ [] (P := (kU 0) ∧ (kU q) ∧ (((kc9 (bI xs z q) : Int) : Int) = (bI xs z q)) ∧ ((((((kc9 (bI xs z q)) + 1) : Nat) : Int) : Int) = ((bI xs z q) + 1)) ∧ (kS (kB xs)) ∧ (kS [D.lit (.int .u64 z)])) zk ⟨rfl, rfl, qU, qU, rfl, rfl⟩ ?_
    rintro ⟨⟨i, j, ys⟩, hinv0⟩
    obtain ⟨hj, hS, hY, hW⟩ : (i < j ∧ j ≤ q) ∧ (dfD xs ys z i j) ∧ (ka0 ys = q) ∧ (CsW ys) := hinv0
    refine qX (l := [(0, oV 0 0 q 3), (1, .e (.c (.fn 36 [(1, 0)]))), (5, uV i), (6, uV j)]) (g := [(0, some (29, .ds (kB ys))), (1, some (27, .ds [D.lit (.int .u64 z)]))]) (nx := 2) rfl rfl rfl ?_
    refine AW.seq ?_
    by_cases hx3 : (((j : Nat) : Int) < ((q : Nat) : Int))
    · refine zr [.no, .no, .no, .b true] [0, 1, 5, 6, 19] [0, 1] (((j : Int) < (q : Int))) [(0, oV 0 0 q 3), (1, .e (.c (.fn 36 [(1, 0)]))), (5, uV i), (6, uV j), (19, bV true)] [(0, some (29, .ds (kB ys))), (1, some (27, .ds [D.lit (.int .u64 z)]))] 2 zo ?_
      refine cQ ?_
      refine AW.seq ?_
      refine AW.block ?_
      obtain ⟨hx4, hx5, hx6⟩ := CsW.at (kR : CsW ys) (j)
      refine kK [.no, .no, .n2 j (j * 3), .ds [D.lit (.string (strOfNums (kH ys j))), D.sl (dI .u64 (kD ys j)) (ka0 (kD ys j)), D.lit (.int .u64 (kN ys j))], .no, .no] ((qA (j : Int)) ∧ (j < q) ∧ ((0 : Nat) + j * 3 = (j * 3)) ∧ (ka6 3 (kb4 (j * 3) (kB ys)) = [D.lit (.string (strOfNums (kH ys j))), D.sl (dI .u64 (kD ys j)) (ka0 (kD ys j)), D.lit (.int .u64 (kN ys j))]) ∧ (([D.lit (.string (strOfNums (kH ys j))), D.sl (dI .u64 (kD ys j)) (ka0 (kD ys j)), D.lit (.int .u64 (kN ys j))] : List D).length = 3)) [(0, oV 0 0 q 3), (1, .e (.c (.fn 36 [(1, 0)]))), (5, uV i), (6, uV j), (7, rV 2 0)] [(0, some (29, .ds (kB ys))), (1, some (27, .ds [D.lit (.int .u64 z)])), (2, some (29, .ds [D.lit (.string (strOfNums (kH ys j))), D.sl (dI .u64 (kD ys j)) (ka0 (kD ys j)), D.lit (.int .u64 (kN ys j))]))] 3 ⟨rfl, zo, zo, (q8 (i := j) aL), rfl⟩ ?_
      rcases ka7 (decide ((kN ys j) = z)) with hx7 | hx7
      · have hx8 : ((kN ys j) = z) := of_decide_eq_true hx7
        refine kK [.no, .no, .call [1] (bV true) [(0, some (27, .ds [D.lit (.int .u64 z)]))] 1 [] none, .no] (Fun 36 [.agg [.d (D.lit (.string (strOfNums (kH ys j)))), .d (D.sl (dI .u64 (kD ys j)) (ka0 (kD ys j))), .d (D.lit (.int .u64 (kN ys j)))], .c (.ptr 0 0)] (kC [(0, some (27, .ds [D.lit (.int .u64 z)]))]) 1 (bV true) (kC [(0, some (27, .ds [D.lit (.int .u64 z)]))]) 1) [(0, oV 0 0 q 3), (1, .e (.c (.fn 36 [(1, 0)]))), (5, uV i), (6, uV j), (7, rV 2 0), (29, bV false)] [(0, some (29, .ds (kB ys))), (1, some (27, .ds [D.lit (.int .u64 z)])), (2, some (29, .ds [D.lit (.string (strOfNums (kH ys j))), D.sl (dI .u64 (kD ys j)) (ka0 (kD ys j)), D.lit (.int .u64 (kN ys j))]))] 3 (by have h0 := (k05 (kH ys j) (kD ys j) (ka0 (kD ys j)) (kN ys j) z (kR : Byt (kH ys j)) qR rfl qR); rw [hx7] at h0; exact h0) ?_
        refine uI ?_
        refine b9 [.no, .w, .no] (uY ((j : Int) + 1)) [(0, oV 0 0 q 3), (1, .e (.c (.fn 36 [(1, 0)]))), (5, uV i), (6, iV (↑j + 1))] [(0, some (29, .ds (kB ys))), (1, some (27, .ds [D.lit (.int .u64 z)]))] 3 ⟨by omega, by omega⟩ ?_
        exact k8 ⟨((i : Nat), ((j + 1) : Nat), (ys : List Ch)), ⟨qH, (by first | exact (z8 (p := fun c => decide (c.d = z)) hS zo zo fT) | exact (z9 (p := fun c => decide (c.d = z)) hS zo fS)), fU, (by first | assumption | exact CsW.set hW (hW.get _) _)⟩⟩ [] (P := (kU 0) ∧ (kU q) ∧ (qA (i : Int)) ∧ (vA j) ∧ (kS (kB ys)) ∧ (kS [D.lit (.int .u64 z)])) zk ⟨rfl, rfl, rfl, qU, rfl, rfl⟩ (show q - (j + 1) < q - j from u5)
      · have hx9 : ¬ ((kN ys j) = z) := of_decide_eq_false hx7
        refine kK [.no, .no, .call [1] (bV false) [(0, some (27, .ds [D.lit (.int .u64 z)]))] 1 [] none, .no] (Fun 36 [.agg [.d (D.lit (.string (strOfNums (kH ys j)))), .d (D.sl (dI .u64 (kD ys j)) (ka0 (kD ys j))), .d (D.lit (.int .u64 (kN ys j)))], .c (.ptr 0 0)] (kC [(0, some (27, .ds [D.lit (.int .u64 z)]))]) 1 (bV false) (kC [(0, some (27, .ds [D.lit (.int .u64 z)]))]) 1) [(0, oV 0 0 q 3), (1, .e (.c (.fn 36 [(1, 0)]))), (5, uV i), (6, uV j), (7, rV 2 0), (29, bV true)] [(0, some (29, .ds (kB ys))), (1, some (27, .ds [D.lit (.int .u64 z)])), (2, some (29, .ds [D.lit (.string (strOfNums (kH ys j))), D.sl (dI .u64 (kD ys j)) (ka0 (kD ys j)), D.lit (.int .u64 (kN ys j))]))] 3 (by have h0 := (k05 (kH ys j) (kD ys j) (ka0 (kD ys j)) (kN ys j) z (kR : Byt (kH ys j)) qR rfl qR); rw [hx7] at h0; exact h0) ?_
        refine zt ?_
        refine kK [.no, .no, .no, .n2 i (i * 3), .ds (kB (ke6 ys i (k9 (kH ys j) (kD ys j) (kN ys j))))] ((qA (i : Int)) ∧ (i < q) ∧ ((0 : Nat) + i * 3 = (i * 3)) ∧ ((i * 3) + 3 ≤ (kB ys).length) ∧ (lH (kB ys) (i * 3) [D.lit (.string (strOfNums (kH ys j))), D.sl (dI .u64 (kD ys j)) (ka0 (kD ys j)), D.lit (.int .u64 (kN ys j))] = (kB (ke6 ys i (k9 (kH ys j) (kD ys j) (kN ys j)))))) [(0, oV 0 0 q 3), (1, .e (.c (.fn 36 [(1, 0)]))), (5, uV i), (6, uV j)] [(0, some (29, .ds (kB (ke6 ys i (k9 (kH ys j) (kD ys j) (kN ys j)))))), (1, some (27, .ds [D.lit (.int .u64 z)]))] 3 ⟨rfl, zo, zo, u6, (mM (kH ys j) (kD ys j) (kN ys j) (ka0 (kD ys j)) (by first | rfl | assumption | omega) _ _ (by first | omega | (simp only [ka8]; omega)))⟩ ?_
        refine cW [.no, .w, .no] (uY ((i : Int) + 1)) [(0, oV 0 0 q 3), (1, .e (.c (.fn 36 [(1, 0)]))), (5, iV (↑i + 1)), (6, uV j)] ⟨by omega, by omega⟩ ?_
        refine cW [.no, .w, .no] (uY ((j : Int) + 1)) [(0, oV 0 0 q 3), (1, .e (.c (.fn 36 [(1, 0)]))), (5, iV (↑i + 1)), (6, iV (↑j + 1))] ⟨by omega, by omega⟩ ?_
        exact k8 ⟨(((i + 1) : Nat), ((j + 1) : Nat), ((ke6 ys i (k9 (kH ys j) (kD ys j) (kN ys j))) : List Ch)), ⟨qH, (by first | exact (z8 (p := fun c => decide (c.d = z)) hS zo zo fT) | exact (z9 (p := fun c => decide (c.d = z)) hS zo fS)), fU, (by first | assumption | exact CsW.set hW (hW.get _) _)⟩⟩ [] (P := (kU 0) ∧ (kU q) ∧ (vA i) ∧ (vA j) ∧ (kS (kB (ke6 ys i (k9 (kH ys j) (kD ys j) (kN ys j))))) ∧ (kS [D.lit (.int .u64 z)])) zk ⟨rfl, rfl, qU, qU, rfl, rfl⟩ (show q - (j + 1) < q - j from u5)
    · refine zr [.no, .no, .no, .b false] [0, 1, 5, 6, 19] [0, 1] (¬ ((j : Int) < (q : Int))) [(0, oV 0 0 q 3), (1, .e (.c (.fn 36 [(1, 0)]))), (5, uV i), (6, uV j), (19, bV false)] [(0, some (29, .ds (kB ys))), (1, some (27, .ds [D.lit (.int .u64 z)]))] 2 zo ?_
      refine zf ?_
      refine AW.exit ?_
      refine kK [.no, .no, .sl i q (i * 3) (q - i), .mk 0 0 (pE ys i (q - i))] ((qA (i : Int)) ∧ (q = q) ∧ (i ≤ q) ∧ (q ≤ q) ∧ ((0 : Nat) + i * 3 = (i * 3)) ∧ (q - i = (q - i)) ∧ ((i * 3) + (q - i) * 3 ≤ ((kB ys) : List D).length) ∧ (ka6 (i * 3) ((kB ys) : List D) ++ (kb1 (q - i) ([D.lit (.string { data := #[] }), uH, D.lit (.int .u64 0)] : List D)).flatten ++ kb4 ((i * 3) + (q - i) * 3) ((kB ys) : List D) = (pE ys i (q - i)))) [(0, oV 0 0 q 3), (5, uV i)] [(0, some (29, .ds (pE ys i (q - i)))), (1, some (27, .ds [D.lit (.int .u64 z)]))] 2 ⟨rfl, rfl, zo, zo, zo, zo, u6, (wR ys i (q - i) zo)⟩ ?_
      refine kK [.no, .no, .mk i 0 (kB (ka6 i ys)), .no] ((qA (i : Int)) ∧ (i ≤ q) ∧ (ka6 (i * 3) ((pE ys i (q - i)) : List D) = (kB (ka6 i ys)))) [(4, oV 0 0 i 3)] [(0, some (29, .ds (kB (ka6 i ys)))), (1, some (27, .ds [D.lit (.int .u64 z)]))] 2 ⟨rfl, zo, (j1 ys i (q - i) zo)⟩ ?_
      have hz1 : vJ xs z = ka6 i ys := (k40 (p := fun c => decide (c.d = z)) hS (by omega)).symm
      have hz2 : ka0 (vJ xs z) = i := by rw [hz1, kb9]; omega
      refine AW.ret ?_
      exact kA (.inr rfl) [] (P := (kU 0) ∧ (((ka0 (vJ xs z)) : Nat) = i) ∧ (((kB (vJ xs z)) : List D) = (kB (ka6 i ys))) ∧ (kS [D.lit (.int .u64 z)])) zk ⟨rfl, (by first | rfl | exact hz2 | exact hz2.symm | (rw [hz1]; done) | (rw [hz1]; rfl) | omega), (by first | rfl | exact hz2 | exact hz2.symm | (rw [hz1]; done) | (rw [hz1]; rfl) | omega), rfl⟩
theorem k4i (xs : List Ch) (q : Nat) (z : Int) (hq : ka0 xs = q) (h0 : q ≤ 1000000) (hX : CsW xs) : Fun 28 [.agg [.d (D.sl (kB xs) q)], .c (.fn 36 [(0, 0)])] (kC [(0, some (27, .ds [D.lit (.int .u64 z)]))]) 1 (.e (.agg [.own 1 0 (ka0 (vJ xs z)) 3 true])) (kC [(0, some (27, .ds [D.lit (.int .u64 z)])), (1, some (29, .ds (kB (vJ xs z))))]) 2 := by
  refine Fun.mk (n := 11) Try.func28 rfl rfl (ka3 rfl) ?_
  intro cx hcx
  refine kK [.no, .no] True [(1, .e (.c (.fn 36 [(0, 0)]))), (2, rV 1 0), (4, rV 2 0)] [(0, some (27, .ds [D.lit (.int .u64 z)])), (1, some (25, .ds [D.sl (kB xs) q])), (2, some (25, .ds [uH]))] 3 trivial ?_
  have hx1 : ((ka0 (vJ xs z)) ≤ q) := (by have h9 := l5 xs z; omega)
  refine kK [.no, .call [] (.e (.agg [.own 0 0 q 3 true])) [(0, some (29, .ds (kB xs)))] 1 [] none, .no, .no, .call [3, 0] (oV 0 0 (ka0 (vJ xs z)) 3) [(0, some (29, .ds (kB (vJ xs z)))), (1, some (27, .ds [D.lit (.int .u64 z)]))] 2 [] none, .no, .no] ((_) ∧ (_)) [(4, rV 2 0)] [(0, some (27, .ds [D.lit (.int .u64 z)])), (2, some (25, .cs [.own 3 0 (ka0 (vJ xs z)) 3 true])), (3, some (29, .ds (kB (vJ xs z))))] 4 ⟨(mO xs q zo zo (kR : CsW xs)), (k2n xs q z zo zo (kR : CsW xs))⟩ ?_
  refine AW.ret ?_
  exact kA (.inr rfl) [(1, 3)] (P := (kU 0) ∧ (kU (ka0 (vJ xs z))) ∧ (kS [D.lit (.int .u64 z)]) ∧ (kS (kB (vJ xs z)))) zk ⟨rfl, rfl, rfl, rfl⟩
theorem k0m (b : List Int) (m : Nat) (x : Int) (hm : ka0 b = m) (h2 : m ≤ 1000000) : Fun 48 [.c (.d (D.lit (.int .u64 x))), .c (.ptr 0 0)] (kC [(0, some (26, .ds [D.sl (dI .u64 b) m]))]) 1 (kM (D.lit (.bool (pH b x)))) (kC [(0, some (26, .ds [D.sl (dI .u64 b) m]))]) 1 := by
  refine Fun.mk (n := 8) Try.func48 rfl rfl (ka3 rfl) ?_
  intro cx hcx
  refine kK [.no] True [(0, kM (D.lit (.int .u64 x))), (1, rV 0 0)] [(0, some (26, .ds [D.sl (dI .u64 b) m]))] 1 trivial ?_
  rcases ka7 (y6 b x) with hx1 | hx1
  · refine zr [.no, .no, .call [] (bV true) [] 0 [] none, .no, .no] [3] [0] (Fun 40 [.c (.d (D.sl (dI .u64 b) m)), .c (.d (D.lit (.int .u64 x)))] (kC []) 0 (bV true) (kC []) 0) [(3, bV false)] [(0, some (26, .ds [D.sl (dI .u64 b) m]))] 1 (by have h0 := (n4 b m x zo zo); rw [hx1] at h0; exact h0) ?_
    refine AW.ret ?_
    exact kA (.inr rfl) [] (P := ((pH b x) = false) ∧ (kS [D.sl (dI .u64 b) m])) zk ⟨(by first | exact k3p (by assumption) | exact k3r (by assumption)), rfl⟩
  · refine zr [.no, .no, .call [] (bV false) [] 0 [] none, .no, .no] [3] [0] (Fun 40 [.c (.d (D.sl (dI .u64 b) m)), .c (.d (D.lit (.int .u64 x)))] (kC []) 0 (bV false) (kC []) 0) [(3, bV true)] [(0, some (26, .ds [D.sl (dI .u64 b) m]))] 1 (by have h0 := (n4 b m x zo zo); rw [hx1] at h0; exact h0) ?_
    refine AW.ret ?_
    exact kA (.inr rfl) [] (P := ((pH b x) = true) ∧ (kS [D.sl (dI .u64 b) m])) zk ⟨(by first | exact k3p (by assumption) | exact k3r (by assumption)), rfl⟩
theorem k0o (a b : List Int) (n m : Nat) (hn : ka0 a = n) (hm : ka0 b = m) (h1 : n ≤ 1000000) (h2 : m ≤ 1000000) : Fun 54 [.c (.d (D.sl (dI .u64 a) n)), .c (.fn 48 [(0, 0)])] (kC [(0, some (26, .ds [D.sl (dI .u64 b) m]))]) 1 (iV (iL a b n)) (kC [(0, some (26, .ds [D.sl (dI .u64 b) m]))]) 1 := by
  refine Fun.mk (n := 19) Try.func54 rfl rfl (ka3 rfl) ?_
  intro cx hcx
  refine kK [.no] True [(0, sV .u64 a n), (1, .e (.c (.fn 48 [(0, 0)])))] [(0, some (26, .ds [D.sl (dI .u64 b) m]))] 1 trivial ?_
  refine AW.seq ?_
  refine yZ [.no, .no, .no] True [(0, sV .u64 a n), (1, .e (.c (.fn 48 [(0, 0)]))), (7, uV n), (8, iV 0)] trivial ?_
  refine AW.block ?_
  refine kW 1 hcx (fun (x : {x : Nat // match x with | k => (k ≤ n) ∧ (iL a b k = -1)}) => match x with | ⟨k, _⟩ => (⟨[(0, sV .u64 a n), (1, .e (.c (.fn 48 [(0, 0)]))), (7, uV n), (8, uV k)], [(0, some (26, .ds [D.sl (dI .u64 b) m]))], 1⟩ : ES)) (fun x => match x with | ⟨k, _⟩ => n - k) ⟨(0 : Nat), ⟨qH, rfl⟩⟩ [] (P := (kS (dI .u64 a)) ∧ (kU n) ∧ (qA (n : Int)) ∧ (qA 0) ∧ (kS [D.sl (dI .u64 b) m])) zk ⟨rfl, rfl, rfl, rfl, rfl⟩ ?_
  rintro ⟨k, hinv0⟩
  obtain ⟨hk, hi⟩ : (k ≤ n) ∧ (iL a b k = -1) := hinv0
  refine qX (l := [(0, sV .u64 a n), (1, .e (.c (.fn 48 [(0, 0)]))), (7, uV n), (8, uV k)]) (g := [(0, some (26, .ds [D.sl (dI .u64 b) m]))]) (nx := 1) rfl rfl rfl ?_
  by_cases hx1 : (((k : Nat) : Int) < ((n : Nat) : Int))
  · refine zr [.b true] [0, 1, 7, 8, 9] [0] (((k : Int) < (n : Int))) [(0, sV .u64 a n), (1, .e (.c (.fn 48 [(0, 0)]))), (7, uV n), (8, uV k), (9, bV true)] [(0, some (26, .ds [D.sl (dI .u64 b) m]))] 1 zo ?_
    refine AW.seq ?_
    refine cQ ?_
    refine AW.seq ?_
    refine AW.block ?_
    refine kK [.no, .no] True [(0, sV .u64 a n), (1, .e (.c (.fn 48 [(0, 0)]))), (5, uV k), (7, uV n), (8, uV k)] [(0, some (26, .ds [D.sl (dI .u64 b) m]))] 1 trivial ?_
    rcases ka7 (pH b (ka2 a k 0)) with hx2 | hx2
    · refine zr [.no, .no, .no, .n k, .d (D.lit (.int .u64 (ka2 a k 0))), .call [0] (bV true) [(0, some (26, .ds [D.sl (dI .u64 b) m]))] 1 [] none] [0, 1, 5, 7, 8, 16] [0] ((qA (k : Int)) ∧ (k < n) ∧ ((kb4 k (dI .u64 a))[0]? = some (D.lit (.int .u64 (ka2 a k 0)))) ∧ (Fun 48 [.c (.d (D.lit (.int .u64 (ka2 a k 0)))), .c (.ptr 0 0)] (kC [(0, some (26, .ds [D.sl (dI .u64 b) m]))]) 1 (bV true) (kC [(0, some (26, .ds [D.sl (dI .u64 b) m]))]) 1)) [(0, sV .u64 a n), (1, .e (.c (.fn 48 [(0, 0)]))), (5, uV k), (7, uV n), (8, uV k), (16, bV true)] [(0, some (26, .ds [D.sl (dI .u64 b) m]))] 1 ⟨rfl, zo, (qW _ _ _ u6), (by have h0 := (k0m b m (ka2 a k 0) zo zo); rw [hx2] at h0; exact h0)⟩ ?_
      refine zt ?_
      refine kK [.no, .no] True [(4, uV k)] [(0, some (26, .ds [D.sl (dI .u64 b) m]))] 1 trivial ?_
      refine AW.ret ?_
      exact kA (.inr rfl) [] (P := (((iL a b n) : Int) = (k : Int)) ∧ (kS [D.sl (dI .u64 b) m])) zk ⟨(by first | rfl | exact k3n hi (k0e (by assumption)) zo | (rw [show n = k by omega]; exact hi) | omega), rfl⟩
    · refine zr [.no, .no, .no, .n k, .d (D.lit (.int .u64 (ka2 a k 0))), .call [0] (bV false) [(0, some (26, .ds [D.sl (dI .u64 b) m]))] 1 [] none] [0, 1, 5, 7, 8, 16] [0] ((qA (k : Int)) ∧ (k < n) ∧ ((kb4 k (dI .u64 a))[0]? = some (D.lit (.int .u64 (ka2 a k 0)))) ∧ (Fun 48 [.c (.d (D.lit (.int .u64 (ka2 a k 0)))), .c (.ptr 0 0)] (kC [(0, some (26, .ds [D.sl (dI .u64 b) m]))]) 1 (bV false) (kC [(0, some (26, .ds [D.sl (dI .u64 b) m]))]) 1)) [(0, sV .u64 a n), (1, .e (.c (.fn 48 [(0, 0)]))), (5, uV k), (7, uV n), (8, uV k), (16, bV false)] [(0, some (26, .ds [D.sl (dI .u64 b) m]))] 1 ⟨rfl, zo, (qW _ _ _ u6), (by have h0 := (k0m b m (ka2 a k 0) zo zo); rw [hx2] at h0; exact h0)⟩ ?_
      refine uI ?_
      refine b9 [.w, .no] (uY ((k : Int) + 1)) [(0, sV .u64 a n), (1, .e (.c (.fn 48 [(0, 0)]))), (7, uV n), (8, iV (↑k + 1))] [(0, some (26, .ds [D.sl (dI .u64 b) m]))] 1 ⟨by omega, by omega⟩ ?_
      exact k8 ⟨((k + 1) : Nat), ⟨qH, (k4y hi (k3q (by assumption)))⟩⟩ [] (P := (kS (dI .u64 a)) ∧ (kU n) ∧ (qA (n : Int)) ∧ (vA k) ∧ (kS [D.sl (dI .u64 b) m])) zk ⟨rfl, rfl, rfl, qU, rfl⟩ (show n - (k + 1) < n - k from u5)
  · refine zr [.b false] [0, 1, 7, 8, 9] [0] (¬ ((k : Int) < (n : Int))) [(0, sV .u64 a n), (1, .e (.c (.fn 48 [(0, 0)]))), (7, uV n), (8, uV k), (9, bV false)] [(0, some (26, .ds [D.sl (dI .u64 b) m]))] 1 zo ?_
    refine AW.seq ?_
    refine zf ?_
    refine AW.exit ?_
    refine kK [.no] True [(4, iV (-1))] [(0, some (26, .ds [D.sl (dI .u64 b) m]))] 1 trivial ?_
    refine AW.ret ?_
    exact kA (.inr rfl) [] (P := (((iL a b n) : Int) = (-1)) ∧ (kS [D.sl (dI .u64 b) m])) zk ⟨(by first | rfl | exact k3n hi (k0e (by assumption)) zo | (rw [show n = k by omega]; exact hi) | omega), rfl⟩
theorem k0u (a b : List Int) (n m : Nat) (hn : ka0 a = n) (hm : ka0 b = m) (h1 : n ≤ 1000000) (h2 : m ≤ 1000000) : Fun 47 [.c (.d (D.sl (dI .u64 a) n)), .c (.fn 48 [(0, 0)])] (kC [(0, some (26, .ds [D.sl (dI .u64 b) m]))]) 1 (kM (D.lit (.bool (pG a b)))) (kC [(0, some (26, .ds [D.sl (dI .u64 b) m]))]) 1 := by
  refine Fun.mk (n := 9) Try.func47 rfl rfl (ka3 rfl) ?_
  intro cx hcx
  refine kK [.no] True [(0, sV .u64 a n), (1, .e (.c (.fn 48 [(0, 0)])))] [(0, some (26, .ds [D.sl (dI .u64 b) m]))] 1 trivial ?_
  by_cases hx1 : ((0 : Int) ≤ (iL a b n))
  · refine zr [.no, .no, .call [0] (iV (iL a b n)) [(0, some (26, .ds [D.sl (dI .u64 b) m]))] 1 [] none, .b true, .no] [4] [0] ((_) ∧ (((0 : Int) ≤ (iL a b n)))) [(4, bV true)] [(0, some (26, .ds [D.sl (dI .u64 b) m]))] 1 ⟨(k0o a b n m zo zo zo zo), zo⟩ ?_
    refine AW.ret ?_
    exact kA (.inr rfl) [] (P := ((pG a b) = true) ∧ (kS [D.sl (dI .u64 b) m])) zk ⟨(by first | exact k0c hn zo | exact k0d hn zo), rfl⟩
  · refine zr [.no, .no, .call [0] (iV (iL a b n)) [(0, some (26, .ds [D.sl (dI .u64 b) m]))] 1 [] none, .b false, .no] [4] [0] ((_) ∧ (¬ ((0 : Int) ≤ (iL a b n)))) [(4, bV false)] [(0, some (26, .ds [D.sl (dI .u64 b) m]))] 1 ⟨(k0o a b n m zo zo zo zo), zo⟩ ?_
    refine AW.ret ?_
    exact kA (.inr rfl) [] (P := ((pG a b) = false) ∧ (kS [D.sl (dI .u64 b) m])) zk ⟨(by first | exact k0c hn zo | exact k0d hn zo), rfl⟩
theorem j8 (a b : List Int) (n m : Nat) (hn : ka0 a = n) (hm : ka0 b = m) (h1 : n ≤ 1000000) (h2 : m ≤ 1000000) : Fun 34 [.c (.d (D.sl (dI .u64 a) n)), .c (.d (D.sl (dI .u64 b) m))] (kC []) 0 (kM (D.lit (.bool (vZ a b)))) (kC []) 0 := by
  refine Fun.mk (n := 9) Try.func34 rfl rfl (ka3 rfl) ?_
  intro cx hcx
  refine kK [.no, .no] True [(0, sV .u64 a n), (3, rV 0 0)] [(0, some (26, .ds [D.sl (dI .u64 b) m]))] 1 trivial ?_
  rcases ka7 (pG a b) with hx1 | hx1
  · refine zr [.no, .no, .call [0] (bV true) [(0, some (26, .ds [D.sl (dI .u64 b) m]))] 1 [] none, .no, .no] [4] [] (Fun 47 [.c (.d (D.sl (dI .u64 a) n)), .c (.fn 48 [(0, 0)])] (kC [(0, some (26, .ds [D.sl (dI .u64 b) m]))]) 1 (bV true) (kC [(0, some (26, .ds [D.sl (dI .u64 b) m]))]) 1) [(4, bV false)] [] 1 (by have h0 := (k0u a b n m zo zo zo zo); rw [hx1] at h0; exact h0) ?_
    refine AW.ret ?_
    exact kA (.inr rfl) [] (P := ((vZ a b) = false)) zk (by first | exact rU (by assumption) | exact rW (by assumption))
  · refine zr [.no, .no, .call [0] (bV false) [(0, some (26, .ds [D.sl (dI .u64 b) m]))] 1 [] none, .no, .no] [4] [] (Fun 47 [.c (.d (D.sl (dI .u64 a) n)), .c (.fn 48 [(0, 0)])] (kC [(0, some (26, .ds [D.sl (dI .u64 b) m]))]) 1 (bV false) (kC [(0, some (26, .ds [D.sl (dI .u64 b) m]))]) 1) [(4, bV true)] [] 1 (by have h0 := (k0u a b n m zo zo zo zo); rw [hx1] at h0; exact h0) ?_
    refine AW.ret ?_
    exact kA (.inr rfl) [] (P := ((vZ a b) = true)) zk (by first | exact rU (by assumption) | exact rW (by assumption))
theorem qQ (xs : List Ch) (q : Nat) (r s : List Int) (n : Nat) (hq : ka0 xs = q) (h0 : q ≤ 1000000) (hX : CsW xs) (hr : Byt r) (hl : ka0 r ≤ 1000000) (hn : ka0 s = n) (h1 : n ≤ 1000000) : Fun 16 [.agg [.d (D.sl (kB xs) q)], .c (.d (D.lit (.string (strOfNums r)))), .c (.d (D.sl (dI .u64 s) n))] (kC []) 0 (kM (D.lit (.int .u64 (kT xs r s)))) (kC []) 0 := by
  refine Fun.mk (n := 50) Try.func16 rfl rfl (ka3 rfl) ?_
  intro cx hcx
  refine kK [.no, .no] True [(1, kM (D.lit (.string (strOfNums r)))), (2, sV .u64 s n), (3, rV 0 0)] [(0, some (25, .ds [D.sl (kB xs) q]))] 1 trivial ?_
  refine AW.seq ?_
  rcases ka7 (yM xs) with hx1 | hx1
  · rcases ka7 (v8 s) with hx2 | hx2
    · refine zr [.no, .call [] (bV true) [] 0 [] none, .no, .no, .no, .call [] (bV true) [] 0 [] none, .no, .no] [1, 2, 3, 18] [0] ((Fun 10 [.agg [.d (D.sl (kB xs) q)]] (kC []) 0 (bV true) (kC []) 0) ∧ (Fun 33 [.c (.d (D.sl (dI .u64 s) n))] (kC []) 0 (bV true) (kC []) 0)) [(1, kM (D.lit (.string (strOfNums r)))), (2, sV .u64 s n), (3, rV 0 0), (18, bV false)] [(0, some (25, .ds [D.sl (kB xs) q]))] 1 ⟨(by have h0 := (yQ xs q zo zo (kR : CsW xs)); rw [hx1] at h0; exact h0), (by have h0 := (lA s n zo zo); rw [hx2] at h0; exact h0)⟩ ?_
      refine uI ?_
      refine kK [.no, .no] True [(1, kM (D.lit (.string (strOfNums r)))), (2, sV .u64 s n), (3, rV 0 0), (7, kM (D.lit (.int .u64 0))), (8, iV 0)] [(0, some (25, .ds [D.sl (kB xs) q]))] 1 trivial ?_
      refine AW.seq ?_
      refine kK (qC 4 []) True [(1, kM (D.lit (.string (strOfNums r)))), (2, sV .u64 s n), (7, kM (D.lit (.int .u64 0))), (8, iV 0), (20, uX (kB xs) q), (21, uV q), (22, iV 0)] [] 1 trivial ?_
      refine AW.block ?_
      refine kW 0 hcx (fun (x : {x : Nat × Nat × Int // match x with | (k, m, y) => (k ≤ q ∧ m ≤ 1000000) ∧ (pJ xs r s k = y) ∧ (nJ xs r s k = m)}) => match x with | ⟨(k, m, y), _⟩ => (⟨[(1, kM (D.lit (.string (strOfNums r)))), (2, sV .u64 s n), (7, kM (D.lit (.int .u64 y))), (8, uV m), (20, uX (kB xs) q), (21, uV q), (22, uV k)], [], 1⟩ : ES)) (fun x => match x with | ⟨(k, m, y), _⟩ => q - k) ⟨((0 : Nat), (0 : Nat), (0 : Int)), ⟨qH, rfl, rfl⟩⟩ [] (P := ((.string (strOfNums r) : Value) = .string (strOfNums r)) ∧ (kS (dI .u64 s)) ∧ (kU n) ∧ (qA 0) ∧ (qA 0) ∧ (kS (kB xs)) ∧ (kU q) ∧ (qA (q : Int)) ∧ (qA 0)) zk ⟨rfl, rfl, rfl, rfl, rfl, rfl, rfl, rfl, rfl⟩ ?_
      rintro ⟨⟨k, m, y⟩, hinv0⟩
      obtain ⟨hk, hD, hM⟩ : (k ≤ q ∧ m ≤ 1000000) ∧ (pJ xs r s k = y) ∧ (nJ xs r s k = m) := hinv0
      refine qX (l := [(1, kM (D.lit (.string (strOfNums r)))), (2, sV .u64 s n), (7, kM (D.lit (.int .u64 y))), (8, uV m), (20, uX (kB xs) q), (21, uV q), (22, uV k)]) (g := []) (nx := 1) rfl rfl rfl ?_
      by_cases hx3 : (((k : Nat) : Int) < ((q : Nat) : Int))
      · refine zr [.b true] [1, 2, 7, 8, 20, 21, 22, 23] [] (((k : Int) < (q : Int))) [(1, kM (D.lit (.string (strOfNums r)))), (2, sV .u64 s n), (7, kM (D.lit (.int .u64 y))), (8, uV m), (20, uX (kB xs) q), (21, uV q), (22, uV k), (23, bV true)] [] 1 zo ?_
        refine AW.seq ?_
        refine cQ ?_
        refine AW.seq ?_
        refine AW.block ?_
        obtain ⟨hx4, hx5, hx6⟩ := CsW.at (kR : CsW xs) (k)
        refine kK [.n k, .ds [D.lit (.string (strOfNums (kH xs k))), D.sl (dI .u64 (kD xs k)) (ka0 (kD xs k)), D.lit (.int .u64 (kN xs k))], .no, .no] ((qA (k : Int)) ∧ (k < q) ∧ (ka6 3 (kb4 (k * 3) (kB xs)) = [D.lit (.string (strOfNums (kH xs k))), D.sl (dI .u64 (kD xs k)) (ka0 (kD xs k)), D.lit (.int .u64 (kN xs k))]) ∧ (([D.lit (.string (strOfNums (kH xs k))), D.sl (dI .u64 (kD xs k)) (ka0 (kD xs k)), D.lit (.int .u64 (kN xs k))] : List D).length = 3)) [(1, kM (D.lit (.string (strOfNums r)))), (2, sV .u64 s n), (7, kM (D.lit (.int .u64 y))), (8, uV m), (10, rV 1 0), (20, uX (kB xs) q), (21, uV q), (22, uV k)] [(1, some (29, .ds [D.lit (.string (strOfNums (kH xs k))), D.sl (dI .u64 (kD xs k)) (ka0 (kD xs k)), D.lit (.int .u64 (kN xs k))]))] 2 ⟨rfl, zo, (q8 (i := k) aL), rfl⟩ ?_
        by_cases hx7 : ((kH xs k) = r)
        · by_cases hx8 : (((m : Nat) : Int) ≤ (((ka0 (kD xs k)) : Nat) : Int))
          · rcases ka7 (vZ (kD xs k) s) with hx9 | hx9
            · refine zr (.no :: .no :: .no :: .b true :: qC 5 (.b true :: qC 5 [.call [] (bV true) [] 0 [] none, .no])) [1, 2, 7, 8, 10, 20, 21, 22, 42] [1] (((ByteArray.toList (strOfNums (kH xs k)) == ByteArray.toList (strOfNums r)) = true) ∧ (((m : Int) ≤ (ka0 (kD xs k) : Int))) ∧ (Fun 34 [.c (.d (D.sl (dI .u64 (kD xs k)) (ka0 (kD xs k)))), .c (.d (D.sl (dI .u64 s) n))] (kC []) 0 (bV true) (kC []) 0)) [(1, kM (D.lit (.string (strOfNums r)))), (2, sV .u64 s n), (7, kM (D.lit (.int .u64 y))), (8, uV m), (10, rV 1 0), (20, uX (kB xs) q), (21, uV q), (22, uV k), (42, bV true)] [(1, some (29, .ds [D.lit (.string (strOfNums (kH xs k))), D.sl (dI .u64 (kD xs k)) (ka0 (kD xs k)), D.lit (.int .u64 (kN xs k))]))] 2 ⟨(aC (by first | assumption | rfl)), zo, (by have h0 := (j8 (kD xs k) s (ka0 (kD xs k)) n rfl zo qR zo); rw [hx9] at h0; exact h0)⟩ ?_
              refine zt ?_
              refine b9 (qC 7 []) True [(1, kM (D.lit (.string (strOfNums r)))), (2, sV .u64 s n), (7, kM (D.lit (.int .u64 (kN xs k)))), (8, uV (ka0 (kD xs k))), (20, uX (kB xs) q), (21, uV q), (22, uV k)] [] 2 trivial ?_
              refine cW [.w, .no] (uY ((k : Int) + 1)) [(1, kM (D.lit (.string (strOfNums r)))), (2, sV .u64 s n), (7, kM (D.lit (.int .u64 (kN xs k)))), (8, uV (ka0 (kD xs k))), (20, uX (kB xs) q), (21, uV q), (22, iV (↑k + 1))] ⟨by omega, by omega⟩ ?_
              exact k8 ⟨(((k + 1) : Nat), ((ka0 (kD xs k)) : Nat), ((kN xs k) : Int)), ⟨qH, (by first | exact (dP (by assumption) (by rw [hM]; omega) (by assumption)).1 | exact (eK (by first | (intro h9; exact absurd h9.1 (by assumption)) | (rw [hM]; intro h9; omega) | (intro h9; exact aX h9.2.2 (by assumption)))).1.trans hD), (by first | exact (dP (by assumption) (by rw [hM]; omega) (by assumption)).2 | exact (eK (by first | (intro h9; exact absurd h9.1 (by assumption)) | (rw [hM]; intro h9; omega) | (intro h9; exact aX h9.2.2 (by assumption)))).2.trans hM)⟩⟩ [] (P := ((.string (strOfNums r) : Value) = .string (strOfNums r)) ∧ (kS (dI .u64 s)) ∧ (kU n) ∧ (qA (kN xs k)) ∧ (qA (ka0 (kD xs k) : Int)) ∧ (kS (kB xs)) ∧ (kU q) ∧ (qA (q : Int)) ∧ (vA k)) zk ⟨rfl, rfl, rfl, rfl, rfl, rfl, rfl, rfl, qU⟩ (show q - (k + 1) < q - k from u5)
            · refine zr (.no :: .no :: .no :: .b true :: qC 5 (.b true :: qC 5 [.call [] (bV false) [] 0 [] none, .no])) [1, 2, 7, 8, 10, 20, 21, 22, 42] [1] (((ByteArray.toList (strOfNums (kH xs k)) == ByteArray.toList (strOfNums r)) = true) ∧ (((m : Int) ≤ (ka0 (kD xs k) : Int))) ∧ (Fun 34 [.c (.d (D.sl (dI .u64 (kD xs k)) (ka0 (kD xs k)))), .c (.d (D.sl (dI .u64 s) n))] (kC []) 0 (bV false) (kC []) 0)) [(1, kM (D.lit (.string (strOfNums r)))), (2, sV .u64 s n), (7, kM (D.lit (.int .u64 y))), (8, uV m), (10, rV 1 0), (20, uX (kB xs) q), (21, uV q), (22, uV k), (42, bV false)] [(1, some (29, .ds [D.lit (.string (strOfNums (kH xs k))), D.sl (dI .u64 (kD xs k)) (ka0 (kD xs k)), D.lit (.int .u64 (kN xs k))]))] 2 ⟨(aC (by first | assumption | rfl)), zo, (by have h0 := (j8 (kD xs k) s (ka0 (kD xs k)) n rfl zo qR zo); rw [hx9] at h0; exact h0)⟩ ?_
              refine uI ?_
              refine b9 [.w, .no] (uY ((k : Int) + 1)) [(1, kM (D.lit (.string (strOfNums r)))), (2, sV .u64 s n), (7, kM (D.lit (.int .u64 y))), (8, uV m), (20, uX (kB xs) q), (21, uV q), (22, iV (↑k + 1))] [] 2 ⟨by omega, by omega⟩ ?_
              exact k8 ⟨(((k + 1) : Nat), (m : Nat), (y : Int)), ⟨qH, (by first | exact (dP (by assumption) (by rw [hM]; omega) (by assumption)).1 | exact (eK (by first | (intro h9; exact absurd h9.1 (by assumption)) | (rw [hM]; intro h9; omega) | (intro h9; exact aX h9.2.2 (by assumption)))).1.trans hD), (by first | exact (dP (by assumption) (by rw [hM]; omega) (by assumption)).2 | exact (eK (by first | (intro h9; exact absurd h9.1 (by assumption)) | (rw [hM]; intro h9; omega) | (intro h9; exact aX h9.2.2 (by assumption)))).2.trans hM)⟩⟩ [] (P := ((.string (strOfNums r) : Value) = .string (strOfNums r)) ∧ (kS (dI .u64 s)) ∧ (kU n) ∧ (qA y) ∧ (qA (m : Int)) ∧ (kS (kB xs)) ∧ (kU q) ∧ (qA (q : Int)) ∧ (vA k)) zk ⟨rfl, rfl, rfl, rfl, rfl, rfl, rfl, rfl, qU⟩ (show q - (k + 1) < q - k from u5)
          · refine zr (.no :: .no :: .no :: .b true :: qC 5 [.b false, .no, .no, .no]) [1, 2, 7, 8, 10, 20, 21, 22, 42] [1] (((ByteArray.toList (strOfNums (kH xs k)) == ByteArray.toList (strOfNums r)) = true) ∧ (¬ ((m : Int) ≤ (ka0 (kD xs k) : Int)))) [(1, kM (D.lit (.string (strOfNums r)))), (2, sV .u64 s n), (7, kM (D.lit (.int .u64 y))), (8, uV m), (10, rV 1 0), (20, uX (kB xs) q), (21, uV q), (22, uV k), (42, bV false)] [(1, some (29, .ds [D.lit (.string (strOfNums (kH xs k))), D.sl (dI .u64 (kD xs k)) (ka0 (kD xs k)), D.lit (.int .u64 (kN xs k))]))] 2 ⟨(aC (by first | assumption | rfl)), zo⟩ ?_
            refine uI ?_
            refine b9 [.w, .no] (uY ((k : Int) + 1)) [(1, kM (D.lit (.string (strOfNums r)))), (2, sV .u64 s n), (7, kM (D.lit (.int .u64 y))), (8, uV m), (20, uX (kB xs) q), (21, uV q), (22, iV (↑k + 1))] [] 2 ⟨by omega, by omega⟩ ?_
            exact k8 ⟨(((k + 1) : Nat), (m : Nat), (y : Int)), ⟨qH, (by first | exact (dP (by assumption) (by rw [hM]; omega) (by assumption)).1 | exact (eK (by first | (intro h9; exact absurd h9.1 (by assumption)) | (rw [hM]; intro h9; omega) | (intro h9; exact aX h9.2.2 (by assumption)))).1.trans hD), (by first | exact (dP (by assumption) (by rw [hM]; omega) (by assumption)).2 | exact (eK (by first | (intro h9; exact absurd h9.1 (by assumption)) | (rw [hM]; intro h9; omega) | (intro h9; exact aX h9.2.2 (by assumption)))).2.trans hM)⟩⟩ [] (P := ((.string (strOfNums r) : Value) = .string (strOfNums r)) ∧ (kS (dI .u64 s)) ∧ (kU n) ∧ (qA y) ∧ (qA (m : Int)) ∧ (kS (kB xs)) ∧ (kU q) ∧ (qA (q : Int)) ∧ (vA k)) zk ⟨rfl, rfl, rfl, rfl, rfl, rfl, rfl, rfl, qU⟩ (show q - (k + 1) < q - k from u5)
        · refine zr (.no :: .no :: .no :: .b false :: qC 4 []) [1, 2, 7, 8, 10, 20, 21, 22, 42] [1] ((ByteArray.toList (strOfNums (kH xs k)) == ByteArray.toList (strOfNums r)) = false) [(1, kM (D.lit (.string (strOfNums r)))), (2, sV .u64 s n), (7, kM (D.lit (.int .u64 y))), (8, uV m), (10, rV 1 0), (20, uX (kB xs) q), (21, uV q), (22, uV k), (42, bV false)] [(1, some (29, .ds [D.lit (.string (strOfNums (kH xs k))), D.sl (dI .u64 (kD xs k)) (ka0 (kD xs k)), D.lit (.int .u64 (kN xs k))]))] 2 (iW (kR : Byt (kH xs k)) (kR : Byt r) (by assumption)) ?_
          refine uI ?_
          refine b9 [.w, .no] (uY ((k : Int) + 1)) [(1, kM (D.lit (.string (strOfNums r)))), (2, sV .u64 s n), (7, kM (D.lit (.int .u64 y))), (8, uV m), (20, uX (kB xs) q), (21, uV q), (22, iV (↑k + 1))] [] 2 ⟨by omega, by omega⟩ ?_
          exact k8 ⟨(((k + 1) : Nat), (m : Nat), (y : Int)), ⟨qH, (by first | exact (dP (by assumption) (by rw [hM]; omega) (by assumption)).1 | exact (eK (by first | (intro h9; exact absurd h9.1 (by assumption)) | (rw [hM]; intro h9; omega) | (intro h9; exact aX h9.2.2 (by assumption)))).1.trans hD), (by first | exact (dP (by assumption) (by rw [hM]; omega) (by assumption)).2 | exact (eK (by first | (intro h9; exact absurd h9.1 (by assumption)) | (rw [hM]; intro h9; omega) | (intro h9; exact aX h9.2.2 (by assumption)))).2.trans hM)⟩⟩ [] (P := ((.string (strOfNums r) : Value) = .string (strOfNums r)) ∧ (kS (dI .u64 s)) ∧ (kU n) ∧ (qA y) ∧ (qA (m : Int)) ∧ (kS (kB xs)) ∧ (kU q) ∧ (qA (q : Int)) ∧ (vA k)) zk ⟨rfl, rfl, rfl, rfl, rfl, rfl, rfl, rfl, qU⟩ (show q - (k + 1) < q - k from u5)
      · refine zr [.b false] [1, 2, 7, 8, 20, 21, 22, 23] [] (¬ ((k : Int) < (q : Int))) [(1, kM (D.lit (.string (strOfNums r)))), (2, sV .u64 s n), (7, kM (D.lit (.int .u64 y))), (8, uV m), (20, uX (kB xs) q), (21, uV q), (22, uV k), (23, bV false)] [] 1 zo ?_
        refine AW.seq ?_
        refine zf ?_
        refine AW.exit ?_
        refine kK [.no, .no] True [(6, kM (D.lit (.int .u64 y)))] [] 1 trivial ?_
        refine AW.ret ?_
        exact kA (.inr rfl) [] (P := (((kT xs r s) : Int) = y)) zk (by first | rfl | exact (dR (by assumption)).symm | exact dR (by assumption) | exact (a8 (by assumption)).symm | exact a8 (by assumption) | (rw [dQ (by assumption) (by assumption), show ka0 xs = k by omega]; first | exact hD | exact hD.symm) | omega)
    · refine zr [.no, .call [] (bV true) [] 0 [] none, .no, .no, .no, .call [] (bV false) [] 0 [] none, .no, .no] [1, 2, 3, 18] [0] ((Fun 10 [.agg [.d (D.sl (kB xs) q)]] (kC []) 0 (bV true) (kC []) 0) ∧ (Fun 33 [.c (.d (D.sl (dI .u64 s) n))] (kC []) 0 (bV false) (kC []) 0)) [(1, kM (D.lit (.string (strOfNums r)))), (2, sV .u64 s n), (3, rV 0 0), (18, bV true)] [(0, some (25, .ds [D.sl (kB xs) q]))] 1 ⟨(by have h0 := (yQ xs q zo zo (kR : CsW xs)); rw [hx1] at h0; exact h0), (by have h0 := (lA s n zo zo); rw [hx2] at h0; exact h0)⟩ ?_
      refine zt ?_
      refine kK [.no] True [(6, kM (D.lit (.int .u64 0)))] [] 1 trivial ?_
      refine AW.ret ?_
      exact kA (.inr rfl) [] (P := (((kT xs r s) : Int) = 0)) zk (by first | rfl | exact (dR (by assumption)).symm | exact dR (by assumption) | exact (a8 (by assumption)).symm | exact a8 (by assumption) | (rw [dQ (by assumption) (by assumption), show ka0 xs = k by omega]; first | exact hD | exact hD.symm) | omega)
  · refine zr [.no, .call [] (bV false) [] 0 [] none, .no, .no, .no] [1, 2, 3, 18] [0] (Fun 10 [.agg [.d (D.sl (kB xs) q)]] (kC []) 0 (bV false) (kC []) 0) [(1, kM (D.lit (.string (strOfNums r)))), (2, sV .u64 s n), (3, rV 0 0), (18, bV true)] [(0, some (25, .ds [D.sl (kB xs) q]))] 1 (by have h0 := (yQ xs q zo zo (kR : CsW xs)); rw [hx1] at h0; exact h0) ?_
    refine zt ?_
    refine kK [.no] True [(6, kM (D.lit (.int .u64 0)))] [] 1 trivial ?_
    refine AW.ret ?_
    exact kA (.inr rfl) [] (P := (((kT xs r s) : Int) = 0)) zk (by first | rfl | exact (dR (by assumption)).symm | exact dR (by assumption) | exact (a8 (by assumption)).symm | exact a8 (by assumption) | (rw [dQ (by assumption) (by assumption), show ka0 xs = k by omega]; first | exact hD | exact hD.symm) | omega)
theorem lF {p : Prop} (h : p := by rw [List.drop_zero, List.take_of_length_le (by first | omega | (simp only [kL, kJ, kO, ka8, uO, ka5, kb7, kb8, kb9, kc0, kc5, ka8, kd1, kd8, Nat.mul_one] <;> omega))]) : p := h
theorem y5 (xs : List Ch) (q : Nat) (z : Int) (hq : ka0 xs = q) (h0 : q ≤ 1000000) (hX : CsW xs) : Fun 20 [.agg [.d (D.sl (kB xs) q)], .c (.d (D.lit (.int .u64 z)))] (kC []) 0 (.e (.agg [.d (D.sl (kB (q6 xs z)) (ka0 (q6 xs z)))])) (kC []) 0 := by
  refine Fun.mk (n := 13) Try.func20 rfl rfl (ka3 rfl) ?_
  intro cx hcx
  refine kK [.no, .no, .no] True [(2, rV 0 0), (3, rV 1 0), (4, rV 2 0)] [(0, some (25, .ds [D.sl (kB xs) q])), (1, some (27, .ds [D.lit (.int .u64 z)])), (2, some (25, .ds [uH]))] 3 trivial ?_
  refine AW.seq ?_
  rcases ka7 (yM xs) with hx1 | hx1
  · refine zr [.no, .call [] (bV true) [] 0 [] none, .no] [2, 3, 4, 7] [0, 1, 2] (Fun 10 [.agg [.d (D.sl (kB xs) q)]] (kC []) 0 (bV true) (kC []) 0) [(2, rV 0 0), (3, rV 1 0), (4, rV 2 0), (7, bV false)] [(0, some (25, .ds [D.sl (kB xs) q])), (1, some (27, .ds [D.lit (.int .u64 z)])), (2, some (25, .ds [uH]))] 3 (by have h0 := (yQ xs q zo zo (kR : CsW xs)); rw [hx1] at h0; exact h0) ?_
    refine uI ?_
    have hx2 : ((ka0 (vJ xs z)) ≤ q) := (by have h9 := l5 xs z; omega)
    refine kK [.no, .no, .call [1] (.e (.agg [.own 1 0 (ka0 (vJ xs z)) 3 true])) [(0, some (27, .ds [D.lit (.int .u64 z)])), (1, some (29, .ds (kB (vJ xs z))))] 2 [] none, .no] _ [(4, rV 2 0)] [(2, some (25, .cs [.own 3 0 (ka0 (vJ xs z)) 3 true])), (3, some (29, .ds (kB (vJ xs z))))] 4 (k4i xs q z zo zo (kR : CsW xs)) ?_
    refine AW.freeze 3 (l' := [(4, rV 2 0)]) (g' := [(2, some (25, .ds [D.sl (kB (vJ xs z)) (ka0 (vJ xs z))]))]) rfl (FzS.cons rfl (.same _) FzS.nil) (FzG.to (bc := .cs [.own 3 0 (ka0 (vJ xs z)) 3 true]) rfl (by rfl) (FzL.cons (@FzC.own 3 ((kB (vJ xs z)) : List D) 0 (ka0 (vJ xs z)) 3 true ((kB (vJ xs z)) : List D) lF u6) FzL.nil) FzG.nil) ?_
    have hz1 : q6 xs z = vJ xs z := k3x hx1
    refine AW.ret ?_
    exact kA (.inr rfl) [] (P := (((kB (q6 xs z)) : List D) = (kB (vJ xs z))) ∧ (((ka0 (q6 xs z)) : Nat) = (ka0 (vJ xs z)))) zk ⟨(by first | rfl | (rw [hz1]; done) | (rw [hz1]; rfl) | (rw [hz1]; omega) | omega), (by first | rfl | (rw [hz1]; done) | (rw [hz1]; rfl) | (rw [hz1]; omega) | omega)⟩
  · refine zr [.no, .call [] (bV false) [] 0 [] none, .no] [2, 3, 4, 7] [0, 1, 2] (Fun 10 [.agg [.d (D.sl (kB xs) q)]] (kC []) 0 (bV false) (kC []) 0) [(2, rV 0 0), (3, rV 1 0), (4, rV 2 0), (7, bV true)] [(0, some (25, .ds [D.sl (kB xs) q])), (1, some (27, .ds [D.lit (.int .u64 z)])), (2, some (25, .ds [uH]))] 3 (by have h0 := (yQ xs q zo zo (kR : CsW xs)); rw [hx1] at h0; exact h0) ?_
    refine zt ?_
    refine kK [.no, .call [] (.e (.agg [.own 0 0 q 3 true])) [(0, some (29, .ds (kB xs)))] 1 [] none, .no] _ [(4, rV 2 0)] [(2, some (25, .cs [.own 3 0 q 3 true])), (3, some (29, .ds (kB xs)))] 4 (mO xs q zo zo (kR : CsW xs)) ?_
    refine AW.freeze 3 (l' := [(4, rV 2 0)]) (g' := [(2, some (25, .ds [D.sl (kB xs) q]))]) rfl (FzS.cons rfl (.same _) FzS.nil) (FzG.to (bc := .cs [.own 3 0 q 3 true]) rfl (by rfl) (FzL.cons (@FzC.own 3 ((kB xs) : List D) 0 q 3 true ((kB xs) : List D) lF u6) FzL.nil) FzG.nil) ?_
    have hz1 : q6 xs z = xs := k51 hx1
    refine AW.ret ?_
    exact kA (.inr rfl) [] (P := (((kB (q6 xs z)) : List D) = (kB xs)) ∧ (((ka0 (q6 xs z)) : Nat) = q)) zk ⟨(by first | rfl | (rw [hz1]; done) | (rw [hz1]; rfl) | (rw [hz1]; omega) | omega), (by first | rfl | (rw [hz1]; done) | (rw [hz1]; rfl) | (rw [hz1]; omega) | omega)⟩
theorem k0v (xs : List Ch) (q : Nat) (r s : List Int) (n : Nat) (d : Int) (hq : ka0 xs = q) (h0 : q ≤ 1000000) (hX : CsW xs) (hr : Byt r) (hl : ka0 r ≤ 1000000) (hn : ka0 s = n) (h1 : n ≤ 1000000) (h9 : q ≤ 31) : Fun 12 [.agg [.d (D.sl (kB xs) q)], .agg [.d (D.lit (.string (strOfNums r))), .d (D.sl (dI .u64 s) n), .d (D.lit (.int .u64 d))]] (kC []) 0 (.tup [.agg [.d (D.sl (kB (kF xs r s d)) (ka0 (kF xs r s d)))], iE (aF xs r s d)]) (kC []) 0 := by
  refine Fun.mk (n := 34) Try.func12 rfl rfl (ka3 rfl) ?_
  intro cx hcx
  refine kK (qC 4 []) True [(2, rV 0 0), (3, rV 1 0), (4, rV 2 0)] [(0, some (25, .ds [D.sl (kB xs) q])), (1, some (29, .ds [D.lit (.string (strOfNums r)), D.sl (dI .u64 s) n, D.lit (.int .u64 d)])), (2, some (25, .ds [uH]))] 3 trivial ?_
  refine AW.seq ?_
  rcases ka7 (yM xs) with hx1 | hx1
  · refine zr [.no, .call [] (bV true) [] 0 [] none, .no] [2, 3, 4, 9] [0, 1, 2] (Fun 10 [.agg [.d (D.sl (kB xs) q)]] (kC []) 0 (bV true) (kC []) 0) [(2, rV 0 0), (3, rV 1 0), (4, rV 2 0), (9, bV false)] [(0, some (25, .ds [D.sl (kB xs) q])), (1, some (29, .ds [D.lit (.string (strOfNums r)), D.sl (dI .u64 s) n, D.lit (.int .u64 d)])), (2, some (25, .ds [uH]))] 3 (by have h0 := (yQ xs q zo zo (kR : CsW xs)); rw [hx1] at h0; exact h0) ?_
    refine uI ?_
    refine AW.seq ?_
    rcases ka7 (uW r s d) with hx2 | hx2
    · refine zr [.no, .call [] (bV true) [] 0 [] none, .no] [2, 3, 4, 13] [0, 1, 2] (Fun 24 [.agg [.d (D.lit (.string (strOfNums r))), .d (D.sl (dI .u64 s) n), .d (D.lit (.int .u64 d))]] (kC []) 0 (bV true) (kC []) 0) [(2, rV 0 0), (3, rV 1 0), (4, rV 2 0), (13, bV false)] [(0, some (25, .ds [D.sl (kB xs) q])), (1, some (29, .ds [D.lit (.string (strOfNums r)), D.sl (dI .u64 s) n, D.lit (.int .u64 d)])), (2, some (25, .ds [uH]))] 3 (by have h0 := (iI r s n d (kR : Byt r) zo zo zo); rw [hx2] at h0; exact h0) ?_
      refine uI ?_
      have hx3 : ((ka0 (q5 xs r s)) ≤ q) := (by have h9 := g7 xs r s; omega)
      refine kK [.no, .no, .call [1] (.e (.agg [.own 1 0 (ka0 (q5 xs r s)) 3 true])) [(0, some (29, .ds [D.lit (.string (strOfNums r)), D.sl (dI .u64 s) n, D.lit (.int .u64 d)])), (1, some (29, .ds (kB (q5 xs r s))))] 2 [] none, .no, .no] _ [(3, rV 1 0), (4, rV 2 0), (6, rV 4 0)] [(1, some (29, .ds [D.lit (.string (strOfNums r)), D.sl (dI .u64 s) n, D.lit (.int .u64 d)])), (2, some (25, .ds [uH])), (3, some (29, .ds (kB (q5 xs r s)))), (4, some (25, .cs [.own 3 0 (ka0 (q5 xs r s)) 3 true]))] 5 (k4j xs q r s n d zo zo (kR : CsW xs) (kR : Byt r) zo zo zo) ?_
      refine kK [.no, .no, .no, .call [] (.e (.agg [.d (D.lit (.string (strOfNums r))), .d (D.sl (dI .u64 s) n), .d (D.lit (.int .u64 d))])) [] 0 [] none, .no, .ap none ((ka0 (q5 xs r s)) + 1) (kB ((q5 xs r s) ++ ([(k9 r s d)] : List Ch))), .no, .no] ((_) ∧ ([D.lit (.string (strOfNums r)), D.sl (dI .u64 s) n, D.lit (.int .u64 d)].length = 1 * 3) ∧ (((kB (q5 xs r s)) : List D).length = (ka0 (q5 xs r s)) * 3) ∧ (((ka0 (q5 xs r s)) + 1) * 48 ≤ 140737488355328) ∧ ((ka0 (q5 xs r s)) + 1 = ((ka0 (q5 xs r s)) + 1)) ∧ (((kB (q5 xs r s)) : List D) ++ [D.lit (.string (strOfNums r)), D.sl (dI .u64 s) n, D.lit (.int .u64 d)] = (kB ((q5 xs r s) ++ ([(k9 r s d)] : List Ch))))) [(4, rV 2 0), (6, rV 4 0)] [(2, some (25, .ds [uH])), (4, some (25, .cs [.own 6 0 ((ka0 (q5 xs r s)) + 1) 3 true])), (6, some (29, .ds (kB ((q5 xs r s) ++ ([(k9 r s d)] : List Ch)))))] 7 ⟨(k0s r s n d (kR : Byt r) zo zo zo), u6, u6, zo, zo, (iB (q5 xs r s) r s n d (by first | rfl | assumption | omega))⟩ ?_
      refine AW.seq ?_
      refine yZ [.no, .no, .no, .b false] (¬ ((32 : Int) < ((((ka0 (q5 xs r s)) + 1) : Nat) : Int))) [(4, rV 2 0), (6, rV 4 0), (28, bV false)] zo ?_
      refine uI ?_
      refine kK [.no, .no, .no] True [(4, rV 2 0), (5, iV 0)] [(2, some (25, .cs [.own 6 0 ((ka0 (q5 xs r s)) + 1) 3 true])), (6, some (29, .ds (kB ((q5 xs r s) ++ ([(k9 r s d)] : List Ch)))))] 7 trivial ?_
      refine AW.freeze 6 (l' := [(4, rV 2 0), (5, iV 0)]) (g' := [(2, some (25, .ds [D.sl (kB ((q5 xs r s) ++ ([(k9 r s d)] : List Ch))) ((ka0 (q5 xs r s)) + 1)]))]) rfl (FzS.cons rfl (.same _) (FzS.cons rfl (.same _) FzS.nil)) (FzG.to (bc := .cs [.own 6 0 ((ka0 (q5 xs r s)) + 1) 3 true]) rfl (by rfl) (FzL.cons (@FzC.own 6 ((kB ((q5 xs r s) ++ ([(k9 r s d)] : List Ch))) : List D) 0 ((ka0 (q5 xs r s)) + 1) 3 true ((kB ((q5 xs r s) ++ ([(k9 r s d)] : List Ch))) : List D) lF u6) FzL.nil) FzG.nil) ?_
      obtain ⟨hz1, hz2⟩ := lN hx1 hx2
      rw [pX (by omega)] at hz1
      refine AW.ret ?_
      exact kA (.inr rfl) [] (P := (((kB (kF xs r s d)) : List D) = (kB ((q5 xs r s) ++ ([(k9 r s d)] : List Ch)))) ∧ (((ka0 (kF xs r s d)) : Nat) = ((ka0 (q5 xs r s)) + 1)) ∧ (((aF xs r s d) : Int) = 0)) zk ⟨(by first | rfl | exact hz2 | exact hz2.symm | (rw [hz1]; done) | (rw [hz1]; rfl) | (rw [hz1, ka5]; rfl) | (rw [hz1]; simp only [kL, kJ, kO, ka8, ka5, kb7, kb8] <;> omega) | omega), (by first | rfl | exact hz2 | exact hz2.symm | (rw [hz1]; done) | (rw [hz1]; rfl) | (rw [hz1, ka5]; rfl) | (rw [hz1]; simp only [kL, kJ, kO, ka8, ka5, kb7, kb8] <;> omega) | omega), (by first | rfl | exact hz2 | exact hz2.symm | (rw [hz1]; done) | (rw [hz1]; rfl) | (rw [hz1, ka5]; rfl) | (rw [hz1]; simp only [kL, kJ, kO, ka8, ka5, kb7, kb8] <;> omega) | omega)⟩
    · refine zr [.no, .call [] (bV false) [] 0 [] none, .no] [2, 3, 4, 13] [0, 1, 2] (Fun 24 [.agg [.d (D.lit (.string (strOfNums r))), .d (D.sl (dI .u64 s) n), .d (D.lit (.int .u64 d))]] (kC []) 0 (bV false) (kC []) 0) [(2, rV 0 0), (3, rV 1 0), (4, rV 2 0), (13, bV true)] [(0, some (25, .ds [D.sl (kB xs) q])), (1, some (29, .ds [D.lit (.string (strOfNums r)), D.sl (dI .u64 s) n, D.lit (.int .u64 d)])), (2, some (25, .ds [uH]))] 3 (by have h0 := (iI r s n d (kR : Byt r) zo zo zo); rw [hx2] at h0; exact h0) ?_
      refine zt ?_
      refine kK [.no, .no, .no] True [(4, rV 2 0), (5, iV 2)] [(2, some (25, .ds [uH]))] 3 trivial ?_
      obtain ⟨hz1, hz2⟩ := k2z hx1 hx2
      refine d8 (l' := [(4, rV 2 0), (5, iV 2)]) (g' := [(2, some (25, .ds [D.sl ([] : List D) 0]))]) (NlS.cons rfl (.same _) (NlS.cons rfl (.same _) NlS.nil)) (NlG.to (bc := .ds [uH]) rfl (NlL.cons (.nil) NlL.nil) NlG.nil) ?_
      refine AW.ret ?_
      exact kA (.inr rfl) [] (P := (((kB (kF xs r s d)) : List D) = ([] : List D)) ∧ (((ka0 (kF xs r s d)) : Nat) = 0) ∧ (((aF xs r s d) : Int) = 2)) zk ⟨(by first | rfl | exact hz2 | exact hz2.symm | (rw [hz1]; done) | (rw [hz1]; rfl) | (rw [hz1, ka5]; rfl) | (rw [hz1]; simp only [kL, kJ, kO, ka8, ka5, kb7, kb8] <;> omega) | omega), (by first | rfl | exact hz2 | exact hz2.symm | (rw [hz1]; done) | (rw [hz1]; rfl) | (rw [hz1, ka5]; rfl) | (rw [hz1]; simp only [kL, kJ, kO, ka8, ka5, kb7, kb8] <;> omega) | omega), (by first | rfl | exact hz2 | exact hz2.symm | (rw [hz1]; done) | (rw [hz1]; rfl) | (rw [hz1, ka5]; rfl) | (rw [hz1]; simp only [kL, kJ, kO, ka8, ka5, kb7, kb8] <;> omega) | omega)⟩
  · refine zr [.no, .call [] (bV false) [] 0 [] none, .no] [2, 3, 4, 9] [0, 1, 2] (Fun 10 [.agg [.d (D.sl (kB xs) q)]] (kC []) 0 (bV false) (kC []) 0) [(2, rV 0 0), (3, rV 1 0), (4, rV 2 0), (9, bV true)] [(0, some (25, .ds [D.sl (kB xs) q])), (1, some (29, .ds [D.lit (.string (strOfNums r)), D.sl (dI .u64 s) n, D.lit (.int .u64 d)])), (2, some (25, .ds [uH]))] 3 (by have h0 := (yQ xs q zo zo (kR : CsW xs)); rw [hx1] at h0; exact h0) ?_
    refine zt ?_
    refine kK [.no, .no, .no] True [(4, rV 2 0), (5, iV 1)] [(2, some (25, .ds [uH]))] 3 trivial ?_
    obtain ⟨hz1, hz2⟩ := k30 (r := r) (s := s) (d := d) hx1
    refine d8 (l' := [(4, rV 2 0), (5, iV 1)]) (g' := [(2, some (25, .ds [D.sl ([] : List D) 0]))]) (NlS.cons rfl (.same _) (NlS.cons rfl (.same _) NlS.nil)) (NlG.to (bc := .ds [uH]) rfl (NlL.cons (.nil) NlL.nil) NlG.nil) ?_
    refine AW.ret ?_
    exact kA (.inr rfl) [] (P := (((kB (kF xs r s d)) : List D) = ([] : List D)) ∧ (((ka0 (kF xs r s d)) : Nat) = 0) ∧ (((aF xs r s d) : Int) = 1)) zk ⟨(by first | rfl | exact hz2 | exact hz2.symm | (rw [hz1]; done) | (rw [hz1]; rfl) | (rw [hz1, ka5]; rfl) | (rw [hz1]; simp only [kL, kJ, kO, ka8, ka5, kb7, kb8] <;> omega) | omega), (by first | rfl | exact hz2 | exact hz2.symm | (rw [hz1]; done) | (rw [hz1]; rfl) | (rw [hz1, ka5]; rfl) | (rw [hz1]; simp only [kL, kJ, kO, ka8, ka5, kb7, kb8] <;> omega) | omega), (by first | rfl | exact hz2 | exact hz2.symm | (rw [hz1]; done) | (rw [hz1]; rfl) | (rw [hz1, ka5]; rfl) | (rw [hz1]; simp only [kL, kJ, kO, ka8, ka5, kb7, kb8] <;> omega) | omega)⟩
end Go.Proofs.Ytkjmlililpgamaa
