/- The best choice. No statement is proved here. -/
import Derived.Test.YtcfmjpnffembpaaGreatZL10B
namespace Go.Proofs.YtcfmjpnffembpaaGreat
open Go.ChangeShapes Go.WideShapes Go.ChangeAt Go.RowKit
open Bool renaming and_eq_true → kb6, eq_false_or_eq_true → kb2
open List renaming getD → ka1, length → ka0, length_append → ka6, length_cons → ka8, length_drop → kb0, length_nil → kb3, length_replicate → kb4, length_set → kb8, length_take → ka9
open Nat renaming le_of_ble_eq_true → ka5
set_option linter.unusedVariables false
set_option linter.unusedSimpArgs false
/-! chapter 10: the best choice -/
set_option maxHeartbeats 4000000
set_option maxRecDepth 100000
theorem k1a (n : Int) : ∀ (s : List Sp) (o : Option Int), (∀ p ∈ s, nH p) → (∀ v, o = some v → 0 ≤ v ∧ v ≤ 2147483647) → ∀ v, nrP n s o = some v → 0 ≤ v ∧ v ≤ 2147483647
 | [], o, _, h => h
 | p :: s, o, hs, h => by
  have hp := hs p (List.mem_cons_self ..)
  have hc : 0 ≤ clP n p ∧ clP n p ≤ 2147483647 := by
   unfold nH at hp
   show 0 ≤ max p.1 (min p.2 n) ∧ max p.1 (min p.2 n) ≤ 2147483647
   omega
  refine k1a n s _ (fun q hq => hs q (List.mem_cons_of_mem _ hq)) ?_
  intro v hv
  cases o with
  | none => cases hv; exact hc
  | some u =>
   have hu := h u rfl
   dsimp only at hv
   split at hv
   ·cases hv; exact hc
   ·cases hv; exact hu
theorem dD {z : Int} {l : List Int} {n : Nat} (hl : l.length = n * 2) : 0 ≤ q8 z (kB l n) ∧ q8 z (kB l n) ≤ 2147483647 := by
 unfold q8
 cases e : nrP z (uZ (kB l n)) none with
 | none => exact ⟨Int.le_refl _, by decide⟩
 | some v => exact k1a z _ none (k17 (uL hl)) (fun v h => by cases h) v e
def vS (b w : Int) : Nat → Int
 | 0 => 0
 | j + 1 => if xR b (j + 1) = true ∧ (vS b w j = 0 ∨ vR w ((j : Int) + 1) (vS b w j) < 0) then (j : Int) + 1 else vS b w j
theorem w9 {b w : Int} {j : Nat} {y x : Int} (h : vS b w j = y) (h1 : xR b (j + 1) = true) (h2 : y = 0 ∨ vR w ((j : Int) + 1) y < 0) (hx : x = (j : Int) + 1) : vS b w (j + 1) = x := by
 subst h; rw [hx]; exact if_pos ⟨h1, h2⟩
theorem xB {b w : Int} {j : Nat} {y : Int} (h : vS b w j = y) (h1 : xR b (j + 1) = false) : vS b w (j + 1) = y := by
 rw [← h]; exact if_neg fun e => by rw [h1] at e; cases e.1
theorem xA {b w : Int} {j : Nat} {y : Int} (h : vS b w j = y) (h2 : ¬ y = 0) (h3 : ¬ vR w ((j : Int) + 1) y < 0) : vS b w (j + 1) = y := by
 subst h; exact if_neg fun e => e.2.elim h2 h3
theorem lQ (b w : Int) : ∀ j, 0 ≤ vS b w j ∧ vS b w j ≤ j
 | 0 => ⟨Int.le_refl _, Int.le_refl _⟩
 | j + 1 => by
  have := lQ b w j
  rw [vS]; split <;> omega
def dG (w : List Int) (ms : List (List Int)) : Nat → List Int
 | 0 => []
 | j + 1 => if j = 0 ∨ yR w (ka1 ms j []) (dG w ms j) < 0 then ka1 ms j [] else dG w ms j
theorem u5j {w : List Int} {ms : List (List Int)} {x : List Int} (hx : x = ka1 ms 0 []) : dG w ms 1 = x := by
 rw [hx]; exact if_pos (.inl rfl)
theorem k9w {w : List Int} {ms : List (List Int)} {j : Nat} {u x : List Int} (h : dG w ms j = u) (h2 : yR w (ka1 ms j []) u < 0) (hx : x = ka1 ms j []) : dG w ms (j + 1) = x := by
 subst h; rw [hx]; exact if_pos (.inr h2)
theorem k9x {w : List Int} {ms : List (List Int)} {j : Nat} {u : List Int} (h : dG w ms j = u) (h1 : ¬ j = 0) (h2 : ¬ yR w (ka1 ms j []) u < 0) : dG w ms (j + 1) = u := by
 subst h; exact if_neg fun e => e.elim h1 h2
theorem k0d {w : List Int} {ms : List (List Int)} (h : MsW ms) : ∀ j, ka0 (dG w ms j) ≤ 1000000
 | 0 => Nat.zero_le _
 | j + 1 => by
  rw [dG]; split
  ·exact h.at j
  ·exact k0d h j
theorem lP {xs : List Bx} {i : Nat} (h : i < ka0 (kE xs)) : 1 ≤ ka0 (kY (kE xs) i) := by
 cases e : hY xs with
 | false => rw [k22 e] at h; exact absurd h (Nat.not_lt_zero _)
 | true =>
  rw [w7 e] at h ⊢
  have h1 := (of_decide_eq_true e).2 i h
  unfold vbE eK at h1
  rw [kb6, kb6, kb6] at h1
  exact (of_decide_eq_true h1.2.2.1).1
theorem tE (b : Int) (q : Nat) (hq : q ≤ 64) : Fun 97 [iE b, iE ((q : Nat) : Int)] (kK []) 0 (qY (D.lit (.bool (xR b q)))) (kK []) 0 := by
 refine Fun.mk (n := 18) Tryz.func97 rfl rfl (ka5 rfl) ?_
 intro cx hcx
 refine kL [.no] True [(0, iV b), (1, uV q)] [] 0 trivial ?_
 by_cases hx1 : ((1 : Int) ≤ ((q : Nat) : Int))
 ·by_cases hx2 : (((q : Nat) : Int) ≤ 7)
  ·by_cases hx3 : ((uG (b / (((2 ^ q) : Nat) : Int))) = 1)
   ·refine kP (.no :: .b true :: .no :: .no :: .b true :: qA 4 [.n q, .i (uG (b / (((2 ^ q) : Nat) : Int))), .b true, .no, .no]) ((((1 : Int) ≤ (q : Int))) ∧ (((q : Int) ≤ 7)) ∧ (kO (q : Int)) ∧ (q ≤ 64) ∧ (qG .and .i64 (b / (((2 ^ q) : Nat) : Int)) 1 = (uG (b / (((2 ^ q) : Nat) : Int)))) ∧ (((uG (b / (((2 ^ q) : Nat) : Int))) = 1))) [(4, bV true)] ⟨zo, zo, rfl, zo, rfl, zo⟩ ?_
    refine AW.ret ?_
    exact kD (.inr rfl) [] (P := ((xR b q) = true)) zk (by first | exact decide_eq_true ⟨by omega, by omega, by assumption⟩ | exact decide_eq_false (fun e9 => by omega))
   ·refine kP (.no :: .b true :: .no :: .no :: .b true :: qA 4 [.n q, .i (uG (b / (((2 ^ q) : Nat) : Int))), .b false, .no, .no]) ((((1 : Int) ≤ (q : Int))) ∧ (((q : Int) ≤ 7)) ∧ (kO (q : Int)) ∧ (q ≤ 64) ∧ (qG .and .i64 (b / (((2 ^ q) : Nat) : Int)) 1 = (uG (b / (((2 ^ q) : Nat) : Int)))) ∧ (¬ ((uG (b / (((2 ^ q) : Nat) : Int))) = 1))) [(4, bV false)] ⟨zo, zo, rfl, zo, rfl, zo⟩ ?_
    refine AW.ret ?_
    exact kD (.inr rfl) [] (P := ((xR b q) = false)) zk (by first | exact decide_eq_true ⟨by omega, by omega, by assumption⟩ | exact decide_eq_false (fun e9 => by omega))
  ·refine kP [.no, .b true, .no, .no, .b false, .no, .no, .no, .no] ((((1 : Int) ≤ (q : Int))) ∧ (¬ ((q : Int) ≤ 7))) [(4, bV false)] ⟨zo, zo⟩ ?_
   refine AW.ret ?_
   exact kD (.inr rfl) [] (P := ((xR b q) = false)) zk (by first | exact decide_eq_true ⟨by omega, by omega, by assumption⟩ | exact decide_eq_false (fun e9 => by omega))
 ·refine kP (.no :: .b false :: qA 5 []) (¬ ((1 : Int) ≤ (q : Int))) [(4, bV false)] zo ?_
  refine AW.ret ?_
  exact kD (.inr rfl) [] (P := ((xR b q) = false)) zk (by first | exact decide_eq_true ⟨by omega, by omega, by assumption⟩ | exact decide_eq_false (fun e9 => by omega))
theorem tD (bs : List Bx) (n : Nat) (hn : ka0 bs = n) (h1 : n ≤ 1000000) (hW : BsW bs) : Fun 52 [.c (.d (D.sl (kF bs) n))] (kK []) 0 (kI (kF (kE bs)) (ka0 (kE bs))) (kK []) 0 := by
 refine Fun.mk (n := 7) Tryz.func52 rfl rfl (ka5 rfl) ?_
 intro cx hcx
 refine kL [.no] True [(0, kI (kF bs) n)] [] 0 trivial ?_
 refine AW.seq ?_
 rcases kb2 (hY bs) with hx1 | hx1
 ·refine kP [.no, .call [] (bV true) [] 0 [] none, .no] (Fun 19 [.c (.d (D.sl (kF bs) n))] (kK []) 0 (bV true) (kK []) 0) [(0, kI (kF bs) n), (5, bV false)] (by have h0 := (xF bs n zo zo (qF : BsW bs)); rw [hx1] at h0; exact h0) ?_
  refine uB ?_
  refine kP [.no, .no] True [(2, kI (kF bs) n)] trivial ?_
  have hz1 : kE bs = bs := w7 hx1
  have hz2 : ka0 (kE bs) = n := by rw [hz1]; first | rfl | omega
  refine AW.ret ?_
  exact kD (.inr rfl) [] (P := (((kF (kE bs)) : List D) = (kF bs)) ∧ (((ka0 (kE bs)) : Nat) = n)) zk ⟨(by first | (rw [hz1]; done) | (rw [hz1]; rfl)), (by first | omega | rfl | assumption | (simp; done) | (simp; omega))⟩
 ·refine kP [.no, .call [] (bV false) [] 0 [] none, .no] (Fun 19 [.c (.d (D.sl (kF bs) n))] (kK []) 0 (bV false) (kK []) 0) [(0, kI (kF bs) n), (5, bV true)] (by have h0 := (xF bs n zo zo (qF : BsW bs)); rw [hx1] at h0; exact h0) ?_
  refine zt ?_
  refine kP [.no] True [(2, nV)] trivial ?_
  have hz1 : kE bs = [] := k22 hx1
  have hz2 : ka0 (kE bs) = 0 := by rw [hz1]; first | rfl | omega
  refine eH (l' := [(2, kI ([] : List D) 0)]) (g' := []) (NlS.cons rfl (.e (.c .nil)) NlS.nil) NlG.nil ?_
  refine AW.ret ?_
  exact kD (.inr rfl) [] (P := (((kF (kE bs)) : List D) = ([] : List D)) ∧ (((ka0 (kE bs)) : Nat) = 0)) zk ⟨(by first | (rw [hz1]; done) | (rw [hz1]; rfl)), (by first | omega | rfl | assumption | (simp; done) | (simp; omega))⟩
theorem eQ {p : Prop} (h : p := by first | omega | assumption | simp) : p := h
theorem jY {p : Prop} (h : p := by first | rfl | omega | assumption | (simp; done) | (simp; omega)) : p := h
theorem jX {p : Prop} (h : p := by first | omega | (show _ < _; simp; omega)) : p := h
abbrev y6 : BC := .ds [iD 0, iD 0, D.lit (.slice none 0 0), iD 0]
abbrev vL (wk : Int) (wr : Int) (w : List Int) (wn : Nat) (wz : Int) : BC := .ds [iD wk, iD wr, D.sl (dI .i64 w) wn, iD wz]
abbrev dB (k : Int) (r : List Int) (rn : Nat) (m : List (List Int)) (c : Nat) (s : List Int) (sn : Nat) : BC := .ds [iD k, D.sl (dI .i64 r) rn, D.sl (kJ m) c, D.sl (dI .i64 s) sn]
abbrev nE (y : Int) (wr : Int) (r : List Int) (rn : Nat) (u : List Int) (wz : Int) (s : List Int) (sn : Nat) : BC := .ds [iD y, iD (q8 wr (kB r rn)), D.sl (dI .i64 u) (ka0 u), iD (q8 wz (kB s sn))]
abbrev rM (y : Int) : BC := .ds [iD y, iD 0, D.lit (.slice none 0 0), iD 0]
theorem k7v (k : Int) (r : List Int) (rn : Nat) (m : List (List Int)) (c : Nat) (s : List Int) (sn : Nat) (wk wr : Int) (w : List Int) (wn : Nat) (wz : Int) (hr : ka0 r = rn * 2) (hs : ka0 s = sn * 2) (hc : ka0 m = c) (h1 : rn ≤ 1000000) (h2 : sn ≤ 1000000) (h3 : c ≤ 1000000) (h4 : 1 ≤ c) (hW : MsW m) (hw : ka0 w = wn) (h5 : wn ≤ 1000000) (hwr : -9223372036854775808 ≤ wr ∧ wr ≤ 9223372036854775807) (hwz : -9223372036854775808 ≤ wz ∧ wz ≤ 9223372036854775807) : Fun 61 [.agg [iC k, .d (D.sl (dI .i64 r) rn), .d (D.sl (kJ m) c), .d (D.sl (dI .i64 s) sn)], .agg [iC wk, iC wr, .d (D.sl (dI .i64 w) wn), iC wz]] (kK []) 0 (.e (.agg [iC (vS k wk 7), iC (q8 wr (kB r rn)), .d (D.sl (dI .i64 (dG w m c)) (ka0 (dG w m c))), iC (q8 wz (kB s sn))])) (kK []) 0 := by
 refine Fun.mk (n := 83) Tryz.func61 rfl rfl (ka5 rfl) ?_
 intro cx hcx
 refine kL [.no, .no, .no] True [(2, rV 0 0), (3, rV 1 0), (4, rV 2 0)] [(0, some (59, (dB k r rn m c s sn))), (1, some (27, (vL wk wr w wn wz))), (2, some (27, y6))] 3 trivial ?_
 refine kL [.no] True [(2, rV 0 0), (3, rV 1 0), (4, rV 2 0), (5, rV 3 0)] [(0, some (59, (dB k r rn m c s sn))), (1, some (27, (vL wk wr w wn wz))), (2, some (27, y6)), (3, some (27, y6))] 4 trivial ?_
 refine AW.seq ?_
 refine kP [.no] True [(2, rV 0 0), (3, rV 1 0), (4, rV 2 0), (5, rV 3 0), (6, iV 1)] trivial ?_
 refine AW.block ?_
 refine kZ 0 hcx (fun (x : {x : Nat × Int // match x with | (i, y) => (i ≤ 7 ∧ 0 ≤ y ∧ y ≤ 7) ∧ (vS k wk i = y)}) => match x with | ⟨(i, y), _⟩ => (⟨[(2, rV 0 0), (3, rV 1 0), (4, rV 2 0), (5, rV 3 0), (6, iV ((i : Int) + 1))], [(0, some (59, (dB k r rn m c s sn))), (1, some (27, (vL wk wr w wn wz))), (2, some (27, y6)), (3, some (27, (rM y)))], 4⟩ : ES)) (fun x => match x with | ⟨(i, y), _⟩ => 7 - i) ⟨((0 : Nat), (0 : Int)), ⟨eQ, rfl⟩⟩ [] (P := (kH 0) ∧ (kH 0) ∧ (kH 0) ∧ (kH 0) ∧ (kO 1) ∧ (kM [iD k, dl r rn, D.sl (kJ m) c, dl s sn]) ∧ (kM [iD wk, iD wr, dl w wn, iD wz]) ∧ (kM [iD 0, iD 0, k9, iD 0]) ∧ (kM [iD 0, iD 0, k9, iD 0])) zk ⟨rfl, rfl, rfl, rfl, rfl, rfl, rfl, rfl, rfl⟩ ?_
 rintro ⟨⟨i, y⟩, hinv0⟩
 obtain ⟨hi, hy⟩ : (i ≤ 7 ∧ 0 ≤ y ∧ y ≤ 7) ∧ (vS k wk i = y) := hinv0
 refine qT (l := [(2, rV 0 0), (3, rV 1 0), (4, rV 2 0), (5, rV 3 0), (6, iV ((i : Int) + 1))]) (g := [(0, some (59, (dB k r rn m c s sn))), (1, some (27, (vL wk wr w wn wz))), (2, some (27, y6)), (3, some (27, (rM y)))]) (nx := 4) rfl rfl rfl ?_
 refine AW.seq ?_
 by_cases hx1 : ((((i : Nat) : Int) + 1) ≤ 7)
 ·refine kL [.no, .b true] ((((i : Int) + 1) ≤ 7)) [(2, rV 0 0), (3, rV 1 0), (4, rV 2 0), (5, rV 3 0), (6, iV (↑i + 1)), (10, bV true)] [(0, some (59, (dB k r rn m c s sn))), (1, some (27, (vL wk wr w wn wz))), (2, some (27, y6)), (3, some (27, (rM y)))] 4 zo ?_
  refine vP ?_
  refine AW.seq ?_
  refine AW.block ?_
  rcases kb2 (xR k (i + 1)) with hx2 | hx2
  ·by_cases hx3 : (y = 0)
   ·refine kP (.no :: .no :: .no :: .call [] (bV true) [] 0 [] none :: qA 4 [.b true, .no, .no, .no]) ((Fun 97 [iE k, iE ((i : Int) + 1)] (kK []) 0 (bV true) (kK []) 0) ∧ ((y = 0))) [(2, rV 0 0), (3, rV 1 0), (4, rV 2 0), (5, rV 3 0), (6, iV (↑i + 1)), (33, bV true)] ⟨(by have h0 := (tE k (i + 1) zo); rw [hx2] at h0; exact h0), zo⟩ ?_
    refine zt ?_
    refine a5 (qA 4 []) True [(2, rV 0 0), (3, rV 1 0), (4, rV 2 0), (5, rV 3 0), (6, iV (↑i + 1))] [(0, some (59, (dB k r rn m c s sn))), (1, some (27, (vL wk wr w wn wz))), (2, some (27, y6)), (3, some (27, .ds [iD (↑i + 1), iD 0, k9, iD 0]))] 4 trivial ?_
    refine uS [.no, .w, .no] ((-9223372036854775808) ≤ (((i : Int) + 1) + 1) ∧ (((i : Int) + 1) + 1) ≤ 9223372036854775807) [(2, rV 0 0), (3, rV 1 0), (4, rV 2 0), (5, rV 3 0), (6, iV ((↑i + 1) + 1))] ⟨by omega, by omega⟩ ?_
    exact kW ⟨(((i + 1) : Nat), (((i : Int) + 1) : Int)), ⟨eQ, (by first | exact w9 hy (by assumption) zo rfl | exact xB hy (by assumption) | exact xA hy zo zo)⟩⟩ [] (P := (kH 0) ∧ (kH 0) ∧ (kH 0) ∧ (kH 0) ∧ ((((((i + 1) : Nat) : Int) + 1) : Int) = (((i : Int) + 1) + 1)) ∧ (kM [iD k, dl r rn, D.sl (kJ m) c, dl s sn]) ∧ (kM [iD wk, iD wr, dl w wn, iD wz]) ∧ (kM [iD 0, iD 0, k9, iD 0]) ∧ (kM [iD ((i : Int) + 1), iD 0, k9, iD 0])) zk ⟨rfl, rfl, rfl, rfl, jY, rfl, rfl, rfl, rfl⟩ (show 7 - (i + 1) < 7 - i from jX)
   ·by_cases hx5 : ((vR wk (((i : Nat) : Int) + 1) y) < 0)
    ·have hx6 : ((((-1) : Int) ≤ (vR wk (((i : Nat) : Int) + 1) y)) ∧ ((vR wk (((i : Nat) : Int) + 1) y) ≤ 1)) := cX wk (((i : Nat) : Int) + 1) y
     refine kP (.no :: .no :: .no :: .call [] (bV true) [] 0 [] none :: qA 4 (.b false :: qA 8 [.call [] (iV (vR wk ((i : Int) + 1) y)) [] 0 [] none, .b true, .no, .no])) ((Fun 97 [iE k, iE ((i : Int) + 1)] (kK []) 0 (bV true) (kK []) 0) ∧ (¬ (y = 0)) ∧ (_) ∧ (((vR wk ((i : Int) + 1) y) < 0))) [(2, rV 0 0), (3, rV 1 0), (4, rV 2 0), (5, rV 3 0), (6, iV (↑i + 1)), (33, bV true)] ⟨(by have h0 := (tE k (i + 1) zo); rw [hx2] at h0; exact h0), zo, (n5 wk ((i : Int) + 1) y), zo⟩ ?_
     refine zt ?_
     refine a5 (qA 4 []) True [(2, rV 0 0), (3, rV 1 0), (4, rV 2 0), (5, rV 3 0), (6, iV (↑i + 1))] [(0, some (59, (dB k r rn m c s sn))), (1, some (27, (vL wk wr w wn wz))), (2, some (27, y6)), (3, some (27, .ds [iD (↑i + 1), iD 0, k9, iD 0]))] 4 trivial ?_
     refine uS [.no, .w, .no] ((-9223372036854775808) ≤ (((i : Int) + 1) + 1) ∧ (((i : Int) + 1) + 1) ≤ 9223372036854775807) [(2, rV 0 0), (3, rV 1 0), (4, rV 2 0), (5, rV 3 0), (6, iV ((↑i + 1) + 1))] ⟨by omega, by omega⟩ ?_
     exact kW ⟨(((i + 1) : Nat), (((i : Int) + 1) : Int)), ⟨eQ, (by first | exact w9 hy (by assumption) zo rfl | exact xB hy (by assumption) | exact xA hy zo zo)⟩⟩ [] (P := (kH 0) ∧ (kH 0) ∧ (kH 0) ∧ (kH 0) ∧ ((((((i + 1) : Nat) : Int) + 1) : Int) = (((i : Int) + 1) + 1)) ∧ (kM [iD k, dl r rn, D.sl (kJ m) c, dl s sn]) ∧ (kM [iD wk, iD wr, dl w wn, iD wz]) ∧ (kM [iD 0, iD 0, k9, iD 0]) ∧ (kM [iD ((i : Int) + 1), iD 0, k9, iD 0])) zk ⟨rfl, rfl, rfl, rfl, jY, rfl, rfl, rfl, rfl⟩ (show 7 - (i + 1) < 7 - i from jX)
    ·have hx7 : ((((-1) : Int) ≤ (vR wk (((i : Nat) : Int) + 1) y)) ∧ ((vR wk (((i : Nat) : Int) + 1) y) ≤ 1)) := cX wk (((i : Nat) : Int) + 1) y
     refine kP (.no :: .no :: .no :: .call [] (bV true) [] 0 [] none :: qA 4 (.b false :: qA 8 [.call [] (iV (vR wk ((i : Int) + 1) y)) [] 0 [] none, .b false, .no, .no])) ((Fun 97 [iE k, iE ((i : Int) + 1)] (kK []) 0 (bV true) (kK []) 0) ∧ (¬ (y = 0)) ∧ (_) ∧ (¬ ((vR wk ((i : Int) + 1) y) < 0))) [(2, rV 0 0), (3, rV 1 0), (4, rV 2 0), (5, rV 3 0), (6, iV (↑i + 1)), (33, bV false)] ⟨(by have h0 := (tE k (i + 1) zo); rw [hx2] at h0; exact h0), zo, (n5 wk ((i : Int) + 1) y), zo⟩ ?_
     refine uB ?_
     refine uS [.no, .w, .no] ((-9223372036854775808) ≤ (((i : Int) + 1) + 1) ∧ (((i : Int) + 1) + 1) ≤ 9223372036854775807) [(2, rV 0 0), (3, rV 1 0), (4, rV 2 0), (5, rV 3 0), (6, iV ((↑i + 1) + 1))] ⟨by omega, by omega⟩ ?_
     exact kW ⟨(((i + 1) : Nat), (y : Int)), ⟨eQ, (by first | exact w9 hy (by assumption) zo rfl | exact xB hy (by assumption) | exact xA hy zo zo)⟩⟩ [] (P := (kH 0) ∧ (kH 0) ∧ (kH 0) ∧ (kH 0) ∧ ((((((i + 1) : Nat) : Int) + 1) : Int) = (((i : Int) + 1) + 1)) ∧ (kM [iD k, dl r rn, D.sl (kJ m) c, dl s sn]) ∧ (kM [iD wk, iD wr, dl w wn, iD wz]) ∧ (kM [iD 0, iD 0, k9, iD 0]) ∧ (kM [iD y, iD 0, k9, iD 0])) zk ⟨rfl, rfl, rfl, rfl, jY, rfl, rfl, rfl, rfl⟩ (show 7 - (i + 1) < 7 - i from jX)
  ·refine kP [.no, .no, .no, .call [] (bV false) [] 0 [] none, .no, .no] (Fun 97 [iE k, iE ((i : Int) + 1)] (kK []) 0 (bV false) (kK []) 0) [(2, rV 0 0), (3, rV 1 0), (4, rV 2 0), (5, rV 3 0), (6, iV (↑i + 1)), (33, bV false)] (by have h0 := (tE k (i + 1) zo); rw [hx2] at h0; exact h0) ?_
   refine uB ?_
   refine uS [.no, .w, .no] ((-9223372036854775808) ≤ (((i : Int) + 1) + 1) ∧ (((i : Int) + 1) + 1) ≤ 9223372036854775807) [(2, rV 0 0), (3, rV 1 0), (4, rV 2 0), (5, rV 3 0), (6, iV ((↑i + 1) + 1))] ⟨by omega, by omega⟩ ?_
   exact kW ⟨(((i + 1) : Nat), (y : Int)), ⟨eQ, (by first | exact w9 hy (by assumption) zo rfl | exact xB hy (by assumption) | exact xA hy zo zo)⟩⟩ [] (P := (kH 0) ∧ (kH 0) ∧ (kH 0) ∧ (kH 0) ∧ ((((((i + 1) : Nat) : Int) + 1) : Int) = (((i : Int) + 1) + 1)) ∧ (kM [iD k, dl r rn, D.sl (kJ m) c, dl s sn]) ∧ (kM [iD wk, iD wr, dl w wn, iD wz]) ∧ (kM [iD 0, iD 0, k9, iD 0]) ∧ (kM [iD y, iD 0, k9, iD 0])) zk ⟨rfl, rfl, rfl, rfl, jY, rfl, rfl, rfl, rfl⟩ (show 7 - (i + 1) < 7 - i from jX)
 ·refine kL [.no, .b false] (¬ (((i : Int) + 1) ≤ 7)) [(2, rV 0 0), (3, rV 1 0), (4, rV 2 0), (5, rV 3 0), (6, iV (↑i + 1)), (10, bV false)] [(0, some (59, (dB k r rn m c s sn))), (1, some (27, (vL wk wr w wn wz))), (2, some (27, y6)), (3, some (27, (rM y)))] 4 zo ?_
  refine zf ?_
  refine AW.exit ?_
  refine kL (qA 5 (.call [] (.tup [iE (q8 wr (kB r rn)), .c (.d (D.lit (.bool (nrF wr (kB r rn)))))]) [] 0 [] none :: qA 6 [])) _ [(2, rV 0 0), (3, rV 1 0), (4, rV 2 0), (5, rV 3 0)] [(0, some (59, (dB k r rn m c s sn))), (1, some (27, (vL wk wr w wn wz))), (2, some (27, y6)), (3, some (27, .ds [iD y, iD (q8 wr (kB r rn)), k9, iD 0]))] 4 (k2b r rn wr zo zo zo) ?_
  refine kL (qA 4 (.call [] (.tup [iE (q8 wz (kB s sn)), .c (.d (D.lit (.bool (nrF wz (kB s sn)))))]) [] 0 [] none :: qA 5 [])) _ [(2, rV 0 0), (3, rV 1 0), (4, rV 2 0), (5, rV 3 0)] [(0, some (59, (dB k r rn m c s sn))), (1, some (27, (vL wk wr w wn wz))), (2, some (27, y6)), (3, some (27, .ds [iD y, iD (q8 wr (kB r rn)), k9, iD (q8 wz (kB s sn))]))] 4 (k2b s sn wz zo zo zo) ?_
  refine AW.seq ?_
  refine kL (qA 4 []) True [(3, rV 1 0), (4, rV 2 0), (5, rV 3 0), (58, kI (kJ m) c), (59, uV c), (60, iV 0)] [(1, some (27, (vL wk wr w wn wz))), (2, some (27, y6)), (3, some (27, .ds [iD y, iD (q8 wr (kB r rn)), k9, iD (q8 wz (kB s sn))]))] 4 trivial ?_
  refine AW.block ?_
  refine tG 1 ?_
  refine AWp.s ?_
  refine kL [.b true] (((0 : Int) < (c : Int))) [(3, rV 1 0), (4, rV 2 0), (5, rV 3 0), (58, kI (kJ m) c), (59, uV c), (60, iV 0), (61, bV true)] [(1, some (27, (vL wk wr w wn wz))), (2, some (27, y6)), (3, some (27, .ds [iD y, iD (q8 wr (kB r rn)), k9, iD (q8 wz (kB s sn))]))] 4 zo ?_
  refine AW.seq ?_
  refine vP ?_
  refine AW.seq ?_
  refine AW.block ?_
  have hx8 : ((ka0 (ka1 m 0 ([] : List Int))) ≤ 1000000) := MsW.at (qF : MsW m) _
  refine kP [.no, .n 0, .d (dl (ka1 m 0 ([] : List Int)) (ka0 (ka1 m 0 ([] : List Int)))), .no, .no] ((kO 0) ∧ ((0 : Nat) < c) ∧ ((List.drop 0 (kJ m))[0]? = some (dl (ka1 m 0 ([] : List Int)) (ka0 (ka1 m 0 ([] : List Int)))))) [(3, rV 1 0), (4, rV 2 0), (5, rV 3 0), (7, iV 0), (8, sV .i64 (ka1 m 0 ([] : List Int)) (ka0 (ka1 m 0 ([] : List Int)))), (58, kI (kJ m) c), (59, uV c), (60, iV 0)] ⟨rfl, zo, (aB _ _ (by first | omega | (simp only [qC, qB, ka6, ka8, kb3, ka9, kb0] <;> omega)))⟩ ?_
  refine kP [.no, .b true, .no, .no] ((kO 0)) [(3, rV 1 0), (4, rV 2 0), (5, rV 3 0), (8, sV .i64 (ka1 m 0 ([] : List Int)) (ka0 (ka1 m 0 ([] : List Int)))), (58, kI (kJ m) c), (59, uV c), (60, iV 0), (77, bV true)] zo ?_
  refine zt ?_
  refine a5 (qA 4 []) True [(3, rV 1 0), (4, rV 2 0), (5, rV 3 0), (58, kI (kJ m) c), (59, uV c), (60, iV 0)] [(1, some (27, (vL wk wr w wn wz))), (2, some (27, y6)), (3, some (27, .ds [iD y, iD (q8 wr (kB r rn)), dl (ka1 m 0 ([] : List Int)) (ka0 (ka1 m 0 ([] : List Int))), iD (q8 wz (kB s sn))]))] 4 trivial ?_
  refine uS [.w, .no] ((-9223372036854775808) ≤ (1 : Int) ∧ (1 : Int) ≤ 9223372036854775807) [(3, rV 1 0), (4, rV 2 0), (5, rV 3 0), (58, kI (kJ m) c), (59, uV c), (60, iV 1)] ⟨by omega, by omega⟩ ?_
  refine AWp.z ?_
  refine kZ 0 hcx (fun (x : {x : Nat × List Int // match x with | (j, u) => (1 ≤ j ∧ j ≤ c) ∧ (dG w m j = u) ∧ (ka0 u ≤ 1000000)}) => match x with | ⟨(j, u), _⟩ => (⟨[(3, rV 1 0), (4, rV 2 0), (5, rV 3 0), (58, kI (kJ m) c), (59, uV c), (60, uV j)], [(1, some (27, (vL wk wr w wn wz))), (2, some (27, y6)), (3, some (27, (nE y wr r rn u wz s sn)))], 4⟩ : ES)) (fun x => match x with | ⟨(j, u), _⟩ => c - j) ⟨((1 : Nat), ((ka1 m 0 ([] : List Int)) : List Int)), ⟨eQ, (u5j rfl), zo⟩⟩ [] (P := (kH 0) ∧ (kH 0) ∧ (kH 0) ∧ (kM (kJ m)) ∧ (kH c) ∧ (kO (c : Int)) ∧ (kO 1) ∧ (kM [iD wk, iD wr, dl w wn, iD wz]) ∧ (kM [iD 0, iD 0, k9, iD 0]) ∧ (kM [iD y, iD (q8 wr (kB r rn)), dl (ka1 m 0 ([] : List Int)) (ka0 (ka1 m 0 ([] : List Int))), iD (q8 wz (kB s sn))])) zk ⟨rfl, rfl, rfl, rfl, rfl, rfl, rfl, rfl, rfl, rfl⟩ ?_
  rintro ⟨⟨j, u⟩, hinv1⟩
  obtain ⟨hj, hu, hul⟩ : (1 ≤ j ∧ j ≤ c) ∧ (dG w m j = u) ∧ (ka0 u ≤ 1000000) := hinv1
  refine qT (l := [(3, rV 1 0), (4, rV 2 0), (5, rV 3 0), (58, kI (kJ m) c), (59, uV c), (60, uV j)]) (g := [(1, some (27, (vL wk wr w wn wz))), (2, some (27, y6)), (3, some (27, (nE y wr r rn u wz s sn)))]) (nx := 4) rfl rfl rfl ?_
  by_cases hx9 : (((j : Nat) : Int) < ((c : Nat) : Int))
  ·refine kL [.b true] (((j : Int) < (c : Int))) [(3, rV 1 0), (4, rV 2 0), (5, rV 3 0), (58, kI (kJ m) c), (59, uV c), (60, uV j), (61, bV true)] [(1, some (27, (vL wk wr w wn wz))), (2, some (27, y6)), (3, some (27, (nE y wr r rn u wz s sn)))] 4 zo ?_
   refine AW.seq ?_
   refine vP ?_
   refine AW.seq ?_
   refine AW.block ?_
   have hx10 : ((ka0 (ka1 m j ([] : List Int))) ≤ 1000000) := MsW.at (qF : MsW m) _
   refine kP [.no, .n j, .d (dl (ka1 m j ([] : List Int)) (ka0 (ka1 m j ([] : List Int)))), .no, .no] ((kO (j : Int)) ∧ (j < c) ∧ ((List.drop j (kJ m))[0]? = some (dl (ka1 m j ([] : List Int)) (ka0 (ka1 m j ([] : List Int)))))) [(3, rV 1 0), (4, rV 2 0), (5, rV 3 0), (7, uV j), (8, sV .i64 (ka1 m j ([] : List Int)) (ka0 (ka1 m j ([] : List Int)))), (58, kI (kJ m) c), (59, uV c), (60, uV j)] ⟨rfl, zo, (aB _ _ (by first | omega | (simp only [qC, qB, ka6, ka8, kb3, ka9, kb0] <;> omega)))⟩ ?_
   by_cases hx12 : ((yR w (ka1 m j ([] : List Int)) u) < 0)
   ·have hx13 : ((((-1) : Int) ≤ (yR w (ka1 m j ([] : List Int)) u)) ∧ ((yR w (ka1 m j ([] : List Int)) u) ≤ 1)) := bY w (ka1 m j ([] : List Int)) u
    refine kP (.no :: .b false :: qA 8 [.call [] (iV (yR w (ka1 m j ([] : List Int)) u)) [] 0 [] none, .b true, .no]) ((¬ ((j : Int) = 0)) ∧ (_) ∧ (((yR w (ka1 m j ([] : List Int)) u) < 0))) [(3, rV 1 0), (4, rV 2 0), (5, rV 3 0), (8, sV .i64 (ka1 m j ([] : List Int)) (ka0 (ka1 m j ([] : List Int)))), (58, kI (kJ m) c), (59, uV c), (60, uV j), (77, bV true)] ⟨zo, (s5 w (ka1 m j ([] : List Int)) u wn (ka0 (ka1 m j ([] : List Int))) (ka0 u) zo rfl rfl zo (by first | omega | with_reducible assumption | (simp only [qC, qB, ka6, ka8, kb3, ka9, kb0, kb4, kb8] <;> omega) | rfl | assumption) zo), zo⟩ ?_
    refine zt ?_
    refine a5 (qA 4 []) True [(3, rV 1 0), (4, rV 2 0), (5, rV 3 0), (58, kI (kJ m) c), (59, uV c), (60, uV j)] [(1, some (27, (vL wk wr w wn wz))), (2, some (27, y6)), (3, some (27, .ds [iD y, iD (q8 wr (kB r rn)), dl (ka1 m j ([] : List Int)) (ka0 (ka1 m j ([] : List Int))), iD (q8 wz (kB s sn))]))] 4 trivial ?_
    refine uS [.w, .no] ((-9223372036854775808) ≤ ((j : Int) + 1) ∧ ((j : Int) + 1) ≤ 9223372036854775807) [(3, rV 1 0), (4, rV 2 0), (5, rV 3 0), (58, kI (kJ m) c), (59, uV c), (60, iV (↑j + 1))] ⟨by omega, by omega⟩ ?_
    exact kW ⟨(((j + 1) : Nat), ((ka1 m j ([] : List Int)) : List Int)), ⟨eQ, (by first | exact k9w hu zo rfl | exact k9x hu zo zo), (by first | omega | assumption)⟩⟩ [] (P := (kH 0) ∧ (kH 0) ∧ (kH 0) ∧ (kM (kJ m)) ∧ (kH c) ∧ (kO (c : Int)) ∧ (((((j + 1) : Nat) : Int) : Int) = ((j : Int) + 1)) ∧ (kM [iD wk, iD wr, dl w wn, iD wz]) ∧ (kM [iD 0, iD 0, k9, iD 0]) ∧ (kM [iD y, iD (q8 wr (kB r rn)), dl (ka1 m j ([] : List Int)) (ka0 (ka1 m j ([] : List Int))), iD (q8 wz (kB s sn))])) zk ⟨rfl, rfl, rfl, rfl, rfl, rfl, jY, rfl, rfl, rfl⟩ (show c - (j + 1) < c - j from jX)
   ·have hx14 : ((((-1) : Int) ≤ (yR w (ka1 m j ([] : List Int)) u)) ∧ ((yR w (ka1 m j ([] : List Int)) u) ≤ 1)) := bY w (ka1 m j ([] : List Int)) u
    refine kP (.no :: .b false :: qA 8 [.call [] (iV (yR w (ka1 m j ([] : List Int)) u)) [] 0 [] none, .b false, .no]) ((¬ ((j : Int) = 0)) ∧ (_) ∧ (¬ ((yR w (ka1 m j ([] : List Int)) u) < 0))) [(3, rV 1 0), (4, rV 2 0), (5, rV 3 0), (8, sV .i64 (ka1 m j ([] : List Int)) (ka0 (ka1 m j ([] : List Int)))), (58, kI (kJ m) c), (59, uV c), (60, uV j), (77, bV false)] ⟨zo, (s5 w (ka1 m j ([] : List Int)) u wn (ka0 (ka1 m j ([] : List Int))) (ka0 u) zo rfl rfl zo (by first | omega | with_reducible assumption | (simp only [qC, qB, ka6, ka8, kb3, ka9, kb0, kb4, kb8] <;> omega) | rfl | assumption) zo), zo⟩ ?_
    refine uB ?_
    refine uS [.w, .no] ((-9223372036854775808) ≤ ((j : Int) + 1) ∧ ((j : Int) + 1) ≤ 9223372036854775807) [(3, rV 1 0), (4, rV 2 0), (5, rV 3 0), (58, kI (kJ m) c), (59, uV c), (60, iV (↑j + 1))] ⟨by omega, by omega⟩ ?_
    exact kW ⟨(((j + 1) : Nat), (u : List Int)), ⟨eQ, (by first | exact k9w hu zo rfl | exact k9x hu zo zo), (by first | omega | assumption)⟩⟩ [] (P := (kH 0) ∧ (kH 0) ∧ (kH 0) ∧ (kM (kJ m)) ∧ (kH c) ∧ (kO (c : Int)) ∧ (((((j + 1) : Nat) : Int) : Int) = ((j : Int) + 1)) ∧ (kM [iD wk, iD wr, dl w wn, iD wz]) ∧ (kM [iD 0, iD 0, k9, iD 0]) ∧ (kM [iD y, iD (q8 wr (kB r rn)), dl u (ka0 u), iD (q8 wz (kB s sn))])) zk ⟨rfl, rfl, rfl, rfl, rfl, rfl, jY, rfl, rfl, rfl⟩ (show c - (j + 1) < c - j from jX)
  ·refine kL [.b false] (¬ ((j : Int) < (c : Int))) [(3, rV 1 0), (4, rV 2 0), (5, rV 3 0), (58, kI (kJ m) c), (59, uV c), (60, uV j), (61, bV false)] [(1, some (27, (vL wk wr w wn wz))), (2, some (27, y6)), (3, some (27, (nE y wr r rn u wz s sn)))] 4 zo ?_
   refine AW.seq ?_
   refine zf ?_
   refine AW.exit ?_
   refine kL [.no, .no] True [(4, rV 2 0)] [(2, some (27, (nE y wr r rn u wz s sn)))] 4 trivial ?_
   have hz1 : vS k wk 7 = y := by have h9 := hy; rw [show i = 7 by omega] at h9; exact h9
   have hz2 : dG w m c = u := by have h9 := hu; rw [show j = c by omega] at h9; exact h9
   refine AW.ret ?_
   exact kD (.inr rfl) [] (P := (((vS k wk 7) : Int) = y) ∧ (kO (q8 wr (kB r rn))) ∧ (((dI .i64 (dG w m c)) : List D) = (dI .i64 u)) ∧ (((ka0 (dG w m c)) : Nat) = (ka0 u)) ∧ (kO (q8 wz (kB s sn)))) zk ⟨(by first | rfl | exact hz1 | rw [hz2] | omega), rfl, (by first | rfl | rw [hz2]), (by first | rfl | exact hz1 | rw [hz2] | omega), rfl⟩
end Go.Proofs.YtcfmjpnffembpaaGreat
