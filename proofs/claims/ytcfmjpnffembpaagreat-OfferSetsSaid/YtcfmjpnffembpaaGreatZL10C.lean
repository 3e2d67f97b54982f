/- The best choice. No statement is proved here. -/
import Derived.Test.YtcfmjpnffembpaaGreatZL10B
namespace Go.Proofs.YtcfmjpnffembpaaGreat
open Go.ChangeShapes Go.WideShapes Go.ChangeAt Go.RowKit
open Bool renaming and_eq_true → kb7, eq_false_or_eq_true → ka6
open List renaming getD → ka1, length → ka0
open Nat renaming le_of_ble_eq_true → ka4
set_option linter.unusedVariables false
set_option linter.unusedSimpArgs false
/-! chapter 10: the best choice -/
set_option maxHeartbeats 4000000
set_option maxRecDepth 100000
theorem k0o (n : Int) : ∀ (s : List Sp) (o : Option Int), (∀ p ∈ s, eX p) → (∀ v, o = some v → 0 ≤ v ∧ v ≤ 2147483647) → ∀ v, nrP n s o = some v → 0 ≤ v ∧ v ≤ 2147483647
 | [], o, _, h => h
 | p :: s, o, hs, h => by
  have hp := hs p (List.mem_cons_self ..)
  have hc : 0 ≤ clP n p ∧ clP n p ≤ 2147483647 := by
   unfold eX at hp
   show 0 ≤ max p.1 (min p.2 n) ∧ max p.1 (min p.2 n) ≤ 2147483647
   omega
  refine k0o n s _ (fun q hq => hs q (List.mem_cons_of_mem _ hq)) ?_
  intro v hv
  cases o with
  | none => cases hv; exact hc
  | some u =>
   have hu := h u rfl
   dsimp only at hv
   split at hv
   ·cases hv; exact hc
   ·cases hv; exact hu
theorem c7 {z : Int} {l : List Int} {n : Nat} (hl : l.length = n * 2) : 0 ≤ uF z (kB l n) ∧ uF z (kB l n) ≤ 2147483647 := by
 unfold uF
 cases e : nrP z (qV (kB l n)) none with
 | none => exact ⟨Int.le_refl _, by decide⟩
 | some v => exact k0o z _ none (fB (aI hl)) (fun v h => by cases h) v e
def vR (b w : Int) : Nat → Int
 | 0 => 0
 | j + 1 => if xC b (j + 1) = true ∧ (vR b w j = 0 ∨ vQ w ((j : Int) + 1) (vR b w j) < 0) then (j : Int) + 1 else vR b w j
theorem k9b {b w : Int} {j : Nat} {y x : Int} (h : vR b w j = y) (h1 : xC b (j + 1) = true) (h2 : y = 0 ∨ vQ w ((j : Int) + 1) y < 0) (hx : x = (j : Int) + 1) : vR b w (j + 1) = x := by
 subst h; rw [hx]; exact if_pos ⟨h1, h2⟩
theorem u6g {b w : Int} {j : Nat} {y : Int} (h : vR b w j = y) (h1 : xC b (j + 1) = false) : vR b w (j + 1) = y := by
 rw [← h]; exact if_neg fun e => by rw [h1] at e; cases e.1
theorem u6f {b w : Int} {j : Nat} {y : Int} (h : vR b w j = y) (h2 : ¬ y = 0) (h3 : ¬ vQ w ((j : Int) + 1) y < 0) : vR b w (j + 1) = y := by
 subst h; exact if_neg fun e => e.2.elim h2 h3
theorem jX (b w : Int) : ∀ j, 0 ≤ vR b w j ∧ vR b w j ≤ j
 | 0 => ⟨Int.le_refl _, Int.le_refl _⟩
 | j + 1 => by
  have := jX b w j
  rw [vR]; split <;> omega
def dC (w : List Int) (ms : List (List Int)) : Nat → List Int
 | 0 => []
 | j + 1 => if j = 0 ∨ yY w (ka1 ms j []) (dC w ms j) < 0 then ka1 ms j [] else dC w ms j
theorem u6e {w : List Int} {ms : List (List Int)} {x : List Int} (hx : x = ka1 ms 0 []) : dC w ms 1 = x := by
 rw [hx]; exact if_pos (.inl rfl)
theorem u6c {w : List Int} {ms : List (List Int)} {j : Nat} {u x : List Int} (h : dC w ms j = u) (h2 : yY w (ka1 ms j []) u < 0) (hx : x = ka1 ms j []) : dC w ms (j + 1) = x := by
 subst h; rw [hx]; exact if_pos (.inr h2)
theorem u6d {w : List Int} {ms : List (List Int)} {j : Nat} {u : List Int} (h : dC w ms j = u) (h1 : ¬ j = 0) (h2 : ¬ yY w (ka1 ms j []) u < 0) : dC w ms (j + 1) = u := by
 subst h; exact if_neg fun e => e.elim h1 h2
theorem z4 {w : List Int} {ms : List (List Int)} (h : MsW ms) : ∀ j, ka0 (dC w ms j) ≤ 1000000
 | 0 => Nat.zero_le _
 | j + 1 => by
  rw [dC]; split
  ·exact h.at j
  ·exact z4 h j
theorem g6 {xs : List Bx} {i : Nat} (h : i < ka0 (kH xs)) : 1 ≤ ka0 (kY (kH xs) i) := by
 cases e : aJ xs with
 | false => rw [k6l e] at h; exact absurd h (Nat.not_lt_zero _)
 | true =>
  rw [k19 e] at h ⊢
  have h1 := (of_decide_eq_true e).2 i h
  unfold vbE dK at h1
  rw [kb7, kb7, kb7] at h1
  exact (of_decide_eq_true h1.2.2.1).1
theorem sX (b : Int) (q : Nat) (hq : q ≤ 64) : Fun 97 [iE b, iE ((q : Nat) : Int)] (kE []) 0 (qS (D.lit (.bool (xC b q)))) (kE []) 0 := by
 refine Fun.mk (n := 18) Tryz.func97 rfl rfl (ka4 rfl) ?_
 intro cx hcx
 refine kI [.no] True [(0, iV b), (1, uV q)] [] 0 trivial ?_
 by_cases hx1 : ((1 : Int) ≤ ((q : Nat) : Int))
 ·by_cases hx2 : (((q : Nat) : Int) ≤ 7)
  ·by_cases hx3 : ((cG (b / (((2 ^ q) : Nat) : Int))) = 1)
   ·refine kN (.no :: .b true :: .no :: .no :: .b true :: kT 4 [.n q, .i (cG (b / (((2 ^ q) : Nat) : Int))), .b true, .no, .no]) ((((1 : Int) ≤ (q : Int))) ∧ (((q : Int) ≤ 7)) ∧ (kM (q : Int)) ∧ (q ≤ 64) ∧ (qI .and .i64 (b / (((2 ^ q) : Nat) : Int)) 1 = (cG (b / (((2 ^ q) : Nat) : Int)))) ∧ (((cG (b / (((2 ^ q) : Nat) : Int))) = 1))) [(4, bV true)] ⟨zo, zo, rfl, zo, rfl, zo⟩ ?_
    refine AW.ret ?_
    exact kC (.inr rfl) [] (P := ((xC b q) = true)) zk (by exact decide_eq_true ⟨by omega, by omega, by assumption⟩)
   ·refine kN (.no :: .b true :: .no :: .no :: .b true :: kT 4 [.n q, .i (cG (b / (((2 ^ q) : Nat) : Int))), .b false, .no, .no]) ((((1 : Int) ≤ (q : Int))) ∧ (((q : Int) ≤ 7)) ∧ (kM (q : Int)) ∧ (q ≤ 64) ∧ (qI .and .i64 (b / (((2 ^ q) : Nat) : Int)) 1 = (cG (b / (((2 ^ q) : Nat) : Int)))) ∧ (¬ ((cG (b / (((2 ^ q) : Nat) : Int))) = 1))) [(4, bV false)] ⟨zo, zo, rfl, zo, rfl, zo⟩ ?_
    refine AW.ret ?_
    exact kC (.inr rfl) [] (P := ((xC b q) = false)) zk (by exact decide_eq_false (fun e9 => by omega))
  ·refine kN [.no, .b true, .no, .no, .b false, .no, .no, .no, .no] ((((1 : Int) ≤ (q : Int))) ∧ (¬ ((q : Int) ≤ 7))) [(4, bV false)] ⟨zo, zo⟩ ?_
   refine AW.ret ?_
   exact kC (.inr rfl) [] (P := ((xC b q) = false)) zk (by exact decide_eq_false (fun e9 => by omega))
 ·refine kN (.no :: .b false :: kT 5 []) (¬ ((1 : Int) ≤ (q : Int))) [(4, bV false)] zo ?_
  refine AW.ret ?_
  exact kC (.inr rfl) [] (P := ((xC b q) = false)) zk (by exact decide_eq_false (fun e9 => by omega))
@[reducible] def qW (x : List Bx) : E1 := (.c (.d (D.sl (kP x) (ka0 x))))
theorem sW (bs : List Bx) (n : Nat) (hn : ka0 bs = n) (h1 : n ≤ 1000000) (hW : BsW bs) : Fun 52 [.c (.d (D.sl (kP bs) n))] (kE []) 0 (.e (qW (kH bs))) (kE []) 0 := by
 refine Fun.mk (n := 7) Tryz.func52 rfl rfl (ka4 rfl) ?_
 intro cx hcx
 refine kI [.no] True [(0, .e (kQ bs n))] [] 0 trivial ?_
 refine AW.seq ?_
 rcases ka6 (aJ bs) with hx1 | hx1
 ·refine kN [.no, .call [] (bV true) [] 0 [] none, .no] (Fun 19 [.c (.d (D.sl (kP bs) n))] (kE []) 0 (bV true) (kE []) 0) [(0, .e (kQ bs n)), (5, bV false)] (by have h0 := (vJ bs n zo zo (kZ : BsW bs)); rw [hx1] at h0; exact h0) ?_
  refine q8 ?_
  refine kN [.no, .no] True [(2, .e (kQ bs n))] trivial ?_
  have hz1 : kH bs = bs := k19 hx1
  have hz2 : ka0 (kH bs) = n := by rw [hz1]; first | rfl | omega
  refine AW.ret ?_
  exact kC (.inr rfl) [] (P := (((kP (kH bs)) : List D) = (kP bs)) ∧ (((ka0 (kH bs)) : Nat) = n)) zk ⟨(by (rw [hz1]; done)), zo⟩
 ·refine kN [.no, .call [] (bV false) [] 0 [] none, .no] (Fun 19 [.c (.d (D.sl (kP bs) n))] (kE []) 0 (bV false) (kE []) 0) [(0, .e (kQ bs n)), (5, bV true)] (by have h0 := (vJ bs n zo zo (kZ : BsW bs)); rw [hx1] at h0; exact h0) ?_
  refine zt ?_
  refine kN [.no] True [(2, nV)] trivial ?_
  have hz1 : kH bs = [] := k6l hx1
  have hz2 : ka0 (kH bs) = 0 := by rw [hz1]; first | rfl | omega
  refine yV (l' := [(2, qJ ([] : List D) 0)]) (g' := []) (NlS.cons rfl (.e (.c .nil)) NlS.nil) NlG.nil ?_
  refine AW.ret ?_
  exact kC (.inr rfl) [] (P := (((kP (kH bs)) : List D) = ([] : List D)) ∧ (((ka0 (kH bs)) : Nat) = 0)) zk ⟨(by (rw [hz1]; rfl)), zo⟩
abbrev vF : BC := .ds [iD 0, iD 0, D.lit (.slice none 0 0), iD 0]
abbrev vN (wk : Int) (wr : Int) (w : List Int) (wn : Nat) (wz : Int) : BC := .ds [iD wk, iD wr, D.sl (dI .i64 w) wn, iD wz]
abbrev c5 (k : Int) (r : List Int) (rn : Nat) (m : List (List Int)) (c : Nat) (s : List Int) (sn : Nat) : BC := .ds [iD k, D.sl (dI .i64 r) rn, D.sl (kL m) c, D.sl (dI .i64 s) sn]
abbrev mG (y : Int) (wr : Int) (r : List Int) (rn : Nat) (u : List Int) (wz : Int) (s : List Int) (sn : Nat) : BC := .ds [iD y, iD (uF wr (kB r rn)), D.sl (dI .i64 u) (ka0 u), iD (uF wz (kB s sn))]
abbrev pV (y : Int) : BC := .ds [iD y, iD 0, D.lit (.slice none 0 0), iD 0]
theorem k7g (k : Int) (r : List Int) (rn : Nat) (m : List (List Int)) (c : Nat) (s : List Int) (sn : Nat) (wk wr : Int) (w : List Int) (wn : Nat) (wz : Int) (hr : ka0 r = rn * 2) (hs : ka0 s = sn * 2) (hc : ka0 m = c) (h1 : rn ≤ 1000000) (h2 : sn ≤ 1000000) (h3 : c ≤ 1000000) (h4 : 1 ≤ c) (hW : MsW m) (hw : ka0 w = wn) (h5 : wn ≤ 1000000) (hwr : -9223372036854775808 ≤ wr ∧ wr ≤ 9223372036854775807) (hwz : -9223372036854775808 ≤ wz ∧ wz ≤ 9223372036854775807) : Fun 61 [.agg [iC k, .d (D.sl (dI .i64 r) rn), .d (D.sl (kL m) c), .d (D.sl (dI .i64 s) sn)], .agg [iC wk, iC wr, .d (D.sl (dI .i64 w) wn), iC wz]] (kE []) 0 (.e (.agg [iC (vR k wk 7), iC (uF wr (kB r rn)), .d (D.sl (dI .i64 (dC w m c)) (ka0 (dC w m c))), iC (uF wz (kB s sn))])) (kE []) 0 := by
 refine Fun.mk (n := 83) Tryz.func61 rfl rfl (ka4 rfl) ?_
 intro cx hcx
 refine kI [.no, .no, .no] True [(2, rV 0 0), (3, rV 1 0), (4, rV 2 0)] [(0, some (59, (c5 k r rn m c s sn))), (1, some (27, (vN wk wr w wn wz))), (2, some (27, vF))] 3 trivial ?_
 refine kI [.no] True [(2, rV 0 0), (3, rV 1 0), (4, rV 2 0), (5, rV 3 0)] [(0, some (59, (c5 k r rn m c s sn))), (1, some (27, (vN wk wr w wn wz))), (2, some (27, vF)), (3, some (27, vF))] 4 trivial ?_
 refine AW.seq ?_
 refine kN [.no] True [(2, rV 0 0), (3, rV 1 0), (4, rV 2 0), (5, rV 3 0), (6, iV 1)] trivial ?_
 refine AW.block ?_
 refine kU 0 hcx (fun (x : {x : Nat × Int // match x with | (i, y) => (i ≤ 7 ∧ 0 ≤ y ∧ y ≤ 7) ∧ (vR k wk i = y)}) => match x with | ⟨(i, y), _⟩ => (⟨[(2, rV 0 0), (3, rV 1 0), (4, rV 2 0), (5, rV 3 0), (6, iV ((i : Int) + 1))], [(0, some (59, (c5 k r rn m c s sn))), (1, some (27, (vN wk wr w wn wz))), (2, some (27, vF)), (3, some (27, (pV y)))], 4⟩ : ES)) (fun x => match x with | ⟨(i, y), _⟩ => 7 - i) ⟨((0 : Nat), (0 : Int)), ⟨zo, rfl⟩⟩ [] (P := (kG 0) ∧ (kG 0) ∧ (kG 0) ∧ (kG 0) ∧ (kM 1) ∧ (kJ [iD k, dl r rn, D.sl (kL m) c, dl s sn]) ∧ (kJ [iD wk, iD wr, dl w wn, iD wz]) ∧ (kJ [iD 0, iD 0, qR, iD 0]) ∧ (kJ [iD 0, iD 0, qR, iD 0])) zk ⟨rfl, rfl, rfl, rfl, rfl, rfl, rfl, rfl, rfl⟩ ?_
 rintro ⟨⟨i, y⟩, hinv0⟩
 obtain ⟨hi, hy⟩ : (i ≤ 7 ∧ 0 ≤ y ∧ y ≤ 7) ∧ (vR k wk i = y) := hinv0
 refine qN (l := [(2, rV 0 0), (3, rV 1 0), (4, rV 2 0), (5, rV 3 0), (6, iV ((i : Int) + 1))]) (g := [(0, some (59, (c5 k r rn m c s sn))), (1, some (27, (vN wk wr w wn wz))), (2, some (27, vF)), (3, some (27, (pV y)))]) (nx := 4) rfl rfl rfl ?_
 refine AW.seq ?_
 by_cases hx1 : ((((i : Nat) : Int) + 1) ≤ 7)
 ·refine kI [.no, .b true] ((((i : Int) + 1) ≤ 7)) [(2, rV 0 0), (3, rV 1 0), (4, rV 2 0), (5, rV 3 0), (6, iV (↑i + 1)), (10, bV true)] [(0, some (59, (c5 k r rn m c s sn))), (1, some (27, (vN wk wr w wn wz))), (2, some (27, vF)), (3, some (27, (pV y)))] 4 zo ?_
  refine yW ?_
  refine AW.seq ?_
  refine AW.block ?_
  rcases ka6 (xC k (i + 1)) with hx2 | hx2
  ·by_cases hx3 : (y = 0)
   ·refine kN (.no :: .no :: .no :: .call [] (bV true) [] 0 [] none :: kT 4 [.b true, .no, .no, .no]) ((Fun 97 [iE k, iE ((i : Int) + 1)] (kE []) 0 (bV true) (kE []) 0) ∧ ((y = 0))) [(2, rV 0 0), (3, rV 1 0), (4, rV 2 0), (5, rV 3 0), (6, iV (↑i + 1)), (33, bV true)] ⟨(by have h0 := (sX k (i + 1) zo); rw [hx2] at h0; exact h0), zo⟩ ?_
    refine zt ?_
    refine aD (kT 4 []) True [(2, rV 0 0), (3, rV 1 0), (4, rV 2 0), (5, rV 3 0), (6, iV (↑i + 1))] [(0, some (59, (c5 k r rn m c s sn))), (1, some (27, (vN wk wr w wn wz))), (2, some (27, vF)), (3, some (27, .ds [iD (↑i + 1), iD 0, qR, iD 0]))] 4 trivial ?_
    refine uJ [.no, .w, .no] (uZ (((i : Int) + 1) + 1)) [(2, rV 0 0), (3, rV 1 0), (4, rV 2 0), (5, rV 3 0), (6, iV ((↑i + 1) + 1))] ⟨by omega, by omega⟩ ?_
    exact kX ⟨(((i + 1) : Nat), (((i : Int) + 1) : Int)), ⟨zo, (by exact k9b hy (by assumption) zo rfl)⟩⟩ [] (P := (kG 0) ∧ (kG 0) ∧ (kG 0) ∧ (kG 0) ∧ ((((((i + 1) : Nat) : Int) + 1) : Int) = (((i : Int) + 1) + 1)) ∧ (kJ [iD k, dl r rn, D.sl (kL m) c, dl s sn]) ∧ (kJ [iD wk, iD wr, dl w wn, iD wz]) ∧ (kJ [iD 0, iD 0, qR, iD 0]) ∧ (kJ [iD ((i : Int) + 1), iD 0, qR, iD 0])) zk ⟨rfl, rfl, rfl, rfl, (by rfl), rfl, rfl, rfl, rfl⟩ (show 7 - (i + 1) < 7 - i from zo)
   ·by_cases hx5 : ((vQ wk (((i : Nat) : Int) + 1) y) < 0)
    ·have hx6 : ((((-1) : Int) ≤ (vQ wk (((i : Nat) : Int) + 1) y)) ∧ ((vQ wk (((i : Nat) : Int) + 1) y) ≤ 1)) := cT wk (((i : Nat) : Int) + 1) y
     refine kN (.no :: .no :: .no :: .call [] (bV true) [] 0 [] none :: kT 4 (.b false :: kT 8 [.call [] (iV (vQ wk ((i : Int) + 1) y)) [] 0 [] none, .b true, .no, .no])) ((Fun 97 [iE k, iE ((i : Int) + 1)] (kE []) 0 (bV true) (kE []) 0) ∧ (¬ (y = 0)) ∧ (_) ∧ (((vQ wk ((i : Int) + 1) y) < 0))) [(2, rV 0 0), (3, rV 1 0), (4, rV 2 0), (5, rV 3 0), (6, iV (↑i + 1)), (33, bV true)] ⟨(by have h0 := (sX k (i + 1) zo); rw [hx2] at h0; exact h0), zo, (nC wk ((i : Int) + 1) y), zo⟩ ?_
     refine zt ?_
     refine aD (kT 4 []) True [(2, rV 0 0), (3, rV 1 0), (4, rV 2 0), (5, rV 3 0), (6, iV (↑i + 1))] [(0, some (59, (c5 k r rn m c s sn))), (1, some (27, (vN wk wr w wn wz))), (2, some (27, vF)), (3, some (27, .ds [iD (↑i + 1), iD 0, qR, iD 0]))] 4 trivial ?_
     refine uJ [.no, .w, .no] (uZ (((i : Int) + 1) + 1)) [(2, rV 0 0), (3, rV 1 0), (4, rV 2 0), (5, rV 3 0), (6, iV ((↑i + 1) + 1))] ⟨by omega, by omega⟩ ?_
     exact kX ⟨(((i + 1) : Nat), (((i : Int) + 1) : Int)), ⟨zo, (by exact k9b hy (by assumption) zo rfl)⟩⟩ [] (P := (kG 0) ∧ (kG 0) ∧ (kG 0) ∧ (kG 0) ∧ ((((((i + 1) : Nat) : Int) + 1) : Int) = (((i : Int) + 1) + 1)) ∧ (kJ [iD k, dl r rn, D.sl (kL m) c, dl s sn]) ∧ (kJ [iD wk, iD wr, dl w wn, iD wz]) ∧ (kJ [iD 0, iD 0, qR, iD 0]) ∧ (kJ [iD ((i : Int) + 1), iD 0, qR, iD 0])) zk ⟨rfl, rfl, rfl, rfl, (by rfl), rfl, rfl, rfl, rfl⟩ (show 7 - (i + 1) < 7 - i from zo)
    ·have hx7 : ((((-1) : Int) ≤ (vQ wk (((i : Nat) : Int) + 1) y)) ∧ ((vQ wk (((i : Nat) : Int) + 1) y) ≤ 1)) := cT wk (((i : Nat) : Int) + 1) y
     refine kN (.no :: .no :: .no :: .call [] (bV true) [] 0 [] none :: kT 4 (.b false :: kT 8 [.call [] (iV (vQ wk ((i : Int) + 1) y)) [] 0 [] none, .b false, .no, .no])) ((Fun 97 [iE k, iE ((i : Int) + 1)] (kE []) 0 (bV true) (kE []) 0) ∧ (¬ (y = 0)) ∧ (_) ∧ (¬ ((vQ wk ((i : Int) + 1) y) < 0))) [(2, rV 0 0), (3, rV 1 0), (4, rV 2 0), (5, rV 3 0), (6, iV (↑i + 1)), (33, bV false)] ⟨(by have h0 := (sX k (i + 1) zo); rw [hx2] at h0; exact h0), zo, (nC wk ((i : Int) + 1) y), zo⟩ ?_
     refine q8 ?_
     refine uJ [.no, .w, .no] (uZ (((i : Int) + 1) + 1)) [(2, rV 0 0), (3, rV 1 0), (4, rV 2 0), (5, rV 3 0), (6, iV ((↑i + 1) + 1))] ⟨by omega, by omega⟩ ?_
     exact kX ⟨(((i + 1) : Nat), (y : Int)), ⟨zo, (by exact u6f hy zo zo)⟩⟩ [] (P := (kG 0) ∧ (kG 0) ∧ (kG 0) ∧ (kG 0) ∧ ((((((i + 1) : Nat) : Int) + 1) : Int) = (((i : Int) + 1) + 1)) ∧ (kJ [iD k, dl r rn, D.sl (kL m) c, dl s sn]) ∧ (kJ [iD wk, iD wr, dl w wn, iD wz]) ∧ (kJ [iD 0, iD 0, qR, iD 0]) ∧ (kJ [iD y, iD 0, qR, iD 0])) zk ⟨rfl, rfl, rfl, rfl, (by rfl), rfl, rfl, rfl, rfl⟩ (show 7 - (i + 1) < 7 - i from zo)
  ·refine kN [.no, .no, .no, .call [] (bV false) [] 0 [] none, .no, .no] (Fun 97 [iE k, iE ((i : Int) + 1)] (kE []) 0 (bV false) (kE []) 0) [(2, rV 0 0), (3, rV 1 0), (4, rV 2 0), (5, rV 3 0), (6, iV (↑i + 1)), (33, bV false)] (by have h0 := (sX k (i + 1) zo); rw [hx2] at h0; exact h0) ?_
   refine q8 ?_
   refine uJ [.no, .w, .no] (uZ (((i : Int) + 1) + 1)) [(2, rV 0 0), (3, rV 1 0), (4, rV 2 0), (5, rV 3 0), (6, iV ((↑i + 1) + 1))] ⟨by omega, by omega⟩ ?_
   exact kX ⟨(((i + 1) : Nat), (y : Int)), ⟨zo, (by exact u6g hy (by assumption))⟩⟩ [] (P := (kG 0) ∧ (kG 0) ∧ (kG 0) ∧ (kG 0) ∧ ((((((i + 1) : Nat) : Int) + 1) : Int) = (((i : Int) + 1) + 1)) ∧ (kJ [iD k, dl r rn, D.sl (kL m) c, dl s sn]) ∧ (kJ [iD wk, iD wr, dl w wn, iD wz]) ∧ (kJ [iD 0, iD 0, qR, iD 0]) ∧ (kJ [iD y, iD 0, qR, iD 0])) zk ⟨rfl, rfl, rfl, rfl, (by rfl), rfl, rfl, rfl, rfl⟩ (show 7 - (i + 1) < 7 - i from zo)
 ·refine kI [.no, .b false] (¬ (((i : Int) + 1) ≤ 7)) [(2, rV 0 0), (3, rV 1 0), (4, rV 2 0), (5, rV 3 0), (6, iV (↑i + 1)), (10, bV false)] [(0, some (59, (c5 k r rn m c s sn))), (1, some (27, (vN wk wr w wn wz))), (2, some (27, vF)), (3, some (27, (pV y)))] 4 zo ?_
  refine zf ?_
  refine AW.exit ?_
  refine kI (kT 5 (.call [] (.tup [iE (uF wr (kB r rn)), .c (.d (D.lit (.bool (nrF wr (kB r rn)))))]) [] 0 [] none :: kT 6 [])) _ [(2, rV 0 0), (3, rV 1 0), (4, rV 2 0), (5, rV 3 0)] [(0, some (59, (c5 k r rn m c s sn))), (1, some (27, (vN wk wr w wn wz))), (2, some (27, vF)), (3, some (27, .ds [iD y, iD (uF wr (kB r rn)), qR, iD 0]))] 4 (k1h r rn wr zo zo zo) ?_
  refine kI (kT 4 (.call [] (.tup [iE (uF wz (kB s sn)), .c (.d (D.lit (.bool (nrF wz (kB s sn)))))]) [] 0 [] none :: kT 5 [])) _ [(2, rV 0 0), (3, rV 1 0), (4, rV 2 0), (5, rV 3 0)] [(0, some (59, (c5 k r rn m c s sn))), (1, some (27, (vN wk wr w wn wz))), (2, some (27, vF)), (3, some (27, .ds [iD y, iD (uF wr (kB r rn)), qR, iD (uF wz (kB s sn))]))] 4 (k1h s sn wz zo zo zo) ?_
  refine AW.seq ?_
  refine kI (kT 4 []) True [(3, rV 1 0), (4, rV 2 0), (5, rV 3 0), (58, qJ (kL m) c), (59, uV c), (60, iV 0)] [(1, some (27, (vN wk wr w wn wz))), (2, some (27, vF)), (3, some (27, .ds [iD y, iD (uF wr (kB r rn)), qR, iD (uF wz (kB s sn))]))] 4 trivial ?_
  refine AW.block ?_
  refine sZ 1 ?_
  refine AWp.s ?_
  refine kI [.b true] (((0 : Int) < (c : Int))) [(3, rV 1 0), (4, rV 2 0), (5, rV 3 0), (58, qJ (kL m) c), (59, uV c), (60, iV 0), (61, bV true)] [(1, some (27, (vN wk wr w wn wz))), (2, some (27, vF)), (3, some (27, .ds [iD y, iD (uF wr (kB r rn)), qR, iD (uF wz (kB s sn))]))] 4 zo ?_
  refine AW.seq ?_
  refine yW ?_
  refine AW.seq ?_
  refine AW.block ?_
  have hx8 : ((ka0 (ka1 m 0 ([] : List Int))) ≤ 1000000) := MsW.at (kZ : MsW m) _
  refine kN [.no, .n 0, .d (dl (ka1 m 0 ([] : List Int)) (ka0 (ka1 m 0 ([] : List Int)))), .no, .no] ((kM 0) ∧ ((0 : Nat) < c) ∧ ((List.drop 0 (kL m))[0]? = some (dl (ka1 m 0 ([] : List Int)) (ka0 (ka1 m 0 ([] : List Int)))))) [(3, rV 1 0), (4, rV 2 0), (5, rV 3 0), (7, iV 0), (8, sV .i64 (ka1 m 0 ([] : List Int)) (ka0 (ka1 m 0 ([] : List Int)))), (58, qJ (kL m) c), (59, uV c), (60, iV 0)] ⟨rfl, zo, (yE _ _ zo)⟩ ?_
  refine kN [.no, .b true, .no, .no] ((kM 0)) [(3, rV 1 0), (4, rV 2 0), (5, rV 3 0), (8, sV .i64 (ka1 m 0 ([] : List Int)) (ka0 (ka1 m 0 ([] : List Int)))), (58, qJ (kL m) c), (59, uV c), (60, iV 0), (77, bV true)] zo ?_
  refine zt ?_
  refine aD (kT 4 []) True [(3, rV 1 0), (4, rV 2 0), (5, rV 3 0), (58, qJ (kL m) c), (59, uV c), (60, iV 0)] [(1, some (27, (vN wk wr w wn wz))), (2, some (27, vF)), (3, some (27, .ds [iD y, iD (uF wr (kB r rn)), dl (ka1 m 0 ([] : List Int)) (ka0 (ka1 m 0 ([] : List Int))), iD (uF wz (kB s sn))]))] 4 trivial ?_
  refine uJ [.w, .no] (uZ (1 : Int)) [(3, rV 1 0), (4, rV 2 0), (5, rV 3 0), (58, qJ (kL m) c), (59, uV c), (60, iV 1)] ⟨by omega, by omega⟩ ?_
  refine AWp.z ?_
  refine kU 0 hcx (fun (x : {x : Nat × List Int // match x with | (j, u) => (1 ≤ j ∧ j ≤ c) ∧ (dC w m j = u) ∧ (ka0 u ≤ 1000000)}) => match x with | ⟨(j, u), _⟩ => (⟨[(3, rV 1 0), (4, rV 2 0), (5, rV 3 0), (58, qJ (kL m) c), (59, uV c), (60, uV j)], [(1, some (27, (vN wk wr w wn wz))), (2, some (27, vF)), (3, some (27, (mG y wr r rn u wz s sn)))], 4⟩ : ES)) (fun x => match x with | ⟨(j, u), _⟩ => c - j) ⟨((1 : Nat), ((ka1 m 0 ([] : List Int)) : List Int)), ⟨zo, (u6e rfl), zo⟩⟩ [] (P := (kG 0) ∧ (kG 0) ∧ (kG 0) ∧ (kJ (kL m)) ∧ (kG c) ∧ (kM (c : Int)) ∧ (kM 1) ∧ (kJ [iD wk, iD wr, dl w wn, iD wz]) ∧ (kJ [iD 0, iD 0, qR, iD 0]) ∧ (kJ [iD y, iD (uF wr (kB r rn)), dl (ka1 m 0 ([] : List Int)) (ka0 (ka1 m 0 ([] : List Int))), iD (uF wz (kB s sn))])) zk ⟨rfl, rfl, rfl, rfl, rfl, rfl, rfl, rfl, rfl, rfl⟩ ?_
  rintro ⟨⟨j, u⟩, hinv1⟩
  obtain ⟨hj, hu, hul⟩ : (1 ≤ j ∧ j ≤ c) ∧ (dC w m j = u) ∧ (ka0 u ≤ 1000000) := hinv1
  refine qN (l := [(3, rV 1 0), (4, rV 2 0), (5, rV 3 0), (58, qJ (kL m) c), (59, uV c), (60, uV j)]) (g := [(1, some (27, (vN wk wr w wn wz))), (2, some (27, vF)), (3, some (27, (mG y wr r rn u wz s sn)))]) (nx := 4) rfl rfl rfl ?_
  by_cases hx9 : (((j : Nat) : Int) < ((c : Nat) : Int))
  ·refine kI [.b true] (((j : Int) < (c : Int))) [(3, rV 1 0), (4, rV 2 0), (5, rV 3 0), (58, qJ (kL m) c), (59, uV c), (60, uV j), (61, bV true)] [(1, some (27, (vN wk wr w wn wz))), (2, some (27, vF)), (3, some (27, (mG y wr r rn u wz s sn)))] 4 zo ?_
   refine AW.seq ?_
   refine yW ?_
   refine AW.seq ?_
   refine AW.block ?_
   have hx10 : ((ka0 (ka1 m j ([] : List Int))) ≤ 1000000) := MsW.at (kZ : MsW m) _
   refine kN [.no, .n j, .d (dl (ka1 m j ([] : List Int)) (ka0 (ka1 m j ([] : List Int)))), .no, .no] ((kM (j : Int)) ∧ (j < c) ∧ ((List.drop j (kL m))[0]? = some (dl (ka1 m j ([] : List Int)) (ka0 (ka1 m j ([] : List Int)))))) [(3, rV 1 0), (4, rV 2 0), (5, rV 3 0), (7, uV j), (8, sV .i64 (ka1 m j ([] : List Int)) (ka0 (ka1 m j ([] : List Int)))), (58, qJ (kL m) c), (59, uV c), (60, uV j)] ⟨rfl, zo, (yE _ _ zo)⟩ ?_
   by_cases hx12 : ((yY w (ka1 m j ([] : List Int)) u) < 0)
   ·have hx13 : ((((-1) : Int) ≤ (yY w (ka1 m j ([] : List Int)) u)) ∧ ((yY w (ka1 m j ([] : List Int)) u) ≤ 1)) := b9 w (ka1 m j ([] : List Int)) u
    refine kN (.no :: .b false :: kT 8 [.call [] (iV (yY w (ka1 m j ([] : List Int)) u)) [] 0 [] none, .b true, .no]) ((¬ ((j : Int) = 0)) ∧ (_) ∧ (((yY w (ka1 m j ([] : List Int)) u) < 0))) [(3, rV 1 0), (4, rV 2 0), (5, rV 3 0), (8, sV .i64 (ka1 m j ([] : List Int)) (ka0 (ka1 m j ([] : List Int)))), (58, qJ (kL m) c), (59, uV c), (60, uV j), (77, bV true)] ⟨zo, (sL w (ka1 m j ([] : List Int)) u wn (ka0 (ka1 m j ([] : List Int))) (ka0 u) zo rfl rfl zo zo zo), zo⟩ ?_
    refine zt ?_
    refine aD (kT 4 []) True [(3, rV 1 0), (4, rV 2 0), (5, rV 3 0), (58, qJ (kL m) c), (59, uV c), (60, uV j)] [(1, some (27, (vN wk wr w wn wz))), (2, some (27, vF)), (3, some (27, .ds [iD y, iD (uF wr (kB r rn)), dl (ka1 m j ([] : List Int)) (ka0 (ka1 m j ([] : List Int))), iD (uF wz (kB s sn))]))] 4 trivial ?_
    refine uJ [.w, .no] (uZ ((j : Int) + 1)) [(3, rV 1 0), (4, rV 2 0), (5, rV 3 0), (58, qJ (kL m) c), (59, uV c), (60, iV (↑j + 1))] ⟨by omega, by omega⟩ ?_
    exact kX ⟨(((j + 1) : Nat), ((ka1 m j ([] : List Int)) : List Int)), ⟨zo, (by exact u6c hu zo rfl), zo⟩⟩ [] (P := (kG 0) ∧ (kG 0) ∧ (kG 0) ∧ (kJ (kL m)) ∧ (kG c) ∧ (kM (c : Int)) ∧ (vX j) ∧ (kJ [iD wk, iD wr, dl w wn, iD wz]) ∧ (kJ [iD 0, iD 0, qR, iD 0]) ∧ (kJ [iD y, iD (uF wr (kB r rn)), dl (ka1 m j ([] : List Int)) (ka0 (ka1 m j ([] : List Int))), iD (uF wz (kB s sn))])) zk ⟨rfl, rfl, rfl, rfl, rfl, rfl, (by rfl), rfl, rfl, rfl⟩ (show c - (j + 1) < c - j from zo)
   ·have hx14 : ((((-1) : Int) ≤ (yY w (ka1 m j ([] : List Int)) u)) ∧ ((yY w (ka1 m j ([] : List Int)) u) ≤ 1)) := b9 w (ka1 m j ([] : List Int)) u
    refine kN (.no :: .b false :: kT 8 [.call [] (iV (yY w (ka1 m j ([] : List Int)) u)) [] 0 [] none, .b false, .no]) ((¬ ((j : Int) = 0)) ∧ (_) ∧ (¬ ((yY w (ka1 m j ([] : List Int)) u) < 0))) [(3, rV 1 0), (4, rV 2 0), (5, rV 3 0), (8, sV .i64 (ka1 m j ([] : List Int)) (ka0 (ka1 m j ([] : List Int)))), (58, qJ (kL m) c), (59, uV c), (60, uV j), (77, bV false)] ⟨zo, (sL w (ka1 m j ([] : List Int)) u wn (ka0 (ka1 m j ([] : List Int))) (ka0 u) zo rfl rfl zo zo zo), zo⟩ ?_
    refine q8 ?_
    refine uJ [.w, .no] (uZ ((j : Int) + 1)) [(3, rV 1 0), (4, rV 2 0), (5, rV 3 0), (58, qJ (kL m) c), (59, uV c), (60, iV (↑j + 1))] ⟨by omega, by omega⟩ ?_
    exact kX ⟨(((j + 1) : Nat), (u : List Int)), ⟨zo, (by exact u6d hu zo zo), zo⟩⟩ [] (P := (kG 0) ∧ (kG 0) ∧ (kG 0) ∧ (kJ (kL m)) ∧ (kG c) ∧ (kM (c : Int)) ∧ (vX j) ∧ (kJ [iD wk, iD wr, dl w wn, iD wz]) ∧ (kJ [iD 0, iD 0, qR, iD 0]) ∧ (kJ [iD y, iD (uF wr (kB r rn)), dl u (ka0 u), iD (uF wz (kB s sn))])) zk ⟨rfl, rfl, rfl, rfl, rfl, rfl, (by rfl), rfl, rfl, rfl⟩ (show c - (j + 1) < c - j from zo)
  ·refine kI [.b false] (¬ ((j : Int) < (c : Int))) [(3, rV 1 0), (4, rV 2 0), (5, rV 3 0), (58, qJ (kL m) c), (59, uV c), (60, uV j), (61, bV false)] [(1, some (27, (vN wk wr w wn wz))), (2, some (27, vF)), (3, some (27, (mG y wr r rn u wz s sn)))] 4 zo ?_
   refine AW.seq ?_
   refine zf ?_
   refine AW.exit ?_
   refine kI [.no, .no] True [(4, rV 2 0)] [(2, some (27, (mG y wr r rn u wz s sn)))] 4 trivial ?_
   have hz1 : vR k wk 7 = y := by have h9 := hy; rw [show i = 7 by omega] at h9; exact h9
   have hz2 : dC w m c = u := by have h9 := hu; rw [show j = c by omega] at h9; exact h9
   refine AW.ret ?_
   exact kC (.inr rfl) [] (P := (((vR k wk 7) : Int) = y) ∧ (kM (uF wr (kB r rn))) ∧ (((dI .i64 (dC w m c)) : List D) = (dI .i64 u)) ∧ (((ka0 (dC w m c)) : Nat) = (ka0 u)) ∧ (kM (uF wz (kB s sn)))) zk ⟨(by exact hz1), rfl, (by rw [hz2]), (by rw [hz2]), rfl⟩
end Go.Proofs.YtcfmjpnffembpaaGreat
