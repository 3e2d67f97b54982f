/- The best choice. No statement is proved here. -/
import Derived.Test.YtcfmjpnffembpaaGreatZL10B
namespace Go.Proofs.YtcfmjpnffembpaaGreat
open Go.ChangeShapes Go.WideShapes Go.ChangeAt Go.RowKit
open Bool renaming and_eq_true → kb6, eq_false_or_eq_true → ka9
open List renaming getD → ka1, length → ka0, length_append → ka6, length_cons → kb0, length_drop → kb3, length_nil → kb1, length_replicate → kb4, length_set → kb8, length_take → kb2
open Nat renaming le_of_ble_eq_true → ka4
set_option linter.unusedVariables false
set_option linter.unusedSimpArgs false
/-! chapter 10: the best choice -/
set_option maxHeartbeats 4000000
set_option maxRecDepth 100000
theorem k3n (n : Int) : ∀ (s : List Sp) (o : Option Int), (∀ p ∈ s, fK p) → (∀ v, o = some v → 0 ≤ v ∧ v ≤ 2147483647) → ∀ v, nrP n s o = some v → 0 ≤ v ∧ v ≤ 2147483647
 | [], o, _, h => h
 | p :: s, o, hs, h => by
  have hp := hs p (List.mem_cons_self ..)
  have hc : 0 ≤ jN n p ∧ jN n p ≤ 2147483647 := by
   unfold fK at hp
   show 0 ≤ max p.1 (min p.2 n) ∧ max p.1 (min p.2 n) ≤ 2147483647
   omega
  refine k3n n s _ (fun q hq => hs q (List.mem_cons_of_mem _ hq)) ?_
  intro v hv
  cases o with
  | none => cases hv; exact hc
  | some u =>
   have hu := h u rfl
   dsimp only at hv
   split at hv
   ·cases hv; exact hc
   ·cases hv; exact hu
theorem d3 {z : Int} {l : List Int} {n : Nat} (hl : l.length = n * 2) : 0 ≤ q9 z (kC l n) ∧ q9 z (kC l n) ≤ 2147483647 := by
 unfold q9
 cases e : nrP z (uF (kC l n)) none with
 | none => exact ⟨Int.le_refl _, by decide⟩
 | some v => exact k3n z _ none (gE (uG hl)) (fun v h => by cases h) v e
def vI (b w : Int) : Nat → Int
 | 0 => 0
 | j + 1 => if jH b (j + 1) = true ∧ (vI b w j = 0 ∨ vJ w ((j : Int) + 1) (vI b w j) < 0) then (j : Int) + 1 else vI b w j
theorem rS {b w : Int} {j : Nat} {y x : Int} (h : vI b w j = y) (h1 : jH b (j + 1) = true) (h2 : y = 0 ∨ vJ w ((j : Int) + 1) y < 0) (hx : x = (j : Int) + 1) : vI b w (j + 1) = x := by
 subst h; rw [hx]; exact if_pos ⟨h1, h2⟩
theorem xK {b w : Int} {j : Nat} {y : Int} (h : vI b w j = y) (h1 : jH b (j + 1) = false) : vI b w (j + 1) = y := by
 rw [← h]; exact if_neg fun e => by rw [h1] at e; cases e.1
theorem xJ {b w : Int} {j : Nat} {y : Int} (h : vI b w j = y) (h2 : ¬ y = 0) (h3 : ¬ vJ w ((j : Int) + 1) y < 0) : vI b w (j + 1) = y := by
 subst h; exact if_neg fun e => e.2.elim h2 h3
theorem mW (b w : Int) : ∀ j, 0 ≤ vI b w j ∧ vI b w j ≤ j
 | 0 => ⟨Int.le_refl _, Int.le_refl _⟩
 | j + 1 => by
  have := mW b w j
  rw [vI]; split <;> omega
def c9 (w : List Int) (ms : List (List Int)) : Nat → List Int
 | 0 => []
 | j + 1 => if j = 0 ∨ yP w (ka1 ms j []) (c9 w ms j) < 0 then ka1 ms j [] else c9 w ms j
theorem u7q {w : List Int} {ms : List (List Int)} {x : List Int} (hx : x = ka1 ms 0 []) : c9 w ms 1 = x := by
 rw [hx]; exact if_pos (.inl rfl)
theorem u0e {w : List Int} {ms : List (List Int)} {j : Nat} {u x : List Int} (h : c9 w ms j = u) (h2 : yP w (ka1 ms j []) u < 0) (hx : x = ka1 ms j []) : c9 w ms (j + 1) = x := by
 subst h; rw [hx]; exact if_pos (.inr h2)
theorem u0f {w : List Int} {ms : List (List Int)} {j : Nat} {u : List Int} (h : c9 w ms j = u) (h1 : ¬ j = 0) (h2 : ¬ yP w (ka1 ms j []) u < 0) : c9 w ms (j + 1) = u := by
 subst h; exact if_neg fun e => e.elim h1 h2
theorem k2p {w : List Int} {ms : List (List Int)} (h : MsW ms) : ∀ j, ka0 (c9 w ms j) ≤ 1000000
 | 0 => Nat.zero_le _
 | j + 1 => by
  rw [c9]; split
  ·exact h.at j
  ·exact k2p h j
theorem mU {xs : List Bx} {i : Nat} (h : i < ka0 (kF xs)) : 1 ≤ ka0 (kL (kF xs) i) := by
 cases e : cQ xs with
 | false => rw [u0b e] at h; exact absurd h (Nat.not_lt_zero _)
 | true =>
  rw [k4b e] at h ⊢
  have h1 := (of_decide_eq_true e).2 i h
  unfold vbE d5 at h1
  rw [kb6, kb6, kb6] at h1
  exact (of_decide_eq_true h1.2.2.1).1
theorem xW (b : Int) (q : Nat) (hq : q ≤ 64) : Fun 97 [iE b, iE ((q : Nat) : Int)] (kH []) 0 (uP (D.lit (.bool (jH b q)))) (kH []) 0 := by
 refine Fun.mk (n := 18) Tryz.func97 rfl rfl (ka4 rfl) ?_
 intro cx hcx
 refine kK [.no] True [(0, iV b), (1, uV q)] [] 0 trivial ?_
 by_cases hx1 : ((1 : Int) ≤ ((q : Nat) : Int))
 ·by_cases hx2 : (((q : Nat) : Int) ≤ 7)
  ·by_cases hx3 : ((dE (b / (((2 ^ q) : Nat) : Int))) = 1)
   ·refine kO (.no :: .b true :: .no :: .no :: .b true :: qE 4 [.n q, .i (dE (b / (((2 ^ q) : Nat) : Int))), .b true, .no, .no]) ((((1 : Int) ≤ (q : Int))) ∧ (((q : Int) ≤ 7)) ∧ (kN (q : Int)) ∧ (q ≤ 64) ∧ (qG .and .i64 (b / (((2 ^ q) : Nat) : Int)) 1 = (dE (b / (((2 ^ q) : Nat) : Int)))) ∧ (((dE (b / (((2 ^ q) : Nat) : Int))) = 1))) [(4, bV true)] ⟨zo, zo, rfl, zo, rfl, zo⟩ ?_
    refine AW.ret ?_
    exact kA (.inr rfl) [] (P := ((jH b q) = true)) zk (by first | exact decide_eq_true ⟨by omega, by omega, by assumption⟩ | exact decide_eq_false (fun e9 => by omega))
   ·refine kO (.no :: .b true :: .no :: .no :: .b true :: qE 4 [.n q, .i (dE (b / (((2 ^ q) : Nat) : Int))), .b false, .no, .no]) ((((1 : Int) ≤ (q : Int))) ∧ (((q : Int) ≤ 7)) ∧ (kN (q : Int)) ∧ (q ≤ 64) ∧ (qG .and .i64 (b / (((2 ^ q) : Nat) : Int)) 1 = (dE (b / (((2 ^ q) : Nat) : Int)))) ∧ (¬ ((dE (b / (((2 ^ q) : Nat) : Int))) = 1))) [(4, bV false)] ⟨zo, zo, rfl, zo, rfl, zo⟩ ?_
    refine AW.ret ?_
    exact kA (.inr rfl) [] (P := ((jH b q) = false)) zk (by first | exact decide_eq_true ⟨by omega, by omega, by assumption⟩ | exact decide_eq_false (fun e9 => by omega))
  ·refine kO [.no, .b true, .no, .no, .b false, .no, .no, .no, .no] ((((1 : Int) ≤ (q : Int))) ∧ (¬ ((q : Int) ≤ 7))) [(4, bV false)] ⟨zo, zo⟩ ?_
   refine AW.ret ?_
   exact kA (.inr rfl) [] (P := ((jH b q) = false)) zk (by first | exact decide_eq_true ⟨by omega, by omega, by assumption⟩ | exact decide_eq_false (fun e9 => by omega))
 ·refine kO (.no :: .b false :: qE 5 []) (¬ ((1 : Int) ≤ (q : Int))) [(4, bV false)] zo ?_
  refine AW.ret ?_
  exact kA (.inr rfl) [] (P := ((jH b q) = false)) zk (by first | exact decide_eq_true ⟨by omega, by omega, by assumption⟩ | exact decide_eq_false (fun e9 => by omega))
theorem u1b (bs : List Bx) (n : Nat) (hn : ka0 bs = n) (h1 : n ≤ 1000000) (hW : BsW bs) : Fun 52 [.c (.d (D.sl (kE bs) n))] (kH []) 0 (kG (kE (kF bs)) (ka0 (kF bs))) (kH []) 0 := by
 refine Fun.mk (n := 7) Tryz.func52 rfl rfl (ka4 rfl) ?_
 intro cx hcx
 refine kK [.no] True [(0, kG (kE bs) n)] [] 0 trivial ?_
 refine AW.seq ?_
 rcases ka9 (cQ bs) with hx1 | hx1
 ·refine kO [.no, .call [] (bV true) [] 0 [] none, .no] (Fun 19 [.c (.d (D.sl (kE bs) n))] (kH []) 0 (bV true) (kH []) 0) [(0, kG (kE bs) n), (5, bV false)] (by have h0 := (eI bs n zo zo (qD : BsW bs)); rw [hx1] at h0; exact h0) ?_
  refine q8 ?_
  refine kO [.no, .no] True [(2, kG (kE bs) n)] trivial ?_
  have hz1 : kF bs = bs := k4b hx1
  have hz2 : ka0 (kF bs) = n := by rw [hz1]; first | rfl | omega
  refine AW.ret ?_
  exact kA (.inr rfl) [] (P := (((kE (kF bs)) : List D) = (kE bs)) ∧ (((ka0 (kF bs)) : Nat) = n)) zk ⟨(by first | (rw [hz1]; done) | (rw [hz1]; rfl)), (by first | omega | rfl | assumption | (simp; done) | (simp; omega))⟩
 ·refine kO [.no, .call [] (bV false) [] 0 [] none, .no] (Fun 19 [.c (.d (D.sl (kE bs) n))] (kH []) 0 (bV false) (kH []) 0) [(0, kG (kE bs) n), (5, bV true)] (by have h0 := (eI bs n zo zo (qD : BsW bs)); rw [hx1] at h0; exact h0) ?_
  refine zt ?_
  refine kO [.no] True [(2, nV)] trivial ?_
  have hz1 : kF bs = [] := u0b hx1
  have hz2 : ka0 (kF bs) = 0 := by rw [hz1]; first | rfl | omega
  refine bG (l' := [(2, kG ([] : List D) 0)]) (g' := []) (NlS.cons rfl (.e (.c .nil)) NlS.nil) NlG.nil ?_
  refine AW.ret ?_
  exact kA (.inr rfl) [] (P := (((kE (kF bs)) : List D) = ([] : List D)) ∧ (((ka0 (kF bs)) : Nat) = 0)) zk ⟨(by first | (rw [hz1]; done) | (rw [hz1]; rfl)), (by first | omega | rfl | assumption | (simp; done) | (simp; omega))⟩
theorem fT {p : Prop} (h : p := by first | omega | assumption | simp) : p := h
theorem lZ {p : Prop} (h : p := by first | rfl | omega | assumption | (simp; done) | (simp; omega)) : p := h
theorem lY {p : Prop} (h : p := by first | omega | (show _ < _; simp; omega)) : p := h
abbrev vE : BC := .ds [iD 0, iD 0, D.lit (.slice none 0 0), iD 0]
abbrev vP (wk : Int) (wr : Int) (w : List Int) (wn : Nat) (wz : Int) : BC := .ds [iD wk, iD wr, D.sl (dI .i64 w) wn, iD wz]
abbrev dY (k : Int) (r : List Int) (rn : Nat) (m : List (List Int)) (c : Nat) (s : List Int) (sn : Nat) : BC := .ds [iD k, D.sl (dI .i64 r) rn, D.sl (kI m) c, D.sl (dI .i64 s) sn]
abbrev oR (y : Int) (wr : Int) (r : List Int) (rn : Nat) (u : List Int) (wz : Int) (s : List Int) (sn : Nat) : BC := .ds [iD y, iD (q9 wr (kC r rn)), D.sl (dI .i64 u) (ka0 u), iD (q9 wz (kC s sn))]
abbrev tT (y : Int) : BC := .ds [iD y, iD 0, D.lit (.slice none 0 0), iD 0]
theorem u1c (k : Int) (r : List Int) (rn : Nat) (m : List (List Int)) (c : Nat) (s : List Int) (sn : Nat) (wk wr : Int) (w : List Int) (wn : Nat) (wz : Int) (hr : ka0 r = rn * 2) (hs : ka0 s = sn * 2) (hc : ka0 m = c) (h1 : rn ≤ 1000000) (h2 : sn ≤ 1000000) (h3 : c ≤ 1000000) (h4 : 1 ≤ c) (hW : MsW m) (hw : ka0 w = wn) (h5 : wn ≤ 1000000) (hwr : -9223372036854775808 ≤ wr ∧ wr ≤ 9223372036854775807) (hwz : -9223372036854775808 ≤ wz ∧ wz ≤ 9223372036854775807) : Fun 61 [.agg [iC k, .d (D.sl (dI .i64 r) rn), .d (D.sl (kI m) c), .d (D.sl (dI .i64 s) sn)], .agg [iC wk, iC wr, .d (D.sl (dI .i64 w) wn), iC wz]] (kH []) 0 (.e (.agg [iC (vI k wk 7), iC (q9 wr (kC r rn)), .d (D.sl (dI .i64 (c9 w m c)) (ka0 (c9 w m c))), iC (q9 wz (kC s sn))])) (kH []) 0 := by
 refine Fun.mk (n := 83) Tryz.func61 rfl rfl (ka4 rfl) ?_
 intro cx hcx
 refine kK [.no, .no, .no] True [(2, rV 0 0), (3, rV 1 0), (4, rV 2 0)] [(0, some (59, (dY k r rn m c s sn))), (1, some (27, (vP wk wr w wn wz))), (2, some (27, vE))] 3 trivial ?_
 refine kK [.no] True [(2, rV 0 0), (3, rV 1 0), (4, rV 2 0), (5, rV 3 0)] [(0, some (59, (dY k r rn m c s sn))), (1, some (27, (vP wk wr w wn wz))), (2, some (27, vE)), (3, some (27, vE))] 4 trivial ?_
 refine AW.seq ?_
 refine kO [.no] True [(2, rV 0 0), (3, rV 1 0), (4, rV 2 0), (5, rV 3 0), (6, iV 1)] trivial ?_
 refine AW.block ?_
 refine kY 0 hcx (fun (x : {x : Nat × Int // match x with | (i, y) => (i ≤ 7 ∧ 0 ≤ y ∧ y ≤ 7) ∧ (vI k wk i = y)}) => match x with | ⟨(i, y), _⟩ => (⟨[(2, rV 0 0), (3, rV 1 0), (4, rV 2 0), (5, rV 3 0), (6, iV ((i : Int) + 1))], [(0, some (59, (dY k r rn m c s sn))), (1, some (27, (vP wk wr w wn wz))), (2, some (27, vE)), (3, some (27, (tT y)))], 4⟩ : ES)) (fun x => match x with | ⟨(i, y), _⟩ => 7 - i) ⟨((0 : Nat), (0 : Int)), ⟨fT, rfl⟩⟩ [] (P := (kJ 0) ∧ (kJ 0) ∧ (kJ 0) ∧ (kJ 0) ∧ (kN 1) ∧ (kM [iD k, dl r rn, D.sl (kI m) c, dl s sn]) ∧ (kM [iD wk, iD wr, dl w wn, iD wz]) ∧ (kM [iD 0, iD 0, qT, iD 0]) ∧ (kM [iD 0, iD 0, qT, iD 0])) zk ⟨rfl, rfl, rfl, rfl, rfl, rfl, rfl, rfl, rfl⟩ ?_
 rintro ⟨⟨i, y⟩, hinv0⟩
 obtain ⟨hi, hy⟩ : (i ≤ 7 ∧ 0 ≤ y ∧ y ≤ 7) ∧ (vI k wk i = y) := hinv0
 refine qR (l := [(2, rV 0 0), (3, rV 1 0), (4, rV 2 0), (5, rV 3 0), (6, iV ((i : Int) + 1))]) (g := [(0, some (59, (dY k r rn m c s sn))), (1, some (27, (vP wk wr w wn wz))), (2, some (27, vE)), (3, some (27, (tT y)))]) (nx := 4) rfl rfl rfl ?_
 refine AW.seq ?_
 by_cases hx1 : ((((i : Nat) : Int) + 1) ≤ 7)
 ·refine kK [.no, .b true] ((((i : Int) + 1) ≤ 7)) [(2, rV 0 0), (3, rV 1 0), (4, rV 2 0), (5, rV 3 0), (6, iV (↑i + 1)), (10, bV true)] [(0, some (59, (dY k r rn m c s sn))), (1, some (27, (vP wk wr w wn wz))), (2, some (27, vE)), (3, some (27, (tT y)))] 4 zo ?_
  refine vB ?_
  refine AW.seq ?_
  refine AW.block ?_
  rcases ka9 (jH k (i + 1)) with hx2 | hx2
  ·by_cases hx3 : (y = 0)
   ·refine kO (.no :: .no :: .no :: .call [] (bV true) [] 0 [] none :: qE 4 [.b true, .no, .no, .no]) ((Fun 97 [iE k, iE ((i : Int) + 1)] (kH []) 0 (bV true) (kH []) 0) ∧ ((y = 0))) [(2, rV 0 0), (3, rV 1 0), (4, rV 2 0), (5, rV 3 0), (6, iV (↑i + 1)), (33, bV true)] ⟨(by have h0 := (xW k (i + 1) zo); rw [hx2] at h0; exact h0), zo⟩ ?_
    refine zt ?_
    refine aH (qE 4 []) True [(2, rV 0 0), (3, rV 1 0), (4, rV 2 0), (5, rV 3 0), (6, iV (↑i + 1))] [(0, some (59, (dY k r rn m c s sn))), (1, some (27, (vP wk wr w wn wz))), (2, some (27, vE)), (3, some (27, .ds [iD (↑i + 1), iD 0, qT, iD 0]))] 4 trivial ?_
    refine uT [.no, .w, .no] ((-9223372036854775808) ≤ (((i : Int) + 1) + 1) ∧ (((i : Int) + 1) + 1) ≤ 9223372036854775807) [(2, rV 0 0), (3, rV 1 0), (4, rV 2 0), (5, rV 3 0), (6, iV ((↑i + 1) + 1))] ⟨by omega, by omega⟩ ?_
    exact kW ⟨(((i + 1) : Nat), (((i : Int) + 1) : Int)), ⟨fT, (by first | exact rS hy (by assumption) zo rfl | exact xK hy (by assumption) | exact xJ hy zo zo)⟩⟩ [] (P := (kJ 0) ∧ (kJ 0) ∧ (kJ 0) ∧ (kJ 0) ∧ ((((((i + 1) : Nat) : Int) + 1) : Int) = (((i : Int) + 1) + 1)) ∧ (kM [iD k, dl r rn, D.sl (kI m) c, dl s sn]) ∧ (kM [iD wk, iD wr, dl w wn, iD wz]) ∧ (kM [iD 0, iD 0, qT, iD 0]) ∧ (kM [iD ((i : Int) + 1), iD 0, qT, iD 0])) zk ⟨rfl, rfl, rfl, rfl, lZ, rfl, rfl, rfl, rfl⟩ (show 7 - (i + 1) < 7 - i from lY)
   ·by_cases hx5 : ((vJ wk (((i : Nat) : Int) + 1) y) < 0)
    ·have hx6 : ((((-1) : Int) ≤ (vJ wk (((i : Nat) : Int) + 1) y)) ∧ ((vJ wk (((i : Nat) : Int) + 1) y) ≤ 1)) := dJ wk (((i : Nat) : Int) + 1) y
     refine kO (.no :: .no :: .no :: .call [] (bV true) [] 0 [] none :: qE 4 (.b false :: qE 8 [.call [] (iV (vJ wk ((i : Int) + 1) y)) [] 0 [] none, .b true, .no, .no])) ((Fun 97 [iE k, iE ((i : Int) + 1)] (kH []) 0 (bV true) (kH []) 0) ∧ (¬ (y = 0)) ∧ (_) ∧ (((vJ wk ((i : Int) + 1) y) < 0))) [(2, rV 0 0), (3, rV 1 0), (4, rV 2 0), (5, rV 3 0), (6, iV (↑i + 1)), (33, bV true)] ⟨(by have h0 := (xW k (i + 1) zo); rw [hx2] at h0; exact h0), zo, (pR wk ((i : Int) + 1) y), zo⟩ ?_
     refine zt ?_
     refine aH (qE 4 []) True [(2, rV 0 0), (3, rV 1 0), (4, rV 2 0), (5, rV 3 0), (6, iV (↑i + 1))] [(0, some (59, (dY k r rn m c s sn))), (1, some (27, (vP wk wr w wn wz))), (2, some (27, vE)), (3, some (27, .ds [iD (↑i + 1), iD 0, qT, iD 0]))] 4 trivial ?_
     refine uT [.no, .w, .no] ((-9223372036854775808) ≤ (((i : Int) + 1) + 1) ∧ (((i : Int) + 1) + 1) ≤ 9223372036854775807) [(2, rV 0 0), (3, rV 1 0), (4, rV 2 0), (5, rV 3 0), (6, iV ((↑i + 1) + 1))] ⟨by omega, by omega⟩ ?_
     exact kW ⟨(((i + 1) : Nat), (((i : Int) + 1) : Int)), ⟨fT, (by first | exact rS hy (by assumption) zo rfl | exact xK hy (by assumption) | exact xJ hy zo zo)⟩⟩ [] (P := (kJ 0) ∧ (kJ 0) ∧ (kJ 0) ∧ (kJ 0) ∧ ((((((i + 1) : Nat) : Int) + 1) : Int) = (((i : Int) + 1) + 1)) ∧ (kM [iD k, dl r rn, D.sl (kI m) c, dl s sn]) ∧ (kM [iD wk, iD wr, dl w wn, iD wz]) ∧ (kM [iD 0, iD 0, qT, iD 0]) ∧ (kM [iD ((i : Int) + 1), iD 0, qT, iD 0])) zk ⟨rfl, rfl, rfl, rfl, lZ, rfl, rfl, rfl, rfl⟩ (show 7 - (i + 1) < 7 - i from lY)
    ·have hx7 : ((((-1) : Int) ≤ (vJ wk (((i : Nat) : Int) + 1) y)) ∧ ((vJ wk (((i : Nat) : Int) + 1) y) ≤ 1)) := dJ wk (((i : Nat) : Int) + 1) y
     refine kO (.no :: .no :: .no :: .call [] (bV true) [] 0 [] none :: qE 4 (.b false :: qE 8 [.call [] (iV (vJ wk ((i : Int) + 1) y)) [] 0 [] none, .b false, .no, .no])) ((Fun 97 [iE k, iE ((i : Int) + 1)] (kH []) 0 (bV true) (kH []) 0) ∧ (¬ (y = 0)) ∧ (_) ∧ (¬ ((vJ wk ((i : Int) + 1) y) < 0))) [(2, rV 0 0), (3, rV 1 0), (4, rV 2 0), (5, rV 3 0), (6, iV (↑i + 1)), (33, bV false)] ⟨(by have h0 := (xW k (i + 1) zo); rw [hx2] at h0; exact h0), zo, (pR wk ((i : Int) + 1) y), zo⟩ ?_
     refine q8 ?_
     refine uT [.no, .w, .no] ((-9223372036854775808) ≤ (((i : Int) + 1) + 1) ∧ (((i : Int) + 1) + 1) ≤ 9223372036854775807) [(2, rV 0 0), (3, rV 1 0), (4, rV 2 0), (5, rV 3 0), (6, iV ((↑i + 1) + 1))] ⟨by omega, by omega⟩ ?_
     exact kW ⟨(((i + 1) : Nat), (y : Int)), ⟨fT, (by first | exact rS hy (by assumption) zo rfl | exact xK hy (by assumption) | exact xJ hy zo zo)⟩⟩ [] (P := (kJ 0) ∧ (kJ 0) ∧ (kJ 0) ∧ (kJ 0) ∧ ((((((i + 1) : Nat) : Int) + 1) : Int) = (((i : Int) + 1) + 1)) ∧ (kM [iD k, dl r rn, D.sl (kI m) c, dl s sn]) ∧ (kM [iD wk, iD wr, dl w wn, iD wz]) ∧ (kM [iD 0, iD 0, qT, iD 0]) ∧ (kM [iD y, iD 0, qT, iD 0])) zk ⟨rfl, rfl, rfl, rfl, lZ, rfl, rfl, rfl, rfl⟩ (show 7 - (i + 1) < 7 - i from lY)
  ·refine kO [.no, .no, .no, .call [] (bV false) [] 0 [] none, .no, .no] (Fun 97 [iE k, iE ((i : Int) + 1)] (kH []) 0 (bV false) (kH []) 0) [(2, rV 0 0), (3, rV 1 0), (4, rV 2 0), (5, rV 3 0), (6, iV (↑i + 1)), (33, bV false)] (by have h0 := (xW k (i + 1) zo); rw [hx2] at h0; exact h0) ?_
   refine q8 ?_
   refine uT [.no, .w, .no] ((-9223372036854775808) ≤ (((i : Int) + 1) + 1) ∧ (((i : Int) + 1) + 1) ≤ 9223372036854775807) [(2, rV 0 0), (3, rV 1 0), (4, rV 2 0), (5, rV 3 0), (6, iV ((↑i + 1) + 1))] ⟨by omega, by omega⟩ ?_
   exact kW ⟨(((i + 1) : Nat), (y : Int)), ⟨fT, (by first | exact rS hy (by assumption) zo rfl | exact xK hy (by assumption) | exact xJ hy zo zo)⟩⟩ [] (P := (kJ 0) ∧ (kJ 0) ∧ (kJ 0) ∧ (kJ 0) ∧ ((((((i + 1) : Nat) : Int) + 1) : Int) = (((i : Int) + 1) + 1)) ∧ (kM [iD k, dl r rn, D.sl (kI m) c, dl s sn]) ∧ (kM [iD wk, iD wr, dl w wn, iD wz]) ∧ (kM [iD 0, iD 0, qT, iD 0]) ∧ (kM [iD y, iD 0, qT, iD 0])) zk ⟨rfl, rfl, rfl, rfl, lZ, rfl, rfl, rfl, rfl⟩ (show 7 - (i + 1) < 7 - i from lY)
 ·refine kK [.no, .b false] (¬ (((i : Int) + 1) ≤ 7)) [(2, rV 0 0), (3, rV 1 0), (4, rV 2 0), (5, rV 3 0), (6, iV (↑i + 1)), (10, bV false)] [(0, some (59, (dY k r rn m c s sn))), (1, some (27, (vP wk wr w wn wz))), (2, some (27, vE)), (3, some (27, (tT y)))] 4 zo ?_
  refine zf ?_
  refine AW.exit ?_
  refine kK (qE 5 (.call [] (.tup [iE (q9 wr (kC r rn)), .c (.d (D.lit (.bool (nrF wr (kC r rn)))))]) [] 0 [] none :: qE 6 [])) _ [(2, rV 0 0), (3, rV 1 0), (4, rV 2 0), (5, rV 3 0)] [(0, some (59, (dY k r rn m c s sn))), (1, some (27, (vP wk wr w wn wz))), (2, some (27, vE)), (3, some (27, .ds [iD y, iD (q9 wr (kC r rn)), qT, iD 0]))] 4 (k4k r rn wr zo zo zo) ?_
  refine kK (qE 4 (.call [] (.tup [iE (q9 wz (kC s sn)), .c (.d (D.lit (.bool (nrF wz (kC s sn)))))]) [] 0 [] none :: qE 5 [])) _ [(2, rV 0 0), (3, rV 1 0), (4, rV 2 0), (5, rV 3 0)] [(0, some (59, (dY k r rn m c s sn))), (1, some (27, (vP wk wr w wn wz))), (2, some (27, vE)), (3, some (27, .ds [iD y, iD (q9 wr (kC r rn)), qT, iD (q9 wz (kC s sn))]))] 4 (k4k s sn wz zo zo zo) ?_
  refine AW.seq ?_
  refine kK (qE 4 []) True [(3, rV 1 0), (4, rV 2 0), (5, rV 3 0), (58, kG (kI m) c), (59, uV c), (60, iV 0)] [(1, some (27, (vP wk wr w wn wz))), (2, some (27, vE)), (3, some (27, .ds [iD y, iD (q9 wr (kC r rn)), qT, iD (q9 wz (kC s sn))]))] 4 trivial ?_
  refine AW.block ?_
  refine xY 1 ?_
  refine AWp.s ?_
  refine kK [.b true] (((0 : Int) < (c : Int))) [(3, rV 1 0), (4, rV 2 0), (5, rV 3 0), (58, kG (kI m) c), (59, uV c), (60, iV 0), (61, bV true)] [(1, some (27, (vP wk wr w wn wz))), (2, some (27, vE)), (3, some (27, .ds [iD y, iD (q9 wr (kC r rn)), qT, iD (q9 wz (kC s sn))]))] 4 zo ?_
  refine AW.seq ?_
  refine vB ?_
  refine AW.seq ?_
  refine AW.block ?_
  have hx8 : ((ka0 (ka1 m 0 ([] : List Int))) ≤ 1000000) := MsW.at (qD : MsW m) _
  refine kO [.no, .n 0, .d (dl (ka1 m 0 ([] : List Int)) (ka0 (ka1 m 0 ([] : List Int)))), .no, .no] ((kN 0) ∧ ((0 : Nat) < c) ∧ ((List.drop 0 (kI m))[0]? = some (dl (ka1 m 0 ([] : List Int)) (ka0 (ka1 m 0 ([] : List Int)))))) [(3, rV 1 0), (4, rV 2 0), (5, rV 3 0), (7, iV 0), (8, sV .i64 (ka1 m 0 ([] : List Int)) (ka0 (ka1 m 0 ([] : List Int)))), (58, kG (kI m) c), (59, uV c), (60, iV 0)] ⟨rfl, zo, (vQ _ _ (by first | omega | (simp only [qC, qB, ka6, kb0, kb1, kb2, kb3] <;> omega)))⟩ ?_
  refine kO [.no, .b true, .no, .no] ((kN 0)) [(3, rV 1 0), (4, rV 2 0), (5, rV 3 0), (8, sV .i64 (ka1 m 0 ([] : List Int)) (ka0 (ka1 m 0 ([] : List Int)))), (58, kG (kI m) c), (59, uV c), (60, iV 0), (77, bV true)] zo ?_
  refine zt ?_
  refine aH (qE 4 []) True [(3, rV 1 0), (4, rV 2 0), (5, rV 3 0), (58, kG (kI m) c), (59, uV c), (60, iV 0)] [(1, some (27, (vP wk wr w wn wz))), (2, some (27, vE)), (3, some (27, .ds [iD y, iD (q9 wr (kC r rn)), dl (ka1 m 0 ([] : List Int)) (ka0 (ka1 m 0 ([] : List Int))), iD (q9 wz (kC s sn))]))] 4 trivial ?_
  refine uT [.w, .no] ((-9223372036854775808) ≤ (1 : Int) ∧ (1 : Int) ≤ 9223372036854775807) [(3, rV 1 0), (4, rV 2 0), (5, rV 3 0), (58, kG (kI m) c), (59, uV c), (60, iV 1)] ⟨by omega, by omega⟩ ?_
  refine AWp.z ?_
  refine kY 0 hcx (fun (x : {x : Nat × List Int // match x with | (j, u) => (1 ≤ j ∧ j ≤ c) ∧ (c9 w m j = u) ∧ (ka0 u ≤ 1000000)}) => match x with | ⟨(j, u), _⟩ => (⟨[(3, rV 1 0), (4, rV 2 0), (5, rV 3 0), (58, kG (kI m) c), (59, uV c), (60, uV j)], [(1, some (27, (vP wk wr w wn wz))), (2, some (27, vE)), (3, some (27, (oR y wr r rn u wz s sn)))], 4⟩ : ES)) (fun x => match x with | ⟨(j, u), _⟩ => c - j) ⟨((1 : Nat), ((ka1 m 0 ([] : List Int)) : List Int)), ⟨fT, (u7q rfl), zo⟩⟩ [] (P := (kJ 0) ∧ (kJ 0) ∧ (kJ 0) ∧ (kM (kI m)) ∧ (kJ c) ∧ (kN (c : Int)) ∧ (kN 1) ∧ (kM [iD wk, iD wr, dl w wn, iD wz]) ∧ (kM [iD 0, iD 0, qT, iD 0]) ∧ (kM [iD y, iD (q9 wr (kC r rn)), dl (ka1 m 0 ([] : List Int)) (ka0 (ka1 m 0 ([] : List Int))), iD (q9 wz (kC s sn))])) zk ⟨rfl, rfl, rfl, rfl, rfl, rfl, rfl, rfl, rfl, rfl⟩ ?_
  rintro ⟨⟨j, u⟩, hinv1⟩
  obtain ⟨hj, hu, hul⟩ : (1 ≤ j ∧ j ≤ c) ∧ (c9 w m j = u) ∧ (ka0 u ≤ 1000000) := hinv1
  refine qR (l := [(3, rV 1 0), (4, rV 2 0), (5, rV 3 0), (58, kG (kI m) c), (59, uV c), (60, uV j)]) (g := [(1, some (27, (vP wk wr w wn wz))), (2, some (27, vE)), (3, some (27, (oR y wr r rn u wz s sn)))]) (nx := 4) rfl rfl rfl ?_
  by_cases hx9 : (((j : Nat) : Int) < ((c : Nat) : Int))
  ·refine kK [.b true] (((j : Int) < (c : Int))) [(3, rV 1 0), (4, rV 2 0), (5, rV 3 0), (58, kG (kI m) c), (59, uV c), (60, uV j), (61, bV true)] [(1, some (27, (vP wk wr w wn wz))), (2, some (27, vE)), (3, some (27, (oR y wr r rn u wz s sn)))] 4 zo ?_
   refine AW.seq ?_
   refine vB ?_
   refine AW.seq ?_
   refine AW.block ?_
   have hx10 : ((ka0 (ka1 m j ([] : List Int))) ≤ 1000000) := MsW.at (qD : MsW m) _
   refine kO [.no, .n j, .d (dl (ka1 m j ([] : List Int)) (ka0 (ka1 m j ([] : List Int)))), .no, .no] ((kN (j : Int)) ∧ (j < c) ∧ ((List.drop j (kI m))[0]? = some (dl (ka1 m j ([] : List Int)) (ka0 (ka1 m j ([] : List Int)))))) [(3, rV 1 0), (4, rV 2 0), (5, rV 3 0), (7, uV j), (8, sV .i64 (ka1 m j ([] : List Int)) (ka0 (ka1 m j ([] : List Int)))), (58, kG (kI m) c), (59, uV c), (60, uV j)] ⟨rfl, zo, (vQ _ _ (by first | omega | (simp only [qC, qB, ka6, kb0, kb1, kb2, kb3] <;> omega)))⟩ ?_
   by_cases hx12 : ((yP w (ka1 m j ([] : List Int)) u) < 0)
   ·have hx13 : ((((-1) : Int) ≤ (yP w (ka1 m j ([] : List Int)) u)) ∧ ((yP w (ka1 m j ([] : List Int)) u) ≤ 1)) := cK w (ka1 m j ([] : List Int)) u
    refine kO (.no :: .b false :: qE 8 [.call [] (iV (yP w (ka1 m j ([] : List Int)) u)) [] 0 [] none, .b true, .no]) ((¬ ((j : Int) = 0)) ∧ (_) ∧ (((yP w (ka1 m j ([] : List Int)) u) < 0))) [(3, rV 1 0), (4, rV 2 0), (5, rV 3 0), (8, sV .i64 (ka1 m j ([] : List Int)) (ka0 (ka1 m j ([] : List Int)))), (58, kG (kI m) c), (59, uV c), (60, uV j), (77, bV true)] ⟨zo, (xP w (ka1 m j ([] : List Int)) u wn (ka0 (ka1 m j ([] : List Int))) (ka0 u) zo rfl rfl zo (by first | omega | with_reducible assumption | (simp only [qC, qB, ka6, kb0, kb1, kb2, kb3, kb4, kb8] <;> omega) | rfl | assumption) zo), zo⟩ ?_
    refine zt ?_
    refine aH (qE 4 []) True [(3, rV 1 0), (4, rV 2 0), (5, rV 3 0), (58, kG (kI m) c), (59, uV c), (60, uV j)] [(1, some (27, (vP wk wr w wn wz))), (2, some (27, vE)), (3, some (27, .ds [iD y, iD (q9 wr (kC r rn)), dl (ka1 m j ([] : List Int)) (ka0 (ka1 m j ([] : List Int))), iD (q9 wz (kC s sn))]))] 4 trivial ?_
    refine uT [.w, .no] ((-9223372036854775808) ≤ ((j : Int) + 1) ∧ ((j : Int) + 1) ≤ 9223372036854775807) [(3, rV 1 0), (4, rV 2 0), (5, rV 3 0), (58, kG (kI m) c), (59, uV c), (60, iV (↑j + 1))] ⟨by omega, by omega⟩ ?_
    exact kW ⟨(((j + 1) : Nat), ((ka1 m j ([] : List Int)) : List Int)), ⟨fT, (by first | exact u0e hu zo rfl | exact u0f hu zo zo), (by first | omega | assumption)⟩⟩ [] (P := (kJ 0) ∧ (kJ 0) ∧ (kJ 0) ∧ (kM (kI m)) ∧ (kJ c) ∧ (kN (c : Int)) ∧ (((((j + 1) : Nat) : Int) : Int) = ((j : Int) + 1)) ∧ (kM [iD wk, iD wr, dl w wn, iD wz]) ∧ (kM [iD 0, iD 0, qT, iD 0]) ∧ (kM [iD y, iD (q9 wr (kC r rn)), dl (ka1 m j ([] : List Int)) (ka0 (ka1 m j ([] : List Int))), iD (q9 wz (kC s sn))])) zk ⟨rfl, rfl, rfl, rfl, rfl, rfl, lZ, rfl, rfl, rfl⟩ (show c - (j + 1) < c - j from lY)
   ·have hx14 : ((((-1) : Int) ≤ (yP w (ka1 m j ([] : List Int)) u)) ∧ ((yP w (ka1 m j ([] : List Int)) u) ≤ 1)) := cK w (ka1 m j ([] : List Int)) u
    refine kO (.no :: .b false :: qE 8 [.call [] (iV (yP w (ka1 m j ([] : List Int)) u)) [] 0 [] none, .b false, .no]) ((¬ ((j : Int) = 0)) ∧ (_) ∧ (¬ ((yP w (ka1 m j ([] : List Int)) u) < 0))) [(3, rV 1 0), (4, rV 2 0), (5, rV 3 0), (8, sV .i64 (ka1 m j ([] : List Int)) (ka0 (ka1 m j ([] : List Int)))), (58, kG (kI m) c), (59, uV c), (60, uV j), (77, bV false)] ⟨zo, (xP w (ka1 m j ([] : List Int)) u wn (ka0 (ka1 m j ([] : List Int))) (ka0 u) zo rfl rfl zo (by first | omega | with_reducible assumption | (simp only [qC, qB, ka6, kb0, kb1, kb2, kb3, kb4, kb8] <;> omega) | rfl | assumption) zo), zo⟩ ?_
    refine q8 ?_
    refine uT [.w, .no] ((-9223372036854775808) ≤ ((j : Int) + 1) ∧ ((j : Int) + 1) ≤ 9223372036854775807) [(3, rV 1 0), (4, rV 2 0), (5, rV 3 0), (58, kG (kI m) c), (59, uV c), (60, iV (↑j + 1))] ⟨by omega, by omega⟩ ?_
    exact kW ⟨(((j + 1) : Nat), (u : List Int)), ⟨fT, (by first | exact u0e hu zo rfl | exact u0f hu zo zo), (by first | omega | assumption)⟩⟩ [] (P := (kJ 0) ∧ (kJ 0) ∧ (kJ 0) ∧ (kM (kI m)) ∧ (kJ c) ∧ (kN (c : Int)) ∧ (((((j + 1) : Nat) : Int) : Int) = ((j : Int) + 1)) ∧ (kM [iD wk, iD wr, dl w wn, iD wz]) ∧ (kM [iD 0, iD 0, qT, iD 0]) ∧ (kM [iD y, iD (q9 wr (kC r rn)), dl u (ka0 u), iD (q9 wz (kC s sn))])) zk ⟨rfl, rfl, rfl, rfl, rfl, rfl, lZ, rfl, rfl, rfl⟩ (show c - (j + 1) < c - j from lY)
  ·refine kK [.b false] (¬ ((j : Int) < (c : Int))) [(3, rV 1 0), (4, rV 2 0), (5, rV 3 0), (58, kG (kI m) c), (59, uV c), (60, uV j), (61, bV false)] [(1, some (27, (vP wk wr w wn wz))), (2, some (27, vE)), (3, some (27, (oR y wr r rn u wz s sn)))] 4 zo ?_
   refine AW.seq ?_
   refine zf ?_
   refine AW.exit ?_
   refine kK [.no, .no] True [(4, rV 2 0)] [(2, some (27, (oR y wr r rn u wz s sn)))] 4 trivial ?_
   have hz1 : vI k wk 7 = y := by have h9 := hy; rw [show i = 7 by omega] at h9; exact h9
   have hz2 : c9 w m c = u := by have h9 := hu; rw [show j = c by omega] at h9; exact h9
   refine AW.ret ?_
   exact kA (.inr rfl) [] (P := (((vI k wk 7) : Int) = y) ∧ (kN (q9 wr (kC r rn))) ∧ (((dI .i64 (c9 w m c)) : List D) = (dI .i64 u)) ∧ (((ka0 (c9 w m c)) : Nat) = (ka0 u)) ∧ (kN (q9 wz (kC s sn)))) zk ⟨(by first | rfl | exact hz1 | rw [hz2] | omega), rfl, (by first | rfl | rw [hz2]), (by first | rfl | exact hz1 | rw [hz2] | omega), rfl⟩
end Go.Proofs.YtcfmjpnffembpaaGreat
