/- The best choice. No statement is proved here. -/
import Derived.Test.YtcfmjpnffembpaaGreatZL10B
namespace Go.Proofs.YtcfmjpnffembpaaGreat
open Go.ChangeShapes Go.WideShapes Go.ChangeAt Go.RowKit
set_option linter.unusedVariables false
set_option linter.unusedSimpArgs false
/-! chapter 10: the best choice -/
set_option maxHeartbeats 4000000
set_option maxRecDepth 100000
theorem nrP_rng (n : Int) : ∀ (s : List Sp) (o : Option Int), (∀ p ∈ s, spV p) → (∀ v, o = some v → 0 ≤ v ∧ v ≤ 2147483647) → ∀ v, nrP n s o = some v → 0 ≤ v ∧ v ≤ 2147483647
 | [], o, _, h => h
 | p :: s, o, hs, h => by
  have hp := hs p (List.mem_cons_self ..)
  have hc : 0 ≤ clP n p ∧ clP n p ≤ 2147483647 := by
   unfold spV at hp
   show 0 ≤ max p.1 (min p.2 n) ∧ max p.1 (min p.2 n) ≤ 2147483647
   omega
  refine nrP_rng n s _ (fun q hq => hs q (List.mem_cons_of_mem _ hq)) ?_
  intro v hv
  cases o with
  | none => cases hv; exact hc
  | some u =>
   have hu := h u rfl
   dsimp only at hv
   split at hv
   ·cases hv; exact hc
   ·cases hv; exact hu
theorem ne_rng {z : Int} {l : List Int} {n : Nat} (hl : l.length = n * 2) : 0 ≤ neV z (spS l n) ∧ neV z (spS l n) ≤ 2147483647 := by
 unfold neV
 cases e : nrP z (prs (spS l n)) none with
 | none => exact ⟨Int.le_refl _, by decide⟩
 | some v => exact nrP_rng z _ none (okP_v (sp_ok hl)) (fun v h => by cases h) v e
def bkK (b w : Int) : Nat → Int
 | 0 => 0
 | j + 1 => if kiB b (j + 1) = true ∧ (bkK b w j = 0 ∨ kdV w ((j : Int) + 1) (bkK b w j) < 0) then (j : Int) + 1 else bkK b w j
theorem bk_y {b w : Int} {j : Nat} {y x : Int} (h : bkK b w j = y) (h1 : kiB b (j + 1) = true) (h2 : y = 0 ∨ kdV w ((j : Int) + 1) y < 0) (hx : x = (j : Int) + 1) : bkK b w (j + 1) = x := by
 subst h; rw [hx]; exact if_pos ⟨h1, h2⟩
theorem bk_k {b w : Int} {j : Nat} {y : Int} (h : bkK b w j = y) (h1 : kiB b (j + 1) = false) : bkK b w (j + 1) = y := by
 rw [← h]; exact if_neg fun e => by rw [h1] at e; cases e.1
theorem bk_n {b w : Int} {j : Nat} {y : Int} (h : bkK b w j = y) (h2 : ¬ y = 0) (h3 : ¬ kdV w ((j : Int) + 1) y < 0) : bkK b w (j + 1) = y := by
 subst h; exact if_neg fun e => e.2.elim h2 h3
theorem bk_rng (b w : Int) : ∀ j, 0 ≤ bkK b w j ∧ bkK b w j ≤ j
 | 0 => ⟨Int.le_refl _, Int.le_refl _⟩
 | j + 1 => by
  have := bk_rng b w j
  rw [bkK]; split <;> omega
def bmM (w : List Int) (ms : List (List Int)) : Nat → List Int
 | 0 => []
 | j + 1 => if j = 0 ∨ mpV w (List.getD ms j []) (bmM w ms j) < 0 then List.getD ms j [] else bmM w ms j
theorem bm_1 {w : List Int} {ms : List (List Int)} {x : List Int} (hx : x = List.getD ms 0 []) : bmM w ms 1 = x := by
 rw [hx]; exact if_pos (.inl rfl)
theorem bm_y {w : List Int} {ms : List (List Int)} {j : Nat} {u x : List Int} (h : bmM w ms j = u) (h2 : mpV w (List.getD ms j []) u < 0) (hx : x = List.getD ms j []) : bmM w ms (j + 1) = x := by
 subst h; rw [hx]; exact if_pos (.inr h2)
theorem bm_n {w : List Int} {ms : List (List Int)} {j : Nat} {u : List Int} (h : bmM w ms j = u) (h1 : ¬ j = 0) (h2 : ¬ mpV w (List.getD ms j []) u < 0) : bmM w ms (j + 1) = u := by
 subst h; exact if_neg fun e => e.elim h1 h2
theorem bm_W {w : List Int} {ms : List (List Int)} (h : MsW ms) : ∀ j, List.length (bmM w ms j) ≤ 1000000
 | 0 => Nat.zero_le _
 | j + 1 => by
  rw [bmM]; split
  ·exact h.at j
  ·exact bm_W h j
theorem bxL_ne {xs : List Bx} {i : Nat} (h : i < List.length (bxL xs)) : 1 ≤ List.length (qbM (bxL xs) i) := by
 cases e : vbB xs with
 | false => rw [bxL_n e] at h; exact absurd h (Nat.not_lt_zero _)
 | true =>
  rw [bxL_y e] at h ⊢
  have h1 := (of_decide_eq_true e).2 i h
  unfold vbE bxB at h1
  rw [Bool.and_eq_true, Bool.and_eq_true, Bool.and_eq_true] at h1
  exact (of_decide_eq_true h1.2.2.1).1
theorem C_kind (b : Int) (q : Nat) (hq : q ≤ 64) : Fun 97 [iE b, iE ((q : Nat) : Int)] (toG []) 0 (.e (.c (.d (D.lit (.bool (kiB b q)))))) (toG []) 0 := by
 refine Fun.mk (n := 18) Tryz.func97 rfl rfl (Nat.le_of_ble_eq_true rfl) ?_
 intro cx hcx
 refine y9r [.no] True [(0, iV b), (1, uV q)] [] 0 trivial ?_
 by_cases hx1 : ((1 : Int) ≤ ((q : Nat) : Int))
 ·by_cases hx2 : (((q : Nat) : Int) ≤ 7)
  ·by_cases hx3 : ((odV (b / (((2 ^ q) : Nat) : Int))) = 1)
   ·refine y9s (.no :: .b true :: .no :: .no :: .b true :: nz9 4 [.n q, .i (odV (b / (((2 ^ q) : Nat) : Int))), .b true, .no, .no]) ((((1 : Int) ≤ (q : Int))) ∧ (((q : Int) ≤ 7)) ∧ (q9i (q : Int)) ∧ (q ≤ 64) ∧ (bitsI .and .i64 (b / (((2 ^ q) : Nat) : Int)) 1 = (odV (b / (((2 ^ q) : Nat) : Int)))) ∧ (((odV (b / (((2 ^ q) : Nat) : Int))) = 1))) [(4, bV true)] ⟨zo, zo, rfl, zo, rfl, zo⟩ ?_
    refine AW.ret ?_
    exact EndP.of (.inr rfl) [] (P := ((kiB b q) = true)) zk (by first | exact decide_eq_true ⟨by omega, by omega, by assumption⟩ | exact decide_eq_false (fun e9 => by omega))
   ·refine y9s (.no :: .b true :: .no :: .no :: .b true :: nz9 4 [.n q, .i (odV (b / (((2 ^ q) : Nat) : Int))), .b false, .no, .no]) ((((1 : Int) ≤ (q : Int))) ∧ (((q : Int) ≤ 7)) ∧ (q9i (q : Int)) ∧ (q ≤ 64) ∧ (bitsI .and .i64 (b / (((2 ^ q) : Nat) : Int)) 1 = (odV (b / (((2 ^ q) : Nat) : Int)))) ∧ (¬ ((odV (b / (((2 ^ q) : Nat) : Int))) = 1))) [(4, bV false)] ⟨zo, zo, rfl, zo, rfl, zo⟩ ?_
    refine AW.ret ?_
    exact EndP.of (.inr rfl) [] (P := ((kiB b q) = false)) zk (by first | exact decide_eq_true ⟨by omega, by omega, by assumption⟩ | exact decide_eq_false (fun e9 => by omega))
  ·refine y9s [.no, .b true, .no, .no, .b false, .no, .no, .no, .no] ((((1 : Int) ≤ (q : Int))) ∧ (¬ ((q : Int) ≤ 7))) [(4, bV false)] ⟨zo, zo⟩ ?_
   refine AW.ret ?_
   exact EndP.of (.inr rfl) [] (P := ((kiB b q) = false)) zk (by first | exact decide_eq_true ⟨by omega, by omega, by assumption⟩ | exact decide_eq_false (fun e9 => by omega))
 ·refine y9s (.no :: .b false :: nz9 5 []) (¬ ((1 : Int) ≤ (q : Int))) [(4, bV false)] zo ?_
  refine AW.ret ?_
  exact EndP.of (.inr rfl) [] (P := ((kiB b q) = false)) zk (by first | exact decide_eq_true ⟨by omega, by omega, by assumption⟩ | exact decide_eq_false (fun e9 => by omega))
theorem C_list (bs : List Bx) (n : Nat) (hn : List.length bs = n) (h1 : n ≤ 1000000) (hW : BsW bs) : Fun 52 [.c (.d (D.sl (bxD bs) n))] (toG []) 0 (.e (.c (.d (D.sl (bxD (bxL bs)) (List.length (bxL bs)))))) (toG []) 0 := by
 refine Fun.mk (n := 7) Tryz.func52 rfl rfl (Nat.le_of_ble_eq_true rfl) ?_
 intro cx hcx
 refine y9r [.no] True [(0, .e (.c (.d (D.sl (bxD bs) n))))] [] 0 trivial ?_
 refine AW.seq ?_
 rcases Bool.eq_false_or_eq_true (vbB bs) with hx1 | hx1
 ·refine y9s [.no, .call [] (bV true) [] 0 [] none, .no] (Fun 19 [.c (.d (D.sl (bxD bs) n))] (toG []) 0 (bV true) (toG []) 0) [(0, .e (.c (.d (D.sl (bxD bs) n)))), (5, bV false)] (by have h0 := (Z_rValid bs n zo zo (show BsW bs by with_reducible assumption)); rw [hx1] at h0; exact h0) ?_
  refine zfs ?_
  refine y9s [.no, .no] True [(2, .e (.c (.d (D.sl (bxD bs) n))))] trivial ?_
  have hz1 : bxL bs = bs := bxL_y hx1
  have hz2 : List.length (bxL bs) = n := by rw [hz1]; first | rfl | omega
  refine AW.ret ?_
  exact EndP.of (.inr rfl) [] (P := (((bxD (bxL bs)) : List D) = (bxD bs)) ∧ (((List.length (bxL bs)) : Nat) = n)) zk ⟨(by first | (rw [hz1]; done) | (rw [hz1]; rfl)), (by first | omega | rfl | assumption | (simp; done) | (simp; omega))⟩
 ·refine y9s [.no, .call [] (bV false) [] 0 [] none, .no] (Fun 19 [.c (.d (D.sl (bxD bs) n))] (toG []) 0 (bV false) (toG []) 0) [(0, .e (.c (.d (D.sl (bxD bs) n)))), (5, bV true)] (by have h0 := (Z_rValid bs n zo zo (show BsW bs by with_reducible assumption)); rw [hx1] at h0; exact h0) ?_
  refine zt ?_
  refine y9s [.no] True [(2, nV)] trivial ?_
  have hz1 : bxL bs = [] := bxL_n hx1
  have hz2 : List.length (bxL bs) = 0 := by rw [hz1]; first | rfl | omega
  refine AW.rel (l' := [(2, .e (.c (.d (D.sl ([] : List D) 0))))]) (g' := []) (NlS.cons rfl (.e (.c .nil)) NlS.nil) NlG.nil ?_
  refine AW.ret ?_
  exact EndP.of (.inr rfl) [] (P := (((bxD (bxL bs)) : List D) = ([] : List D)) ∧ (((List.length (bxL bs)) : Nat) = 0)) zk ⟨(by first | (rw [hz1]; done) | (rw [hz1]; rfl)), (by first | omega | rfl | assumption | (simp; done) | (simp; omega))⟩
theorem zl10c2 {p : Prop} (h : p := by first | omega | assumption | simp) : p := h
theorem zl10c0 {p : Prop} (h : p := by first | rfl | omega | assumption | (simp; done) | (simp; omega)) : p := h
theorem zl10c1 {p : Prop} (h : p := by first | omega | (show _ < _; simp; omega)) : p := h
abbrev t0C4_0 : BC := .ds [iD 0, iD 0, D.lit (.slice none 0 0), iD 0]
abbrev t0C4_1 (wk : Int) (wr : Int) (w : List Int) (wn : Nat) (wz : Int) : BC := .ds [iD wk, iD wr, D.sl (dI .i64 w) wn, iD wz]
abbrev t0C4_2 (k : Int) (r : List Int) (rn : Nat) (m : List (List Int)) (c : Nat) (s : List Int) (sn : Nat) : BC := .ds [iD k, D.sl (dI .i64 r) rn, D.sl (msD m) c, D.sl (dI .i64 s) sn]
abbrev t0C4_3 (y : Int) (wr : Int) (r : List Int) (rn : Nat) (u : List Int) (wz : Int) (s : List Int) (sn : Nat) : BC := .ds [iD y, iD (neV wr (spS r rn)), D.sl (dI .i64 u) (List.length u), iD (neV wz (spS s sn))]
abbrev t0C4_4 (y : Int) : BC := .ds [iD y, iD 0, D.lit (.slice none 0 0), iD 0]
theorem C_best (k : Int) (r : List Int) (rn : Nat) (m : List (List Int)) (c : Nat) (s : List Int) (sn : Nat) (wk wr : Int) (w : List Int) (wn : Nat) (wz : Int) (hr : List.length r = rn * 2) (hs : List.length s = sn * 2) (hc : List.length m = c) (h1 : rn ≤ 1000000) (h2 : sn ≤ 1000000) (h3 : c ≤ 1000000) (h4 : 1 ≤ c) (hW : MsW m) (hw : List.length w = wn) (h5 : wn ≤ 1000000) (hwr : -9223372036854775808 ≤ wr ∧ wr ≤ 9223372036854775807) (hwz : -9223372036854775808 ≤ wz ∧ wz ≤ 9223372036854775807) : Fun 61 [.agg [iC k, .d (D.sl (dI .i64 r) rn), .d (D.sl (msD m) c), .d (D.sl (dI .i64 s) sn)], .agg [iC wk, iC wr, .d (D.sl (dI .i64 w) wn), iC wz]] (toG []) 0 (.e (.agg [iC (bkK k wk 7), iC (neV wr (spS r rn)), .d (D.sl (dI .i64 (bmM w m c)) (List.length (bmM w m c))), iC (neV wz (spS s sn))])) (toG []) 0 := by
 refine Fun.mk (n := 83) Tryz.func61 rfl rfl (Nat.le_of_ble_eq_true rfl) ?_
 intro cx hcx
 refine y9r [.no, .no, .no] True [(2, rV 0 0), (3, rV 1 0), (4, rV 2 0)] [(0, some (59, (t0C4_2 k r rn m c s sn))), (1, some (27, (t0C4_1 wk wr w wn wz))), (2, some (27, t0C4_0))] 3 trivial ?_
 refine y9r [.no] True [(2, rV 0 0), (3, rV 1 0), (4, rV 2 0), (5, rV 3 0)] [(0, some (59, (t0C4_2 k r rn m c s sn))), (1, some (27, (t0C4_1 wk wr w wn wz))), (2, some (27, t0C4_0)), (3, some (27, t0C4_0))] 4 trivial ?_
 refine AW.seq ?_
 refine y9s [.no] True [(2, rV 0 0), (3, rV 1 0), (4, rV 2 0), (5, rV 3 0), (6, iV 1)] trivial ?_
 refine AW.block ?_
 refine AW.loopE 0 hcx (fun (x : {x : Nat × Int // match x with | (i, y) => (i ≤ 7 ∧ 0 ≤ y ∧ y ≤ 7) ∧ (bkK k wk i = y)}) => match x with | ⟨(i, y), _⟩ => (⟨[(2, rV 0 0), (3, rV 1 0), (4, rV 2 0), (5, rV 3 0), (6, iV ((i : Int) + 1))], [(0, some (59, (t0C4_2 k r rn m c s sn))), (1, some (27, (t0C4_1 wk wr w wn wz))), (2, some (27, t0C4_0)), (3, some (27, (t0C4_4 y)))], 4⟩ : ES)) (fun x => match x with | ⟨(i, y), _⟩ => 7 - i) ⟨((0 : Nat), (0 : Int)), ⟨zl10c2, rfl⟩⟩ [] (P := (q9n 0) ∧ (q9n 0) ∧ (q9n 0) ∧ (q9n 0) ∧ (q9i 1) ∧ (q9d [iD k, dl r rn, D.sl (msD m) c, dl s sn]) ∧ (q9d [iD wk, iD wr, dl w wn, iD wz]) ∧ (q9d [iD 0, iD 0, nl9, iD 0]) ∧ (q9d [iD 0, iD 0, nl9, iD 0])) zk ⟨rfl, rfl, rfl, rfl, rfl, rfl, rfl, rfl, rfl⟩ ?_
 rintro ⟨⟨i, y⟩, hinv0⟩
 obtain ⟨hi, hy⟩ : (i ≤ 7 ∧ 0 ≤ y ∧ y ≤ 7) ∧ (bkK k wk i = y) := hinv0
 refine AW.es (l := [(2, rV 0 0), (3, rV 1 0), (4, rV 2 0), (5, rV 3 0), (6, iV ((i : Int) + 1))]) (g := [(0, some (59, (t0C4_2 k r rn m c s sn))), (1, some (27, (t0C4_1 wk wr w wn wz))), (2, some (27, t0C4_0)), (3, some (27, (t0C4_4 y)))]) (nx := 4) rfl rfl rfl ?_
 refine AW.seq ?_
 by_cases hx1 : ((((i : Nat) : Int) + 1) ≤ 7)
 ·refine y9r [.no, .b true] ((((i : Int) + 1) ≤ 7)) [(2, rV 0 0), (3, rV 1 0), (4, rV 2 0), (5, rV 3 0), (6, iV (↑i + 1)), (10, bV true)] [(0, some (59, (t0C4_2 k r rn m c s sn))), (1, some (27, (t0C4_1 wk wr w wn wz))), (2, some (27, t0C4_0)), (3, some (27, (t0C4_4 y)))] 4 zo ?_
  refine zts ?_
  refine AW.seq ?_
  refine AW.block ?_
  rcases Bool.eq_false_or_eq_true (kiB k (i + 1)) with hx2 | hx2
  ·by_cases hx3 : (y = 0)
   ·refine y9s (.no :: .no :: .no :: .call [] (bV true) [] 0 [] none :: nz9 4 [.b true, .no, .no, .no]) ((Fun 97 [iE k, iE ((i : Int) + 1)] (toG []) 0 (bV true) (toG []) 0) ∧ ((y = 0))) [(2, rV 0 0), (3, rV 1 0), (4, rV 2 0), (5, rV 3 0), (6, iV (↑i + 1)), (33, bV true)] ⟨(by have h0 := (C_kind k (i + 1) zo); rw [hx2] at h0; exact h0), zo⟩ ?_
    refine zt ?_
    refine y9g (nz9 4 []) True [(2, rV 0 0), (3, rV 1 0), (4, rV 2 0), (5, rV 3 0), (6, iV (↑i + 1))] [(0, some (59, (t0C4_2 k r rn m c s sn))), (1, some (27, (t0C4_1 wk wr w wn wz))), (2, some (27, t0C4_0)), (3, some (27, .ds [iD (↑i + 1), iD 0, nl9, iD 0]))] 4 trivial ?_
    refine y9h [.no, .w, .no] ((-9223372036854775808) ≤ (((i : Int) + 1) + 1) ∧ (((i : Int) + 1) + 1) ≤ 9223372036854775807) [(2, rV 0 0), (3, rV 1 0), (4, rV 2 0), (5, rV 3 0), (6, iV ((↑i + 1) + 1))] ⟨by omega, by omega⟩ ?_
    exact Rd.of ⟨(((i + 1) : Nat), (((i : Int) + 1) : Int)), ⟨zl10c2, (by first | exact bk_y hy (by assumption) zo rfl | exact bk_k hy (by assumption) | exact bk_n hy zo zo)⟩⟩ [] (P := (q9n 0) ∧ (q9n 0) ∧ (q9n 0) ∧ (q9n 0) ∧ ((((((i + 1) : Nat) : Int) + 1) : Int) = (((i : Int) + 1) + 1)) ∧ (q9d [iD k, dl r rn, D.sl (msD m) c, dl s sn]) ∧ (q9d [iD wk, iD wr, dl w wn, iD wz]) ∧ (q9d [iD 0, iD 0, nl9, iD 0]) ∧ (q9d [iD ((i : Int) + 1), iD 0, nl9, iD 0])) zk ⟨rfl, rfl, rfl, rfl, zl10c0, rfl, rfl, rfl, rfl⟩ (show 7 - (i + 1) < 7 - i from zl10c1)
   ·by_cases hx5 : ((kdV wk (((i : Nat) : Int) + 1) y) < 0)
    ·have hx6 : ((((-1) : Int) ≤ (kdV wk (((i : Nat) : Int) + 1) y)) ∧ ((kdV wk (((i : Nat) : Int) + 1) y) ≤ 1)) := kdV_rng wk (((i : Nat) : Int) + 1) y
     refine y9s (.no :: .no :: .no :: .call [] (bV true) [] 0 [] none :: nz9 4 (.b false :: nz9 8 [.call [] (iV (kdV wk ((i : Int) + 1) y)) [] 0 [] none, .b true, .no, .no])) ((Fun 97 [iE k, iE ((i : Int) + 1)] (toG []) 0 (bV true) (toG []) 0) ∧ (¬ (y = 0)) ∧ (_) ∧ (((kdV wk ((i : Int) + 1) y) < 0))) [(2, rV 0 0), (3, rV 1 0), (4, rV 2 0), (5, rV 3 0), (6, iV (↑i + 1)), (33, bV true)] ⟨(by have h0 := (C_kind k (i + 1) zo); rw [hx2] at h0; exact h0), zo, (Y_rkinds wk ((i : Int) + 1) y), zo⟩ ?_
     refine zt ?_
     refine y9g (nz9 4 []) True [(2, rV 0 0), (3, rV 1 0), (4, rV 2 0), (5, rV 3 0), (6, iV (↑i + 1))] [(0, some (59, (t0C4_2 k r rn m c s sn))), (1, some (27, (t0C4_1 wk wr w wn wz))), (2, some (27, t0C4_0)), (3, some (27, .ds [iD (↑i + 1), iD 0, nl9, iD 0]))] 4 trivial ?_
     refine y9h [.no, .w, .no] ((-9223372036854775808) ≤ (((i : Int) + 1) + 1) ∧ (((i : Int) + 1) + 1) ≤ 9223372036854775807) [(2, rV 0 0), (3, rV 1 0), (4, rV 2 0), (5, rV 3 0), (6, iV ((↑i + 1) + 1))] ⟨by omega, by omega⟩ ?_
     exact Rd.of ⟨(((i + 1) : Nat), (((i : Int) + 1) : Int)), ⟨zl10c2, (by first | exact bk_y hy (by assumption) zo rfl | exact bk_k hy (by assumption) | exact bk_n hy zo zo)⟩⟩ [] (P := (q9n 0) ∧ (q9n 0) ∧ (q9n 0) ∧ (q9n 0) ∧ ((((((i + 1) : Nat) : Int) + 1) : Int) = (((i : Int) + 1) + 1)) ∧ (q9d [iD k, dl r rn, D.sl (msD m) c, dl s sn]) ∧ (q9d [iD wk, iD wr, dl w wn, iD wz]) ∧ (q9d [iD 0, iD 0, nl9, iD 0]) ∧ (q9d [iD ((i : Int) + 1), iD 0, nl9, iD 0])) zk ⟨rfl, rfl, rfl, rfl, zl10c0, rfl, rfl, rfl, rfl⟩ (show 7 - (i + 1) < 7 - i from zl10c1)
    ·have hx7 : ((((-1) : Int) ≤ (kdV wk (((i : Nat) : Int) + 1) y)) ∧ ((kdV wk (((i : Nat) : Int) + 1) y) ≤ 1)) := kdV_rng wk (((i : Nat) : Int) + 1) y
     refine y9s (.no :: .no :: .no :: .call [] (bV true) [] 0 [] none :: nz9 4 (.b false :: nz9 8 [.call [] (iV (kdV wk ((i : Int) + 1) y)) [] 0 [] none, .b false, .no, .no])) ((Fun 97 [iE k, iE ((i : Int) + 1)] (toG []) 0 (bV true) (toG []) 0) ∧ (¬ (y = 0)) ∧ (_) ∧ (¬ ((kdV wk ((i : Int) + 1) y) < 0))) [(2, rV 0 0), (3, rV 1 0), (4, rV 2 0), (5, rV 3 0), (6, iV (↑i + 1)), (33, bV false)] ⟨(by have h0 := (C_kind k (i + 1) zo); rw [hx2] at h0; exact h0), zo, (Y_rkinds wk ((i : Int) + 1) y), zo⟩ ?_
     refine zfs ?_
     refine y9h [.no, .w, .no] ((-9223372036854775808) ≤ (((i : Int) + 1) + 1) ∧ (((i : Int) + 1) + 1) ≤ 9223372036854775807) [(2, rV 0 0), (3, rV 1 0), (4, rV 2 0), (5, rV 3 0), (6, iV ((↑i + 1) + 1))] ⟨by omega, by omega⟩ ?_
     exact Rd.of ⟨(((i + 1) : Nat), (y : Int)), ⟨zl10c2, (by first | exact bk_y hy (by assumption) zo rfl | exact bk_k hy (by assumption) | exact bk_n hy zo zo)⟩⟩ [] (P := (q9n 0) ∧ (q9n 0) ∧ (q9n 0) ∧ (q9n 0) ∧ ((((((i + 1) : Nat) : Int) + 1) : Int) = (((i : Int) + 1) + 1)) ∧ (q9d [iD k, dl r rn, D.sl (msD m) c, dl s sn]) ∧ (q9d [iD wk, iD wr, dl w wn, iD wz]) ∧ (q9d [iD 0, iD 0, nl9, iD 0]) ∧ (q9d [iD y, iD 0, nl9, iD 0])) zk ⟨rfl, rfl, rfl, rfl, zl10c0, rfl, rfl, rfl, rfl⟩ (show 7 - (i + 1) < 7 - i from zl10c1)
  ·refine y9s [.no, .no, .no, .call [] (bV false) [] 0 [] none, .no, .no] (Fun 97 [iE k, iE ((i : Int) + 1)] (toG []) 0 (bV false) (toG []) 0) [(2, rV 0 0), (3, rV 1 0), (4, rV 2 0), (5, rV 3 0), (6, iV (↑i + 1)), (33, bV false)] (by have h0 := (C_kind k (i + 1) zo); rw [hx2] at h0; exact h0) ?_
   refine zfs ?_
   refine y9h [.no, .w, .no] ((-9223372036854775808) ≤ (((i : Int) + 1) + 1) ∧ (((i : Int) + 1) + 1) ≤ 9223372036854775807) [(2, rV 0 0), (3, rV 1 0), (4, rV 2 0), (5, rV 3 0), (6, iV ((↑i + 1) + 1))] ⟨by omega, by omega⟩ ?_
   exact Rd.of ⟨(((i + 1) : Nat), (y : Int)), ⟨zl10c2, (by first | exact bk_y hy (by assumption) zo rfl | exact bk_k hy (by assumption) | exact bk_n hy zo zo)⟩⟩ [] (P := (q9n 0) ∧ (q9n 0) ∧ (q9n 0) ∧ (q9n 0) ∧ ((((((i + 1) : Nat) : Int) + 1) : Int) = (((i : Int) + 1) + 1)) ∧ (q9d [iD k, dl r rn, D.sl (msD m) c, dl s sn]) ∧ (q9d [iD wk, iD wr, dl w wn, iD wz]) ∧ (q9d [iD 0, iD 0, nl9, iD 0]) ∧ (q9d [iD y, iD 0, nl9, iD 0])) zk ⟨rfl, rfl, rfl, rfl, zl10c0, rfl, rfl, rfl, rfl⟩ (show 7 - (i + 1) < 7 - i from zl10c1)
 ·refine y9r [.no, .b false] (¬ (((i : Int) + 1) ≤ 7)) [(2, rV 0 0), (3, rV 1 0), (4, rV 2 0), (5, rV 3 0), (6, iV (↑i + 1)), (10, bV false)] [(0, some (59, (t0C4_2 k r rn m c s sn))), (1, some (27, (t0C4_1 wk wr w wn wz))), (2, some (27, t0C4_0)), (3, some (27, (t0C4_4 y)))] 4 zo ?_
  refine zf ?_
  refine AW.exit ?_
  refine y9r (nz9 5 (.call [] (.tup [iE (neV wr (spS r rn)), .c (.d (D.lit (.bool (nrF wr (spS r rn)))))]) [] 0 [] none :: nz9 6 [])) _ [(2, rV 0 0), (3, rV 1 0), (4, rV 2 0), (5, rV 3 0)] [(0, some (59, (t0C4_2 k r rn m c s sn))), (1, some (27, (t0C4_1 wk wr w wn wz))), (2, some (27, t0C4_0)), (3, some (27, .ds [iD y, iD (neV wr (spS r rn)), nl9, iD 0]))] 4 (U_rNear r rn wr zo zo zo) ?_
  refine y9r (nz9 4 (.call [] (.tup [iE (neV wz (spS s sn)), .c (.d (D.lit (.bool (nrF wz (spS s sn)))))]) [] 0 [] none :: nz9 5 [])) _ [(2, rV 0 0), (3, rV 1 0), (4, rV 2 0), (5, rV 3 0)] [(0, some (59, (t0C4_2 k r rn m c s sn))), (1, some (27, (t0C4_1 wk wr w wn wz))), (2, some (27, t0C4_0)), (3, some (27, .ds [iD y, iD (neV wr (spS r rn)), nl9, iD (neV wz (spS s sn))]))] 4 (U_rNear s sn wz zo zo zo) ?_
  refine AW.seq ?_
  refine y9r (nz9 4 []) True [(3, rV 1 0), (4, rV 2 0), (5, rV 3 0), (58, .e (.c (.d (D.sl (msD m) c)))), (59, uV c), (60, iV 0)] [(1, some (27, (t0C4_1 wk wr w wn wz))), (2, some (27, t0C4_0)), (3, some (27, .ds [iD y, iD (neV wr (spS r rn)), nl9, iD (neV wz (spS s sn))]))] 4 trivial ?_
  refine AW.block ?_
  refine AW.peel 1 ?_
  refine AWp.s ?_
  refine y9r [.b true] (((0 : Int) < (c : Int))) [(3, rV 1 0), (4, rV 2 0), (5, rV 3 0), (58, .e (.c (.d (D.sl (msD m) c)))), (59, uV c), (60, iV 0), (61, bV true)] [(1, some (27, (t0C4_1 wk wr w wn wz))), (2, some (27, t0C4_0)), (3, some (27, .ds [iD y, iD (neV wr (spS r rn)), nl9, iD (neV wz (spS s sn))]))] 4 zo ?_
  refine AW.seq ?_
  refine zts ?_
  refine AW.seq ?_
  refine AW.block ?_
  have hx8 : ((List.length (List.getD m 0 ([] : List Int))) ≤ 1000000) := MsW.at (show MsW m by with_reducible assumption) _
  refine y9s [.no, .n 0, .d (dl (List.getD m 0 ([] : List Int)) (List.length (List.getD m 0 ([] : List Int)))), .no, .no] ((q9i 0) ∧ ((0 : Nat) < c) ∧ ((List.drop 0 (msD m))[0]? = some (dl (List.getD m 0 ([] : List Int)) (List.length (List.getD m 0 ([] : List Int)))))) [(3, rV 1 0), (4, rV 2 0), (5, rV 3 0), (7, iV 0), (8, sV .i64 (List.getD m 0 ([] : List Int)) (List.length (List.getD m 0 ([] : List Int)))), (58, .e (.c (.d (D.sl (msD m) c)))), (59, uV c), (60, iV 0)] ⟨rfl, zo, (msD_at _ _ (by first | omega | (simp only [msD_len, bxD_len, List.length_append, List.length_cons, List.length_nil, List.length_take, List.length_drop] <;> omega)))⟩ ?_
  refine y9s [.no, .b true, .no, .no] ((q9i 0)) [(3, rV 1 0), (4, rV 2 0), (5, rV 3 0), (8, sV .i64 (List.getD m 0 ([] : List Int)) (List.length (List.getD m 0 ([] : List Int)))), (58, .e (.c (.d (D.sl (msD m) c)))), (59, uV c), (60, iV 0), (77, bV true)] zo ?_
  refine zt ?_
  refine y9g (nz9 4 []) True [(3, rV 1 0), (4, rV 2 0), (5, rV 3 0), (58, .e (.c (.d (D.sl (msD m) c)))), (59, uV c), (60, iV 0)] [(1, some (27, (t0C4_1 wk wr w wn wz))), (2, some (27, t0C4_0)), (3, some (27, .ds [iD y, iD (neV wr (spS r rn)), dl (List.getD m 0 ([] : List Int)) (List.length (List.getD m 0 ([] : List Int))), iD (neV wz (spS s sn))]))] 4 trivial ?_
  refine y9h [.w, .no] ((-9223372036854775808) ≤ (1 : Int) ∧ (1 : Int) ≤ 9223372036854775807) [(3, rV 1 0), (4, rV 2 0), (5, rV 3 0), (58, .e (.c (.d (D.sl (msD m) c)))), (59, uV c), (60, iV 1)] ⟨by omega, by omega⟩ ?_
  refine AWp.z ?_
  refine AW.loopE 0 hcx (fun (x : {x : Nat × List Int // match x with | (j, u) => (1 ≤ j ∧ j ≤ c) ∧ (bmM w m j = u) ∧ (List.length u ≤ 1000000)}) => match x with | ⟨(j, u), _⟩ => (⟨[(3, rV 1 0), (4, rV 2 0), (5, rV 3 0), (58, .e (.c (.d (D.sl (msD m) c)))), (59, uV c), (60, uV j)], [(1, some (27, (t0C4_1 wk wr w wn wz))), (2, some (27, t0C4_0)), (3, some (27, (t0C4_3 y wr r rn u wz s sn)))], 4⟩ : ES)) (fun x => match x with | ⟨(j, u), _⟩ => c - j) ⟨((1 : Nat), ((List.getD m 0 ([] : List Int)) : List Int)), ⟨zl10c2, (bm_1 rfl), zo⟩⟩ [] (P := (q9n 0) ∧ (q9n 0) ∧ (q9n 0) ∧ (q9d (msD m)) ∧ (q9n c) ∧ (q9i (c : Int)) ∧ (q9i 1) ∧ (q9d [iD wk, iD wr, dl w wn, iD wz]) ∧ (q9d [iD 0, iD 0, nl9, iD 0]) ∧ (q9d [iD y, iD (neV wr (spS r rn)), dl (List.getD m 0 ([] : List Int)) (List.length (List.getD m 0 ([] : List Int))), iD (neV wz (spS s sn))])) zk ⟨rfl, rfl, rfl, rfl, rfl, rfl, rfl, rfl, rfl, rfl⟩ ?_
  rintro ⟨⟨j, u⟩, hinv1⟩
  obtain ⟨hj, hu, hul⟩ : (1 ≤ j ∧ j ≤ c) ∧ (bmM w m j = u) ∧ (List.length u ≤ 1000000) := hinv1
  refine AW.es (l := [(3, rV 1 0), (4, rV 2 0), (5, rV 3 0), (58, .e (.c (.d (D.sl (msD m) c)))), (59, uV c), (60, uV j)]) (g := [(1, some (27, (t0C4_1 wk wr w wn wz))), (2, some (27, t0C4_0)), (3, some (27, (t0C4_3 y wr r rn u wz s sn)))]) (nx := 4) rfl rfl rfl ?_
  by_cases hx9 : (((j : Nat) : Int) < ((c : Nat) : Int))
  ·refine y9r [.b true] (((j : Int) < (c : Int))) [(3, rV 1 0), (4, rV 2 0), (5, rV 3 0), (58, .e (.c (.d (D.sl (msD m) c)))), (59, uV c), (60, uV j), (61, bV true)] [(1, some (27, (t0C4_1 wk wr w wn wz))), (2, some (27, t0C4_0)), (3, some (27, (t0C4_3 y wr r rn u wz s sn)))] 4 zo ?_
   refine AW.seq ?_
   refine zts ?_
   refine AW.seq ?_
   refine AW.block ?_
   have hx10 : ((List.length (List.getD m j ([] : List Int))) ≤ 1000000) := MsW.at (show MsW m by with_reducible assumption) _
   refine y9s [.no, .n j, .d (dl (List.getD m j ([] : List Int)) (List.length (List.getD m j ([] : List Int)))), .no, .no] ((q9i (j : Int)) ∧ (j < c) ∧ ((List.drop j (msD m))[0]? = some (dl (List.getD m j ([] : List Int)) (List.length (List.getD m j ([] : List Int)))))) [(3, rV 1 0), (4, rV 2 0), (5, rV 3 0), (7, uV j), (8, sV .i64 (List.getD m j ([] : List Int)) (List.length (List.getD m j ([] : List Int)))), (58, .e (.c (.d (D.sl (msD m) c)))), (59, uV c), (60, uV j)] ⟨rfl, zo, (msD_at _ _ (by first | omega | (simp only [msD_len, bxD_len, List.length_append, List.length_cons, List.length_nil, List.length_take, List.length_drop] <;> omega)))⟩ ?_
   by_cases hx12 : ((mpV w (List.getD m j ([] : List Int)) u) < 0)
   ·have hx13 : ((((-1) : Int) ≤ (mpV w (List.getD m j ([] : List Int)) u)) ∧ ((mpV w (List.getD m j ([] : List Int)) u) ≤ 1)) := mpV_rng w (List.getD m j ([] : List Int)) u
    refine y9s (.no :: .b false :: nz9 8 [.call [] (iV (mpV w (List.getD m j ([] : List Int)) u)) [] 0 [] none, .b true, .no]) ((¬ ((j : Int) = 0)) ∧ (_) ∧ (((mpV w (List.getD m j ([] : List Int)) u) < 0))) [(3, rV 1 0), (4, rV 2 0), (5, rV 3 0), (8, sV .i64 (List.getD m j ([] : List Int)) (List.length (List.getD m j ([] : List Int)))), (58, .e (.c (.d (D.sl (msD m) c)))), (59, uV c), (60, uV j), (77, bV true)] ⟨zo, (Y_rmaps w (List.getD m j ([] : List Int)) u wn (List.length (List.getD m j ([] : List Int))) (List.length u) zo rfl rfl zo (by first | omega | with_reducible assumption | (simp only [msD_len, bxD_len, List.length_append, List.length_cons, List.length_nil, List.length_take, List.length_drop, List.length_replicate, List.length_set] <;> omega) | rfl | assumption) zo), zo⟩ ?_
    refine zt ?_
    refine y9g (nz9 4 []) True [(3, rV 1 0), (4, rV 2 0), (5, rV 3 0), (58, .e (.c (.d (D.sl (msD m) c)))), (59, uV c), (60, uV j)] [(1, some (27, (t0C4_1 wk wr w wn wz))), (2, some (27, t0C4_0)), (3, some (27, .ds [iD y, iD (neV wr (spS r rn)), dl (List.getD m j ([] : List Int)) (List.length (List.getD m j ([] : List Int))), iD (neV wz (spS s sn))]))] 4 trivial ?_
    refine y9h [.w, .no] ((-9223372036854775808) ≤ ((j : Int) + 1) ∧ ((j : Int) + 1) ≤ 9223372036854775807) [(3, rV 1 0), (4, rV 2 0), (5, rV 3 0), (58, .e (.c (.d (D.sl (msD m) c)))), (59, uV c), (60, iV (↑j + 1))] ⟨by omega, by omega⟩ ?_
    exact Rd.of ⟨(((j + 1) : Nat), ((List.getD m j ([] : List Int)) : List Int)), ⟨zl10c2, (by first | exact bm_y hu zo rfl | exact bm_n hu zo zo), (by first | omega | assumption)⟩⟩ [] (P := (q9n 0) ∧ (q9n 0) ∧ (q9n 0) ∧ (q9d (msD m)) ∧ (q9n c) ∧ (q9i (c : Int)) ∧ (((((j + 1) : Nat) : Int) : Int) = ((j : Int) + 1)) ∧ (q9d [iD wk, iD wr, dl w wn, iD wz]) ∧ (q9d [iD 0, iD 0, nl9, iD 0]) ∧ (q9d [iD y, iD (neV wr (spS r rn)), dl (List.getD m j ([] : List Int)) (List.length (List.getD m j ([] : List Int))), iD (neV wz (spS s sn))])) zk ⟨rfl, rfl, rfl, rfl, rfl, rfl, zl10c0, rfl, rfl, rfl⟩ (show c - (j + 1) < c - j from zl10c1)
   ·have hx14 : ((((-1) : Int) ≤ (mpV w (List.getD m j ([] : List Int)) u)) ∧ ((mpV w (List.getD m j ([] : List Int)) u) ≤ 1)) := mpV_rng w (List.getD m j ([] : List Int)) u
    refine y9s (.no :: .b false :: nz9 8 [.call [] (iV (mpV w (List.getD m j ([] : List Int)) u)) [] 0 [] none, .b false, .no]) ((¬ ((j : Int) = 0)) ∧ (_) ∧ (¬ ((mpV w (List.getD m j ([] : List Int)) u) < 0))) [(3, rV 1 0), (4, rV 2 0), (5, rV 3 0), (8, sV .i64 (List.getD m j ([] : List Int)) (List.length (List.getD m j ([] : List Int)))), (58, .e (.c (.d (D.sl (msD m) c)))), (59, uV c), (60, uV j), (77, bV false)] ⟨zo, (Y_rmaps w (List.getD m j ([] : List Int)) u wn (List.length (List.getD m j ([] : List Int))) (List.length u) zo rfl rfl zo (by first | omega | with_reducible assumption | (simp only [msD_len, bxD_len, List.length_append, List.length_cons, List.length_nil, List.length_take, List.length_drop, List.length_replicate, List.length_set] <;> omega) | rfl | assumption) zo), zo⟩ ?_
    refine zfs ?_
    refine y9h [.w, .no] ((-9223372036854775808) ≤ ((j : Int) + 1) ∧ ((j : Int) + 1) ≤ 9223372036854775807) [(3, rV 1 0), (4, rV 2 0), (5, rV 3 0), (58, .e (.c (.d (D.sl (msD m) c)))), (59, uV c), (60, iV (↑j + 1))] ⟨by omega, by omega⟩ ?_
    exact Rd.of ⟨(((j + 1) : Nat), (u : List Int)), ⟨zl10c2, (by first | exact bm_y hu zo rfl | exact bm_n hu zo zo), (by first | omega | assumption)⟩⟩ [] (P := (q9n 0) ∧ (q9n 0) ∧ (q9n 0) ∧ (q9d (msD m)) ∧ (q9n c) ∧ (q9i (c : Int)) ∧ (((((j + 1) : Nat) : Int) : Int) = ((j : Int) + 1)) ∧ (q9d [iD wk, iD wr, dl w wn, iD wz]) ∧ (q9d [iD 0, iD 0, nl9, iD 0]) ∧ (q9d [iD y, iD (neV wr (spS r rn)), dl u (List.length u), iD (neV wz (spS s sn))])) zk ⟨rfl, rfl, rfl, rfl, rfl, rfl, zl10c0, rfl, rfl, rfl⟩ (show c - (j + 1) < c - j from zl10c1)
  ·refine y9r [.b false] (¬ ((j : Int) < (c : Int))) [(3, rV 1 0), (4, rV 2 0), (5, rV 3 0), (58, .e (.c (.d (D.sl (msD m) c)))), (59, uV c), (60, uV j), (61, bV false)] [(1, some (27, (t0C4_1 wk wr w wn wz))), (2, some (27, t0C4_0)), (3, some (27, (t0C4_3 y wr r rn u wz s sn)))] 4 zo ?_
   refine AW.seq ?_
   refine zf ?_
   refine AW.exit ?_
   refine y9r [.no, .no] True [(4, rV 2 0)] [(2, some (27, (t0C4_3 y wr r rn u wz s sn)))] 4 trivial ?_
   have hz1 : bkK k wk 7 = y := by have h9 := hy; rw [show i = 7 by omega] at h9; exact h9
   have hz2 : bmM w m c = u := by have h9 := hu; rw [show j = c by omega] at h9; exact h9
   refine AW.ret ?_
   exact EndP.of (.inr rfl) [] (P := (((bkK k wk 7) : Int) = y) ∧ (q9i (neV wr (spS r rn))) ∧ (((dI .i64 (bmM w m c)) : List D) = (dI .i64 u)) ∧ (((List.length (bmM w m c)) : Nat) = (List.length u)) ∧ (q9i (neV wz (spS s sn)))) zk ⟨(by first | rfl | exact hz1 | rw [hz2] | omega), rfl, (by first | rfl | rw [hz2]), (by first | rfl | exact hz1 | rw [hz2] | omega), rfl⟩
end Go.Proofs.YtcfmjpnffembpaaGreat
