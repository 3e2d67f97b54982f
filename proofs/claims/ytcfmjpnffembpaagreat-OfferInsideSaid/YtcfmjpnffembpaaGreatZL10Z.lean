/- Lists that are the same. No statement is proved here. -/
import Derived.Test.YtcfmjpnffembpaaGreatZL10B
namespace Go.Proofs.YtcfmjpnffembpaaGreat
open Go.ChangeShapes Go.WideShapes Go.ChangeAt Go.RowKit
set_option linter.unusedVariables false
set_option linter.unusedSimpArgs false
/-! chapter 10: lists of boxes that are the same -/
set_option maxHeartbeats 4000000
set_option maxRecDepth 100000
def sbB (k : Int) (r : List Int) (rn : Nat) (m : List (List Int)) (s : List Int) (sn : Nat) (k2 : Int) (r2 : List Int) (rn2 : Nat) (m2 : List (List Int)) (s2 : List Int) (sn2 : Nat) : Bool := decide (k = k2 ∧ r = r2 ∧ rn = rn2 ∧ m = m2 ∧ s = s2 ∧ sn = sn2)
theorem sz_eq {a b : List Int} (h : szB a b = true) : a = b := of_decide_eq_true h
theorem sz_nq {a b : List Int} (h : szB a b = false) : ¬ a = b := of_decide_eq_false h
section
variable {k : Int} {r : List Int} {rn : Nat} {m : List (List Int)} {s : List Int} {sn : Nat} {k2 : Int} {r2 : List Int} {rn2 : Nat} {m2 : List (List Int)} {s2 : List Int} {sn2 : Nat}
theorem sb_t (h1 : k = k2) (hc : m.length = m2.length) (hr : szB r r2 = true) (hs : szB s s2 = true) (h : ∀ j, j < m.length → sqB (List.getD m j []) (List.getD m2 j []) = true) (l1 : r.length = rn * 2) (l2 : r2.length = rn2 * 2) (l3 : s.length = sn * 2) (l4 : s2.length = sn2 * 2) : sbB k r rn m s sn k2 r2 rn2 m2 s2 sn2 = true := by
 have e1 := sz_eq hr
 have e2 := sz_eq hs
 refine decide_eq_true ⟨h1, e1, by rw [e1] at l1; omega, ?_, e2, by rw [e2] at l3; omega⟩
 refine List.ext_getElem hc fun j a b => ?_
 have h2 := sqB_eq (h j a)
 rw [List.getD_eq_getElem?_getD, List.getD_eq_getElem?_getD, List.getElem?_eq_getElem a, List.getElem?_eq_getElem b] at h2
 exact h2
theorem sb_k (h : ¬ (k = k2 ∧ m.length = m2.length)) : sbB k r rn m s sn k2 r2 rn2 m2 s2 sn2 = false := decide_eq_false fun e => h ⟨e.1, by rw [e.2.2.2.1]⟩
theorem sb_r (h : szB r r2 = false) : sbB k r rn m s sn k2 r2 rn2 m2 s2 sn2 = false := decide_eq_false fun e => sz_nq h e.2.1
theorem sb_s (h : szB s s2 = false) : sbB k r rn m s sn k2 r2 rn2 m2 s2 sn2 = false := decide_eq_false fun e => sz_nq h e.2.2.2.2.1
theorem sb_m {j : Nat} (h : sqB (List.getD m j []) (List.getD m2 j []) = false) : sbB k r rn m s sn k2 r2 rn2 m2 s2 sn2 = false := decide_eq_false fun e => sqB_nq h (by rw [e.2.2.2.1])
end
def sbE (xs ys : List Bx) (i : Nat) : Bool := sbB (qbK xs i) (qbR xs i) (qbN xs i) (qbM xs i) (qbS xs i) (qbT xs i) (qbK ys i) (qbR ys i) (qbN ys i) (qbM ys i) (qbS ys i) (qbT ys i)
def saB (xs ys : List Bx) : Bool := decide (xs.length = ys.length ∧ ∀ i, i < xs.length → sbE xs ys i = true)
theorem sa_t {xs ys : List Bx} (h1 : xs.length = ys.length) (h : ∀ i, i < xs.length → sbE xs ys i = true) : saB xs ys = true := decide_eq_true ⟨h1, h⟩
theorem sa_l {xs ys : List Bx} (h1 : ¬ xs.length = ys.length) : saB xs ys = false := decide_eq_false fun e => h1 e.1
theorem sa_f {xs ys : List Bx} {i : Nat} (hi : i < xs.length) (h : sbE xs ys i = false) : saB xs ys = false := decide_eq_false fun e => by
 have := e.2 i hi; rw [h] at this; cases this
theorem sa_refl (a : List Bx) : saB a a = true := sa_t rfl fun i _ => decide_eq_true ⟨rfl, rfl, rfl, rfl, rfl, rfl⟩
theorem zl10z1 {p : Prop} (h : p := by first | omega | (simp only [msD_len, bxD_len, List.length_append, List.length_cons, List.length_nil, List.length_take, List.length_drop] <;> omega)) : p := h
theorem zl10z0 {p : Prop} (h : p := by first | omega | with_reducible assumption | (simp only [msD_len, bxD_len, List.length_append, List.length_cons, List.length_nil, List.length_take, List.length_drop, List.length_replicate, List.length_set] <;> omega) | rfl | assumption) : p := h
abbrev t0Z2_0 (k : Int) (r : List Int) (rn : Nat) (m : List (List Int)) (c : Nat) (s : List Int) (sn : Nat) : BC := .ds [iD k, D.sl (dI .i64 r) rn, D.sl (msD m) c, D.sl (dI .i64 s) sn]
abbrev t0Z2_1 (k2 : Int) (r2 : List Int) (rn2 : Nat) (m2 : List (List Int)) (c2 : Nat) (s2 : List Int) (sn2 : Nat) : BC := .ds [iD k2, D.sl (dI .i64 r2) rn2, D.sl (msD m2) c2, D.sl (dI .i64 s2) sn2]
theorem Z_sbox (k : Int) (r : List Int) (rn : Nat) (m : List (List Int)) (c : Nat) (s : List Int) (sn : Nat) (k2 : Int) (r2 : List Int) (rn2 : Nat) (m2 : List (List Int)) (c2 : Nat) (s2 : List Int) (sn2 : Nat) (hr : List.length r = rn * 2) (hs : List.length s = sn * 2) (hc : List.length m = c) (h1 : rn ≤ 1000000) (h2 : sn ≤ 1000000) (h3 : c ≤ 1000000) (hW : MsW m) (hr2 : List.length r2 = rn2 * 2) (hs2 : List.length s2 = sn2 * 2) (hc2 : List.length m2 = c2) (h12 : rn2 ≤ 1000000) (h22 : sn2 ≤ 1000000) (h32 : c2 ≤ 1000000) (hW2 : MsW m2) : Fun 48 [.agg [iC k, .d (D.sl (dI .i64 r) rn), .d (D.sl (msD m) c), .d (D.sl (dI .i64 s) sn)], .agg [iC k2, .d (D.sl (dI .i64 r2) rn2), .d (D.sl (msD m2) c2), .d (D.sl (dI .i64 s2) sn2)]] (toG []) 0 (.e (.c (.d (D.lit (.bool (sbB k r rn m s sn k2 r2 rn2 m2 s2 sn2)))))) (toG []) 0 := by
 refine Fun.mk (n := 55) Tryz.func48 rfl rfl (Nat.le_of_ble_eq_true rfl) ?_
 intro cx hcx
 refine zr [.no, .no, .no] [2, 3] [0, 1] True [(2, rV 0 0), (3, rV 1 0)] [(0, some (59, (t0Z2_0 k r rn m c s sn))), (1, some (59, (t0Z2_1 k2 r2 rn2 m2 c2 s2 sn2)))] 2 trivial ?_
 refine AW.seq ?_
 by_cases hx1 : (k ≠ k2)
 ·refine zs (nz9 4 (.b true :: nz9 6 [])) [2, 3, 35] [0, 1] ((k ≠ k2)) [(2, rV 0 0), (3, rV 1 0), (35, bV true)] zo ?_
  refine zt ?_
  refine zr [.no] [4] [] True [(4, bV false)] [] 2 trivial ?_
  refine AW.ret ?_
  exact EndP.of (.inr rfl) [] (P := ((sbB k r rn m s sn k2 r2 rn2 m2 s2 sn2) = false)) zk (by first | exact sb_t zo zo (by assumption) (by assumption) (fun j hj => ha j zo) hr hr2 hs hs2 | exact sb_k zo | exact sb_r (by assumption) | exact sb_s (by assumption) | exact sb_m (j := z) (by assumption))
 ·by_cases hx2 : (((c : Nat) : Int) ≠ ((c2 : Nat) : Int))
  ·refine zs (nz9 4 (.b false :: nz9 7 (.b true :: nz9 5 []))) [2, 3, 35] [0, 1] ((¬ (k ≠ k2)) ∧ (((c : Int) ≠ (c2 : Int)))) [(2, rV 0 0), (3, rV 1 0), (35, bV true)] ⟨zo, zo⟩ ?_
   refine zt ?_
   refine zr [.no] [4] [] True [(4, bV false)] [] 2 trivial ?_
   refine AW.ret ?_
   exact EndP.of (.inr rfl) [] (P := ((sbB k r rn m s sn k2 r2 rn2 m2 s2 sn2) = false)) zk (by first | exact sb_t zo zo (by assumption) (by assumption) (fun j hj => ha j zo) hr hr2 hs hs2 | exact sb_k zo | exact sb_r (by assumption) | exact sb_s (by assumption) | exact sb_m (j := z) (by assumption))
  ·rcases Bool.eq_false_or_eq_true (szB r r2) with hx3 | hx3
   ·rcases Bool.eq_false_or_eq_true (szB s s2) with hx4 | hx4
    ·refine zs (nz9 4 (.b false :: nz9 7 (.b false :: nz9 6 (.call [] (bV true) [] 0 [] none :: nz9 7 [.call [] (bV true) [] 0 [] none, .no, .no])))) [2, 3, 35] [0, 1] ((¬ (k ≠ k2)) ∧ (¬ ((c : Int) ≠ (c2 : Int))) ∧ (Fun 93 [.agg [.d (dl r rn)], .agg [.d (dl r2 rn2)]] (toG []) 0 (bV true) (toG []) 0) ∧ (Fun 93 [.agg [.d (dl s sn)], .agg [.d (dl s2 sn2)]] (toG []) 0 (bV true) (toG []) 0)) [(2, rV 0 0), (3, rV 1 0), (35, bV false)] ⟨zo, zo, (by have h0 := (U_Same r r2 rn rn2 zo zo zo zo); rw [hx3] at h0; exact h0), (by have h0 := (U_Same s s2 sn sn2 zo zo zo zo); rw [hx4] at h0; exact h0)⟩ ?_
     refine zfs ?_
     refine AW.seq ?_
     refine zs (nz9 4 []) [2, 3, 38, 39] [0, 1] True [(2, rV 0 0), (3, rV 1 0), (38, uV c), (39, iV 0)] trivial ?_
     refine AW.block ?_
     refine AW.loopE 0 hcx (fun (x : {x : Nat // match x with | z => (z ≤ c) ∧ (∀ j, j < z → sqB (List.getD m j []) (List.getD m2 j []) = true)}) => match x with | ⟨z, _⟩ => (⟨[(2, rV 0 0), (3, rV 1 0), (38, uV c), (39, uV z)], [(0, some (59, (t0Z2_0 k r rn m c s sn))), (1, some (59, (t0Z2_1 k2 r2 rn2 m2 c2 s2 sn2)))], 2⟩ : ES)) (fun x => match x with | ⟨z, _⟩ => c - z) ⟨(0 : Nat), (show ((0 : Nat) ≤ c) ∧ (∀ j, j < (0 : Nat) → sqB (List.getD m j []) (List.getD m2 j []) = true) from ⟨(by first | omega | assumption | simp), (fun j hj => absurd hj (Nat.not_lt_zero j))⟩)⟩ [] (P := (q9n 0) ∧ (q9n 0) ∧ (q9i (c : Int)) ∧ (q9i 0) ∧ (q9d [iD k, dl r rn, D.sl (msD m) c, dl s sn]) ∧ (q9d [iD k2, dl r2 rn2, D.sl (msD m2) c2, dl s2 sn2])) zk ⟨rfl, rfl, rfl, rfl, rfl, rfl⟩ ?_
     rintro ⟨z, hinv0⟩
     obtain ⟨hz, ha⟩ : (z ≤ c) ∧ (∀ j, j < z → sqB (List.getD m j []) (List.getD m2 j []) = true) := hinv0
     refine AW.es (l := [(2, rV 0 0), (3, rV 1 0), (38, uV c), (39, uV z)]) (g := [(0, some (59, (t0Z2_0 k r rn m c s sn))), (1, some (59, (t0Z2_1 k2 r2 rn2 m2 c2 s2 sn2)))]) (nx := 2) rfl rfl rfl ?_
     by_cases hx5 : (((z : Nat) : Int) < ((c : Nat) : Int))
     ·refine zr [.b true] [2, 3, 38, 39, 40] [0, 1] (((z : Int) < (c : Int))) [(2, rV 0 0), (3, rV 1 0), (38, uV c), (39, uV z), (40, bV true)] [(0, some (59, (t0Z2_0 k r rn m c s sn))), (1, some (59, (t0Z2_1 k2 r2 rn2 m2 c2 s2 sn2)))] 2 zo ?_
      refine AW.seq ?_
      refine zts ?_
      refine AW.seq ?_
      refine AW.block ?_
      refine zs [.no, .no] [2, 3, 5, 38, 39] [0, 1] True [(2, rV 0 0), (3, rV 1 0), (5, uV z), (38, uV c), (39, uV z)] trivial ?_
      rcases Bool.eq_false_or_eq_true (sqB (List.getD m z ([] : List Int)) (List.getD m2 z ([] : List Int))) with hx8 | hx8
      ·have hx9 : ((List.length (List.getD m z ([] : List Int))) ≤ 1000000) := MsW.at (show MsW m by with_reducible assumption) _
       have hx10 : ((List.length (List.getD m2 z ([] : List Int))) ≤ 1000000) := MsW.at (show MsW m2 by with_reducible assumption) _
       refine zs [.no, .no, .no, .n z, .d (dl (List.getD m z ([] : List Int)) (List.length (List.getD m z ([] : List Int)))), .no, .no, .no, .n z, .d (dl (List.getD m2 z ([] : List Int)) (List.length (List.getD m2 z ([] : List Int)))), .call [] (bV true) [] 0 [] none, .no] [2, 3, 38, 39, 53] [0, 1] ((q9i (z : Int)) ∧ (z < c) ∧ ((List.drop z (msD m))[0]? = some (dl (List.getD m z ([] : List Int)) (List.length (List.getD m z ([] : List Int))))) ∧ (q9i (z : Int)) ∧ (z < c2) ∧ ((List.drop z (msD m2))[0]? = some (dl (List.getD m2 z ([] : List Int)) (List.length (List.getD m2 z ([] : List Int))))) ∧ (Fun 94 [.c (.d (dl (List.getD m z ([] : List Int)) (List.length (List.getD m z ([] : List Int))))), .c (.d (dl (List.getD m2 z ([] : List Int)) (List.length (List.getD m2 z ([] : List Int)))))] (toG []) 0 (bV true) (toG []) 0)) [(2, rV 0 0), (3, rV 1 0), (38, uV c), (39, uV z), (53, bV false)] ⟨rfl, zo, (msD_at _ _ zl10z1), rfl, zo, (msD_at _ _ zl10z1), (by have h0 := (V_rSame (List.getD m z ([] : List Int)) (List.getD m2 z ([] : List Int)) (List.length (List.getD m z ([] : List Int))) (List.length (List.getD m2 z ([] : List Int))) rfl rfl zl10z0 zl10z0); rw [hx8] at h0; exact h0)⟩ ?_
       refine zfs ?_
       refine zh [.w, .no] [2, 3, 38, 39] [0, 1] ((-9223372036854775808) ≤ ((z : Int) + 1) ∧ ((z : Int) + 1) ≤ 9223372036854775807) [(2, rV 0 0), (3, rV 1 0), (38, uV c), (39, iV (↑z + 1))] ⟨by omega, by omega⟩ ?_
       exact Rd.of ⟨((z + 1) : Nat), (show ((z + 1) ≤ c) ∧ (∀ j, j < (z + 1) → sqB (List.getD m j []) (List.getD m2 j []) = true) from ⟨(by first | omega | assumption | simp), (fun j hj => (Nat.lt_succ_iff_lt_or_eq.1 hj).elim (ha j) (fun e9 => by subst e9; assumption))⟩)⟩ [] (P := (q9n 0) ∧ (q9n 0) ∧ (q9i (c : Int)) ∧ (((((z + 1) : Nat) : Int) : Int) = ((z : Int) + 1)) ∧ (q9d [iD k, dl r rn, D.sl (msD m) c, dl s sn]) ∧ (q9d [iD k2, dl r2 rn2, D.sl (msD m2) c2, dl s2 sn2])) zk ⟨rfl, rfl, rfl, (by first | rfl | omega | assumption | (simp; done) | (simp; omega)), rfl, rfl⟩ (show c - (z + 1) < c - z from (by first | omega | (show _ < _; simp; omega)))
      ·have hx11 : ((List.length (List.getD m z ([] : List Int))) ≤ 1000000) := MsW.at (show MsW m by with_reducible assumption) _
       have hx12 : ((List.length (List.getD m2 z ([] : List Int))) ≤ 1000000) := MsW.at (show MsW m2 by with_reducible assumption) _
       refine zs [.no, .no, .no, .n z, .d (dl (List.getD m z ([] : List Int)) (List.length (List.getD m z ([] : List Int)))), .no, .no, .no, .n z, .d (dl (List.getD m2 z ([] : List Int)) (List.length (List.getD m2 z ([] : List Int)))), .call [] (bV false) [] 0 [] none, .no] [2, 3, 38, 39, 53] [0, 1] ((q9i (z : Int)) ∧ (z < c) ∧ ((List.drop z (msD m))[0]? = some (dl (List.getD m z ([] : List Int)) (List.length (List.getD m z ([] : List Int))))) ∧ (q9i (z : Int)) ∧ (z < c2) ∧ ((List.drop z (msD m2))[0]? = some (dl (List.getD m2 z ([] : List Int)) (List.length (List.getD m2 z ([] : List Int))))) ∧ (Fun 94 [.c (.d (dl (List.getD m z ([] : List Int)) (List.length (List.getD m z ([] : List Int))))), .c (.d (dl (List.getD m2 z ([] : List Int)) (List.length (List.getD m2 z ([] : List Int)))))] (toG []) 0 (bV false) (toG []) 0)) [(2, rV 0 0), (3, rV 1 0), (38, uV c), (39, uV z), (53, bV true)] ⟨rfl, zo, (msD_at _ _ zl10z1), rfl, zo, (msD_at _ _ zl10z1), (by have h0 := (V_rSame (List.getD m z ([] : List Int)) (List.getD m2 z ([] : List Int)) (List.length (List.getD m z ([] : List Int))) (List.length (List.getD m2 z ([] : List Int))) rfl rfl zl10z0 zl10z0); rw [hx8] at h0; exact h0)⟩ ?_
       refine zt ?_
       refine zr [.no] [4] [] True [(4, bV false)] [] 2 trivial ?_
       refine AW.ret ?_
       exact EndP.of (.inr rfl) [] (P := ((sbB k r rn m s sn k2 r2 rn2 m2 s2 sn2) = false)) zk (by first | exact sb_t zo zo (by assumption) (by assumption) (fun j hj => ha j zo) hr hr2 hs hs2 | exact sb_k zo | exact sb_r (by assumption) | exact sb_s (by assumption) | exact sb_m (j := z) (by assumption))
     ·refine zr [.b false] [2, 3, 38, 39, 40] [0, 1] (¬ ((z : Int) < (c : Int))) [(2, rV 0 0), (3, rV 1 0), (38, uV c), (39, uV z), (40, bV false)] [(0, some (59, (t0Z2_0 k r rn m c s sn))), (1, some (59, (t0Z2_1 k2 r2 rn2 m2 c2 s2 sn2)))] 2 zo ?_
      refine AW.seq ?_
      refine zf ?_
      refine AW.exit ?_
      refine zr [.no] [4] [] True [(4, bV true)] [] 2 trivial ?_
      refine AW.ret ?_
      exact EndP.of (.inr rfl) [] (P := ((sbB k r rn m s sn k2 r2 rn2 m2 s2 sn2) = true)) zk (by first | exact sb_t zo zo (by assumption) (by assumption) (fun j hj => ha j zo) hr hr2 hs hs2 | exact sb_k zo | exact sb_r (by assumption) | exact sb_s (by assumption) | exact sb_m (j := z) (by assumption))
    ·refine zs (nz9 4 (.b false :: nz9 7 (.b false :: nz9 6 (.call [] (bV true) [] 0 [] none :: nz9 7 [.call [] (bV false) [] 0 [] none, .no, .no])))) [2, 3, 35] [0, 1] ((¬ (k ≠ k2)) ∧ (¬ ((c : Int) ≠ (c2 : Int))) ∧ (Fun 93 [.agg [.d (dl r rn)], .agg [.d (dl r2 rn2)]] (toG []) 0 (bV true) (toG []) 0) ∧ (Fun 93 [.agg [.d (dl s sn)], .agg [.d (dl s2 sn2)]] (toG []) 0 (bV false) (toG []) 0)) [(2, rV 0 0), (3, rV 1 0), (35, bV true)] ⟨zo, zo, (by have h0 := (U_Same r r2 rn rn2 zo zo zo zo); rw [hx3] at h0; exact h0), (by have h0 := (U_Same s s2 sn sn2 zo zo zo zo); rw [hx4] at h0; exact h0)⟩ ?_
     refine zt ?_
     refine zr [.no] [4] [] True [(4, bV false)] [] 2 trivial ?_
     refine AW.ret ?_
     exact EndP.of (.inr rfl) [] (P := ((sbB k r rn m s sn k2 r2 rn2 m2 s2 sn2) = false)) zk (by first | exact sb_t zo zo (by assumption) (by assumption) (fun j hj => ha j zo) hr hr2 hs hs2 | exact sb_k zo | exact sb_r (by assumption) | exact sb_s (by assumption) | exact sb_m (j := z) (by assumption))
   ·refine zs (nz9 4 (.b false :: nz9 7 (.b false :: nz9 6 (.call [] (bV false) [] 0 [] none :: nz9 4 [])))) [2, 3, 35] [0, 1] ((¬ (k ≠ k2)) ∧ (¬ ((c : Int) ≠ (c2 : Int))) ∧ (Fun 93 [.agg [.d (dl r rn)], .agg [.d (dl r2 rn2)]] (toG []) 0 (bV false) (toG []) 0)) [(2, rV 0 0), (3, rV 1 0), (35, bV true)] ⟨zo, zo, (by have h0 := (U_Same r r2 rn rn2 zo zo zo zo); rw [hx3] at h0; exact h0)⟩ ?_
    refine zt ?_
    refine zr [.no] [4] [] True [(4, bV false)] [] 2 trivial ?_
    refine AW.ret ?_
    exact EndP.of (.inr rfl) [] (P := ((sbB k r rn m s sn k2 r2 rn2 m2 s2 sn2) = false)) zk (by first | exact sb_t zo zo (by assumption) (by assumption) (fun j hj => ha j zo) hr hr2 hs hs2 | exact sb_k zo | exact sb_r (by assumption) | exact sb_s (by assumption) | exact sb_m (j := z) (by assumption))
theorem Z_same (xs ys : List Bx) (n m : Nat) (hn : List.length xs = n) (hm : List.length ys = m) (h1 : n ≤ 1000000) (h2 : m ≤ 1000000) (hW : BsW xs) (hV : BsW ys) : Fun 20 [.c (.d (D.sl (bxD xs) n)), .c (.d (D.sl (bxD ys) m))] (toG []) 0 (.e (.c (.d (D.lit (.bool (saB xs ys)))))) (toG []) 0 := by
 refine Fun.mk (n := 27) Tryz.func20 rfl rfl (Nat.le_of_ble_eq_true rfl) ?_
 intro cx hcx
 refine zr [.no] [0, 1] [] True [(0, .e (.c (.d (D.sl (bxD xs) n)))), (1, .e (.c (.d (D.sl (bxD ys) m))))] [] 0 trivial ?_
 refine AW.seq ?_
 by_cases hx1 : (((n : Nat) : Int) ≠ ((m : Nat) : Int))
 ·refine zs (nz9 4 [.b true]) [0, 1, 10] [] (((n : Int) ≠ (m : Int))) [(0, .e (.c (.d (D.sl (bxD xs) n)))), (1, .e (.c (.d (D.sl (bxD ys) m)))), (10, bV true)] zo ?_
  refine zt ?_
  refine zs [.no] [4] [] True [(4, bV false)] trivial ?_
  refine AW.ret ?_
  exact EndP.of (.inr rfl) [] (P := ((saB xs ys) = false)) zk (by first | exact sa_l zo | exact sa_t zo (fun j hj => ha j zo) | exact sa_f (i := z) zo (by assumption))
 ·refine zs (nz9 4 [.b false]) [0, 1, 10] [] (¬ ((n : Int) ≠ (m : Int))) [(0, .e (.c (.d (D.sl (bxD xs) n)))), (1, .e (.c (.d (D.sl (bxD ys) m)))), (10, bV false)] zo ?_
  refine zfs ?_
  refine AW.seq ?_
  refine zs [.no, .no, .no] [0, 1, 12, 13] [] True [(0, .e (.c (.d (D.sl (bxD xs) n)))), (1, .e (.c (.d (D.sl (bxD ys) m)))), (12, uV n), (13, iV 0)] trivial ?_
  refine AW.block ?_
  refine AW.loopE 0 hcx (fun (x : {x : Nat // match x with | z => (z ≤ n) ∧ (∀ j, j < z → sbE xs ys j = true)}) => match x with | ⟨z, _⟩ => (⟨[(0, .e (.c (.d (D.sl (bxD xs) n)))), (1, .e (.c (.d (D.sl (bxD ys) m)))), (12, uV n), (13, uV z)], [], 0⟩ : ES)) (fun x => match x with | ⟨z, _⟩ => n - z) ⟨(0 : Nat), (show ((0 : Nat) ≤ n) ∧ (∀ j, j < (0 : Nat) → sbE xs ys j = true) from ⟨(by first | omega | assumption | simp), (fun j hj => absurd hj (Nat.not_lt_zero j))⟩)⟩ [] (P := (q9d (bxD xs)) ∧ (q9n n) ∧ (q9d (bxD ys)) ∧ (q9n m) ∧ (q9i (n : Int)) ∧ (q9i 0)) zk ⟨rfl, rfl, rfl, rfl, rfl, rfl⟩ ?_
  rintro ⟨z, hinv0⟩
  obtain ⟨hz, ha⟩ : (z ≤ n) ∧ (∀ j, j < z → sbE xs ys j = true) := hinv0
  refine AW.es (l := [(0, .e (.c (.d (D.sl (bxD xs) n)))), (1, .e (.c (.d (D.sl (bxD ys) m)))), (12, uV n), (13, uV z)]) (g := []) (nx := 0) rfl rfl rfl ?_
  by_cases hx2 : (((z : Nat) : Int) < ((n : Nat) : Int))
  ·refine zr [.b true] [0, 1, 12, 13, 14] [] (((z : Int) < (n : Int))) [(0, .e (.c (.d (D.sl (bxD xs) n)))), (1, .e (.c (.d (D.sl (bxD ys) m)))), (12, uV n), (13, uV z), (14, bV true)] [] 0 zo ?_
   refine AW.seq ?_
   refine zts ?_
   refine AW.seq ?_
   refine AW.block ?_
   refine zs [.no, .no] [0, 1, 5, 12, 13] [] True [(0, .e (.c (.d (D.sl (bxD xs) n)))), (1, .e (.c (.d (D.sl (bxD ys) m)))), (5, uV z), (12, uV n), (13, uV z)] trivial ?_
   rcases Bool.eq_false_or_eq_true (sbB (qbK xs z) (qbR xs z) (qbN xs z) (qbM xs z) (qbS xs z) (qbT xs z) (qbK ys z) (qbR ys z) (qbN ys z) (qbM ys z) (qbS ys z) (qbT ys z)) with hx13 | hx13
   ·obtain ⟨hx14, hx15, hx16, hx17, hx18⟩ := BsW.at (show BsW xs by with_reducible assumption) (z)
    obtain ⟨hx19, hx20, hx21, hx22, hx23⟩ := BsW.at (show BsW ys by with_reducible assumption) (z)
    refine zr [.no, .no, .n z, .ds [iD (qbK xs z), dl (qbR xs z) (qbN xs z), D.sl (msD (qbM xs z)) (List.length (qbM xs z)), dl (qbS xs z) (qbT xs z)], .no, .no, .n z, .ds [iD (qbK ys z), dl (qbR ys z) (qbN ys z), D.sl (msD (qbM ys z)) (List.length (qbM ys z)), dl (qbS ys z) (qbT ys z)], .call [] (bV true) [] 0 [] none, .no] [0, 1, 12, 13, 25] [] ((q9i (z : Int)) ∧ (z < n) ∧ (List.take 4 (List.drop (z * 4) (bxD xs)) = [iD (qbK xs z), dl (qbR xs z) (qbN xs z), D.sl (msD (qbM xs z)) (List.length (qbM xs z)), dl (qbS xs z) (qbT xs z)]) ∧ (([iD (qbK xs z), dl (qbR xs z) (qbN xs z), D.sl (msD (qbM xs z)) (List.length (qbM xs z)), dl (qbS xs z) (qbT xs z)] : List D).length = 4) ∧ (q9i (z : Int)) ∧ (z < m) ∧ (List.take 4 (List.drop (z * 4) (bxD ys)) = [iD (qbK ys z), dl (qbR ys z) (qbN ys z), D.sl (msD (qbM ys z)) (List.length (qbM ys z)), dl (qbS ys z) (qbT ys z)]) ∧ (([iD (qbK ys z), dl (qbR ys z) (qbN ys z), D.sl (msD (qbM ys z)) (List.length (qbM ys z)), dl (qbS ys z) (qbT ys z)] : List D).length = 4) ∧ (Fun 48 [.agg [iC (qbK xs z), .d (dl (qbR xs z) (qbN xs z)), .d (D.sl (msD (qbM xs z)) (List.length (qbM xs z))), .d (dl (qbS xs z) (qbT xs z))], .agg [iC (qbK ys z), .d (dl (qbR ys z) (qbN ys z)), .d (D.sl (msD (qbM ys z)) (List.length (qbM ys z))), .d (dl (qbS ys z) (qbT ys z))]] (toG []) 0 (bV true) (toG []) 0)) [(0, .e (.c (.d (D.sl (bxD xs) n)))), (1, .e (.c (.d (D.sl (bxD ys) m)))), (12, uV n), (13, uV z), (25, bV false)] [] 0 ⟨rfl, zo, (bx_at zl10z1), rfl, rfl, zo, (bx_at zl10z1), rfl, (by have h0 := (Z_sbox (qbK xs z) (qbR xs z) (qbN xs z) (qbM xs z) (List.length (qbM xs z)) (qbS xs z) (qbT xs z) (qbK ys z) (qbR ys z) (qbN ys z) (qbM ys z) (List.length (qbM ys z)) (qbS ys z) (qbT ys z) zl10z0 zl10z0 rfl zl10z0 zl10z0 zl10z0 (BsW.ms (show BsW xs by with_reducible assumption) _) zl10z0 zl10z0 rfl zl10z0 zl10z0 zl10z0 (BsW.ms (show BsW ys by with_reducible assumption) _)); rw [hx13] at h0; exact h0)⟩ ?_
    refine zfs ?_
    refine zh [.w, .no] [0, 1, 12, 13] [] ((-9223372036854775808) ≤ ((z : Int) + 1) ∧ ((z : Int) + 1) ≤ 9223372036854775807) [(0, .e (.c (.d (D.sl (bxD xs) n)))), (1, .e (.c (.d (D.sl (bxD ys) m)))), (12, uV n), (13, iV (↑z + 1))] ⟨by omega, by omega⟩ ?_
    exact Rd.of ⟨((z + 1) : Nat), (show ((z + 1) ≤ n) ∧ (∀ j, j < (z + 1) → sbE xs ys j = true) from ⟨(by first | omega | assumption | simp), (fun j hj => (Nat.lt_succ_iff_lt_or_eq.1 hj).elim (ha j) (fun e9 => by subst e9; assumption))⟩)⟩ [] (P := (q9d (bxD xs)) ∧ (q9n n) ∧ (q9d (bxD ys)) ∧ (q9n m) ∧ (q9i (n : Int)) ∧ (((((z + 1) : Nat) : Int) : Int) = ((z : Int) + 1))) zk ⟨rfl, rfl, rfl, rfl, rfl, (by first | rfl | omega | assumption | (simp; done) | (simp; omega))⟩ (show n - (z + 1) < n - z from (by first | omega | (show _ < _; simp; omega)))
   ·obtain ⟨hx24, hx25, hx26, hx27, hx28⟩ := BsW.at (show BsW xs by with_reducible assumption) (z)
    obtain ⟨hx29, hx30, hx31, hx32, hx33⟩ := BsW.at (show BsW ys by with_reducible assumption) (z)
    refine zr [.no, .no, .n z, .ds [iD (qbK xs z), dl (qbR xs z) (qbN xs z), D.sl (msD (qbM xs z)) (List.length (qbM xs z)), dl (qbS xs z) (qbT xs z)], .no, .no, .n z, .ds [iD (qbK ys z), dl (qbR ys z) (qbN ys z), D.sl (msD (qbM ys z)) (List.length (qbM ys z)), dl (qbS ys z) (qbT ys z)], .call [] (bV false) [] 0 [] none, .no] [0, 1, 12, 13, 25] [] ((q9i (z : Int)) ∧ (z < n) ∧ (List.take 4 (List.drop (z * 4) (bxD xs)) = [iD (qbK xs z), dl (qbR xs z) (qbN xs z), D.sl (msD (qbM xs z)) (List.length (qbM xs z)), dl (qbS xs z) (qbT xs z)]) ∧ (([iD (qbK xs z), dl (qbR xs z) (qbN xs z), D.sl (msD (qbM xs z)) (List.length (qbM xs z)), dl (qbS xs z) (qbT xs z)] : List D).length = 4) ∧ (q9i (z : Int)) ∧ (z < m) ∧ (List.take 4 (List.drop (z * 4) (bxD ys)) = [iD (qbK ys z), dl (qbR ys z) (qbN ys z), D.sl (msD (qbM ys z)) (List.length (qbM ys z)), dl (qbS ys z) (qbT ys z)]) ∧ (([iD (qbK ys z), dl (qbR ys z) (qbN ys z), D.sl (msD (qbM ys z)) (List.length (qbM ys z)), dl (qbS ys z) (qbT ys z)] : List D).length = 4) ∧ (Fun 48 [.agg [iC (qbK xs z), .d (dl (qbR xs z) (qbN xs z)), .d (D.sl (msD (qbM xs z)) (List.length (qbM xs z))), .d (dl (qbS xs z) (qbT xs z))], .agg [iC (qbK ys z), .d (dl (qbR ys z) (qbN ys z)), .d (D.sl (msD (qbM ys z)) (List.length (qbM ys z))), .d (dl (qbS ys z) (qbT ys z))]] (toG []) 0 (bV false) (toG []) 0)) [(0, .e (.c (.d (D.sl (bxD xs) n)))), (1, .e (.c (.d (D.sl (bxD ys) m)))), (12, uV n), (13, uV z), (25, bV true)] [] 0 ⟨rfl, zo, (bx_at zl10z1), rfl, rfl, zo, (bx_at zl10z1), rfl, (by have h0 := (Z_sbox (qbK xs z) (qbR xs z) (qbN xs z) (qbM xs z) (List.length (qbM xs z)) (qbS xs z) (qbT xs z) (qbK ys z) (qbR ys z) (qbN ys z) (qbM ys z) (List.length (qbM ys z)) (qbS ys z) (qbT ys z) zl10z0 zl10z0 rfl zl10z0 zl10z0 zl10z0 (BsW.ms (show BsW xs by with_reducible assumption) _) zl10z0 zl10z0 rfl zl10z0 zl10z0 zl10z0 (BsW.ms (show BsW ys by with_reducible assumption) _)); rw [hx13] at h0; exact h0)⟩ ?_
    refine zt ?_
    refine zs [.no] [4] [] True [(4, bV false)] trivial ?_
    refine AW.ret ?_
    exact EndP.of (.inr rfl) [] (P := ((saB xs ys) = false)) zk (by first | exact sa_l zo | exact sa_t zo (fun j hj => ha j zo) | exact sa_f (i := z) zo (by assumption))
  ·refine zr [.b false] [0, 1, 12, 13, 14] [] (¬ ((z : Int) < (n : Int))) [(0, .e (.c (.d (D.sl (bxD xs) n)))), (1, .e (.c (.d (D.sl (bxD ys) m)))), (12, uV n), (13, uV z), (14, bV false)] [] 0 zo ?_
   refine AW.seq ?_
   refine zf ?_
   refine AW.exit ?_
   refine zr [.no] [4] [] True [(4, bV true)] [] 0 trivial ?_
   refine AW.ret ?_
   exact EndP.of (.inr rfl) [] (P := ((saB xs ys) = true)) zk (by first | exact sa_l zo | exact sa_t zo (fun j hj => ha j zo) | exact sa_f (i := z) zo (by assumption))
end Go.Proofs.YtcfmjpnffembpaaGreat
