/- Merged texts. -/
import Derived.Test.YtdbjebdomdnbkaaGreatZD11P
namespace Go.Proofs.YtdbjebdomdnbkaaGreat
open Go.ChangeShapes Go.WideShapes Go.ChangeAt Go.RowKit
set_option linter.unusedVariables false
set_option linter.unusedSimpArgs false
/-! chapter 11: a beginning is never a whole -/
def Mo (F G : RS → RS) : Prop := ∀ u, qC (F u) = 0 → qC u = 0 ∧ G u = F u
theorem Mo.comp {F G F' G' : RS → RS} (h : Mo F G) (h2 : Mo F' G') : Mo (fun u => F' (F u)) (fun u => G' (G u)) := fun u hq => by
  have h3 := h2 _ hq
  have h4 := h u h3.1
  exact ⟨h4.1, by show G' (G u) = F' (F u); rw [h4.2, h3.2]⟩
theorem Mo.it {F G : RS → RS} (h : Mo F G) : ∀ n, Mo (mI F n) (mI G n)
  | 0 => fun u hq => ⟨hq, rfl⟩
  | n + 1 => fun u hq => by
    by_cases h0 : qC u = 0
    · rw [lH h0] at hq ⊢
      rw [lH h0]
      have h3 := Mo.it h n _ hq
      have h4 := h u h3.1
      exact ⟨h0, by rw [h4.2]; exact h3.2⟩
    · rw [k0a h0] at hq; exact absurd hq h0
theorem dF (s : Nat) (p r : List Int) : Mo (kE s p) (kE s (p ++ r)) := fun u hq => by
  by_cases h : qC u = 0
  · by_cases h1 : kT u + s ≤ p.length
    · refine ⟨h, ?_⟩
      have h2 : u.q = 0 := h
      have h3 : u.a + s ≤ p.length := h1
      unfold kE
      rw [if_pos h2, if_pos h2, if_pos h3, if_pos (by rw [List.length_append]; omega)]
    · have := mJ rfl h h1; omega
  · rw [pG h] at hq; exact absurd hq h
theorem u1q {p r : List Int} {u : RS} (h : qC (kE 2 p u) = 0) : kK (p ++ r) u = kK p u := by
  have h0 := (dF 2 p r u h).1
  by_cases h1 : kT u + 2 ≤ p.length
  · have h2 : u.q = 0 := h0
    have h3 : u.a + 2 ≤ p.length := h1
    unfold kK
    rw [if_pos (show u.q = 0 ∧ u.a + 2 ≤ (p ++ r).length from ⟨h2, by rw [List.length_append]; omega⟩), if_pos (show u.q = 0 ∧ u.a + 2 ≤ p.length from ⟨h2, h3⟩)]
    have e0 : List.getD (p ++ r) (u.a + 0) 0 = List.getD p (u.a + 0) 0 := c5 (by omega)
    have e1 : List.getD (p ++ r) (u.a + 1) 0 = List.getD p (u.a + 1) 0 := c5 (by omega)
    unfold g16; rw [e0, e1]
  · have := mJ rfl h0 h1; omega
theorem u4x (p r : List Int) : Mo (uA p) (uA (p ++ r)) := fun u hq => by
  by_cases h : qC u = 0
  · by_cases h1 : vC p (kT u) = 0
    · refine ⟨h, ?_⟩
      have h2 := r8 rfl h1
      have h3 : u.q = 0 := h
      have h4 : vC p u.a = 0 := h1
      by_cases h5 : kT u < p.length
      · have e0 : uI (p ++ r) u.a = uI p u.a := by
          have e1 : List.getD (p ++ r) u.a 0 = List.getD p u.a 0 := c5 h5
          unfold uI; rw [e1]
        have h7 : uI p u.a ≤ 64 ∧ u.a + 1 + uI p u.a ≤ p.length := h2.2
        have h6 : vC (p ++ r) u.a = 0 := zI rfl (by rw [List.length_append]; have : u.a < p.length := h5; omega) (by rw [e0]; omega) (by rw [e0, List.length_append]; omega)
        unfold uA
        rw [if_pos h3, if_pos h3, if_pos h4, if_pos h6, e0]
      · omega
    · have h2 := iQ h h1; omega
  · rw [(k0s h).1] at hq; exact absurd hq h
theorem k08 {F G : RS → RS} {p r : List Int} (h : Mo F G) : Mo (fun u => mI F (kK p u) (kE 2 p u)) (fun u => mI G (kK (p ++ r) u) (kE 2 (p ++ r) u)) := fun u hq => by
  have h1 := h.it (kK p u) _ hq
  have h2 := dF 2 p r u h1.1
  exact ⟨h2.1, by show mI G (kK (p ++ r) u) (kE 2 (p ++ r) u) = mI F (kK p u) (kE 2 p u); rw [u1q h1.1, h2.2, h1.2]⟩
theorem u0c (p r : List Int) : Mo (yD p) (yD (p ++ r)) := k08 ((dF 4 p r).comp (dF 4 p r))
theorem u6u (p r : List Int) : Mo (fZ p) (fZ (p ++ r)) := k08 (dF 2 p r)
theorem u5y (p r : List Int) : Mo (aW p) (aW (p ++ r)) := k08 (u6u p r)
theorem u6v (p r : List Int) : Mo (mM p) (mM (p ++ r)) := k08 ((((dF 2 p r).comp (u0c p r)).comp (u5y p r)).comp (u0c p r))
theorem u6s (p r : List Int) : Mo (cP p) (cP (p ++ r)) :=
  (((((((dF 8 p r).comp (u4x p r)).comp (dF 2 p r)).comp (dF 2 p r)).comp (dF 4 p r)).comp (dF 2 p r)).comp (dF 2 p r)).comp (u6v p r)
theorem DeB.len {B : List Int} (h : DeB B) : 26 ≤ B.length ∧ B.length ≤ 20000 := by
  obtain ⟨id, nm, d1, d2, d3, d4, d5, bs, n, hD, rfl⟩ := h
  have h1 := hD.l; have h2 := hD.r.2
  rw [gB]; omega
theorem DeB.rd {B : List Int} (h : DeB B) (r : List Int) : cP (B ++ r) qE = ⟨B.length, 0⟩ := by
  obtain ⟨id, nm, d1, d2, d3, d4, d5, bs, n, hD, rfl⟩ := h
  exact (zW hD r rfl).1
theorem DeB.val {B : List Int} (h : DeB B) : deV B = true := by
  obtain ⟨id, nm, d1, d2, d3, d4, d5, bs, n, hD, rfl⟩ := h
  have h1 := zW (l := l8 id nm d1 d2 d3 d4 d5 bs) hD [] (List.append_nil _).symm
  unfold deV
  rw [h1.2.2.1, h1.2.2.2.1, h1.2.2.2.2.1, h1.2.2.2.2.2.1, h1.2.2.2.2.2.2.1, h1.2.2.2.2.2.2.2.1, h1.2.2.2.2.2.2.2.2]
  exact hD.vd
theorem DeB.cut {B : List Int} (h : DeB B) {k : Nat} (hk : k < B.length) : ¬ (qC (cP (List.take k B) qE) = 0 ∧ kT (cP (List.take k B) qE) = k) := fun ⟨h1, h2⟩ => by
  have h3 := (u6s (List.take k B) (List.drop k B) qE h1).2
  rw [List.take_append_drop] at h3
  have h4 := h.rd []
  rw [List.append_nil] at h4
  rw [← h3, h4] at h2
  have h5 : B.length = k := h2
  omega
end Go.Proofs.YtdbjebdomdnbkaaGreat
namespace Go.Proofs.YtdbjebdomdnbkaaGreat
open Go.ChangeShapes Go.WideShapes Go.ChangeAt Go.RowKit
set_option linter.unusedVariables false
set_option linter.unusedSimpArgs false
theorem u7r {B P : List Int} {z : Nat} (h : B.length = z) : List.take (z + 4 - 4) (B ++ P) = B := by
  rw [show z + 4 - 4 = z by omega, ← h, List.take_left]
end Go.Proofs.YtdbjebdomdnbkaaGreat
namespace Go.Proofs.YtdbjebdomdnbkaaGreat
open Go.ChangeShapes Go.WideShapes Go.ChangeAt Go.RowKit
set_option linter.unusedVariables false
set_option linter.unusedSimpArgs false
/-! chapter 10: lists of boxes that are the same -/
set_option maxHeartbeats 4000000
set_option maxRecDepth 100000
def zQ (k : Int) (r : List Int) (rn : Nat) (m : List (List Int)) (s : List Int) (sn : Nat) (k2 : Int) (r2 : List Int) (rn2 : Nat) (m2 : List (List Int)) (s2 : List Int) (sn2 : Nat) : Bool := decide (k = k2 ∧ r = r2 ∧ rn = rn2 ∧ m = m2 ∧ s = s2 ∧ sn = sn2)
theorem u06 {a b : List Int} (h : wA a b = true) : a = b := of_decide_eq_true h
theorem u05 {a b : List Int} (h : wA a b = false) : ¬ a = b := of_decide_eq_false h
section
variable {k : Int} {r : List Int} {rn : Nat} {m : List (List Int)} {s : List Int} {sn : Nat} {k2 : Int} {r2 : List Int} {rn2 : Nat} {m2 : List (List Int)} {s2 : List Int} {sn2 : Nat}
theorem u86 (h1 : k = k2) (hc : m.length = m2.length) (hr : wA r r2 = true) (hs : wA s s2 = true) (h : ∀ j, j < m.length → cS (List.getD m j []) (List.getD m2 j []) = true) (l1 : r.length = rn * 2) (l2 : r2.length = rn2 * 2) (l3 : s.length = sn * 2) (l4 : s2.length = sn2 * 2) : zQ k r rn m s sn k2 r2 rn2 m2 s2 sn2 = true := by
  have e1 := u06 hr
  have e2 := u06 hs
  refine decide_eq_true ⟨h1, e1, by rw [e1] at l1; omega, ?_, e2, by rw [e2] at l3; omega⟩
  refine List.ext_getElem hc fun j a b => ?_
  have h2 := k2g (h j a)
  rw [List.getD_eq_getElem?_getD, List.getD_eq_getElem?_getD, List.getElem?_eq_getElem a, List.getElem?_eq_getElem b] at h2
  exact h2
theorem u56 (h : ¬ (k = k2 ∧ m.length = m2.length)) : zQ k r rn m s sn k2 r2 rn2 m2 s2 sn2 = false := decide_eq_false fun e => h ⟨e.1, by rw [e.2.2.2.1]⟩
theorem u88 (h : wA r r2 = false) : zQ k r rn m s sn k2 r2 rn2 m2 s2 sn2 = false := decide_eq_false fun e => u05 h e.2.1
theorem u87 (h : wA s s2 = false) : zQ k r rn m s sn k2 r2 rn2 m2 s2 sn2 = false := decide_eq_false fun e => u05 h e.2.2.2.2.1
theorem u89 {j : Nat} (h : cS (List.getD m j []) (List.getD m2 j []) = false) : zQ k r rn m s sn k2 r2 rn2 m2 s2 sn2 = false := decide_eq_false fun e => k2e h (by rw [e.2.2.2.1])
end
def sbE (xs ys : List Bx) (i : Nat) : Bool := zQ (vU xs i) (aE xs i) (yJ xs i) (qD xs i) (cH xs i) (aA xs i) (vU ys i) (aE ys i) (yJ ys i) (qD ys i) (cH ys i) (aA ys i)
def saB (xs ys : List Bx) : Bool := decide (xs.length = ys.length ∧ ∀ i, i < xs.length → sbE xs ys i = true)
theorem u57 {xs ys : List Bx} (h1 : xs.length = ys.length) (h : ∀ i, i < xs.length → sbE xs ys i = true) : saB xs ys = true := decide_eq_true ⟨h1, h⟩
theorem u8a {xs ys : List Bx} (h1 : ¬ xs.length = ys.length) : saB xs ys = false := decide_eq_false fun e => h1 e.1
theorem u8b {xs ys : List Bx} {i : Nat} (hi : i < xs.length) (h : sbE xs ys i = false) : saB xs ys = false := decide_eq_false fun e => by
  have := e.2 i hi; rw [h] at this; cases this
theorem k7h (a : List Bx) : saB a a = true := u57 rfl fun i _ => decide_eq_true ⟨rfl, rfl, rfl, rfl, rfl, rfl⟩
abbrev v7 (k : Int) (r : List Int) (rn : Nat) (m : List (List Int)) (c : Nat) (s : List Int) (sn : Nat) : BC := .ds [iD k, D.sl (dI .i64 r) rn, D.sl (kW m) c, D.sl (dI .i64 s) sn]
abbrev v6 (k2 : Int) (r2 : List Int) (rn2 : Nat) (m2 : List (List Int)) (c2 : Nat) (s2 : List Int) (sn2 : Nat) : BC := .ds [iD k2, D.sl (dI .i64 r2) rn2, D.sl (kW m2) c2, D.sl (dI .i64 s2) sn2]
theorem k6k (k : Int) (r : List Int) (rn : Nat) (m : List (List Int)) (c : Nat) (s : List Int) (sn : Nat) (k2 : Int) (r2 : List Int) (rn2 : Nat) (m2 : List (List Int)) (c2 : Nat) (s2 : List Int) (sn2 : Nat) (hr : List.length r = rn * 2) (hs : List.length s = sn * 2) (hc : List.length m = c) (h1 : rn ≤ 1000000) (h2 : sn ≤ 1000000) (h3 : c ≤ 1000000) (hW : MsW m) (hr2 : List.length r2 = rn2 * 2) (hs2 : List.length s2 = sn2 * 2) (hc2 : List.length m2 = c2) (h12 : rn2 ≤ 1000000) (h22 : sn2 ≤ 1000000) (h32 : c2 ≤ 1000000) (hW2 : MsW m2) : Fun 57 [.agg [iC k, .d (D.sl (dI .i64 r) rn), .d (D.sl (kW m) c), .d (D.sl (dI .i64 s) sn)], .agg [iC k2, .d (D.sl (dI .i64 r2) rn2), .d (D.sl (kW m2) c2), .d (D.sl (dI .i64 s2) sn2)]] (kD []) 0 (kP (D.lit (.bool (zQ k r rn m s sn k2 r2 rn2 m2 s2 sn2)))) (kD []) 0 := by
  refine Fun.mk (n := 55) Tryz.func57 rfl rfl (Nat.le_of_ble_eq_true rfl) ?_
  intro cx hcx
  refine kG [.no, .no, .no] True [(2, rV 0 0), (3, rV 1 0)] [(0, some (53, (v7 k r rn m c s sn))), (1, some (53, (v6 k2 r2 rn2 m2 c2 s2 sn2)))] 2 trivial ?_
  refine AW.seq ?_
  by_cases hx1 : (k ≠ k2)
  · refine zr (kJ 4 (.b true :: kJ 6 [])) [2, 3, 35] [0, 1] ((k ≠ k2)) [(2, rV 0 0), (3, rV 1 0), (35, bV true)] [(0, some (53, (v7 k r rn m c s sn))), (1, some (53, (v6 k2 r2 rn2 m2 c2 s2 sn2)))] 2 zo ?_
    refine zt ?_
    refine kG [.no] True [(4, bV false)] [] 2 trivial ?_
    refine AW.ret ?_
    exact kB (.inr rfl) [] (P := ((zQ k r rn m s sn k2 r2 rn2 m2 s2 sn2) = false)) zk (by exact u56 zo)
  · by_cases hx2 : (((c : Nat) : Int) ≠ ((c2 : Nat) : Int))
    · refine zr (kJ 4 (.b false :: kJ 7 (.b true :: kJ 5 []))) [2, 3, 35] [0, 1] ((¬ (k ≠ k2)) ∧ (((c : Int) ≠ (c2 : Int)))) [(2, rV 0 0), (3, rV 1 0), (35, bV true)] [(0, some (53, (v7 k r rn m c s sn))), (1, some (53, (v6 k2 r2 rn2 m2 c2 s2 sn2)))] 2 ⟨zo, zo⟩ ?_
      refine zt ?_
      refine kG [.no] True [(4, bV false)] [] 2 trivial ?_
      refine AW.ret ?_
      exact kB (.inr rfl) [] (P := ((zQ k r rn m s sn k2 r2 rn2 m2 s2 sn2) = false)) zk (by exact u56 zo)
    · rcases Bool.eq_false_or_eq_true (wA r r2) with hx3 | hx3
      · rcases Bool.eq_false_or_eq_true (wA s s2) with hx4 | hx4
        · refine zr (kJ 4 (.b false :: kJ 7 (.b false :: kJ 6 (.call [] (bV true) [] 0 [] none :: kJ 7 [.call [] (bV true) [] 0 [] none, .no, .no])))) [2, 3, 35] [0, 1] ((¬ (k ≠ k2)) ∧ (¬ ((c : Int) ≠ (c2 : Int))) ∧ (Fun 77 [.agg [.d (dl r rn)], .agg [.d (dl r2 rn2)]] (kD []) 0 (bV true) (kD []) 0) ∧ (Fun 77 [.agg [.d (dl s sn)], .agg [.d (dl s2 sn2)]] (kD []) 0 (bV true) (kD []) 0)) [(2, rV 0 0), (3, rV 1 0), (35, bV false)] [(0, some (53, (v7 k r rn m c s sn))), (1, some (53, (v6 k2 r2 rn2 m2 c2 s2 sn2)))] 2 ⟨zo, zo, (by have h0 := (lT r r2 rn rn2 zo zo zo zo); rw [hx3] at h0; exact h0), (by have h0 := (lT s s2 sn sn2 zo zo zo zo); rw [hx4] at h0; exact h0)⟩ ?_
          refine uM ?_
          refine AW.seq ?_
          refine kG (kJ 4 []) True [(2, rV 0 0), (3, rV 1 0), (38, uV c), (39, iV 0)] [(0, some (53, (v7 k r rn m c s sn))), (1, some (53, (v6 k2 r2 rn2 m2 c2 s2 sn2)))] 2 trivial ?_
          refine AW.block ?_
          refine kU 0 hcx (fun (x : {x : Nat // match x with | z => (z ≤ c) ∧ (∀ j, j < z → cS (List.getD m j []) (List.getD m2 j []) = true)}) => match x with | ⟨z, _⟩ => (⟨[(2, rV 0 0), (3, rV 1 0), (38, uV c), (39, uV z)], [(0, some (53, (v7 k r rn m c s sn))), (1, some (53, (v6 k2 r2 rn2 m2 c2 s2 sn2)))], 2⟩ : ES)) (fun x => match x with | ⟨z, _⟩ => c - z) ⟨(0 : Nat), ⟨zo, (fun j hj => absurd hj (Nat.not_lt_zero j))⟩⟩ [] (P := (kQ 0) ∧ (kQ 0) ∧ (kM (c : Int)) ∧ (kM 0) ∧ (kY [iD k, dl r rn, D.sl (kW m) c, dl s sn]) ∧ (kY [iD k2, dl r2 rn2, D.sl (kW m2) c2, dl s2 sn2])) zk ⟨rfl, rfl, rfl, rfl, rfl, rfl⟩ ?_
          rintro ⟨z, hinv0⟩
          obtain ⟨hz, ha⟩ : (z ≤ c) ∧ (∀ j, j < z → cS (List.getD m j []) (List.getD m2 j []) = true) := hinv0
          refine qV (l := [(2, rV 0 0), (3, rV 1 0), (38, uV c), (39, uV z)]) (g := [(0, some (53, (v7 k r rn m c s sn))), (1, some (53, (v6 k2 r2 rn2 m2 c2 s2 sn2)))]) (nx := 2) rfl rfl rfl ?_
          by_cases hx5 : (((z : Nat) : Int) < ((c : Nat) : Int))
          · refine zr [.b true] [2, 3, 38, 39, 40] [0, 1] (((z : Int) < (c : Int))) [(2, rV 0 0), (3, rV 1 0), (38, uV c), (39, uV z), (40, bV true)] [(0, some (53, (v7 k r rn m c s sn))), (1, some (53, (v6 k2 r2 rn2 m2 c2 s2 sn2)))] 2 zo ?_
            refine AW.seq ?_
            refine u1 ?_
            refine AW.seq ?_
            refine AW.block ?_
            refine kG [.no, .no] True [(2, rV 0 0), (3, rV 1 0), (5, uV z), (38, uV c), (39, uV z)] [(0, some (53, (v7 k r rn m c s sn))), (1, some (53, (v6 k2 r2 rn2 m2 c2 s2 sn2)))] 2 trivial ?_
            rcases Bool.eq_false_or_eq_true (cS (List.getD m z ([] : List Int)) (List.getD m2 z ([] : List Int))) with hx8 | hx8
            · have hx9 : ((List.length (List.getD m z ([] : List Int))) ≤ 1000000) := MsW.at (kL : MsW m) _
              have hx10 : ((List.length (List.getD m2 z ([] : List Int))) ≤ 1000000) := MsW.at (kL : MsW m2) _
              refine kG [.no, .no, .no, .n z, .d (dl (List.getD m z ([] : List Int)) (List.length (List.getD m z ([] : List Int)))), .no, .no, .no, .n z, .d (dl (List.getD m2 z ([] : List Int)) (List.length (List.getD m2 z ([] : List Int)))), .call [] (bV true) [] 0 [] none, .no] ((kM (z : Int)) ∧ (z < c) ∧ ((List.drop z (kW m))[0]? = some (dl (List.getD m z ([] : List Int)) (List.length (List.getD m z ([] : List Int))))) ∧ (kM (z : Int)) ∧ (z < c2) ∧ ((List.drop z (kW m2))[0]? = some (dl (List.getD m2 z ([] : List Int)) (List.length (List.getD m2 z ([] : List Int))))) ∧ (Fun 78 [.c (.d (dl (List.getD m z ([] : List Int)) (List.length (List.getD m z ([] : List Int))))), .c (.d (dl (List.getD m2 z ([] : List Int)) (List.length (List.getD m2 z ([] : List Int)))))] (kD []) 0 (bV true) (kD []) 0)) [(2, rV 0 0), (3, rV 1 0), (38, uV c), (39, uV z), (53, bV false)] [(0, some (53, (v7 k r rn m c s sn))), (1, some (53, (v6 k2 r2 rn2 m2 c2 s2 sn2)))] 2 ⟨rfl, zo, (aF _ _ zo), rfl, zo, (aF _ _ zo), (by have h0 := (jB (List.getD m z ([] : List Int)) (List.getD m2 z ([] : List Int)) (List.length (List.getD m z ([] : List Int))) (List.length (List.getD m2 z ([] : List Int))) rfl rfl zo zo); rw [hx8] at h0; exact h0)⟩ ?_
              refine uM ?_
              refine uG [.w, .no] (qB ((z : Int) + 1)) [(2, rV 0 0), (3, rV 1 0), (38, uV c), (39, iV (↑z + 1))] ⟨by omega, by omega⟩ ?_
              exact qH ⟨((z + 1) : Nat), ⟨zo, (fun j hj => (Nat.lt_succ_iff_lt_or_eq.1 hj).elim (ha j) (fun e9 => by subst e9; assumption))⟩⟩ [] (P := (kQ 0) ∧ (kQ 0) ∧ (kM (c : Int)) ∧ (q1S z) ∧ (kY [iD k, dl r rn, D.sl (kW m) c, dl s sn]) ∧ (kY [iD k2, dl r2 rn2, D.sl (kW m2) c2, dl s2 sn2])) zk ⟨rfl, rfl, rfl, (by rfl), rfl, rfl⟩ (show c - (z + 1) < c - z from zo)
            · have hx11 : ((List.length (List.getD m z ([] : List Int))) ≤ 1000000) := MsW.at (kL : MsW m) _
              have hx12 : ((List.length (List.getD m2 z ([] : List Int))) ≤ 1000000) := MsW.at (kL : MsW m2) _
              refine kG [.no, .no, .no, .n z, .d (dl (List.getD m z ([] : List Int)) (List.length (List.getD m z ([] : List Int)))), .no, .no, .no, .n z, .d (dl (List.getD m2 z ([] : List Int)) (List.length (List.getD m2 z ([] : List Int)))), .call [] (bV false) [] 0 [] none, .no] ((kM (z : Int)) ∧ (z < c) ∧ ((List.drop z (kW m))[0]? = some (dl (List.getD m z ([] : List Int)) (List.length (List.getD m z ([] : List Int))))) ∧ (kM (z : Int)) ∧ (z < c2) ∧ ((List.drop z (kW m2))[0]? = some (dl (List.getD m2 z ([] : List Int)) (List.length (List.getD m2 z ([] : List Int))))) ∧ (Fun 78 [.c (.d (dl (List.getD m z ([] : List Int)) (List.length (List.getD m z ([] : List Int))))), .c (.d (dl (List.getD m2 z ([] : List Int)) (List.length (List.getD m2 z ([] : List Int)))))] (kD []) 0 (bV false) (kD []) 0)) [(2, rV 0 0), (3, rV 1 0), (38, uV c), (39, uV z), (53, bV true)] [(0, some (53, (v7 k r rn m c s sn))), (1, some (53, (v6 k2 r2 rn2 m2 c2 s2 sn2)))] 2 ⟨rfl, zo, (aF _ _ zo), rfl, zo, (aF _ _ zo), (by have h0 := (jB (List.getD m z ([] : List Int)) (List.getD m2 z ([] : List Int)) (List.length (List.getD m z ([] : List Int))) (List.length (List.getD m2 z ([] : List Int))) rfl rfl zo zo); rw [hx8] at h0; exact h0)⟩ ?_
              refine zt ?_
              refine kG [.no] True [(4, bV false)] [] 2 trivial ?_
              refine AW.ret ?_
              exact kB (.inr rfl) [] (P := ((zQ k r rn m s sn k2 r2 rn2 m2 s2 sn2) = false)) zk (by exact u89 (j := z) (by assumption))
          · refine zr [.b false] [2, 3, 38, 39, 40] [0, 1] (¬ ((z : Int) < (c : Int))) [(2, rV 0 0), (3, rV 1 0), (38, uV c), (39, uV z), (40, bV false)] [(0, some (53, (v7 k r rn m c s sn))), (1, some (53, (v6 k2 r2 rn2 m2 c2 s2 sn2)))] 2 zo ?_
            refine AW.seq ?_
            refine zf ?_
            refine AW.exit ?_
            refine kG [.no] True [(4, bV true)] [] 2 trivial ?_
            refine AW.ret ?_
            exact kB (.inr rfl) [] (P := ((zQ k r rn m s sn k2 r2 rn2 m2 s2 sn2) = true)) zk (by exact u86 zo zo (by assumption) (by assumption) (fun j hj => ha j zo) hr hr2 hs hs2)
        · refine zr (kJ 4 (.b false :: kJ 7 (.b false :: kJ 6 (.call [] (bV true) [] 0 [] none :: kJ 7 [.call [] (bV false) [] 0 [] none, .no, .no])))) [2, 3, 35] [0, 1] ((¬ (k ≠ k2)) ∧ (¬ ((c : Int) ≠ (c2 : Int))) ∧ (Fun 77 [.agg [.d (dl r rn)], .agg [.d (dl r2 rn2)]] (kD []) 0 (bV true) (kD []) 0) ∧ (Fun 77 [.agg [.d (dl s sn)], .agg [.d (dl s2 sn2)]] (kD []) 0 (bV false) (kD []) 0)) [(2, rV 0 0), (3, rV 1 0), (35, bV true)] [(0, some (53, (v7 k r rn m c s sn))), (1, some (53, (v6 k2 r2 rn2 m2 c2 s2 sn2)))] 2 ⟨zo, zo, (by have h0 := (lT r r2 rn rn2 zo zo zo zo); rw [hx3] at h0; exact h0), (by have h0 := (lT s s2 sn sn2 zo zo zo zo); rw [hx4] at h0; exact h0)⟩ ?_
          refine zt ?_
          refine kG [.no] True [(4, bV false)] [] 2 trivial ?_
          refine AW.ret ?_
          exact kB (.inr rfl) [] (P := ((zQ k r rn m s sn k2 r2 rn2 m2 s2 sn2) = false)) zk (by exact u87 (by assumption))
      · refine zr (kJ 4 (.b false :: kJ 7 (.b false :: kJ 6 (.call [] (bV false) [] 0 [] none :: kJ 4 [])))) [2, 3, 35] [0, 1] ((¬ (k ≠ k2)) ∧ (¬ ((c : Int) ≠ (c2 : Int))) ∧ (Fun 77 [.agg [.d (dl r rn)], .agg [.d (dl r2 rn2)]] (kD []) 0 (bV false) (kD []) 0)) [(2, rV 0 0), (3, rV 1 0), (35, bV true)] [(0, some (53, (v7 k r rn m c s sn))), (1, some (53, (v6 k2 r2 rn2 m2 c2 s2 sn2)))] 2 ⟨zo, zo, (by have h0 := (lT r r2 rn rn2 zo zo zo zo); rw [hx3] at h0; exact h0)⟩ ?_
        refine zt ?_
        refine kG [.no] True [(4, bV false)] [] 2 trivial ?_
        refine AW.ret ?_
        exact kB (.inr rfl) [] (P := ((zQ k r rn m s sn k2 r2 rn2 m2 s2 sn2) = false)) zk (by exact u88 (by assumption))
theorem u3q (xs ys : List Bx) (n m : Nat) (hn : List.length xs = n) (hm : List.length ys = m) (h1 : n ≤ 1000000) (h2 : m ≤ 1000000) (hW : BsW xs) (hV : BsW ys) : Fun 34 [.c (.d (D.sl (kX xs) n)), .c (.d (D.sl (kX ys) m))] (kD []) 0 (kP (D.lit (.bool (saB xs ys)))) (kD []) 0 := by
  refine Fun.mk (n := 27) Tryz.func34 rfl rfl (Nat.le_of_ble_eq_true rfl) ?_
  intro cx hcx
  refine kG [.no] True [(0, .e (u2 xs n)), (1, .e (u2 ys m))] [] 0 trivial ?_
  refine AW.seq ?_
  by_cases hx1 : (((n : Nat) : Int) ≠ ((m : Nat) : Int))
  · refine zr (kJ 4 [.b true]) [0, 1, 10] [] (((n : Int) ≠ (m : Int))) [(0, .e (u2 xs n)), (1, .e (u2 ys m)), (10, bV true)] [] 0 zo ?_
    refine zt ?_
    refine kG [.no] True [(4, bV false)] [] 0 trivial ?_
    refine AW.ret ?_
    exact kB (.inr rfl) [] (P := ((saB xs ys) = false)) zk (by exact u8a zo)
  · refine zr (kJ 4 [.b false]) [0, 1, 10] [] (¬ ((n : Int) ≠ (m : Int))) [(0, .e (u2 xs n)), (1, .e (u2 ys m)), (10, bV false)] [] 0 zo ?_
    refine uM ?_
    refine AW.seq ?_
    refine kG [.no, .no, .no] True [(0, .e (u2 xs n)), (1, .e (u2 ys m)), (12, uV n), (13, iV 0)] [] 0 trivial ?_
    refine AW.block ?_
    refine kU 0 hcx (fun (x : {x : Nat // match x with | z => (z ≤ n) ∧ (∀ j, j < z → sbE xs ys j = true)}) => match x with | ⟨z, _⟩ => (⟨[(0, .e (u2 xs n)), (1, .e (u2 ys m)), (12, uV n), (13, uV z)], [], 0⟩ : ES)) (fun x => match x with | ⟨z, _⟩ => n - z) ⟨(0 : Nat), ⟨zo, (fun j hj => absurd hj (Nat.not_lt_zero j))⟩⟩ [] (P := (kY (kX xs)) ∧ (kQ n) ∧ (kY (kX ys)) ∧ (kQ m) ∧ (kM (n : Int)) ∧ (kM 0)) zk ⟨rfl, rfl, rfl, rfl, rfl, rfl⟩ ?_
    rintro ⟨z, hinv0⟩
    obtain ⟨hz, ha⟩ : (z ≤ n) ∧ (∀ j, j < z → sbE xs ys j = true) := hinv0
    refine qV (l := [(0, .e (u2 xs n)), (1, .e (u2 ys m)), (12, uV n), (13, uV z)]) (g := []) (nx := 0) rfl rfl rfl ?_
    by_cases hx2 : (((z : Nat) : Int) < ((n : Nat) : Int))
    · refine zr [.b true] [0, 1, 12, 13, 14] [] (((z : Int) < (n : Int))) [(0, .e (u2 xs n)), (1, .e (u2 ys m)), (12, uV n), (13, uV z), (14, bV true)] [] 0 zo ?_
      refine AW.seq ?_
      refine u1 ?_
      refine AW.seq ?_
      refine AW.block ?_
      refine kG [.no, .no] True [(0, .e (u2 xs n)), (1, .e (u2 ys m)), (5, uV z), (12, uV n), (13, uV z)] [] 0 trivial ?_
      rcases Bool.eq_false_or_eq_true (zQ (vU xs z) (aE xs z) (yJ xs z) (qD xs z) (cH xs z) (aA xs z) (vU ys z) (aE ys z) (yJ ys z) (qD ys z) (cH ys z) (aA ys z)) with hx13 | hx13
      · obtain ⟨hx14, hx15, hx16, hx17, hx18⟩ := BsW.at (kL : BsW xs) (z)
        obtain ⟨hx19, hx20, hx21, hx22, hx23⟩ := BsW.at (kL : BsW ys) (z)
        refine kG [.no, .no, .n z, .ds (eP xs z), .no, .no, .n z, .ds (eP ys z), .call [] (bV true) [] 0 [] none, .no] ((kM (z : Int)) ∧ (z < n) ∧ (List.take 4 (List.drop (z * 4) (kX xs)) = (eP xs z)) ∧ (((eP xs z) : List D).length = 4) ∧ (kM (z : Int)) ∧ (z < m) ∧ (List.take 4 (List.drop (z * 4) (kX ys)) = (eP ys z)) ∧ (((eP ys z) : List D).length = 4) ∧ (Fun 57 [(q1A xs z), (q1A ys z)] (kD []) 0 (bV true) (kD []) 0)) [(0, .e (u2 xs n)), (1, .e (u2 ys m)), (12, uV n), (13, uV z), (25, bV false)] [] 0 ⟨rfl, zo, (f9 zo), rfl, rfl, zo, (f9 zo), rfl, (by have h0 := (k6k (vU xs z) (aE xs z) (yJ xs z) (qD xs z) (List.length (qD xs z)) (cH xs z) (aA xs z) (vU ys z) (aE ys z) (yJ ys z) (qD ys z) (List.length (qD ys z)) (cH ys z) (aA ys z) zo zo rfl zo zo zo (cG (kL : BsW xs) _) zo zo rfl zo zo zo (cG (kL : BsW ys) _)); rw [hx13] at h0; exact h0)⟩ ?_
        refine uM ?_
        refine uG [.w, .no] (qB ((z : Int) + 1)) [(0, .e (u2 xs n)), (1, .e (u2 ys m)), (12, uV n), (13, iV (↑z + 1))] ⟨by omega, by omega⟩ ?_
        exact qH ⟨((z + 1) : Nat), ⟨zo, (fun j hj => (Nat.lt_succ_iff_lt_or_eq.1 hj).elim (ha j) (fun e9 => by subst e9; assumption))⟩⟩ [] (P := (kY (kX xs)) ∧ (kQ n) ∧ (kY (kX ys)) ∧ (kQ m) ∧ (kM (n : Int)) ∧ (q1S z)) zk ⟨rfl, rfl, rfl, rfl, rfl, (by rfl)⟩ (show n - (z + 1) < n - z from zo)
      · obtain ⟨hx24, hx25, hx26, hx27, hx28⟩ := BsW.at (kL : BsW xs) (z)
        obtain ⟨hx29, hx30, hx31, hx32, hx33⟩ := BsW.at (kL : BsW ys) (z)
        refine kG [.no, .no, .n z, .ds (eP xs z), .no, .no, .n z, .ds (eP ys z), .call [] (bV false) [] 0 [] none, .no] ((kM (z : Int)) ∧ (z < n) ∧ (List.take 4 (List.drop (z * 4) (kX xs)) = (eP xs z)) ∧ (((eP xs z) : List D).length = 4) ∧ (kM (z : Int)) ∧ (z < m) ∧ (List.take 4 (List.drop (z * 4) (kX ys)) = (eP ys z)) ∧ (((eP ys z) : List D).length = 4) ∧ (Fun 57 [(q1A xs z), (q1A ys z)] (kD []) 0 (bV false) (kD []) 0)) [(0, .e (u2 xs n)), (1, .e (u2 ys m)), (12, uV n), (13, uV z), (25, bV true)] [] 0 ⟨rfl, zo, (f9 zo), rfl, rfl, zo, (f9 zo), rfl, (by have h0 := (k6k (vU xs z) (aE xs z) (yJ xs z) (qD xs z) (List.length (qD xs z)) (cH xs z) (aA xs z) (vU ys z) (aE ys z) (yJ ys z) (qD ys z) (List.length (qD ys z)) (cH ys z) (aA ys z) zo zo rfl zo zo zo (cG (kL : BsW xs) _) zo zo rfl zo zo zo (cG (kL : BsW ys) _)); rw [hx13] at h0; exact h0)⟩ ?_
        refine zt ?_
        refine kV [.no] True [(4, bV false)] trivial ?_
        refine AW.ret ?_
        exact kB (.inr rfl) [] (P := ((saB xs ys) = false)) zk (by exact u8b (i := z) zo (by assumption))
    · refine zr [.b false] [0, 1, 12, 13, 14] [] (¬ ((z : Int) < (n : Int))) [(0, .e (u2 xs n)), (1, .e (u2 ys m)), (12, uV n), (13, uV z), (14, bV false)] [] 0 zo ?_
      refine AW.seq ?_
      refine zf ?_
      refine AW.exit ?_
      refine kG [.no] True [(4, bV true)] [] 0 trivial ?_
      refine AW.ret ?_
      exact kB (.inr rfl) [] (P := ((saB xs ys) = true)) zk (by exact u57 zo (fun j hj => ha j zo))
theorem aK (id : Int) (nm : List Int) (d1 d2 d3 d4 d5 : Int) (bs : List Bx) (n : Nat) (hy : Byt nm) (hl : List.length nm ≤ 1000000) (hn : List.length bs = n) (h1 : n ≤ 1000000) (hW : BsW bs) : Fun 10 [.agg [.d (D.lit (.int .u64 id)), .d (D.lit (.string (strOfNums nm))), iC d1, iC d2, iC d3, iC d4, iC d5, .d (D.sl (kX bs) n)], .agg [.d (D.lit (.int .u64 id)), .d (D.lit (.string (strOfNums nm))), iC d1, iC d2, iC d3, iC d4, iC d5, .d (D.sl (kX bs) n)]] (kD []) 0 (bV true) (kD []) 0 := by
  refine Fun.mk (n := 59) Tryz.func10 rfl rfl (Nat.le_of_ble_eq_true rfl) ?_
  intro cx hcx
  refine kG [.no, .no, .no] True [(2, rV 0 0), (3, rV 1 0)] [(0, some (31, .ds [D.lit (.int .u64 id), D.lit (.string (strOfNums nm)), iD d1, iD d2, iD d3, iD d4, iD d5, D.sl (kX bs) n])), (1, some (31, .ds [D.lit (.int .u64 id), D.lit (.string (strOfNums nm)), iD d1, iD d2, iD d3, iD d4, iD d5, D.sl (kX bs) n]))] 2 trivial ?_
  refine kG (kJ 4 (.b true :: kJ 5 (.b true :: kJ 6 (.b true :: kJ 6 (.b true :: kJ 6 (.b true :: kJ 6 (.b true :: kJ 6 (.b true :: kJ 6 [.call [] (bV true) [] 0 [] none, .no, .no])))))))) (((id = id)) ∧ ((ByteArray.toList (strOfNums nm) == ByteArray.toList (strOfNums nm)) = true) ∧ ((d1 = d1)) ∧ ((d2 = d2)) ∧ ((d3 = d3)) ∧ ((d4 = d4)) ∧ ((d5 = d5)) ∧ (Fun 34 [.c (.d (D.sl (kX bs) n)), .c (.d (D.sl (kX bs) n))] (kD []) 0 (bV true) (kD []) 0)) [(4, bV true)] [] 2 ⟨zo, (by simp), zo, zo, zo, zo, zo, (by have h0 := (u3q bs bs n n zo zo zo zo (kL : BsW bs) (kL : BsW bs)); rw [(k7h bs)] at h0; exact h0)⟩ ?_
  refine AW.ret ?_
  exact kB (.inr rfl) [] (P := (true = true)) zk rfl
end Go.Proofs.YtdbjebdomdnbkaaGreat
