/- Descriptors that are the same. No statement is proved here. -/
import Derived.Test.YtalbpleglapihaaZD11K
namespace Go.Proofs.Ytalbpleglapihaa
open Go.ChangeShapes Go.WideShapes Go.ChangeAt Go.RowKit
open Bool renaming eq_false_or_eq_true → kb5
open List renaming drop → ka7, getD → ka0, getD_eq_getElem?_getD → ka8, getElem?_eq_getElem → ka9, length → ka1, length_append → ka4, length_cons → kb1, length_drop → kb2, length_nil → kb6, length_take → kb3, take → ka2
open Nat renaming le_of_ble_eq_true → ka5, not_lt_zero → ke5
set_option linter.unusedVariables false
set_option linter.unusedSimpArgs false
/-! chapter 10: lists of boxes that are the same -/
set_option maxHeartbeats 4000000
set_option maxRecDepth 100000
def wX (k : Int) (r : List Int) (rn : Nat) (m : List (List Int)) (s : List Int) (sn : Nat) (k2 : Int) (r2 : List Int) (rn2 : Nat) (m2 : List (List Int)) (s2 : List Int) (sn2 : Nat) : Bool := decide (k = k2 ∧ r = r2 ∧ rn = rn2 ∧ m = m2 ∧ s = s2 ∧ sn = sn2)
theorem k7r {a b : List Int} (h : sS a b = true) : a = b := of_decide_eq_true h
theorem k7q {a b : List Int} (h : sS a b = false) : ¬ a = b := of_decide_eq_false h
section
variable {k : Int} {r : List Int} {rn : Nat} {m : List (List Int)} {s : List Int} {sn : Nat} {k2 : Int} {r2 : List Int} {rn2 : Nat} {m2 : List (List Int)} {s2 : List Int} {sn2 : Nat}
theorem zF (h1 : k = k2) (hc : m.length = m2.length) (hr : sS r r2 = true) (hs : sS s s2 = true) (h : ∀ j, j < m.length → bX (ka0 m j []) (ka0 m2 j []) = true) (l1 : r.length = rn * 2) (l2 : r2.length = rn2 * 2) (l3 : s.length = sn * 2) (l4 : s2.length = sn2 * 2) : wX k r rn m s sn k2 r2 rn2 m2 s2 sn2 = true := by
  have e1 := k7r hr
  have e2 := k7r hs
  refine decide_eq_true ⟨h1, e1, by rw [e1] at l1; omega, ?_, e2, by rw [e2] at l3; omega⟩
  refine List.ext_getElem hc fun j a b => ?_
  have h2 := k11 (h j a)
  rw [ka8, ka8, ka9 a, ka9 b] at h2
  exact h2
theorem zJ (h : ¬ (k = k2 ∧ m.length = m2.length)) : wX k r rn m s sn k2 r2 rn2 m2 s2 sn2 = false := decide_eq_false fun e => h ⟨e.1, by rw [e.2.2.2.1]⟩
theorem zH (h : sS r r2 = false) : wX k r rn m s sn k2 r2 rn2 m2 s2 sn2 = false := decide_eq_false fun e => k7q h e.2.1
theorem zG (h : sS s s2 = false) : wX k r rn m s sn k2 r2 rn2 m2 s2 sn2 = false := decide_eq_false fun e => k7q h e.2.2.2.2.1
theorem zI {j : Nat} (h : bX (ka0 m j []) (ka0 m2 j []) = false) : wX k r rn m s sn k2 r2 rn2 m2 s2 sn2 = false := decide_eq_false fun e => k0z h (by rw [e.2.2.2.1])
end
def sbE (xs ys : List Bx) (i : Nat) : Bool := wX (bB xs i) (bY xs i) (vJ xs i) (y3 xs i) (dP xs i) (bA xs i) (bB ys i) (bY ys i) (vJ ys i) (y3 ys i) (dP ys i) (bA ys i)
def saB (xs ys : List Bx) : Bool := decide (xs.length = ys.length ∧ ∀ i, i < xs.length → sbE xs ys i = true)
theorem k5h {xs ys : List Bx} (h1 : xs.length = ys.length) (h : ∀ i, i < xs.length → sbE xs ys i = true) : saB xs ys = true := decide_eq_true ⟨h1, h⟩
theorem k99 {xs ys : List Bx} (h1 : ¬ xs.length = ys.length) : saB xs ys = false := decide_eq_false fun e => h1 e.1
theorem k9a {xs ys : List Bx} {i : Nat} (hi : i < xs.length) (h : sbE xs ys i = false) : saB xs ys = false := decide_eq_false fun e => by
  have := e.2 i hi; rw [h] at this; cases this
theorem k5i (a : List Bx) : saB a a = true := k5h rfl fun i _ => decide_eq_true ⟨rfl, rfl, rfl, rfl, rfl, rfl⟩
theorem cD {p : Prop} (h : p := by first | omega | (simp only [kR, kO, pbL_len, qT, qJ, ka4, kb1, kb6, kb3, kb2] <;> omega)) : p := h
theorem uJ {p : Prop} (h : p := by first | omega | with_reducible assumption | (simp only [kR, kO, pbL_len, qT, qJ, ka4, kb1, kb6, kb3, kb2, List.length_replicate, List.length_set] <;> omega) | rfl | assumption) : p := h
abbrev y7 (k : Int) (r : List Int) (rn : Nat) (m : List (List Int)) (c : Nat) (s : List Int) (sn : Nat) : BC := .ds [iD k, D.sl (dI .i64 r) rn, D.sl (k9 m) c, D.sl (dI .i64 s) sn]
abbrev y6 (k2 : Int) (r2 : List Int) (rn2 : Nat) (m2 : List (List Int)) (c2 : Nat) (s2 : List Int) (sn2 : Nat) : BC := .ds [iD k2, D.sl (dI .i64 r2) rn2, D.sl (k9 m2) c2, D.sl (dI .i64 s2) sn2]
theorem k4s (k : Int) (r : List Int) (rn : Nat) (m : List (List Int)) (c : Nat) (s : List Int) (sn : Nat) (k2 : Int) (r2 : List Int) (rn2 : Nat) (m2 : List (List Int)) (c2 : Nat) (s2 : List Int) (sn2 : Nat) (hr : ka1 r = rn * 2) (hs : ka1 s = sn * 2) (hc : ka1 m = c) (h1 : rn ≤ 1000000) (h2 : sn ≤ 1000000) (h3 : c ≤ 1000000) (hW : MsW m) (hr2 : ka1 r2 = rn2 * 2) (hs2 : ka1 s2 = sn2 * 2) (hc2 : ka1 m2 = c2) (h12 : rn2 ≤ 1000000) (h22 : sn2 ≤ 1000000) (h32 : c2 ≤ 1000000) (hW2 : MsW m2) : Fun 45 [.agg [iC k, .d (D.sl (dI .i64 r) rn), .d (D.sl (k9 m) c), .d (D.sl (dI .i64 s) sn)], .agg [iC k2, .d (D.sl (dI .i64 r2) rn2), .d (D.sl (k9 m2) c2), .d (D.sl (dI .i64 s2) sn2)]] (kG []) 0 (kT (D.lit (.bool (wX k r rn m s sn k2 r2 rn2 m2 s2 sn2)))) (kG []) 0 := by
  refine Fun.mk (n := 55) Try.func45 rfl rfl (ka5 rfl) ?_
  intro cx hcx
  refine kK [.no, .no, .no] True [(2, rV 0 0), (3, rV 1 0)] [(0, some (78, (y7 k r rn m c s sn))), (1, some (78, (y6 k2 r2 rn2 m2 c2 s2 sn2)))] 2 trivial ?_
  refine AW.seq ?_
  by_cases hx1 : (k ≠ k2)
  · refine zr (kS 4 (.b true :: kS 6 [])) [2, 3, 35] [0, 1] ((k ≠ k2)) [(2, rV 0 0), (3, rV 1 0), (35, bV true)] [(0, some (78, (y7 k r rn m c s sn))), (1, some (78, (y6 k2 r2 rn2 m2 c2 s2 sn2)))] 2 zo ?_
    refine zt ?_
    refine kK [.no] True [(4, bV false)] [] 2 trivial ?_
    refine AW.ret ?_
    exact kC (.inr rfl) [] (P := ((wX k r rn m s sn k2 r2 rn2 m2 s2 sn2) = false)) zk (by first | exact zF zo zo (by assumption) (by assumption) (fun j hj => ha j zo) hr hr2 hs hs2 | exact zJ zo | exact zH (by assumption) | exact zG (by assumption) | exact zI (j := z) (by assumption))
  · by_cases hx2 : (((c : Nat) : Int) ≠ ((c2 : Nat) : Int))
    · refine zr (kS 4 (.b false :: kS 7 (.b true :: kS 5 []))) [2, 3, 35] [0, 1] ((¬ (k ≠ k2)) ∧ (((c : Int) ≠ (c2 : Int)))) [(2, rV 0 0), (3, rV 1 0), (35, bV true)] [(0, some (78, (y7 k r rn m c s sn))), (1, some (78, (y6 k2 r2 rn2 m2 c2 s2 sn2)))] 2 ⟨zo, zo⟩ ?_
      refine zt ?_
      refine kK [.no] True [(4, bV false)] [] 2 trivial ?_
      refine AW.ret ?_
      exact kC (.inr rfl) [] (P := ((wX k r rn m s sn k2 r2 rn2 m2 s2 sn2) = false)) zk (by first | exact zF zo zo (by assumption) (by assumption) (fun j hj => ha j zo) hr hr2 hs hs2 | exact zJ zo | exact zH (by assumption) | exact zG (by assumption) | exact zI (j := z) (by assumption))
    · rcases kb5 (sS r r2) with hx3 | hx3
      · rcases kb5 (sS s s2) with hx4 | hx4
        · refine zr (kS 4 (.b false :: kS 7 (.b false :: kS 6 (.call [] (bV true) [] 0 [] none :: kS 7 [.call [] (bV true) [] 0 [] none, .no, .no])))) [2, 3, 35] [0, 1] ((¬ (k ≠ k2)) ∧ (¬ ((c : Int) ≠ (c2 : Int))) ∧ (Fun 60 [.agg [.d (dl r rn)], .agg [.d (dl r2 rn2)]] (kG []) 0 (bV true) (kG []) 0) ∧ (Fun 60 [.agg [.d (dl s sn)], .agg [.d (dl s2 sn2)]] (kG []) 0 (bV true) (kG []) 0)) [(2, rV 0 0), (3, rV 1 0), (35, bV false)] [(0, some (78, (y7 k r rn m c s sn))), (1, some (78, (y6 k2 r2 rn2 m2 c2 s2 sn2)))] 2 ⟨zo, zo, (by have h0 := (jJ r r2 rn rn2 zo zo zo zo); rw [hx3] at h0; exact h0), (by have h0 := (jJ s s2 sn sn2 zo zo zo zo); rw [hx4] at h0; exact h0)⟩ ?_
          refine yM ?_
          refine AW.seq ?_
          refine kK (kS 4 []) True [(2, rV 0 0), (3, rV 1 0), (38, uV c), (39, iV 0)] [(0, some (78, (y7 k r rn m c s sn))), (1, some (78, (y6 k2 r2 rn2 m2 c2 s2 sn2)))] 2 trivial ?_
          refine AW.block ?_
          refine kW 0 hcx (fun (x : {x : Nat // match x with | z => (z ≤ c) ∧ (∀ j, j < z → bX (ka0 m j []) (ka0 m2 j []) = true)}) => match x with | ⟨z, _⟩ => (⟨[(2, rV 0 0), (3, rV 1 0), (38, uV c), (39, uV z)], [(0, some (78, (y7 k r rn m c s sn))), (1, some (78, (y6 k2 r2 rn2 m2 c2 s2 sn2)))], 2⟩ : ES)) (fun x => match x with | ⟨z, _⟩ => c - z) ⟨(0 : Nat), ⟨(by first | omega | assumption | simp), (fun j hj => absurd hj (ke5 j))⟩⟩ [] (P := (kN 0) ∧ (kN 0) ∧ (kM (c : Int)) ∧ (kM 0) ∧ (k8 [iD k, dl r rn, D.sl (k9 m) c, dl s sn]) ∧ (k8 [iD k2, dl r2 rn2, D.sl (k9 m2) c2, dl s2 sn2])) zk ⟨rfl, rfl, rfl, rfl, rfl, rfl⟩ ?_
          rintro ⟨z, hinv0⟩
          obtain ⟨hz, ha⟩ : (z ≤ c) ∧ (∀ j, j < z → bX (ka0 m j []) (ka0 m2 j []) = true) := hinv0
          refine uH (l := [(2, rV 0 0), (3, rV 1 0), (38, uV c), (39, uV z)]) (g := [(0, some (78, (y7 k r rn m c s sn))), (1, some (78, (y6 k2 r2 rn2 m2 c2 s2 sn2)))]) (nx := 2) rfl rfl rfl ?_
          by_cases hx5 : (((z : Nat) : Int) < ((c : Nat) : Int))
          · refine zr [.b true] [2, 3, 38, 39, 40] [0, 1] (((z : Int) < (c : Int))) [(2, rV 0 0), (3, rV 1 0), (38, uV c), (39, uV z), (40, bV true)] [(0, some (78, (y7 k r rn m c s sn))), (1, some (78, (y6 k2 r2 rn2 m2 c2 s2 sn2)))] 2 zo ?_
            refine AW.seq ?_
            refine vD ?_
            refine AW.seq ?_
            refine AW.block ?_
            refine kK [.no, .no] True [(2, rV 0 0), (3, rV 1 0), (5, uV z), (38, uV c), (39, uV z)] [(0, some (78, (y7 k r rn m c s sn))), (1, some (78, (y6 k2 r2 rn2 m2 c2 s2 sn2)))] 2 trivial ?_
            rcases kb5 (bX (ka0 m z ([] : List Int)) (ka0 m2 z ([] : List Int))) with hx8 | hx8
            · have hx9 : ((ka1 (ka0 m z ([] : List Int))) ≤ 1000000) := MsW.at (kP : MsW m) _
              have hx10 : ((ka1 (ka0 m2 z ([] : List Int))) ≤ 1000000) := MsW.at (kP : MsW m2) _
              refine kK [.no, .no, .no, .n z, .d (dl (ka0 m z ([] : List Int)) (ka1 (ka0 m z ([] : List Int)))), .no, .no, .no, .n z, .d (dl (ka0 m2 z ([] : List Int)) (ka1 (ka0 m2 z ([] : List Int)))), .call [] (bV true) [] 0 [] none, .no] ((kM (z : Int)) ∧ (z < c) ∧ ((ka7 z (k9 m))[0]? = some (dl (ka0 m z ([] : List Int)) (ka1 (ka0 m z ([] : List Int))))) ∧ (kM (z : Int)) ∧ (z < c2) ∧ ((ka7 z (k9 m2))[0]? = some (dl (ka0 m2 z ([] : List Int)) (ka1 (ka0 m2 z ([] : List Int))))) ∧ (Fun 61 [.c (.d (dl (ka0 m z ([] : List Int)) (ka1 (ka0 m z ([] : List Int))))), .c (.d (dl (ka0 m2 z ([] : List Int)) (ka1 (ka0 m2 z ([] : List Int)))))] (kG []) 0 (bV true) (kG []) 0)) [(2, rV 0 0), (3, rV 1 0), (38, uV c), (39, uV z), (53, bV false)] [(0, some (78, (y7 k r rn m c s sn))), (1, some (78, (y6 k2 r2 rn2 m2 c2 s2 sn2)))] 2 ⟨rfl, zo, (aN _ _ cD), rfl, zo, (aN _ _ cD), (by have h0 := (x3 (ka0 m z ([] : List Int)) (ka0 m2 z ([] : List Int)) (ka1 (ka0 m z ([] : List Int))) (ka1 (ka0 m2 z ([] : List Int))) rfl rfl uJ uJ); rw [hx8] at h0; exact h0)⟩ ?_
              refine yM ?_
              refine yD [.w, .no] (qL ((z : Int) + 1)) [(2, rV 0 0), (3, rV 1 0), (38, uV c), (39, iV (↑z + 1))] ⟨by omega, by omega⟩ ?_
              exact qS ⟨((z + 1) : Nat), ⟨(by first | omega | assumption | simp), (fun j hj => (Nat.lt_succ_iff_lt_or_eq.1 hj).elim (ha j) (fun e9 => by subst e9; assumption))⟩⟩ [] (P := (kN 0) ∧ (kN 0) ∧ (kM (c : Int)) ∧ (q1S z) ∧ (k8 [iD k, dl r rn, D.sl (k9 m) c, dl s sn]) ∧ (k8 [iD k2, dl r2 rn2, D.sl (k9 m2) c2, dl s2 sn2])) zk ⟨rfl, rfl, rfl, (by first | rfl | omega | assumption | (simp; done) | (simp; omega)), rfl, rfl⟩ (show c - (z + 1) < c - z from (by first | omega | (show _ < _; simp; omega)))
            · have hx11 : ((ka1 (ka0 m z ([] : List Int))) ≤ 1000000) := MsW.at (kP : MsW m) _
              have hx12 : ((ka1 (ka0 m2 z ([] : List Int))) ≤ 1000000) := MsW.at (kP : MsW m2) _
              refine kK [.no, .no, .no, .n z, .d (dl (ka0 m z ([] : List Int)) (ka1 (ka0 m z ([] : List Int)))), .no, .no, .no, .n z, .d (dl (ka0 m2 z ([] : List Int)) (ka1 (ka0 m2 z ([] : List Int)))), .call [] (bV false) [] 0 [] none, .no] ((kM (z : Int)) ∧ (z < c) ∧ ((ka7 z (k9 m))[0]? = some (dl (ka0 m z ([] : List Int)) (ka1 (ka0 m z ([] : List Int))))) ∧ (kM (z : Int)) ∧ (z < c2) ∧ ((ka7 z (k9 m2))[0]? = some (dl (ka0 m2 z ([] : List Int)) (ka1 (ka0 m2 z ([] : List Int))))) ∧ (Fun 61 [.c (.d (dl (ka0 m z ([] : List Int)) (ka1 (ka0 m z ([] : List Int))))), .c (.d (dl (ka0 m2 z ([] : List Int)) (ka1 (ka0 m2 z ([] : List Int)))))] (kG []) 0 (bV false) (kG []) 0)) [(2, rV 0 0), (3, rV 1 0), (38, uV c), (39, uV z), (53, bV true)] [(0, some (78, (y7 k r rn m c s sn))), (1, some (78, (y6 k2 r2 rn2 m2 c2 s2 sn2)))] 2 ⟨rfl, zo, (aN _ _ cD), rfl, zo, (aN _ _ cD), (by have h0 := (x3 (ka0 m z ([] : List Int)) (ka0 m2 z ([] : List Int)) (ka1 (ka0 m z ([] : List Int))) (ka1 (ka0 m2 z ([] : List Int))) rfl rfl uJ uJ); rw [hx8] at h0; exact h0)⟩ ?_
              refine zt ?_
              refine kK [.no] True [(4, bV false)] [] 2 trivial ?_
              refine AW.ret ?_
              exact kC (.inr rfl) [] (P := ((wX k r rn m s sn k2 r2 rn2 m2 s2 sn2) = false)) zk (by first | exact zF zo zo (by assumption) (by assumption) (fun j hj => ha j zo) hr hr2 hs hs2 | exact zJ zo | exact zH (by assumption) | exact zG (by assumption) | exact zI (j := z) (by assumption))
          · refine zr [.b false] [2, 3, 38, 39, 40] [0, 1] (¬ ((z : Int) < (c : Int))) [(2, rV 0 0), (3, rV 1 0), (38, uV c), (39, uV z), (40, bV false)] [(0, some (78, (y7 k r rn m c s sn))), (1, some (78, (y6 k2 r2 rn2 m2 c2 s2 sn2)))] 2 zo ?_
            refine AW.seq ?_
            refine zf ?_
            refine AW.exit ?_
            refine kK [.no] True [(4, bV true)] [] 2 trivial ?_
            refine AW.ret ?_
            exact kC (.inr rfl) [] (P := ((wX k r rn m s sn k2 r2 rn2 m2 s2 sn2) = true)) zk (by first | exact zF zo zo (by assumption) (by assumption) (fun j hj => ha j zo) hr hr2 hs hs2 | exact zJ zo | exact zH (by assumption) | exact zG (by assumption) | exact zI (j := z) (by assumption))
        · refine zr (kS 4 (.b false :: kS 7 (.b false :: kS 6 (.call [] (bV true) [] 0 [] none :: kS 7 [.call [] (bV false) [] 0 [] none, .no, .no])))) [2, 3, 35] [0, 1] ((¬ (k ≠ k2)) ∧ (¬ ((c : Int) ≠ (c2 : Int))) ∧ (Fun 60 [.agg [.d (dl r rn)], .agg [.d (dl r2 rn2)]] (kG []) 0 (bV true) (kG []) 0) ∧ (Fun 60 [.agg [.d (dl s sn)], .agg [.d (dl s2 sn2)]] (kG []) 0 (bV false) (kG []) 0)) [(2, rV 0 0), (3, rV 1 0), (35, bV true)] [(0, some (78, (y7 k r rn m c s sn))), (1, some (78, (y6 k2 r2 rn2 m2 c2 s2 sn2)))] 2 ⟨zo, zo, (by have h0 := (jJ r r2 rn rn2 zo zo zo zo); rw [hx3] at h0; exact h0), (by have h0 := (jJ s s2 sn sn2 zo zo zo zo); rw [hx4] at h0; exact h0)⟩ ?_
          refine zt ?_
          refine kK [.no] True [(4, bV false)] [] 2 trivial ?_
          refine AW.ret ?_
          exact kC (.inr rfl) [] (P := ((wX k r rn m s sn k2 r2 rn2 m2 s2 sn2) = false)) zk (by first | exact zF zo zo (by assumption) (by assumption) (fun j hj => ha j zo) hr hr2 hs hs2 | exact zJ zo | exact zH (by assumption) | exact zG (by assumption) | exact zI (j := z) (by assumption))
      · refine zr (kS 4 (.b false :: kS 7 (.b false :: kS 6 (.call [] (bV false) [] 0 [] none :: kS 4 [])))) [2, 3, 35] [0, 1] ((¬ (k ≠ k2)) ∧ (¬ ((c : Int) ≠ (c2 : Int))) ∧ (Fun 60 [.agg [.d (dl r rn)], .agg [.d (dl r2 rn2)]] (kG []) 0 (bV false) (kG []) 0)) [(2, rV 0 0), (3, rV 1 0), (35, bV true)] [(0, some (78, (y7 k r rn m c s sn))), (1, some (78, (y6 k2 r2 rn2 m2 c2 s2 sn2)))] 2 ⟨zo, zo, (by have h0 := (jJ r r2 rn rn2 zo zo zo zo); rw [hx3] at h0; exact h0)⟩ ?_
        refine zt ?_
        refine kK [.no] True [(4, bV false)] [] 2 trivial ?_
        refine AW.ret ?_
        exact kC (.inr rfl) [] (P := ((wX k r rn m s sn k2 r2 rn2 m2 s2 sn2) = false)) zk (by first | exact zF zo zo (by assumption) (by assumption) (fun j hj => ha j zo) hr hr2 hs hs2 | exact zJ zo | exact zH (by assumption) | exact zG (by assumption) | exact zI (j := z) (by assumption))
theorem u0y (xs ys : List Bx) (n m : Nat) (hn : ka1 xs = n) (hm : ka1 ys = m) (h1 : n ≤ 1000000) (h2 : m ≤ 1000000) (hW : BsW xs) (hV : BsW ys) : Fun 26 [.c (.d (D.sl (qC xs) n)), .c (.d (D.sl (qC ys) m))] (kG []) 0 (kT (D.lit (.bool (saB xs ys)))) (kG []) 0 := by
  refine Fun.mk (n := 27) Try.func26 rfl rfl (ka5 rfl) ?_
  intro cx hcx
  refine kK [.no] True [(0, .e (vN xs n)), (1, .e (vN ys m))] [] 0 trivial ?_
  refine AW.seq ?_
  by_cases hx1 : (((n : Nat) : Int) ≠ ((m : Nat) : Int))
  · refine zr (kS 4 [.b true]) [0, 1, 10] [] (((n : Int) ≠ (m : Int))) [(0, .e (vN xs n)), (1, .e (vN ys m)), (10, bV true)] [] 0 zo ?_
    refine zt ?_
    refine kK [.no] True [(4, bV false)] [] 0 trivial ?_
    refine AW.ret ?_
    exact kC (.inr rfl) [] (P := ((saB xs ys) = false)) zk (by first | exact k99 zo | exact k5h zo (fun j hj => ha j zo) | exact k9a (i := z) zo (by assumption))
  · refine zr (kS 4 [.b false]) [0, 1, 10] [] (¬ ((n : Int) ≠ (m : Int))) [(0, .e (vN xs n)), (1, .e (vN ys m)), (10, bV false)] [] 0 zo ?_
    refine yM ?_
    refine AW.seq ?_
    refine kK [.no, .no, .no] True [(0, .e (vN xs n)), (1, .e (vN ys m)), (12, uV n), (13, iV 0)] [] 0 trivial ?_
    refine AW.block ?_
    refine kW 0 hcx (fun (x : {x : Nat // match x with | z => (z ≤ n) ∧ (∀ j, j < z → sbE xs ys j = true)}) => match x with | ⟨z, _⟩ => (⟨[(0, .e (vN xs n)), (1, .e (vN ys m)), (12, uV n), (13, uV z)], [], 0⟩ : ES)) (fun x => match x with | ⟨z, _⟩ => n - z) ⟨(0 : Nat), ⟨(by first | omega | assumption | simp), (fun j hj => absurd hj (ke5 j))⟩⟩ [] (P := (k8 (qC xs)) ∧ (kN n) ∧ (k8 (qC ys)) ∧ (kN m) ∧ (kM (n : Int)) ∧ (kM 0)) zk ⟨rfl, rfl, rfl, rfl, rfl, rfl⟩ ?_
    rintro ⟨z, hinv0⟩
    obtain ⟨hz, ha⟩ : (z ≤ n) ∧ (∀ j, j < z → sbE xs ys j = true) := hinv0
    refine uH (l := [(0, .e (vN xs n)), (1, .e (vN ys m)), (12, uV n), (13, uV z)]) (g := []) (nx := 0) rfl rfl rfl ?_
    by_cases hx2 : (((z : Nat) : Int) < ((n : Nat) : Int))
    · refine zr [.b true] [0, 1, 12, 13, 14] [] (((z : Int) < (n : Int))) [(0, .e (vN xs n)), (1, .e (vN ys m)), (12, uV n), (13, uV z), (14, bV true)] [] 0 zo ?_
      refine AW.seq ?_
      refine vD ?_
      refine AW.seq ?_
      refine AW.block ?_
      refine kK [.no, .no] True [(0, .e (vN xs n)), (1, .e (vN ys m)), (5, uV z), (12, uV n), (13, uV z)] [] 0 trivial ?_
      rcases kb5 (wX (bB xs z) (bY xs z) (vJ xs z) (y3 xs z) (dP xs z) (bA xs z) (bB ys z) (bY ys z) (vJ ys z) (y3 ys z) (dP ys z) (bA ys z)) with hx13 | hx13
      · obtain ⟨hx14, hx15, hx16, hx17, hx18⟩ := BsW.at (kP : BsW xs) (z)
        obtain ⟨hx19, hx20, hx21, hx22, hx23⟩ := BsW.at (kP : BsW ys) (z)
        refine kK [.no, .no, .n z, .ds (jY xs z), .no, .no, .n z, .ds (jY ys z), .call [] (bV true) [] 0 [] none, .no] ((kM (z : Int)) ∧ (z < n) ∧ (ka2 4 (ka7 (z * 4) (qC xs)) = (jY xs z)) ∧ (((jY xs z) : List D).length = 4) ∧ (kM (z : Int)) ∧ (z < m) ∧ (ka2 4 (ka7 (z * 4) (qC ys)) = (jY ys z)) ∧ (((jY ys z) : List D).length = 4) ∧ (Fun 45 [(q1A xs z), (q1A ys z)] (kG []) 0 (bV true) (kG []) 0)) [(0, .e (vN xs n)), (1, .e (vN ys m)), (12, uV n), (13, uV z), (25, bV false)] [] 0 ⟨rfl, zo, (jI cD), rfl, rfl, zo, (jI cD), rfl, (by have h0 := (k4s (bB xs z) (bY xs z) (vJ xs z) (y3 xs z) (ka1 (y3 xs z)) (dP xs z) (bA xs z) (bB ys z) (bY ys z) (vJ ys z) (y3 ys z) (ka1 (y3 ys z)) (dP ys z) (bA ys z) uJ uJ rfl uJ uJ uJ (dY (kP : BsW xs) _) uJ uJ rfl uJ uJ uJ (dY (kP : BsW ys) _)); rw [hx13] at h0; exact h0)⟩ ?_
        refine yM ?_
        refine yD [.w, .no] (qL ((z : Int) + 1)) [(0, .e (vN xs n)), (1, .e (vN ys m)), (12, uV n), (13, iV (↑z + 1))] ⟨by omega, by omega⟩ ?_
        exact qS ⟨((z + 1) : Nat), ⟨(by first | omega | assumption | simp), (fun j hj => (Nat.lt_succ_iff_lt_or_eq.1 hj).elim (ha j) (fun e9 => by subst e9; assumption))⟩⟩ [] (P := (k8 (qC xs)) ∧ (kN n) ∧ (k8 (qC ys)) ∧ (kN m) ∧ (kM (n : Int)) ∧ (q1S z)) zk ⟨rfl, rfl, rfl, rfl, rfl, (by first | rfl | omega | assumption | (simp; done) | (simp; omega))⟩ (show n - (z + 1) < n - z from (by first | omega | (show _ < _; simp; omega)))
      · obtain ⟨hx24, hx25, hx26, hx27, hx28⟩ := BsW.at (kP : BsW xs) (z)
        obtain ⟨hx29, hx30, hx31, hx32, hx33⟩ := BsW.at (kP : BsW ys) (z)
        refine kK [.no, .no, .n z, .ds (jY xs z), .no, .no, .n z, .ds (jY ys z), .call [] (bV false) [] 0 [] none, .no] ((kM (z : Int)) ∧ (z < n) ∧ (ka2 4 (ka7 (z * 4) (qC xs)) = (jY xs z)) ∧ (((jY xs z) : List D).length = 4) ∧ (kM (z : Int)) ∧ (z < m) ∧ (ka2 4 (ka7 (z * 4) (qC ys)) = (jY ys z)) ∧ (((jY ys z) : List D).length = 4) ∧ (Fun 45 [(q1A xs z), (q1A ys z)] (kG []) 0 (bV false) (kG []) 0)) [(0, .e (vN xs n)), (1, .e (vN ys m)), (12, uV n), (13, uV z), (25, bV true)] [] 0 ⟨rfl, zo, (jI cD), rfl, rfl, zo, (jI cD), rfl, (by have h0 := (k4s (bB xs z) (bY xs z) (vJ xs z) (y3 xs z) (ka1 (y3 xs z)) (dP xs z) (bA xs z) (bB ys z) (bY ys z) (vJ ys z) (y3 ys z) (ka1 (y3 ys z)) (dP ys z) (bA ys z) uJ uJ rfl uJ uJ uJ (dY (kP : BsW xs) _) uJ uJ rfl uJ uJ uJ (dY (kP : BsW ys) _)); rw [hx13] at h0; exact h0)⟩ ?_
        refine zt ?_
        refine kX [.no] True [(4, bV false)] trivial ?_
        refine AW.ret ?_
        exact kC (.inr rfl) [] (P := ((saB xs ys) = false)) zk (by first | exact k99 zo | exact k5h zo (fun j hj => ha j zo) | exact k9a (i := z) zo (by assumption))
    · refine zr [.b false] [0, 1, 12, 13, 14] [] (¬ ((z : Int) < (n : Int))) [(0, .e (vN xs n)), (1, .e (vN ys m)), (12, uV n), (13, uV z), (14, bV false)] [] 0 zo ?_
      refine AW.seq ?_
      refine zf ?_
      refine AW.exit ?_
      refine kK [.no] True [(4, bV true)] [] 0 trivial ?_
      refine AW.ret ?_
      exact kC (.inr rfl) [] (P := ((saB xs ys) = true)) zk (by first | exact k99 zo | exact k5h zo (fun j hj => ha j zo) | exact k9a (i := z) zo (by assumption))
theorem k7d (id : Int) (nm : List Int) (d1 d2 d3 d4 d5 : Int) (bs : List Bx) (n : Nat) (hy : Byt nm) (hl : ka1 nm ≤ 1000000) (hn : ka1 bs = n) (h1 : n ≤ 1000000) (hW : BsW bs) : Fun 11 [.agg [.d (D.lit (.int .u64 id)), .d (D.lit (.string (strOfNums nm))), iC d1, iC d2, iC d3, iC d4, iC d5, .d (D.sl (qC bs) n)], .agg [.d (D.lit (.int .u64 id)), .d (D.lit (.string (strOfNums nm))), iC d1, iC d2, iC d3, iC d4, iC d5, .d (D.sl (qC bs) n)]] (kG []) 0 (bV true) (kG []) 0 := by
  refine Fun.mk (n := 59) Try.func11 rfl rfl (ka5 rfl) ?_
  intro cx hcx
  refine kK [.no, .no, .no] True [(2, rV 0 0), (3, rV 1 0)] [(0, some (31, .ds [D.lit (.int .u64 id), D.lit (.string (strOfNums nm)), iD d1, iD d2, iD d3, iD d4, iD d5, D.sl (qC bs) n])), (1, some (31, .ds [D.lit (.int .u64 id), D.lit (.string (strOfNums nm)), iD d1, iD d2, iD d3, iD d4, iD d5, D.sl (qC bs) n]))] 2 trivial ?_
  refine kK (kS 4 (.b true :: kS 5 (.b true :: kS 6 (.b true :: kS 6 (.b true :: kS 6 (.b true :: kS 6 (.b true :: kS 6 (.b true :: kS 6 [.call [] (bV true) [] 0 [] none, .no, .no])))))))) (((id = id)) ∧ ((ByteArray.toList (strOfNums nm) == ByteArray.toList (strOfNums nm)) = true) ∧ ((d1 = d1)) ∧ ((d2 = d2)) ∧ ((d3 = d3)) ∧ ((d4 = d4)) ∧ ((d5 = d5)) ∧ (Fun 26 [.c (.d (D.sl (qC bs) n)), .c (.d (D.sl (qC bs) n))] (kG []) 0 (bV true) (kG []) 0)) [(4, bV true)] [] 2 ⟨zo, (by simp), zo, zo, zo, zo, zo, (by have h0 := (u0y bs bs n n zo zo zo zo (kP : BsW bs) (kP : BsW bs)); rw [(k5i bs)] at h0; exact h0)⟩ ?_
  refine AW.ret ?_
  exact kC (.inr rfl) [] (P := (true = true)) zk rfl
end Go.Proofs.Ytalbpleglapihaa
