/- Choices of a deck by letters; the example. No statement is proved here. -/
import Derived.Test.YtkjmlililpgamaaZC30E
import Derived.Test.YtkjmlililpgamaaZC30C
namespace Go.Proofs.Ytkjmlililpgamaa
open Go.ChangeShapes Go.WideShapes Go.ChangeAt Go.RowKit
open List renaming foldl_append → kk3, foldl_cons → kh9, length → ka0, length_append → ka5, length_cons → kb7, length_drop → kc0, length_nil → kb8, length_replicate → kc5, length_set → ka8, length_take → kb9, take_of_length_le → kc7
open Nat renaming le_refl → kc2
set_option linter.unusedVariables false
set_option linter.unusedSimpArgs false
/-! what was remembered last is found -/
set_option maxHeartbeats 4000000
set_option maxRecDepth 100000
theorem sF {xs : List Ch} {r s : List Int} (hs : v8 s = true) (h : ∀ c ∈ xs, v8 c.s = true) : ∀ k, k ≤ xs.length → nJ xs r s k ≤ s.length
  | 0, _ => Nat.zero_le _
  | k + 1, hk => by
    by_cases e : kH xs k = r ∧ nJ xs r s k ≤ (kD xs k).length ∧ vZ (kD xs k) s = true
    · rw [(dP e.1 e.2.1 e.2.2).2]
      exact k3k (h _ (iF (by omega))) hs e.2.2
    · rw [(eK e).2]; exact sF hs h k (by omega)
theorem sC {xs ys : List Ch} {r s : List Int} : ∀ k, k ≤ xs.length → sE (xs ++ ys) r s k = sE xs r s k
  | 0, _ => rfl
  | k + 1, hk => by
    have ih := sC (xs := xs) (ys := ys) (r := r) (s := s) k (by omega)
    have e : yN (xs ++ ys) k = yN xs k := pD (by omega)
    show (if kH (xs ++ ys) k = r ∧ (sE (xs ++ ys) r s k).2 ≤ (kD (xs ++ ys) k).length ∧ vZ (kD (xs ++ ys) k) s = true then _ else _) = (if _ then _ else _ : Int × Nat)
    unfold kH kD kN; rw [e, ih]
theorem k2s {xs : List Ch} (h : VM xs) : ∀ c ∈ xs, v8 c.s = true := fun c hc => vI (h.1 c hc)
theorem zA {xs : List Ch} {r s : List Int} {d : Int} (h : yM xs = true) (hp : uW r s d = true) : kT (kF xs r s d) r s = d := by
  rw [dQ (cA h hp) (vI hp), (lN h hp).1]
  unfold pY
  rw [List.drop_append_of_le_length (by omega)]
  generalize hz : List.drop ((q5 xs r s).length - 31) (q5 xs r s) = zs
  have hv : VM zs := by rw [← hz]; exact mR (pN (pM h).2 _) _
  have e : yN (zs ++ [k9 r s d]) zs.length = k9 r s d := pC _ _
  have h1 : kH (zs ++ [k9 r s d]) zs.length = r := by unfold kH; rw [e]; rfl
  have h2 : kD (zs ++ [k9 r s d]) zs.length = s := by unfold kD; rw [e]; rfl
  have h3 : kN (zs ++ [k9 r s d]) zs.length = d := by unfold kN; rw [e]; rfl
  have hm : nJ (zs ++ [k9 r s d]) r s zs.length ≤ s.length := by
    unfold nJ; rw [sC zs.length (kc2 _)]
    exact sF (vI hp) (k2s hv) zs.length (kc2 _)
  have h4 := dP (xs := zs ++ [k9 r s d]) (r := r) (s := s) (k := zs.length) h1 (by rw [h2]; exact hm) (by rw [h2]; exact pR fun x hx => hx)
  rw [show (zs ++ [k9 r s d]).length = zs.length + 1 by rw [ka5]; rfl, h4.1, h3]
theorem sG {xs : List Ch} {r s : List Int} : ∀ k, k ≤ xs.length → pJ xs r s k = 0 ∨ ∃ c ∈ xs, pJ xs r s k = c.d ∧ vZ c.s s = true
  | 0, _ => .inl rfl
  | k + 1, hk => by
    by_cases e : kH xs k = r ∧ nJ xs r s k ≤ (kD xs k).length ∧ vZ (kD xs k) s = true
    · rw [(dP e.1 e.2.1 e.2.2).1]; exact .inr ⟨_, iF (by omega), rfl, e.2.2⟩
    · rw [(eK e).1]; exact sG k (by omega)
theorem sD {xs : List Ch} {r s : List Int} (h : ¬ kT xs r s = 0) : VM xs ∧ ∃ c ∈ xs, kT xs r s = c.d ∧ vZ c.s s = true := by
  cases e : yM xs with
  | false => exact absurd (dR e) h
  | true =>
    cases e2 : v8 s with
    | false => exact absurd (a8 e2) h
    | true =>
      rw [dQ e e2] at h ⊢
      exact ⟨(pM e).2, (sG xs.length (kc2 _)).resolve_left h⟩
theorem sB {xs : List Ch} {r s : List Int} (h : ¬ kT xs r s = 0) : y6 s (kT xs r s) = true := by
  obtain ⟨hv, c, hc, h1, h2⟩ := sD h
  rw [h1]
  exact decide_eq_true (lS h2 _ (of_decide_eq_true (k3g (hv.1 c hc))))
theorem cL {xs : List Ch} {r s : List Int} {d : Int} (hv : yM xs = true) (h : kT (q6 xs d) r s = d) : d = 0 := by
  by_cases e : kT (q6 xs d) r s = 0
  · omega
  · obtain ⟨_, c, hc, h1, _⟩ := sD e
    rw [k3x hv] at hc
    have h2 : (!decide (c.d = d)) = true := (List.mem_filter.1 hc).2
    have h3 : c.d = d := by omega
    rw [decide_eq_true h3] at h2; cases h2
def lkF (r s : List Int) (p : Int × Nat) (c : Ch) : Int × Nat := if c.r = r ∧ p.2 ≤ c.s.length ∧ vZ c.s s = true then (c.d, c.s.length) else p
theorem gT {xs : List Ch} {r s : List Int} : ∀ k, k ≤ xs.length → sE xs r s k = (List.take k xs).foldl (lkF r s) (0, 0)
  | 0, _ => rfl
  | k + 1, hk => by rw [yP (by omega), kk3, ← gT k (by omega)]; rfl
theorem g6 {r s : List Int} {p : Ch → Bool} (hp : ∀ c, p c = true → ¬ c.r = r) : ∀ (xs : List Ch) (z : Int × Nat), (iM p xs).foldl (lkF r s) z = xs.foldl (lkF r s) z
  | [], _ => rfl
  | c :: xs, z => by
    unfold iM
    cases e : p c with
    | true =>
      rw [List.filter_cons_of_neg (by rw [e]; decide), kh9]
      have h1 : lkF r s z c = z := if_neg fun h => hp c e h.1
      rw [h1]; exact g6 hp xs z
    | false =>
      rw [List.filter_cons_of_pos (by rw [e]; rfl), kh9, kh9]
      exact g6 hp xs _
theorem nI {xs : List Ch} {r s r2 s2 : List Int} {d : Int} (hv : yM xs = true) (hp : uW r s d = true) (hl : xs.length ≤ 31) (h : ¬ r2 = r) : kT (kF xs r s d) r2 s2 = kT xs r2 s2 := by
  cases e2 : v8 s2 with
  | false => rw [a8 e2, a8 e2]
  | true =>
    rw [dQ (cA hv hp) e2, dQ hv e2, (lN hv hp).1, pX (Nat.le_trans (g7 xs r s) hl)]
    unfold pJ
    rw [gT _ (kc2 _), gT _ (kc2 _), kc7 (kc2 _), kc7 (kc2 _), kk3]
    have h1 : ∀ z, List.foldl (lkF r2 s2) z [k9 r s d] = z := fun z => if_neg fun h9 => h h9.1.symm
    rw [h1]
    have h2 := g6 (r := r2) (s := s2) (p := fun c => uQ c.r c.s r s) (fun c hc h9 => by
      have h3 : decide (c.r = r) = true := by unfold uQ at hc; rw [Bool.and_eq_true] at hc; exact hc.1
      exact h (h9.symm.trans (of_decide_eq_true h3))) xs (0, 0)
    rw [show q5 xs r s = iM (fun c => uQ c.r c.s r s) xs from rfl, h2]
theorem k50 (l : List Int) (a : Nat) : (lY l (kV l a) (kZ l a 7)).length ≤ 6 := by
  have h1 := yJ l a (n := 7) (by omega)
  have h2 := (nF l (kV l a) (kZ l a 7)).2.2 (by omega)
  omega
theorem rY {l : List Int} {a m : Nat} (hm : l.length = m) (h : a ≤ m) : ∀ k, oJ l a k ≤ m
  | 0 => h
  | k + 1 => mL hm (rY hm h k)
theorem k2i (l : List Int) (m a : Nat) (hm : ka0 l = m) (hb : m ≤ 9223372036854775807) (ha : a ≤ m) : ∃ (rr : List Int) (ra : Nat), (Byt rr) ∧ (ka0 rr ≤ 5) ∧ (ra ≤ m) ∧ (Fun 17 [.c (.ptr 0 0)] (kC [(0, some (51, .ds [D.sl (dI .i64 l) m, iD ((a : Nat) : Int)]))]) 1 (kM (D.lit (.string (strOfNums rr)))) (kC [(0, some (51, .ds [D.sl (dI .i64 l) m, iD ((ra : Nat) : Int)]))]) 1) := ⟨(yV (kZ l a 4)), (kV l a), (dE _ (wO _ _)), (dD _ (wO _ _)), (qZ hm ha), xE l m a hm hb ha⟩
theorem k4e (l : List Int) (m a : Nat) (hm : ka0 l = m) (hb : m ≤ 9223372036854775807) (ha : a ≤ m) : ∃ (ss : List Int) (sn : Nat) (sa : Nat), (ka0 ss = sn) ∧ (1 ≤ sn ∧ sn ≤ 6) ∧ (v8 ss = true) ∧ (sa ≤ m) ∧ (Fun 18 [.c (.ptr 0 0)] (kC [(0, some (51, .ds [D.sl (dI .i64 l) m, iD ((a : Nat) : Int)]))]) 1 (sV .u64 ss sn) (kC [(0, some (51, .ds [D.sl (dI .i64 l) m, iD ((sa : Nat) : Int)]))]) 1) := ⟨(qO l a), (ka0 (qO l a)), (uJ l a 6), rfl, (c7 l a).2, (c7 l a).1, (f8 hm ha 6), k0w l m a hm hb ha⟩
theorem w6 (l : List Int) (m a : Nat) (hm : ka0 l = m) (hb : m ≤ 9223372036854775807) (ha : a ≤ m) : ∃ (cr : List Int) (cs : List Int) (cn : Nat) (cd : Int) (ca : Nat), (Byt cr) ∧ (ka0 cr ≤ 5) ∧ (ka0 cs = cn) ∧ (1 ≤ cn ∧ cn ≤ 6) ∧ (uW cr cs cd = true) ∧ (v8 cs = true) ∧ (ca ≤ m) ∧ (Fun 9 [.c (.ptr 0 0)] (kC [(0, some (51, .ds [D.sl (dI .i64 l) m, iD ((a : Nat) : Int)]))]) 1 (.e (.agg [.d (D.lit (.string (strOfNums cr))), .d (D.sl (dI .u64 cs) cn), .d (D.lit (.int .u64 cd))])) (kC [(0, some (51, .ds [D.sl (dI .i64 l) m, iD ((ca : Nat) : Int)]))]) 1) := ⟨(yV (kZ l a 4)), (qO l (kV l a)), (ka0 (qO l (kV l a))), (d1 l a), (o5 l a), (dE _ (wO _ _)), (dD _ (wO _ _)), rfl, (c7 l _).2, (wQ l a), (vI (wQ l a)), (mL hm ha), lB l m a hm hb ha⟩
theorem w5 (l : List Int) (m a : Nat) (hm : ka0 l = m) (hb : m ≤ 9223372036854775807) (ha : a ≤ m) : ∃ (mx : List Ch) (mq : Nat) (ma : Nat), (ka0 mx = mq) ∧ (mq ≤ 6) ∧ (CsW mx) ∧ (yM mx = true) ∧ (ma ≤ m) ∧ (Fun 8 [.c (.ptr 0 0)] (kC [(0, some (51, .ds [D.sl (dI .i64 l) m, iD ((a : Nat) : Int)]))]) 1 (.e (.agg [.d (D.sl (kB mx) mq)])) (kC [(0, some (51, .ds [D.sl (dI .i64 l) m, iD ((ma : Nat) : Int)]))]) 1) := ⟨(lY l (kV l a) (kZ l a 7)), (ka0 (lY l (kV l a) (kZ l a 7))), (oJ l (kV l a) (kZ l a 7)), rfl, (k50 l a), (nF l _ _).2.1, (nF l _ _).1, (rY hm (qZ hm ha) _), xF l m a hm hb ha⟩
abbrev kP := ([109, 117, 115, 105, 99] : List Int)
theorem lE {p : Prop} (h : p := by first | omega | (simp only [kL, kJ, kO, ka8, uO, ka5, kb7, kb8, kb9, kc0, kc5, ka8, List.length_map, List.length_reverse, Nat.mul_one] <;> omega) | rfl) : p := h
theorem y7 {p : Prop} (h : p := by first | omega | with_reducible assumption | (simp only [kL, kJ, kO, ka8, ka5, kb7, kb8, kb9, kc0, kc5, ka8] <;> omega) | rfl | assumption) : p := h
theorem fP {p : Prop} (h : p := by first | omega | (simp only [kb7, kb8]; omega)) : p := h
theorem k2j   : Fun 6 [] (kC []) 0 (bV true) (kC []) 0 := by
  refine Fun.mk (n := 30) Try.func6 rfl rfl (Nat.le_of_ble_eq_true rfl) ?_
  intro cx hcx
  refine kK [.no] True [] [] 0 trivial ?_
  have hx1 : ((ka0 (kF ([] : List Ch) kP ([3, 7] : List Int) 7)) ≤ 32) := (gC ([] : List Ch) kP ([3, 7] : List Int) (7 : Int))
  have hx2 : (((0 : Int) ≤ (aF ([] : List Ch) kP ([3, 7] : List Int) 7)) ∧ ((aF ([] : List Ch) kP ([3, 7] : List Int) 7) ≤ 2)) := (gD ([] : List Ch) kP ([3, 7] : List Int) (7 : Int))
  refine kK (.no :: (.fz (.no)) :: .no :: .call [] (.tup [.agg [.d (D.sl (kB (kF ([] : List Ch) kP ([3, 7] : List Int) 7)) (ka0 (kF ([] : List Ch) kP ([3, 7] : List Int) 7)))], iE (aF ([] : List Ch) kP ([3, 7] : List Int) 7)]) [] 0 [] (some [.agg [.d (D.sl (kB ([] : List Ch)) 0)], .agg [.d (D.lit (.string (strOfNums kP))), .d (D.sl (dI .u64 ([3, 7] : List Int)) 2), .d (D.lit (.int .u64 7))]]) :: qC 6 []) ((([D.lit (.int .u64 3), D.lit (.int .u64 7)] : List D).length = 2 * 1) ∧ (((kB ([] : List Ch)) : List D) = ([] : List D)) ∧ (kU 0) ∧ ((.string (strOfNums kP) : Value) = (.string (ByteArray.mk #[109, 117, 115, 105, 99]))) ∧ (((dI .u64 ([3, 7] : List Int)) : List D) = [D.lit (.int .u64 3), D.lit (.int .u64 7)]) ∧ (kU 2) ∧ (qA 7) ∧ (_)) [(1, rV 1 0), (2, iV (aF ([] : List Ch) kP ([3, 7] : List Int) 7))] [(1, some (25, .ds [D.sl (kB (kF ([] : List Ch) kP ([3, 7] : List Int) 7)) (ka0 (kF ([] : List Ch) kP ([3, 7] : List Int) 7))]))] 2 ⟨lE, rfl, rfl, rfl, rfl, rfl, rfl, (k0v ([] : List Ch) 0 kP ([3, 7] : List Int) 2 7 y7 zo (CsW.nil) (Byt.cons zo (Byt.cons zo (Byt.cons zo (Byt.cons zo (Byt.cons zo Byt.nil))))) y7 y7 zo zo)⟩ ?_
  have hx3 : aF ([] : List Ch) kP ([3, 7] : List Int) 7 = 0 := by decide
  have hx4 : ka0 (kF ([] : List Ch) kP ([3, 7] : List Int) 7) = 1 := by decide
  have hx5 : kT (kF ([] : List Ch) kP ([3, 7] : List Int) 7) kP ([3, 7, 9] : List Int) = 7 := by decide
  have hx6 : kT (kF ([] : List Ch) kP ([3, 7] : List Int) 7) kP ([3] : List Int) = 0 := by decide
  refine kK (.no :: .b true :: qC 4 (.b true :: qC 4 (.call [] (kM (D.lit (.int .u64 (kT (kF ([] : List Ch) kP ([3, 7] : List Int) 7) kP ([3, 7, 9] : List Int))))) [] 0 [none] none :: .b true :: qC 4 [.call [] (kM (D.lit (.int .u64 (kT (kF ([] : List Ch) kP ([3, 7] : List Int) 7) kP ([3] : List Int))))) [] 0 [none] none, .b true, .no, .no]))) ((((aF ([] : List Ch) kP ([3, 7] : List Int) 7) = 0)) ∧ (((((ka0 (kF ([] : List Ch) kP ([3, 7] : List Int) 7)) : Nat) : Int) = 1)) ∧ ([D.lit (.int .u64 3), D.lit (.int .u64 7), D.lit (.int .u64 9)].length = 3 * 1) ∧ (dM (kM (D.lit (.int .u64 (kT (kF ([] : List Ch) kP ([3, 7] : List Int) 7) kP ([3, 7, 9] : List Int))))) = true) ∧ (_) ∧ (((kT (kF ([] : List Ch) kP ([3, 7] : List Int) 7) kP ([3, 7, 9] : List Int)) = 7)) ∧ ([D.lit (.int .u64 3)].length = 1 * 1) ∧ (dM (kM (D.lit (.int .u64 (kT (kF ([] : List Ch) kP ([3, 7] : List Int) 7) kP ([3] : List Int))))) = true) ∧ (_) ∧ (((kT (kF ([] : List Ch) kP ([3, 7] : List Int) 7) kP ([3] : List Int)) = 0))) [(0, bV true)] [] 4 ⟨zo, zo, lE, rfl, (qQ (kF ([] : List Ch) kP ([3, 7] : List Int) 7) (ka0 (kF ([] : List Ch) kP ([3, 7] : List Int) 7)) kP ([3, 7, 9] : List Int) 3 rfl y7 (uB (CsW.nil) (Byt.cons zo (Byt.cons zo (Byt.cons zo (Byt.cons zo (Byt.cons zo Byt.nil))))) fP fP) (Byt.cons zo (Byt.cons zo (Byt.cons zo (Byt.cons zo (Byt.cons zo Byt.nil))))) y7 y7 zo), zo, lE, rfl, (qQ (kF ([] : List Ch) kP ([3, 7] : List Int) 7) (ka0 (kF ([] : List Ch) kP ([3, 7] : List Int) 7)) kP ([3] : List Int) 1 rfl y7 (uB (CsW.nil) (Byt.cons zo (Byt.cons zo (Byt.cons zo (Byt.cons zo (Byt.cons zo Byt.nil))))) fP fP) (Byt.cons zo (Byt.cons zo (Byt.cons zo (Byt.cons zo (Byt.cons zo Byt.nil))))) y7 y7 zo), zo⟩ ?_
  refine AW.ret ?_
  exact kA (.inr rfl) [] (P := (true = true)) zk rfl
end Go.Proofs.Ytkjmlililpgamaa
