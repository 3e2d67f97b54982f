/- Choices of a deck by letters; the example. No statement is proved here. -/
import Derived.Test.YtkjmlililpgamaaZC30E
import Derived.Test.YtkjmlililpgamaaZC30C
namespace Go.Proofs.Ytkjmlililpgamaa
open Go.ChangeShapes Go.WideShapes Go.ChangeAt Go.RowKit
open List renaming foldl_append → kk2, foldl_cons → kh7, length → ka0, length_append → ka4, length_cons → kb5, length_drop → kc0, length_nil → kb6, length_replicate → kc4, length_set → ka8, length_take → kb8, take_of_length_le → kc5
open Nat renaming le_refl → kc1
set_option linter.unusedVariables false
set_option linter.unusedSimpArgs false
/-! what was remembered last is found -/
set_option maxHeartbeats 4000000
set_option maxRecDepth 100000
theorem p6 {xs : List Ch} {r s : List Int} (hs : v3 s = true) (h : ∀ c ∈ xs, v3 c.s = true) : ∀ k, k ≤ xs.length → mH xs r s k ≤ s.length
  | 0, _ => Nat.zero_le _
  | k + 1, hk => by
    by_cases e : kF xs k = r ∧ mH xs r s k ≤ (kD xs k).length ∧ vT (kD xs k) s = true
    · rw [(c9 e.1 e.2.1 e.2.2).2]
      exact k2g (h _ (gM (by omega))) hs e.2.2
    · rw [(dY e).2]; exact p6 hs h k (by omega)
theorem pX {xs ys : List Ch} {r s : List Int} : ∀ k, k ≤ xs.length → pZ (xs ++ ys) r s k = pZ xs r s k
  | 0, _ => rfl
  | k + 1, hk => by
    have ih := pX (xs := xs) (ys := ys) (r := r) (s := s) k (by omega)
    have e : yG (xs ++ ys) k = yG xs k := n9 (by omega)
    show (if kF (xs ++ ys) k = r ∧ (pZ (xs ++ ys) r s k).2 ≤ (kD (xs ++ ys) k).length ∧ vT (kD (xs ++ ys) k) s = true then _ else _) = (if _ then _ else _ : Int × Nat)
    unfold kF kD kM; rw [e, ih]
theorem k1p {xs : List Ch} (h : VM xs) : ∀ c ∈ xs, v3 c.s = true := fun c hc => vA (h.1 c hc)
theorem wV {xs : List Ch} {r s : List Int} {d : Int} (h : yF xs = true) (hp : uS r s d = true) : kS (kE xs r s d) r s = d := by
  rw [dA (bS h hp) (vA hp), (jT h hp).1]
  unfold oT
  rw [List.drop_append_of_le_length (by omega)]
  generalize hz : List.drop ((qZ xs r s).length - 31) (qZ xs r s) = zs
  have hv : VM zs := by rw [← hz]; exact lV (oK (oJ h).2 _) _
  have e : yG (zs ++ [kZ r s d]) zs.length = kZ r s d := n8 _ _
  have h1 : kF (zs ++ [kZ r s d]) zs.length = r := by unfold kF; rw [e]; rfl
  have h2 : kD (zs ++ [kZ r s d]) zs.length = s := by unfold kD; rw [e]; rfl
  have h3 : kM (zs ++ [kZ r s d]) zs.length = d := by unfold kM; rw [e]; rfl
  have hm : mH (zs ++ [kZ r s d]) r s zs.length ≤ s.length := by
    unfold mH; rw [pX zs.length (kc1 _)]
    exact p6 (vA hp) (k1p hv) zs.length (kc1 _)
  have h4 := c9 (xs := zs ++ [kZ r s d]) (r := r) (s := s) (k := zs.length) h1 (by rw [h2]; exact hm) (by rw [h2]; exact oO fun x hx => hx)
  rw [show (zs ++ [kZ r s d]).length = zs.length + 1 by rw [ka4]; rfl, h4.1, h3]
theorem p7 {xs : List Ch} {r s : List Int} : ∀ k, k ≤ xs.length → oG xs r s k = 0 ∨ ∃ c ∈ xs, oG xs r s k = c.d ∧ vT c.s s = true
  | 0, _ => .inl rfl
  | k + 1, hk => by
    by_cases e : kF xs k = r ∧ mH xs r s k ≤ (kD xs k).length ∧ vT (kD xs k) s = true
    · rw [(c9 e.1 e.2.1 e.2.2).1]; exact .inr ⟨_, gM (by omega), rfl, e.2.2⟩
    · rw [(dY e).1]; exact p7 k (by omega)
theorem pY {xs : List Ch} {r s : List Int} (h : ¬ kS xs r s = 0) : VM xs ∧ ∃ c ∈ xs, kS xs r s = c.d ∧ vT c.s s = true := by
  cases e : yF xs with
  | false => exact absurd (dB e) h
  | true =>
    cases e2 : v3 s with
    | false => exact absurd (aW e2) h
    | true =>
      rw [dA e e2] at h ⊢
      exact ⟨(oJ e).2, (p7 xs.length (kc1 _)).resolve_left h⟩
theorem pV {xs : List Ch} {r s : List Int} (h : ¬ kS xs r s = 0) : yZ s (kS xs r s) = true := by
  obtain ⟨hv, c, hc, h1, h2⟩ := pY h
  rw [h1]
  exact decide_eq_true (jY h2 _ (of_decide_eq_true (k2c (hv.1 c hc))))
theorem b7 {xs : List Ch} {r s : List Int} {d : Int} (hv : yF xs = true) (h : kS (q5 xs d) r s = d) : d = 0 := by
  by_cases e : kS (q5 xs d) r s = 0
  · omega
  · obtain ⟨_, c, hc, h1, _⟩ := pY e
    rw [k2s hv] at hc
    have h2 : (!decide (c.d = d)) = true := (List.mem_filter.1 hc).2
    have h3 : c.d = d := by omega
    rw [decide_eq_true h3] at h2; cases h2
def lkF (r s : List Int) (p : Int × Nat) (c : Ch) : Int × Nat := if c.r = r ∧ p.2 ≤ c.s.length ∧ vT c.s s = true then (c.d, c.s.length) else p
theorem fY {xs : List Ch} {r s : List Int} : ∀ k, k ≤ xs.length → pZ xs r s k = (List.take k xs).foldl (lkF r s) (0, 0)
  | 0, _ => rfl
  | k + 1, hk => by rw [yJ (by omega), kk2, ← fY k (by omega)]; rfl
theorem f8 {r s : List Int} {p : Ch → Bool} (hp : ∀ c, p c = true → ¬ c.r = r) : ∀ (xs : List Ch) (z : Int × Nat), (gT p xs).foldl (lkF r s) z = xs.foldl (lkF r s) z
  | [], _ => rfl
  | c :: xs, z => by
    unfold gT
    cases e : p c with
    | true =>
      rw [List.filter_cons_of_neg (by rw [e]; decide), kh7]
      have h1 : lkF r s z c = z := if_neg fun h => hp c e h.1
      rw [h1]; exact f8 hp xs z
    | false =>
      rw [List.filter_cons_of_pos (by rw [e]; rfl), kh7, kh7]
      exact f8 hp xs _
theorem mG {xs : List Ch} {r s r2 s2 : List Int} {d : Int} (hv : yF xs = true) (hp : uS r s d = true) (hl : xs.length ≤ 31) (h : ¬ r2 = r) : kS (kE xs r s d) r2 s2 = kS xs r2 s2 := by
  cases e2 : v3 s2 with
  | false => rw [aW e2, aW e2]
  | true =>
    rw [dA (bS hv hp) e2, dA hv e2, (jT hv hp).1, oS (Nat.le_trans (f9 xs r s) hl)]
    unfold oG
    rw [fY _ (kc1 _), fY _ (kc1 _), kc5 (kc1 _), kc5 (kc1 _), kk2]
    have h1 : ∀ z, List.foldl (lkF r2 s2) z [kZ r s d] = z := fun z => if_neg fun h9 => h h9.1.symm
    rw [h1]
    have h2 := f8 (r := r2) (s := s2) (p := fun c => uM c.r c.s r s) (fun c hc h9 => by
      have h3 : decide (c.r = r) = true := by unfold uM at hc; rw [Bool.and_eq_true] at hc; exact hc.1
      exact h (h9.symm.trans (of_decide_eq_true h3))) xs (0, 0)
    rw [show qZ xs r s = gT (fun c => uM c.r c.s r s) xs from rfl, h2]
theorem k3x (l : List Int) (a : Nat) : (j5 l (kU l a) (kW l a 7)).length ≤ 6 := by
  have h1 := yC l a (n := 7) (by omega)
  have h2 := (mD l (kU l a) (kW l a 7)).2.2 (by omega)
  omega
theorem pM {l : List Int} {a m : Nat} (hm : l.length = m) (h : a ≤ m) : ∀ k, nG l a k ≤ m
  | 0 => h
  | k + 1 => lP hm (pM hm h k)
theorem k1f (l : List Int) (m a : Nat) (hm : ka0 l = m) (hb : m ≤ 9223372036854775807) (ha : a ≤ m) : ∃ (rr : List Int) (ra : Nat), (Byt rr) ∧ (ka0 rr ≤ 5) ∧ (ra ≤ m) ∧ (Fun 17 [.c (.ptr 0 0)] (kC [(0, some (51, .ds [D.sl (dI .i64 l) m, iD ((a : Nat) : Int)]))]) 1 (kL (D.lit (.string (strOfNums rr)))) (kC [(0, some (51, .ds [D.sl (dI .i64 l) m, iD ((ra : Nat) : Int)]))]) 1) := ⟨(yP (kW l a 4)), (kU l a), (cV _ (tF _ _)), (cU _ (tF _ _)), (qY hm ha), t2 l m a hm hb ha⟩
theorem k3b (l : List Int) (m a : Nat) (hm : ka0 l = m) (hb : m ≤ 9223372036854775807) (ha : a ≤ m) : ∃ (ss : List Int) (sn : Nat) (sa : Nat), (ka0 ss = sn) ∧ (1 ≤ sn ∧ sn ≤ 6) ∧ (v3 ss = true) ∧ (sa ≤ m) ∧ (Fun 18 [.c (.ptr 0 0)] (kC [(0, some (51, .ds [D.sl (dI .i64 l) m, iD ((a : Nat) : Int)]))]) 1 (sV .u64 ss sn) (kC [(0, some (51, .ds [D.sl (dI .i64 l) m, iD ((sa : Nat) : Int)]))]) 1) := ⟨(qN l a), (ka0 (qN l a)), (uG l a 6), rfl, (cN l a).2, (cN l a).1, (fH hm ha 6), z7 l m a hm hb ha⟩
theorem tT (l : List Int) (m a : Nat) (hm : ka0 l = m) (hb : m ≤ 9223372036854775807) (ha : a ≤ m) : ∃ (cr : List Int) (cs : List Int) (cn : Nat) (cd : Int) (ca : Nat), (Byt cr) ∧ (ka0 cr ≤ 5) ∧ (ka0 cs = cn) ∧ (1 ≤ cn ∧ cn ≤ 6) ∧ (uS cr cs cd = true) ∧ (v3 cs = true) ∧ (ca ≤ m) ∧ (Fun 9 [.c (.ptr 0 0)] (kC [(0, some (51, .ds [D.sl (dI .i64 l) m, iD ((a : Nat) : Int)]))]) 1 (.e (.agg [.d (D.lit (.string (strOfNums cr))), .d (D.sl (dI .u64 cs) cn), .d (D.lit (.int .u64 cd))])) (kC [(0, some (51, .ds [D.sl (dI .i64 l) m, iD ((ca : Nat) : Int)]))]) 1) := ⟨(yP (kW l a 4)), (qN l (kU l a)), (ka0 (qN l (kU l a))), (dJ l a), (nY l a), (cV _ (tF _ _)), (cU _ (tF _ _)), rfl, (cN l _).2, (tH l a), (vA (tH l a)), (lP hm ha), jH l m a hm hb ha⟩
theorem tS (l : List Int) (m a : Nat) (hm : ka0 l = m) (hb : m ≤ 9223372036854775807) (ha : a ≤ m) : ∃ (mx : List Ch) (mq : Nat) (ma : Nat), (ka0 mx = mq) ∧ (mq ≤ 6) ∧ (CsW mx) ∧ (yF mx = true) ∧ (ma ≤ m) ∧ (Fun 8 [.c (.ptr 0 0)] (kC [(0, some (51, .ds [D.sl (dI .i64 l) m, iD ((a : Nat) : Int)]))]) 1 (.e (.agg [.d (D.sl (kB mx) mq)])) (kC [(0, some (51, .ds [D.sl (dI .i64 l) m, iD ((ma : Nat) : Int)]))]) 1) := ⟨(j5 l (kU l a) (kW l a 7)), (ka0 (j5 l (kU l a) (kW l a 7))), (nG l (kU l a) (kW l a 7)), rfl, (k3x l a), (mD l _ _).2.1, (mD l _ _).1, (pM hm (qY hm ha) _), t3 l m a hm hb ha⟩
abbrev kP := ([109, 117, 115, 105, 99] : List Int)
theorem jK {p : Prop} (h : p := by first | omega | (simp only [kK, kH, kO, ka8, uL, ka4, kb5, kb6, kb8, kc0, kc4, ka8, List.length_map, List.length_reverse, Nat.mul_one] <;> omega) | rfl) : p := h
theorem y1 {p : Prop} (h : p := by first | omega | with_reducible assumption | (simp only [kK, kH, kO, ka8, ka4, kb5, kb6, kb8, kc0, kc4, ka8] <;> omega) | rfl | assumption) : p := h
theorem eU {p : Prop} (h : p := by first | omega | (simp only [kb5, kb6]; omega)) : p := h
theorem k1g   : Fun 6 [] (kC []) 0 (bV true) (kC []) 0 := by
  refine Fun.mk (n := 30) Try.func6 rfl rfl (Nat.le_of_ble_eq_true rfl) ?_
  intro cx hcx
  refine kI [.no] True [] [] 0 trivial ?_
  have hx1 : ((ka0 (kE ([] : List Ch) kP ([3, 7] : List Int) 7)) ≤ 32) := (fK ([] : List Ch) kP ([3, 7] : List Int) (7 : Int))
  have hx2 : (((0 : Int) ≤ (aA ([] : List Ch) kP ([3, 7] : List Int) 7)) ∧ ((aA ([] : List Ch) kP ([3, 7] : List Int) 7) ≤ 2)) := (fL ([] : List Ch) kP ([3, 7] : List Int) (7 : Int))
  refine kI (.no :: (.fz (.no)) :: .no :: .call [] (.tup [.agg [.d (D.sl (kB (kE ([] : List Ch) kP ([3, 7] : List Int) 7)) (ka0 (kE ([] : List Ch) kP ([3, 7] : List Int) 7)))], iE (aA ([] : List Ch) kP ([3, 7] : List Int) 7)]) [] 0 [] (some [.agg [.d (D.sl (kB ([] : List Ch)) 0)], .agg [.d (D.lit (.string (strOfNums kP))), .d (D.sl (dI .u64 ([3, 7] : List Int)) 2), .d (D.lit (.int .u64 7))]]) :: qA 6 []) ((([D.lit (.int .u64 3), D.lit (.int .u64 7)] : List D).length = 2 * 1) ∧ (((kB ([] : List Ch)) : List D) = ([] : List D)) ∧ (kT 0) ∧ ((.string (strOfNums kP) : Value) = (.string (ByteArray.mk #[109, 117, 115, 105, 99]))) ∧ (((dI .u64 ([3, 7] : List Int)) : List D) = [D.lit (.int .u64 3), D.lit (.int .u64 7)]) ∧ (kT 2) ∧ (k8 7) ∧ (_)) [(1, rV 1 0), (2, iV (aA ([] : List Ch) kP ([3, 7] : List Int) 7))] [(1, some (25, .ds [D.sl (kB (kE ([] : List Ch) kP ([3, 7] : List Int) 7)) (ka0 (kE ([] : List Ch) kP ([3, 7] : List Int) 7))]))] 2 ⟨jK, rfl, rfl, rfl, rfl, rfl, rfl, (z6 ([] : List Ch) 0 kP ([3, 7] : List Int) 2 7 y1 zo (CsW.nil) (Byt.cons zo (Byt.cons zo (Byt.cons zo (Byt.cons zo (Byt.cons zo Byt.nil))))) y1 y1 zo zo)⟩ ?_
  have hx3 : aA ([] : List Ch) kP ([3, 7] : List Int) 7 = 0 := by decide
  have hx4 : ka0 (kE ([] : List Ch) kP ([3, 7] : List Int) 7) = 1 := by decide
  have hx5 : kS (kE ([] : List Ch) kP ([3, 7] : List Int) 7) kP ([3, 7, 9] : List Int) = 7 := by decide
  have hx6 : kS (kE ([] : List Ch) kP ([3, 7] : List Int) 7) kP ([3] : List Int) = 0 := by decide
  refine kI (.no :: .b true :: qA 4 (.b true :: qA 4 (.call [] (kL (D.lit (.int .u64 (kS (kE ([] : List Ch) kP ([3, 7] : List Int) 7) kP ([3, 7, 9] : List Int))))) [] 0 [none] none :: .b true :: qA 4 [.call [] (kL (D.lit (.int .u64 (kS (kE ([] : List Ch) kP ([3, 7] : List Int) 7) kP ([3] : List Int))))) [] 0 [none] none, .b true, .no, .no]))) ((((aA ([] : List Ch) kP ([3, 7] : List Int) 7) = 0)) ∧ (((((ka0 (kE ([] : List Ch) kP ([3, 7] : List Int) 7)) : Nat) : Int) = 1)) ∧ ([D.lit (.int .u64 3), D.lit (.int .u64 7), D.lit (.int .u64 9)].length = 3 * 1) ∧ (c6 (kL (D.lit (.int .u64 (kS (kE ([] : List Ch) kP ([3, 7] : List Int) 7) kP ([3, 7, 9] : List Int))))) = true) ∧ (_) ∧ (((kS (kE ([] : List Ch) kP ([3, 7] : List Int) 7) kP ([3, 7, 9] : List Int)) = 7)) ∧ ([D.lit (.int .u64 3)].length = 1 * 1) ∧ (c6 (kL (D.lit (.int .u64 (kS (kE ([] : List Ch) kP ([3, 7] : List Int) 7) kP ([3] : List Int))))) = true) ∧ (_) ∧ (((kS (kE ([] : List Ch) kP ([3, 7] : List Int) 7) kP ([3] : List Int)) = 0))) [(0, bV true)] [] 4 ⟨zo, zo, jK, rfl, (qP (kE ([] : List Ch) kP ([3, 7] : List Int) 7) (ka0 (kE ([] : List Ch) kP ([3, 7] : List Int) 7)) kP ([3, 7, 9] : List Int) 3 rfl y1 (q9 (CsW.nil) (Byt.cons zo (Byt.cons zo (Byt.cons zo (Byt.cons zo (Byt.cons zo Byt.nil))))) eU eU) (Byt.cons zo (Byt.cons zo (Byt.cons zo (Byt.cons zo (Byt.cons zo Byt.nil))))) y1 y1 zo), zo, jK, rfl, (qP (kE ([] : List Ch) kP ([3, 7] : List Int) 7) (ka0 (kE ([] : List Ch) kP ([3, 7] : List Int) 7)) kP ([3] : List Int) 1 rfl y1 (q9 (CsW.nil) (Byt.cons zo (Byt.cons zo (Byt.cons zo (Byt.cons zo (Byt.cons zo Byt.nil))))) eU eU) (Byt.cons zo (Byt.cons zo (Byt.cons zo (Byt.cons zo (Byt.cons zo Byt.nil))))) y1 y1 zo), zo⟩ ?_
  refine AW.ret ?_
  exact kA (.inr rfl) [] (P := (true = true)) zk rfl
end Go.Proofs.Ytkjmlililpgamaa
