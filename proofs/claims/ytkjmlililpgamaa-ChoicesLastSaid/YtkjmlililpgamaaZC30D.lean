/- The reference of choices. No statement is proved here. -/
import Derived.Test.YtkjmlililpgamaaZC30B
namespace Go.Proofs.Ytkjmlililpgamaa
open Go.ChangeShapes Go.WideShapes Go.ChangeAt Go.RowKit
open Bool renaming and_eq_true → kb1, eq_false_or_eq_true → ka6
open Int renaming toNat → kc6
open List renaming drop → kb2, drop_zero → kf5, getD → ka2, getD_eq_getElem?_getD → ka9, getElem?_eq_getElem → kb3, length → ka0, length_append → ka4, length_cons → kb5, length_drop → kc0, length_map → kc8, length_nil → kb6, length_replicate → kc4, length_reverse → kd6, length_set → ka8, length_take → kb8, mem_cons_self → ka7, pairwise_iff_getElem → ki0, take → ka5, take_of_length_le → kc5
open Nat renaming le_of_ble_eq_true → ka3, mul_one → ke3, not_lt_zero → kd1
set_option linter.unusedVariables false
set_option linter.unusedSimpArgs false
/-! choices: what the reference says, and choices of a deck -/
set_option maxHeartbeats 4000000
set_option maxRecDepth 100000
theorem mW {l : List Int} (h : v4 l = true) : l.Pairwise (· < ·) ∧ ∀ x ∈ l, 1 ≤ x := by
  have h1 : ∀ i, i < l.length → 1 ≤ ka2 l i 0 ∧ (i = 0 ∨ ka2 l (i - 1) 0 < ka2 l i 0) := fun i hi => of_decide_eq_true (List.all_eq_true.1 h i (List.mem_range.2 hi))
  have g : ∀ i (hi : i < l.length), ka2 l i 0 = l[i] := fun i hi => by rw [ka9, kb3 hi]; rfl
  constructor
  · rw [ki0]
    intro i j hi hj hij
    induction j with
    | zero => omega
    | succ j ih =>
      have h2 := (h1 (j + 1) hj).2
      rw [Nat.add_sub_cancel, g (j + 1) hj, g j (by omega)] at h2
      have h3 : l[j]'(by omega) < l[j + 1] := by omega
      by_cases e : i = j
      · subst e; exact h3
      · have := ih (by omega) (by omega); omega
  · intro x hx
    obtain ⟨j, hj, e⟩ := List.mem_iff_getElem.1 hx
    have := (h1 j hj).1
    rw [g j hj, e] at this; exact this
theorem k2c {l : List Int} (h : l.Pairwise (· < ·)) (h2 : ∀ x ∈ l, 1 ≤ x) : v4 l = true := by
  have g : ∀ i (hi : i < l.length), ka2 l i 0 = l[i] := fun i hi => by rw [ka9, kb3 hi]; rfl
  rw [ki0] at h
  refine oD fun i hi => decide_eq_true ⟨?_, ?_⟩
  · rw [g i hi]; exact h2 _ (List.getElem_mem hi)
  · by_cases e : i = 0
    · exact .inl e
    · right; rw [g i hi, g (i - 1) (by omega)]; exact h (i - 1) i (by omega) hi (by omega)
theorem b6 : ∀ (t s : List Int), s.Pairwise (· < ·) → t.Pairwise (· < ·) → (∀ x ∈ s, x ∈ t) → s.length ≤ t.length ∧ (s.length = t.length → s = t)
  | [], [], _, _, _ => ⟨Nat.le_refl _, fun _ => rfl⟩
  | [], x :: s, _, _, h => by have := h x (ka7 ..); cases this
  | y :: t, [], _, _, _ => ⟨Nat.zero_le _, fun h => by cases h⟩
  | y :: t, x :: s, hs, ht, h => by
    rw [List.pairwise_cons] at hs ht
    by_cases e : x = y
    · subst e
      have h1 := b6 t s hs.2 ht.2 fun z hz => by
        rcases List.mem_cons.1 (h z (List.mem_cons_of_mem _ hz)) with h2 | h2
        · have := hs.1 z hz; omega
        · exact h2
      exact ⟨Nat.succ_le_succ h1.1, fun h2 => by rw [h1.2 (Nat.succ.inj h2)]⟩
    · have h0 : x ∈ t := (List.mem_cons.1 (h x (ka7 ..))).resolve_left e
      have hxy := ht.1 x h0
      have h1 := b6 t (x :: s) (List.pairwise_cons.2 hs) ht.2 fun z hz => by
        rcases List.mem_cons.1 (h z hz) with h2 | h2
        · rcases List.mem_cons.1 hz with h3 | h3
          · omega
          · have := hs.1 z h3; omega
        · exact h2
      have h2 := h1.1
      exact ⟨Nat.le_succ_of_le h2, fun h3 => by rw [h3] at h2; exact absurd h2 (Nat.not_succ_le_self _)⟩
theorem j0 {a b : List Int} (h : vU a b = true) : ∀ x ∈ a, x ∈ b := fun x hx => of_decide_eq_true (List.all_eq_true.1 h x hx)
theorem oQ {a b : List Int} (h : ∀ x ∈ a, x ∈ b) : vU a b = true := List.all_eq_true.2 fun x hx => decide_eq_true (h x hx)
theorem k2i {a b : List Int} (ha : v4 a = true) (hb : v4 b = true) (h : vU a b = true) : a.length ≤ b.length := (b6 b a (mW ha).1 (mW hb).1 (j0 h)).1
theorem mV {r s r2 s2 : List Int} (h1 : v4 s = true) (h2 : v4 s2 = true) : dR r s r2 s2 = uN r s r2 s2 := by
  by_cases e : r = r2
  · by_cases e2 : s = s2
    · subst e2
      rw [k38 e rfl (oQ fun x hx => hx), k1v e (decide_eq_true rfl)]
    · rw [k1w (r := r) (r2 := r2) (show nX s s2 = false from decide_eq_false e2)]
      by_cases e3 : s.length = s2.length
      · cases h : vU s s2 with
        | false => exact k3a h
        | true => exact absurd ((b6 s2 s (mW h1).1 (mW h2).1 (j0 h)).2 e3) e2
      · exact k3b e3
  · rw [k39 e, k1x e]
theorem zC (r s r2 s2 : List Int) : uN r s r2 s2 = uN r2 s2 r s := by
  unfold uN nX
  rw [show decide (r = r2) = decide (r2 = r) from decide_eq_decide.2 ⟨Eq.symm, Eq.symm⟩, show decide (s = s2) = decide (s2 = s) from decide_eq_decide.2 ⟨Eq.symm, Eq.symm⟩]
theorem vB {r s : List Int} {d : Int} (h : uT r s d = true) : v4 s = true := by
  unfold uT at h; rw [kb1, kb1, kb1] at h; exact h.2.2.1
theorem k2e {r s : List Int} {d : Int} (h : uT r s d = true) : y1 s d = true := by
  unfold uT at h; rw [kb1, kb1, kb1] at h; exact h.2.2.2
theorem gY {xs : List Ch} {i : Nat} (h : cJ xs i = true) : uT (kF xs i) (kD xs i) (kM xs i) = true := by
  unfold cJ at h; rw [kb1] at h; exact h.1
theorem k1s {xs : List Ch} {i : Nat} (h : cJ xs i = true) : i1 (ka5 i xs) (kF xs i) (kD xs i) = false := by
  unfold cJ at h; rw [kb1] at h
  cases e : i1 (ka5 i xs) (kF xs i) (kD xs i) with
  | false => rfl
  | true => rw [e] at h; cases h.2
theorem i6 {xs : List Ch} {i k : Nat} (h : k < i) : yH (ka5 i xs) k = yH xs k := by
  unfold yH; rw [ka9, ka9, List.getElem?_take, if_pos h]
theorem zW {xs : List Ch} {r s : List Int} (h : ∀ k, k < xs.length → uN (kF xs k) (kD xs k) r s = false) : i1 xs r s = false := k1g rfl (by
  have h1 : uY xs r s xs.length = -1 := b9 _ h
  omega)
theorem k31 {xs : List Ch} {r s : List Int} {k : Nat} (hk : k < xs.length) (h : uN (kF xs k) (kD xs k) r s = true) : i1 xs r s = true := by
  cases e : i1 xs r s with
  | true => rfl
  | false =>
    have h1 := dH (p := fun j => uN (kF xs j) (kD xs j) r s) (n := xs.length) (of_decide_eq_false e) k hk
    exact (aR h h1).elim
theorem k33 {xs : List Ch} {r s : List Int} (h : i1 xs r s = false) : ∀ k, k < xs.length → uN (kF xs k) (kD xs k) r s = false := dH (p := fun j => uN (kF xs j) (kD xs j) r s) (of_decide_eq_false h)
theorem wH {xs : List Ch} {i k : Nat} (h : k < i) : kF (ka5 i xs) k = kF xs k := congrArg Ch.r (i6 h)
theorem wG {xs : List Ch} {i k : Nat} (h : k < i) : kD (ka5 i xs) k = kD xs k := congrArg Ch.s (i6 h)
theorem k3r {xs : List Ch} {i : Nat} (hi : i < xs.length) (hb : ∀ j, j < i → cJ xs j = true) (h : uT (kF xs i) (kD xs i) (kM xs i) = true) (ha : ∀ m, m < i → dR (kF xs i) (kD xs i) (kF xs m) (kD xs m) = false) : cJ xs i = true := by
  refine oO h (zW fun k hk => ?_)
  rw [kb8] at hk
  have hk2 : k < i := by omega
  rw [wH hk2, wG hk2, zC, ← mV (vB h) (vB (gY (hb k hk2)))]
  exact ha k hk2
theorem wF {xs : List Ch} {i k : Nat} (hi : i < xs.length) (hk : k < i) (hb : ∀ j, j < i → cJ xs j = true) (h : uT (kF xs i) (kD xs i) (kM xs i) = true) (h2 : dR (kF xs i) (kD xs i) (kF xs k) (kD xs k) = true) : cJ xs i = false := by
  refine x8 (k31 (k := k) (by rw [kb8]; omega) ?_)
  rw [wH hk, wG hk, zC, ← mV (vB h) (vB (gY (hb k hk)))]
  exact h2
theorem k20 {xs : List Ch} {r s : List Int} {d : Int} {j : Nat} (hv : yG xs = true) (hp : uT r s d = true) (hj : j < xs.length) (h : dR (kF xs j) (kD xs j) r s = false) : qZ (ka5 (j + 1) xs) r s = qZ (ka5 j xs) r s ++ [kZ (kF xs j) (kD xs j) (kM xs j)] := by
  rw [mV (vB (gY ((oN hv).2 j hj))) (vB hp)] at h
  exact k0t (p := fun c => uN c.r c.s r s) hj h
theorem k21 {xs : List Ch} {r s : List Int} {d : Int} {j : Nat} (hv : yG xs = true) (hp : uT r s d = true) (hj : j < xs.length) (h : dR (kF xs j) (kD xs j) r s = true) : qZ (ka5 (j + 1) xs) r s = qZ (ka5 j xs) r s := by
  rw [mV (vB (gY ((oN hv).2 j hj))) (vB hp)] at h
  exact k0u (p := fun c => uN c.r c.s r s) hj h
theorem uI {xs o : List Ch} {r s : List Int} {d : Int} {m A : Nat} (h1 : kE xs r s d = oW xs r s d) (h3 : qZ xs r s = o) (hL : o.length = m) (hA : A = m - 31) : kE xs r s d = ka5 ((m + 1) - A) (kb2 A (o ++ [kZ r s d])) ∧ (kE xs r s d).length = (m + 1) - A := by
  subst hA hL
  have e : (kb2 (o.length - 31) (o ++ [kZ r s d])).length = o.length + 1 - (o.length - 31) := by rw [kc0, ka4]; rfl
  rw [h1]; unfold oW; rw [h3]
  exact ⟨(kc5 (Nat.le_of_eq e)).symm, e⟩
theorem aG {p : Prop} (h : p := by first | omega | assumption | simp) : p := h
theorem y3 {p : Prop} (h : p := by first | omega | (simp only [kK, kH, kO, ka8, ka4, kb5, kb6, kb8, kc0] <;> omega)) : p := h
theorem qX {p : Prop} (h : p := by first | omega | with_reducible assumption | (simp only [kK, kH, kO, ka8, ka4, kb5, kb6, kb8, kc0, kc4, ka8] <;> omega) | rfl | assumption) : p := h
theorem eX {p : Prop} (h : p := by first | rfl | omega | assumption | (simp; done) | (simp; omega)) : p := h
theorem jH (xs : List Ch) (q : Nat) (hq : ka0 xs = q) (h0 : q ≤ 1000000) (hX : CsW xs) : Fun 11 [.agg [.d (D.sl (kB xs) q)]] (kC []) 0 (kL (D.lit (.bool (yG xs)))) (kC []) 0 := by
  refine Fun.mk (n := 39) Try.func11 rfl rfl (ka3 rfl) ?_
  intro cx hcx
  refine kI [.no, .no] True [(1, rV 0 0)] [(0, some (25, .ds [D.sl (kB xs) q]))] 1 trivial ?_
  refine AW.seq ?_
  refine yU [.no] True [(1, rV 0 0), (3, iV 0)] trivial ?_
  refine AW.block ?_
  refine kV 0 hcx (fun (x : {x : Nat // match x with | i => (i ≤ q) ∧ (∀ j, j < i → cJ xs j = true)}) => match x with | ⟨i, _⟩ => (⟨[(1, rV 0 0), (3, uV i)], [(0, some (25, .ds [D.sl (kB xs) q]))], 1⟩ : ES)) (fun x => match x with | ⟨i, _⟩ => q - i) ⟨(0 : Nat), ⟨aG, (fun j hj => absurd hj (kd1 j))⟩⟩ [] (P := (kT 0) ∧ (k8 0) ∧ (kR [D.sl (kB xs) q])) zk ⟨rfl, rfl, rfl⟩ ?_
  rintro ⟨i, hinv0⟩
  obtain ⟨hi, ha⟩ : (i ≤ q) ∧ (∀ j, j < i → cJ xs j = true) := hinv0
  refine qW (l := [(1, rV 0 0), (3, uV i)]) (g := [(0, some (25, .ds [D.sl (kB xs) q]))]) (nx := 1) rfl rfl rfl ?_
  refine AW.seq ?_
  by_cases hx1 : (((i : Nat) : Int) < ((q : Nat) : Int))
  · refine zr (qA 4 [.b true]) [1, 3, 9] [0] (((i : Int) < (q : Int))) [(1, rV 0 0), (3, uV i), (9, bV true)] [(0, some (25, .ds [D.sl (kB xs) q]))] 1 zo ?_
    refine cC ?_
    refine AW.seq ?_
    refine AW.block ?_
    refine AW.seq ?_
    rcases ka6 (uT (kF xs i) (kD xs i) (kM xs i)) with hx5 | hx5
    · obtain ⟨hx6, hx7, hx8⟩ := CsW.at (kQ : CsW xs) (i)
      refine kI [.no, .no, .no, .n i, .ds [D.lit (.string (strOfNums (kF xs i))), D.sl (dI .u64 (kD xs i)) (ka0 (kD xs i)), D.lit (.int .u64 (kM xs i))], .call [] (bV true) [] 0 [] none, .no] ((k8 (i : Int)) ∧ (i < q) ∧ (ka5 3 (kb2 (i * 3) (kB xs)) = [D.lit (.string (strOfNums (kF xs i))), D.sl (dI .u64 (kD xs i)) (ka0 (kD xs i)), D.lit (.int .u64 (kM xs i))]) ∧ (([D.lit (.string (strOfNums (kF xs i))), D.sl (dI .u64 (kD xs i)) (ka0 (kD xs i)), D.lit (.int .u64 (kM xs i))] : List D).length = 3) ∧ (Fun 26 [.agg [.d (D.lit (.string (strOfNums (kF xs i)))), .d (D.sl (dI .u64 (kD xs i)) (ka0 (kD xs i))), .d (D.lit (.int .u64 (kM xs i)))]] (kC []) 0 (bV true) (kC []) 0)) [(1, rV 0 0), (3, uV i), (18, bV false)] [(0, some (25, .ds [D.sl (kB xs) q]))] 1 ⟨rfl, zo, (q7 (i := i) y3), rfl, (by have h0 := (cA (kF xs i) (kD xs i) (ka0 (kD xs i)) (kM xs i) (kQ : Byt (kF xs i)) qX rfl qX); rw [hx5] at h0; exact h0)⟩ ?_
      refine uG ?_
      refine yU [.no] True [(1, rV 0 0), (3, uV i), (4, iV 0)] trivial ?_
      refine AW.block ?_
      refine kV 0 hcx (fun (x : {x : Nat // match x with | k => (k ≤ i) ∧ (∀ j, j < k → dR (kF xs i) (kD xs i) (kF xs j) (kD xs j) = false)}) => match x with | ⟨k, _⟩ => (⟨[(1, rV 0 0), (3, uV i), (4, uV k)], [(0, some (25, .ds [D.sl (kB xs) q]))], 1⟩ : ES)) (fun x => match x with | ⟨k, _⟩ => i - k) ⟨(0 : Nat), ⟨aG, (fun j hj => absurd hj (kd1 j))⟩⟩ [] (P := (kT 0) ∧ (k8 (i : Int)) ∧ (k8 0) ∧ (kR [D.sl (kB xs) q])) zk ⟨rfl, rfl, rfl, rfl⟩ ?_
      rintro ⟨k, hinv1⟩
      obtain ⟨hk, hb⟩ : (k ≤ i) ∧ (∀ j, j < k → dR (kF xs i) (kD xs i) (kF xs j) (kD xs j) = false) := hinv1
      refine qW (l := [(1, rV 0 0), (3, uV i), (4, uV k)]) (g := [(0, some (25, .ds [D.sl (kB xs) q]))]) (nx := 1) rfl rfl rfl ?_
      refine AW.seq ?_
      by_cases hx9 : (((k : Nat) : Int) < ((i : Nat) : Int))
      · refine zr [.no, .no, .b true] [1, 3, 4, 21] [0] (((k : Int) < (i : Int))) [(1, rV 0 0), (3, uV i), (4, uV k), (21, bV true)] [(0, some (25, .ds [D.sl (kB xs) q]))] 1 zo ?_
        refine cC ?_
        refine AW.seq ?_
        refine AW.block ?_
        rcases ka6 (dR (kF xs i) (kD xs i) (kF xs k) (kD xs k)) with hx13 | hx13
        · obtain ⟨hx14, hx15, hx16⟩ := CsW.at (kQ : CsW xs) (k)
          refine kI [.no, .no, .no, .n i, .ds [D.lit (.string (strOfNums (kF xs i))), D.sl (dI .u64 (kD xs i)) (ka0 (kD xs i)), D.lit (.int .u64 (kM xs i))], .no, .no, .no, .n k, .ds [D.lit (.string (strOfNums (kF xs k))), D.sl (dI .u64 (kD xs k)) (ka0 (kD xs k)), D.lit (.int .u64 (kM xs k))], .call [] (bV true) [] 0 [] none] ((k8 (i : Int)) ∧ (i < q) ∧ (ka5 3 (kb2 (i * 3) (kB xs)) = [D.lit (.string (strOfNums (kF xs i))), D.sl (dI .u64 (kD xs i)) (ka0 (kD xs i)), D.lit (.int .u64 (kM xs i))]) ∧ (([D.lit (.string (strOfNums (kF xs i))), D.sl (dI .u64 (kD xs i)) (ka0 (kD xs i)), D.lit (.int .u64 (kM xs i))] : List D).length = 3) ∧ (k8 (k : Int)) ∧ (k < q) ∧ (ka5 3 (kb2 (k * 3) (kB xs)) = [D.lit (.string (strOfNums (kF xs k))), D.sl (dI .u64 (kD xs k)) (ka0 (kD xs k)), D.lit (.int .u64 (kM xs k))]) ∧ (([D.lit (.string (strOfNums (kF xs k))), D.sl (dI .u64 (kD xs k)) (ka0 (kD xs k)), D.lit (.int .u64 (kM xs k))] : List D).length = 3) ∧ (Fun 27 [.agg [.d (D.lit (.string (strOfNums (kF xs i)))), .d (D.sl (dI .u64 (kD xs i)) (ka0 (kD xs i))), .d (D.lit (.int .u64 (kM xs i)))], .agg [.d (D.lit (.string (strOfNums (kF xs k)))), .d (D.sl (dI .u64 (kD xs k)) (ka0 (kD xs k))), .d (D.lit (.int .u64 (kM xs k)))]] (kC []) 0 (bV true) (kC []) 0)) [(1, rV 0 0), (3, uV i), (4, uV k), (34, bV true)] [(0, some (25, .ds [D.sl (kB xs) q]))] 1 ⟨rfl, zo, (q7 (i := i) y3), rfl, rfl, zo, (q7 (i := k) y3), rfl, (by have h0 := (cB (kF xs i) (kD xs i) (ka0 (kD xs i)) (kM xs i) (kF xs k) (kD xs k) (ka0 (kD xs k)) (kM xs k) (kQ : Byt (kF xs i)) qX rfl qX (kQ : Byt (kF xs k)) qX rfl qX); rw [hx13] at h0; exact h0)⟩ ?_
          refine zt ?_
          refine kI [.no] True [(2, bV false)] [] 1 trivial ?_
          refine AW.ret ?_
          exact kA (.inr rfl) [] (P := ((yG xs) = false)) zk (by first | exact gW (k := i) zo (by first | exact gX (by assumption) | exact wF (k := k) zo zo ha (by assumption) (by assumption)) | exact gV zo | exact fE zo (fun j hj => ha j zo))
        · obtain ⟨hx17, hx18, hx19⟩ := CsW.at (kQ : CsW xs) (k)
          refine kI [.no, .no, .no, .n i, .ds [D.lit (.string (strOfNums (kF xs i))), D.sl (dI .u64 (kD xs i)) (ka0 (kD xs i)), D.lit (.int .u64 (kM xs i))], .no, .no, .no, .n k, .ds [D.lit (.string (strOfNums (kF xs k))), D.sl (dI .u64 (kD xs k)) (ka0 (kD xs k)), D.lit (.int .u64 (kM xs k))], .call [] (bV false) [] 0 [] none] ((k8 (i : Int)) ∧ (i < q) ∧ (ka5 3 (kb2 (i * 3) (kB xs)) = [D.lit (.string (strOfNums (kF xs i))), D.sl (dI .u64 (kD xs i)) (ka0 (kD xs i)), D.lit (.int .u64 (kM xs i))]) ∧ (([D.lit (.string (strOfNums (kF xs i))), D.sl (dI .u64 (kD xs i)) (ka0 (kD xs i)), D.lit (.int .u64 (kM xs i))] : List D).length = 3) ∧ (k8 (k : Int)) ∧ (k < q) ∧ (ka5 3 (kb2 (k * 3) (kB xs)) = [D.lit (.string (strOfNums (kF xs k))), D.sl (dI .u64 (kD xs k)) (ka0 (kD xs k)), D.lit (.int .u64 (kM xs k))]) ∧ (([D.lit (.string (strOfNums (kF xs k))), D.sl (dI .u64 (kD xs k)) (ka0 (kD xs k)), D.lit (.int .u64 (kM xs k))] : List D).length = 3) ∧ (Fun 27 [.agg [.d (D.lit (.string (strOfNums (kF xs i)))), .d (D.sl (dI .u64 (kD xs i)) (ka0 (kD xs i))), .d (D.lit (.int .u64 (kM xs i)))], .agg [.d (D.lit (.string (strOfNums (kF xs k)))), .d (D.sl (dI .u64 (kD xs k)) (ka0 (kD xs k))), .d (D.lit (.int .u64 (kM xs k)))]] (kC []) 0 (bV false) (kC []) 0)) [(1, rV 0 0), (3, uV i), (4, uV k), (34, bV false)] [(0, some (25, .ds [D.sl (kB xs) q]))] 1 ⟨rfl, zo, (q7 (i := i) y3), rfl, rfl, zo, (q7 (i := k) y3), rfl, (by have h0 := (cB (kF xs i) (kD xs i) (ka0 (kD xs i)) (kM xs i) (kF xs k) (kD xs k) (ka0 (kD xs k)) (kM xs k) (kQ : Byt (kF xs i)) qX rfl qX (kQ : Byt (kF xs k)) qX rfl qX); rw [hx13] at h0; exact h0)⟩ ?_
          refine uG ?_
          refine cH [.no, .w, .no] (uW ((k : Int) + 1)) [(1, rV 0 0), (3, uV i), (4, iV (↑k + 1))] ⟨by omega, by omega⟩ ?_
          exact kY ⟨((k + 1) : Nat), ⟨aG, (fun j hj => (Nat.lt_succ_iff_lt_or_eq.1 hj).elim (hb j) (fun e9 => by subst e9; assumption))⟩⟩ [] (P := (kT 0) ∧ (k8 (i : Int)) ∧ (y5 k) ∧ (kR [D.sl (kB xs) q])) zk ⟨rfl, rfl, eX, rfl⟩ (show i - (k + 1) < i - k from (by first | omega | (show _ < _; simp; omega)))
      · refine zr [.no, .no, .b false] [1, 3, 4, 21] [0] (¬ ((k : Int) < (i : Int))) [(1, rV 0 0), (3, uV i), (4, uV k), (21, bV false)] [(0, some (25, .ds [D.sl (kB xs) q]))] 1 zo ?_
        refine zf ?_
        refine AW.exit ?_
        refine bS [.no, .w, .no] (uW ((i : Int) + 1)) [(1, rV 0 0), (3, iV (↑i + 1))] [(0, some (25, .ds [D.sl (kB xs) q]))] 1 ⟨by omega, by omega⟩ ?_
        exact kY ⟨((i + 1) : Nat), ⟨aG, (fun j hj => (Nat.lt_succ_iff_lt_or_eq.1 hj).elim (ha j) (fun e9 => by subst e9; exact k3r zo ha (by assumption) (fun m hm => hb m zo)))⟩⟩ [] (P := (kT 0) ∧ (y5 i) ∧ (kR [D.sl (kB xs) q])) zk ⟨rfl, eX, rfl⟩ (show q - (i + 1) < q - i from (by first | omega | (show _ < _; simp; omega)))
    · obtain ⟨hx20, hx21, hx22⟩ := CsW.at (kQ : CsW xs) (i)
      refine kI [.no, .no, .no, .n i, .ds [D.lit (.string (strOfNums (kF xs i))), D.sl (dI .u64 (kD xs i)) (ka0 (kD xs i)), D.lit (.int .u64 (kM xs i))], .call [] (bV false) [] 0 [] none, .no] ((k8 (i : Int)) ∧ (i < q) ∧ (ka5 3 (kb2 (i * 3) (kB xs)) = [D.lit (.string (strOfNums (kF xs i))), D.sl (dI .u64 (kD xs i)) (ka0 (kD xs i)), D.lit (.int .u64 (kM xs i))]) ∧ (([D.lit (.string (strOfNums (kF xs i))), D.sl (dI .u64 (kD xs i)) (ka0 (kD xs i)), D.lit (.int .u64 (kM xs i))] : List D).length = 3) ∧ (Fun 26 [.agg [.d (D.lit (.string (strOfNums (kF xs i)))), .d (D.sl (dI .u64 (kD xs i)) (ka0 (kD xs i))), .d (D.lit (.int .u64 (kM xs i)))]] (kC []) 0 (bV false) (kC []) 0)) [(1, rV 0 0), (3, uV i), (18, bV true)] [(0, some (25, .ds [D.sl (kB xs) q]))] 1 ⟨rfl, zo, (q7 (i := i) y3), rfl, (by have h0 := (cA (kF xs i) (kD xs i) (ka0 (kD xs i)) (kM xs i) (kQ : Byt (kF xs i)) qX rfl qX); rw [hx5] at h0; exact h0)⟩ ?_
      refine zt ?_
      refine kI [.no] True [(2, bV false)] [] 1 trivial ?_
      refine AW.ret ?_
      exact kA (.inr rfl) [] (P := ((yG xs) = false)) zk (by first | exact gW (k := i) zo (by first | exact gX (by assumption) | exact wF (k := k) zo zo ha (by assumption) (by assumption)) | exact gV zo | exact fE zo (fun j hj => ha j zo))
  · refine zr (qA 4 [.b false]) [1, 3, 9] [0] (¬ ((i : Int) < (q : Int))) [(1, rV 0 0), (3, uV i), (9, bV false)] [(0, some (25, .ds [D.sl (kB xs) q]))] 1 zo ?_
    refine zf ?_
    refine AW.exit ?_
    by_cases hx23 : (((q : Nat) : Int) ≤ 32)
    · refine zr [.no, .no, .no, .b true, .no] [2] [] (((q : Int) ≤ 32)) [(2, bV true)] [] 1 zo ?_
      refine AW.ret ?_
      exact kA (.inr rfl) [] (P := ((yG xs) = true)) zk (by first | exact gW (k := i) zo (by first | exact gX (by assumption) | exact wF (k := k) zo zo ha (by assumption) (by assumption)) | exact gV zo | exact fE zo (fun j hj => ha j zo))
    · refine zr [.no, .no, .no, .b false, .no] [2] [] (¬ ((q : Int) ≤ 32)) [(2, bV false)] [] 1 zo ?_
      refine AW.ret ?_
      exact kA (.inr rfl) [] (P := ((yG xs) = false)) zk (by first | exact gW (k := i) zo (by first | exact gX (by assumption) | exact wF (k := k) zo zo ha (by assumption) (by assumption)) | exact gV zo | exact fE zo (fun j hj => ha j zo))
theorem vE {p : Prop} (h : p := by first | omega | (simp only [kK, kH, kO, ka8, uM, ka4, kb5, kb6, kb8, kc0, kc4, ka8, kc8, kd6, ke3] <;> omega) | rfl) : p := h
theorem k1j (xs : List Ch) (q : Nat) (r s : List Int) (n : Nat) (d : Int) (hq : ka0 xs = q) (h0 : q ≤ 1000000) (hX : CsW xs) (hr : Byt r) (hl : ka0 r ≤ 1000000) (hn : ka0 s = n) (h1 : n ≤ 1000000) : Fun 13 [.agg [.d (D.sl (kB xs) q)], .agg [.d (D.lit (.string (strOfNums r))), .d (D.sl (dI .u64 s) n), .d (D.lit (.int .u64 d))]] (kC []) 0 (.tup [.agg [.d (D.sl (kB (kE xs r s d)) (ka0 (kE xs r s d)))], iE (aB xs r s d)]) (kC []) 0 := by
  refine Fun.mk (n := 55) Try.func13 rfl rfl (ka3 rfl) ?_
  intro cx hcx
  refine kI (qA 4 []) True [(2, rV 0 0), (3, rV 1 0), (4, rV 2 0)] [(0, some (25, .ds [D.sl (kB xs) q])), (1, some (29, .ds [D.lit (.string (strOfNums r)), D.sl (dI .u64 s) n, D.lit (.int .u64 d)])), (2, some (25, .ds [uF]))] 3 trivial ?_
  refine AW.seq ?_
  rcases ka6 (yG xs) with hx1 | hx1
  · refine zr [.no, .call [] (bV true) [] 0 [] none, .no] [2, 3, 4, 10] [0, 1, 2] (Fun 11 [.agg [.d (D.sl (kB xs) q)]] (kC []) 0 (bV true) (kC []) 0) [(2, rV 0 0), (3, rV 1 0), (4, rV 2 0), (10, bV false)] [(0, some (25, .ds [D.sl (kB xs) q])), (1, some (29, .ds [D.lit (.string (strOfNums r)), D.sl (dI .u64 s) n, D.lit (.int .u64 d)])), (2, some (25, .ds [uF]))] 3 (by have h0 := (jH xs q zo zo (kQ : CsW xs)); rw [hx1] at h0; exact h0) ?_
    refine uG ?_
    refine AW.seq ?_
    rcases ka6 (uT r s d) with hx2 | hx2
    · refine zr [.no, .call [] (bV true) [] 0 [] none, .no] [2, 3, 4, 14] [0, 1, 2] (Fun 26 [.agg [.d (D.lit (.string (strOfNums r))), .d (D.sl (dI .u64 s) n), .d (D.lit (.int .u64 d))]] (kC []) 0 (bV true) (kC []) 0) [(2, rV 0 0), (3, rV 1 0), (4, rV 2 0), (14, bV false)] [(0, some (25, .ds [D.sl (kB xs) q])), (1, some (29, .ds [D.lit (.string (strOfNums r)), D.sl (dI .u64 s) n, D.lit (.int .u64 d)])), (2, some (25, .ds [uF]))] 3 (by have h0 := (cA r s n d (kQ : Byt r) zo zo zo); rw [hx2] at h0; exact h0) ?_
      refine uG ?_
      refine kI [.no] True [(2, rV 0 0), (3, rV 1 0), (4, rV 2 0), (6, nV)] [(0, some (25, .ds [D.sl (kB xs) q])), (1, some (29, .ds [D.lit (.string (strOfNums r)), D.sl (dI .u64 s) n, D.lit (.int .u64 d)])), (2, some (25, .ds [uF]))] 3 trivial ?_
      refine AW.seq ?_
      refine yU [.no] True [(2, rV 0 0), (3, rV 1 0), (4, rV 2 0), (6, nV), (7, iV 0)] trivial ?_
      refine AW.block ?_
      refine AW.adoptS 6 3 29 rfl ?_
      refine kV 0 hcx (fun (x : {x : Nat × Nat × List Ch // match x with | (k, m, o) => (k ≤ q ∧ m ≤ k) ∧ (qZ (ka5 k xs) r s = o) ∧ (ka0 o = m)}) => match x with | ⟨(k, m, o), _⟩ => (⟨[(2, rV 0 0), (3, rV 1 0), (4, rV 2 0), (6, oV 4 0 m 3), (7, uV k)], [(0, some (25, .ds [D.sl (kB xs) q])), (1, some (29, .ds [D.lit (.string (strOfNums r)), D.sl (dI .u64 s) n, D.lit (.int .u64 d)])), (2, some (25, .ds [uF])), (4, some (29, .ds (kB o)))], 5⟩ : ES)) (fun x => match x with | ⟨(k, m, o), _⟩ => q - k) ⟨((0 : Nat), (0 : Nat), (([] : List Ch) : List Ch)), ⟨aG, rfl, rfl⟩⟩ [(4, 3)] (P := (kT 0) ∧ (kT 0) ∧ (kT 0) ∧ (kT 0) ∧ (kT 0) ∧ (k8 0) ∧ (kR [D.sl (kB xs) q]) ∧ (kR [D.lit (.string (strOfNums r)), D.sl (dI .u64 s) n, D.lit (.int .u64 d)]) ∧ (kR [uF]) ∧ (((kB ([] : List Ch)) : List D) = ([] : List D))) zk ⟨rfl, rfl, rfl, rfl, rfl, rfl, rfl, rfl, rfl, (by first | rfl | with_reducible assumption)⟩ ?_
      rintro ⟨⟨k, m, o⟩, hinv0⟩
      obtain ⟨hk, hO, hL⟩ : (k ≤ q ∧ m ≤ k) ∧ (qZ (ka5 k xs) r s = o) ∧ (ka0 o = m) := hinv0
      refine qW (l := [(2, rV 0 0), (3, rV 1 0), (4, rV 2 0), (6, oV 4 0 m 3), (7, uV k)]) (g := [(0, some (25, .ds [D.sl (kB xs) q])), (1, some (29, .ds [D.lit (.string (strOfNums r)), D.sl (dI .u64 s) n, D.lit (.int .u64 d)])), (2, some (25, .ds [uF])), (4, some (29, .ds (kB o)))]) (nx := 5) rfl rfl rfl ?_
      refine AW.seq ?_
      by_cases hx3 : (((k : Nat) : Int) < ((q : Nat) : Int))
      · refine zr (qA 4 [.b true]) [2, 3, 4, 6, 7, 20] [0, 1, 2, 4] (((k : Int) < (q : Int))) [(2, rV 0 0), (3, rV 1 0), (4, rV 2 0), (6, oV 4 0 m 3), (7, uV k), (20, bV true)] [(0, some (25, .ds [D.sl (kB xs) q])), (1, some (29, .ds [D.lit (.string (strOfNums r)), D.sl (dI .u64 s) n, D.lit (.int .u64 d)])), (2, some (25, .ds [uF])), (4, some (29, .ds (kB o)))] 5 zo ?_
        refine cC ?_
        refine AW.seq ?_
        refine AW.block ?_
        rcases ka6 (dR (kF xs k) (kD xs k) r s) with hx7 | hx7
        · obtain ⟨hx8, hx9, hx10⟩ := CsW.at (kQ : CsW xs) (k)
          refine kI [.no, .no, .no, .n k, .ds [D.lit (.string (strOfNums (kF xs k))), D.sl (dI .u64 (kD xs k)) (ka0 (kD xs k)), D.lit (.int .u64 (kM xs k))], .no, .call [] (bV true) [] 0 [] none, .no] ((k8 (k : Int)) ∧ (k < q) ∧ (ka5 3 (kb2 (k * 3) (kB xs)) = [D.lit (.string (strOfNums (kF xs k))), D.sl (dI .u64 (kD xs k)) (ka0 (kD xs k)), D.lit (.int .u64 (kM xs k))]) ∧ (([D.lit (.string (strOfNums (kF xs k))), D.sl (dI .u64 (kD xs k)) (ka0 (kD xs k)), D.lit (.int .u64 (kM xs k))] : List D).length = 3) ∧ (Fun 27 [.agg [.d (D.lit (.string (strOfNums (kF xs k)))), .d (D.sl (dI .u64 (kD xs k)) (ka0 (kD xs k))), .d (D.lit (.int .u64 (kM xs k)))], .agg [.d (D.lit (.string (strOfNums r))), .d (D.sl (dI .u64 s) n), .d (D.lit (.int .u64 d))]] (kC []) 0 (bV true) (kC []) 0)) [(2, rV 0 0), (3, rV 1 0), (4, rV 2 0), (6, oV 4 0 m 3), (7, uV k), (30, bV false)] [(0, some (25, .ds [D.sl (kB xs) q])), (1, some (29, .ds [D.lit (.string (strOfNums r)), D.sl (dI .u64 s) n, D.lit (.int .u64 d)])), (2, some (25, .ds [uF])), (4, some (29, .ds (kB o)))] 5 ⟨rfl, zo, (q7 (i := k) y3), rfl, (by have h0 := (cB (kF xs k) (kD xs k) (ka0 (kD xs k)) (kM xs k) r s n d (kQ : Byt (kF xs k)) qX rfl qX (kQ : Byt r) zo zo zo); rw [hx7] at h0; exact h0)⟩ ?_
          refine uG ?_
          refine cH [.no, .w, .no] (uW ((k : Int) + 1)) [(2, rV 0 0), (3, rV 1 0), (4, rV 2 0), (6, oV 4 0 m 3), (7, iV (↑k + 1))] ⟨by omega, by omega⟩ ?_
          exact kY ⟨(((k + 1) : Nat), (m : Nat), (o : List Ch)), ⟨aG, (by first | exact (hO ▸ k20 (by assumption) (by assumption) zo (by assumption)) | exact ((k21 (by assumption) (by assumption) zo (by assumption)).trans hO)), (by first | assumption | omega | (simp only [kK, kH, kO, ka8, ka4, kb5, kb6] <;> omega))⟩⟩ [] (P := (kT 0) ∧ (kT 0) ∧ (kT 0) ∧ (kT 0) ∧ (kT m) ∧ (y5 k) ∧ (kR [D.sl (kB xs) q]) ∧ (kR [D.lit (.string (strOfNums r)), D.sl (dI .u64 s) n, D.lit (.int .u64 d)]) ∧ (kR [uF]) ∧ (kR (kB o))) zk ⟨rfl, rfl, rfl, rfl, rfl, eX, rfl, rfl, rfl, rfl⟩ (show q - (k + 1) < q - k from (by first | omega | (show _ < _; simp; omega)))
        · obtain ⟨hx11, hx12, hx13⟩ := CsW.at (kQ : CsW xs) (k)
          refine kI [.no, .no, .no, .n k, .ds [D.lit (.string (strOfNums (kF xs k))), D.sl (dI .u64 (kD xs k)) (ka0 (kD xs k)), D.lit (.int .u64 (kM xs k))], .no, .call [] (bV false) [] 0 [] none, .no] ((k8 (k : Int)) ∧ (k < q) ∧ (ka5 3 (kb2 (k * 3) (kB xs)) = [D.lit (.string (strOfNums (kF xs k))), D.sl (dI .u64 (kD xs k)) (ka0 (kD xs k)), D.lit (.int .u64 (kM xs k))]) ∧ (([D.lit (.string (strOfNums (kF xs k))), D.sl (dI .u64 (kD xs k)) (ka0 (kD xs k)), D.lit (.int .u64 (kM xs k))] : List D).length = 3) ∧ (Fun 27 [.agg [.d (D.lit (.string (strOfNums (kF xs k)))), .d (D.sl (dI .u64 (kD xs k)) (ka0 (kD xs k))), .d (D.lit (.int .u64 (kM xs k)))], .agg [.d (D.lit (.string (strOfNums r))), .d (D.sl (dI .u64 s) n), .d (D.lit (.int .u64 d))]] (kC []) 0 (bV false) (kC []) 0)) [(2, rV 0 0), (3, rV 1 0), (4, rV 2 0), (6, oV 4 0 m 3), (7, uV k), (30, bV true)] [(0, some (25, .ds [D.sl (kB xs) q])), (1, some (29, .ds [D.lit (.string (strOfNums r)), D.sl (dI .u64 s) n, D.lit (.int .u64 d)])), (2, some (25, .ds [uF])), (4, some (29, .ds (kB o)))] 5 ⟨rfl, zo, (q7 (i := k) y3), rfl, (by have h0 := (cB (kF xs k) (kD xs k) (ka0 (kD xs k)) (kM xs k) r s n d (kQ : Byt (kF xs k)) qX rfl qX (kQ : Byt r) zo zo zo); rw [hx7] at h0; exact h0)⟩ ?_
          refine zt ?_
          refine bS (qA 4 [.n k, .ds [D.lit (.string (strOfNums (kF xs k))), D.sl (dI .u64 (kD xs k)) (ka0 (kD xs k)), D.lit (.int .u64 (kM xs k))], .no, .ap none (m + 1) (kB (o ++ ([(kZ (kF xs k) (kD xs k) (kM xs k))] : List Ch))), .no]) ((k8 (k : Int)) ∧ (k < q) ∧ (ka5 3 (kb2 (k * 3) (kB xs)) = [D.lit (.string (strOfNums (kF xs k))), D.sl (dI .u64 (kD xs k)) (ka0 (kD xs k)), D.lit (.int .u64 (kM xs k))]) ∧ (([D.lit (.string (strOfNums (kF xs k))), D.sl (dI .u64 (kD xs k)) (ka0 (kD xs k)), D.lit (.int .u64 (kM xs k))] : List D).length = 3) ∧ ([D.lit (.string (strOfNums (kF xs k))), D.sl (dI .u64 (kD xs k)) (ka0 (kD xs k)), D.lit (.int .u64 (kM xs k))].length = 1 * 3) ∧ (((kB o) : List D).length = m * 3) ∧ ((m + 1) * 48 ≤ 140737488355328) ∧ (m + 1 = (m + 1)) ∧ (((kB o) : List D) ++ [D.lit (.string (strOfNums (kF xs k))), D.sl (dI .u64 (kD xs k)) (ka0 (kD xs k)), D.lit (.int .u64 (kM xs k))] = (kB (o ++ ([(kZ (kF xs k) (kD xs k) (kM xs k))] : List Ch))))) [(2, rV 0 0), (3, rV 1 0), (4, rV 2 0), (6, oV 6 0 (m + 1) 3), (7, uV k)] [(0, some (25, .ds [D.sl (kB xs) q])), (1, some (29, .ds [D.lit (.string (strOfNums r)), D.sl (dI .u64 s) n, D.lit (.int .u64 d)])), (2, some (25, .ds [uF])), (6, some (29, .ds (kB (o ++ ([(kZ (kF xs k) (kD xs k) (kM xs k))] : List Ch)))))] 7 ⟨rfl, zo, (q7 (i := k) y3), rfl, vE, vE, zo, zo, (gM o (kF xs k) (kD xs k) (ka0 (kD xs k)) (kM xs k) (by first | rfl | assumption | omega))⟩ ?_
          refine cH [.no, .w, .no] (uW ((k : Int) + 1)) [(2, rV 0 0), (3, rV 1 0), (4, rV 2 0), (6, oV 6 0 (m + 1) 3), (7, iV (↑k + 1))] ⟨by omega, by omega⟩ ?_
          exact kY ⟨(((k + 1) : Nat), ((m + 1) : Nat), ((o ++ ([(kZ (kF xs k) (kD xs k) (kM xs k))] : List Ch)) : List Ch)), ⟨aG, (by first | exact (hO ▸ k20 (by assumption) (by assumption) zo (by assumption)) | exact ((k21 (by assumption) (by assumption) zo (by assumption)).trans hO)), (by first | assumption | omega | (simp only [kK, kH, kO, ka8, ka4, kb5, kb6] <;> omega))⟩⟩ [(4, 6)] (P := (kT 0) ∧ (kT 0) ∧ (kT 0) ∧ (kT 0) ∧ (kT (m + 1)) ∧ (y5 k) ∧ (kR [D.sl (kB xs) q]) ∧ (kR [D.lit (.string (strOfNums r)), D.sl (dI .u64 s) n, D.lit (.int .u64 d)]) ∧ (kR [uF]) ∧ (kR (kB (o ++ ([(kZ (kF xs k) (kD xs k) (kM xs k))] : List Ch))))) zk ⟨rfl, rfl, rfl, rfl, rfl, eX, rfl, rfl, rfl, rfl⟩ (show q - (k + 1) < q - k from (by first | omega | (show _ < _; simp; omega)))
      · refine zr (qA 4 [.b false]) [2, 3, 4, 6, 7, 20] [0, 1, 2, 4] (¬ ((k : Int) < (q : Int))) [(2, rV 0 0), (3, rV 1 0), (4, rV 2 0), (6, oV 4 0 m 3), (7, uV k), (20, bV false)] [(0, some (25, .ds [D.sl (kB xs) q])), (1, some (29, .ds [D.lit (.string (strOfNums r)), D.sl (dI .u64 s) n, D.lit (.int .u64 d)])), (2, some (25, .ds [uF])), (4, some (29, .ds (kB o)))] 5 zo ?_
        refine zf ?_
        refine AW.exit ?_
        refine kI [.no, .no, .no, .ap none (0 + n) (dI .u64 s), .no, .no] (((dI .u64 s).length = n * 1) ∧ ((([] : List D) : List D).length = 0 * 1) ∧ ((0 + n) * 8 ≤ 140737488355328) ∧ ((0 : Nat) + n = (0 + n)) ∧ ((([] : List D) : List D) ++ (dI .u64 s) = (dI .u64 s))) [(3, rV 1 0), (4, rV 2 0), (6, oV 4 0 m 3)] [(1, some (29, .cs [.d (D.lit (.string (strOfNums r))), .own 6 0 (0 + n) 1 true, .d (D.lit (.int .u64 d))])), (2, some (25, .ds [uF])), (4, some (29, .ds (kB o))), (6, some (27, .ds (dI .u64 s)))] 7 ⟨vE, vE, zo, zo, rfl⟩ ?_
        refine AW.freeze 6 (l' := [(3, rV 1 0), (4, rV 2 0), (6, oV 4 0 m 3)]) (g' := [(1, some (29, .ds [D.lit (.string (strOfNums r)), D.sl (dI .u64 s) (0 + n), D.lit (.int .u64 d)])), (2, some (25, .ds [uF])), (4, some (29, .ds (kB o)))]) rfl (FzS.cons rfl (.same _) (FzS.cons rfl (.same _) (FzS.cons rfl (.same _) FzS.nil))) (FzG.to (bc := .cs [.d (D.lit (.string (strOfNums r))), .own 6 0 (0 + n) 1 true, .d (D.lit (.int .u64 d))]) rfl (by rfl) (FzL.cons (.same _) (FzL.cons (@FzC.own 6 ((dI .u64 s) : List D) 0 (0 + n) 1 true ((dI .u64 s) : List D) (by rw [kf5, ke3, kc5 (by first | omega | (simp only [kK, kH, kO, ka8, uM, ka4, kb5, kb6, kb8, kc0, kc4, ka8, kc8, kd6, ke3] <;> omega))]) vE) (FzL.cons (.same _) FzL.nil))) (vT rfl rfl (vT rfl rfl FzG.nil))) ?_
        refine kI [.no, .no, .no, .ap none (m + 1) (kB (o ++ ([(kZ r s d)] : List Ch))), .no] (([D.lit (.string (strOfNums r)), D.sl (dI .u64 s) (0 + n), D.lit (.int .u64 d)].length = 1 * 3) ∧ (((kB o) : List D).length = m * 3) ∧ ((m + 1) * 48 ≤ 140737488355328) ∧ (m + 1 = (m + 1)) ∧ (((kB o) : List D) ++ [D.lit (.string (strOfNums r)), D.sl (dI .u64 s) (0 + n), D.lit (.int .u64 d)] = (kB (o ++ ([(kZ r s d)] : List Ch))))) [(4, rV 2 0), (6, oV 8 0 (m + 1) 3)] [(2, some (25, .ds [uF])), (8, some (29, .ds (kB (o ++ ([(kZ r s d)] : List Ch)))))] 9 ⟨vE, vE, zo, zo, (gM o r s (0 + n) d (by first | rfl | assumption | omega))⟩ ?_
        refine AW.freeze 8 (l' := [(4, rV 2 0), (6, uU (kB (o ++ ([(kZ r s d)] : List Ch))) (m + 1))]) (g' := [(2, some (25, .ds [uF]))]) rfl (FzS.cons rfl (.same _) (FzS.cons rfl (.e (.c (@FzC.own 8 ((kB (o ++ ([(kZ r s d)] : List Ch))) : List D) 0 (m + 1) 3 true ((kB (o ++ ([(kZ r s d)] : List Ch))) : List D) (by rw [kf5, kc5 (by first | omega | (simp only [kK, kH, kO, ka8, uM, ka4, kb5, kb6, kb8, kc0, kc4, ka8, kc8, kd6, ke3] <;> omega))]) vE))) FzS.nil)) (vT rfl rfl FzG.nil) ?_
        refine kI [.no, .no, .no, .w, .no, .sls (kc6 (max 0 ((((m + 1) : Nat) : Int) - 32))) (m + 1) ((m + 1) - (kc6 (max 0 ((((m + 1) : Nat) : Int) - 32)))) (kB (ka5 ((m + 1) - (kc6 (max 0 ((((m + 1) : Nat) : Int) - 32)))) (kb2 (kc6 (max 0 ((((m + 1) : Nat) : Int) - 32))) (o ++ ([(kZ r s d)] : List Ch))))), .no, .no, .no] ((uW ((((m + 1) : Nat) : Int) - 32)) ∧ (((max 0 ((((m + 1) : Nat) : Int) - 32)) : Int) = (((kc6 (max 0 ((((m + 1) : Nat) : Int) - 32))) : Nat) : Int)) ∧ ((m + 1) = (m + 1)) ∧ ((kc6 (max 0 ((((m + 1) : Nat) : Int) - 32))) ≤ (m + 1)) ∧ ((m + 1) ≤ (m + 1)) ∧ ((m + 1) - (kc6 (max 0 ((((m + 1) : Nat) : Int) - 32))) = ((m + 1) - (kc6 (max 0 ((((m + 1) : Nat) : Int) - 32))))) ∧ (ka5 (((m + 1) - (kc6 (max 0 ((((m + 1) : Nat) : Int) - 32)))) * 3) (kb2 ((kc6 (max 0 ((((m + 1) : Nat) : Int) - 32))) * 3) (kB (o ++ ([(kZ r s d)] : List Ch)))) = (kB (ka5 ((m + 1) - (kc6 (max 0 ((((m + 1) : Nat) : Int) - 32)))) (kb2 (kc6 (max 0 ((((m + 1) : Nat) : Int) - 32))) (o ++ ([(kZ r s d)] : List Ch))))))) [(4, rV 2 0), (5, iV 0)] [(2, some (25, .ds [D.sl (kB (ka5 ((m + 1) - (kc6 (max 0 ((((m + 1) : Nat) : Int) - 32)))) (kb2 (kc6 (max 0 ((((m + 1) : Nat) : Int) - 32))) (o ++ ([(kZ r s d)] : List Ch))))) ((m + 1) - (kc6 (max 0 ((((m + 1) : Nat) : Int) - 32))))]))] 9 ⟨⟨by omega, by omega⟩, (by first | rfl | omega), rfl, zo, zo, zo, (by rw [a8, yY])⟩ ?_
        obtain ⟨hz1, hz2⟩ := jV hx1 hx2
        have hz3 : qZ xs r s = o := by have h9 := hO; rw [kc5 (by omega)] at h9; exact h9
        refine AW.ret ?_
        exact kA (.inr rfl) [] (P := (((kB (kE xs r s d)) : List D) = (kB (ka5 ((m + 1) - (kc6 (max 0 ((((m + 1) : Nat) : Int) - 32)))) (kb2 (kc6 (max 0 ((((m + 1) : Nat) : Int) - 32))) (o ++ ([(kZ r s d)] : List Ch)))))) ∧ (((ka0 (kE xs r s d)) : Nat) = ((m + 1) - (kc6 (max 0 ((((m + 1) : Nat) : Int) - 32))))) ∧ (((aB xs r s d) : Int) = 0)) zk ⟨(by first | rfl | exact hz2 | exact hz2.symm | exact congrArg kB (uI hz1 hz3 hL zo).1 | exact (uI hz1 hz3 hL zo).2 | (rw [hz1]; done) | (rw [hz1]; rfl) | omega), (by first | rfl | exact hz2 | exact hz2.symm | exact congrArg kB (uI hz1 hz3 hL zo).1 | exact (uI hz1 hz3 hL zo).2 | (rw [hz1]; done) | (rw [hz1]; rfl) | omega), (by first | rfl | exact hz2 | exact hz2.symm | exact congrArg kB (uI hz1 hz3 hL zo).1 | exact (uI hz1 hz3 hL zo).2 | (rw [hz1]; done) | (rw [hz1]; rfl) | omega)⟩
    · refine zr [.no, .call [] (bV false) [] 0 [] none, .no] [2, 3, 4, 14] [0, 1, 2] (Fun 26 [.agg [.d (D.lit (.string (strOfNums r))), .d (D.sl (dI .u64 s) n), .d (D.lit (.int .u64 d))]] (kC []) 0 (bV false) (kC []) 0) [(2, rV 0 0), (3, rV 1 0), (4, rV 2 0), (14, bV true)] [(0, some (25, .ds [D.sl (kB xs) q])), (1, some (29, .ds [D.lit (.string (strOfNums r)), D.sl (dI .u64 s) n, D.lit (.int .u64 d)])), (2, some (25, .ds [uF]))] 3 (by have h0 := (cA r s n d (kQ : Byt r) zo zo zo); rw [hx2] at h0; exact h0) ?_
      refine zt ?_
      refine kI [.no, .no, .no] True [(4, rV 2 0), (5, iV 2)] [(2, some (25, .ds [uF]))] 3 trivial ?_
      obtain ⟨hz1, hz2⟩ := k1y hx1 hx2
      refine dO (l' := [(4, rV 2 0), (5, iV 2)]) (g' := [(2, some (25, .ds [D.sl ([] : List D) 0]))]) (NlS.cons rfl (.same _) (NlS.cons rfl (.same _) NlS.nil)) (NlG.to (bc := .ds [uF]) rfl (NlL.cons (.nil) NlL.nil) NlG.nil) ?_
      refine AW.ret ?_
      exact kA (.inr rfl) [] (P := (((kB (kE xs r s d)) : List D) = ([] : List D)) ∧ (((ka0 (kE xs r s d)) : Nat) = 0) ∧ (((aB xs r s d) : Int) = 2)) zk ⟨(by first | rfl | exact hz2 | exact hz2.symm | exact congrArg kB (uI hz1 hz3 hL zo).1 | exact (uI hz1 hz3 hL zo).2 | (rw [hz1]; done) | (rw [hz1]; rfl) | omega), (by first | rfl | exact hz2 | exact hz2.symm | exact congrArg kB (uI hz1 hz3 hL zo).1 | exact (uI hz1 hz3 hL zo).2 | (rw [hz1]; done) | (rw [hz1]; rfl) | omega), (by first | rfl | exact hz2 | exact hz2.symm | exact congrArg kB (uI hz1 hz3 hL zo).1 | exact (uI hz1 hz3 hL zo).2 | (rw [hz1]; done) | (rw [hz1]; rfl) | omega)⟩
  · refine zr [.no, .call [] (bV false) [] 0 [] none, .no] [2, 3, 4, 10] [0, 1, 2] (Fun 11 [.agg [.d (D.sl (kB xs) q)]] (kC []) 0 (bV false) (kC []) 0) [(2, rV 0 0), (3, rV 1 0), (4, rV 2 0), (10, bV true)] [(0, some (25, .ds [D.sl (kB xs) q])), (1, some (29, .ds [D.lit (.string (strOfNums r)), D.sl (dI .u64 s) n, D.lit (.int .u64 d)])), (2, some (25, .ds [uF]))] 3 (by have h0 := (jH xs q zo zo (kQ : CsW xs)); rw [hx1] at h0; exact h0) ?_
    refine zt ?_
    refine kI [.no, .no, .no] True [(4, rV 2 0), (5, iV 1)] [(2, some (25, .ds [uF]))] 3 trivial ?_
    obtain ⟨hz1, hz2⟩ := k1z (r := r) (s := s) (d := d) hx1
    refine dO (l' := [(4, rV 2 0), (5, iV 1)]) (g' := [(2, some (25, .ds [D.sl ([] : List D) 0]))]) (NlS.cons rfl (.same _) (NlS.cons rfl (.same _) NlS.nil)) (NlG.to (bc := .ds [uF]) rfl (NlL.cons (.nil) NlL.nil) NlG.nil) ?_
    refine AW.ret ?_
    exact kA (.inr rfl) [] (P := (((kB (kE xs r s d)) : List D) = ([] : List D)) ∧ (((ka0 (kE xs r s d)) : Nat) = 0) ∧ (((aB xs r s d) : Int) = 1)) zk ⟨(by first | rfl | exact hz2 | exact hz2.symm | exact congrArg kB (uI hz1 hz3 hL zo).1 | exact (uI hz1 hz3 hL zo).2 | (rw [hz1]; done) | (rw [hz1]; rfl) | omega), (by first | rfl | exact hz2 | exact hz2.symm | exact congrArg kB (uI hz1 hz3 hL zo).1 | exact (uI hz1 hz3 hL zo).2 | (rw [hz1]; done) | (rw [hz1]; rfl) | omega), (by first | rfl | exact hz2 | exact hz2.symm | exact congrArg kB (uI hz1 hz3 hL zo).1 | exact (uI hz1 hz3 hL zo).2 | (rw [hz1]; done) | (rw [hz1]; rfl) | omega)⟩
end Go.Proofs.Ytkjmlililpgamaa
