/- The reference of choices. No statement is proved here. -/
import Derived.Test.YtkjmlililpgamaaZC30B
namespace Go.Proofs.Ytkjmlililpgamaa
open Go.ChangeShapes Go.WideShapes Go.ChangeAt Go.RowKit
open Bool renaming and_eq_true → kb1, eq_false_or_eq_true → ka6
open Int renaming toNat → kc6
open List renaming drop → kb2, drop_zero → kf5, getD → ka2, getD_eq_getElem?_getD → ka9, getElem?_eq_getElem → kb3, length → ka0, length_append → ka4, length_cons → kb5, length_drop → kc0, length_map → kc8, length_nil → kb6, length_replicate → kc4, length_reverse → kd6, length_set → ka8, length_take → kb8, mem_cons_self → ka7, pairwise_iff_getElem → ki0, take → ka5, take_of_length_le → kc5
open Nat renaming le_of_ble_eq_true → ka3, mul_one → ke3, not_lt_zero → kd1
set_option linter.unusedVariables false
set_option linter.unusedSimpArgs false
/-! choices: what the reference says, and choices of a deck -/
set_option maxHeartbeats 4000000
set_option maxRecDepth 100000
theorem mU {l : List Int} (h : v3 l = true) : l.Pairwise (· < ·) ∧ ∀ x ∈ l, 1 ≤ x := by
  have h1 : ∀ i, i < l.length → 1 ≤ ka2 l i 0 ∧ (i = 0 ∨ ka2 l (i - 1) 0 < ka2 l i 0) := fun i hi => of_decide_eq_true (List.all_eq_true.1 h i (List.mem_range.2 hi))
  have g : ∀ i (hi : i < l.length), ka2 l i 0 = l[i] := fun i hi => by rw [ka9, kb3 hi]; rfl
  constructor
  · rw [ki0]
    intro i j hi hj hij
    induction j with
    | zero => omega
    | succ j ih =>
      have h2 := (h1 (j + 1) hj).2
      rw [Nat.add_sub_cancel, g (j + 1) hj, g j (by omega)] at h2
      have h3 : l[j]'(by omega) < l[j + 1] := by omega
      by_cases e : i = j
      · subst e; exact h3
      · have := ih (by omega) (by omega); omega
  · intro x hx
    obtain ⟨j, hj, e⟩ := List.mem_iff_getElem.1 hx
    have := (h1 j hj).1
    rw [g j hj, e] at this; exact this
theorem k2a {l : List Int} (h : l.Pairwise (· < ·)) (h2 : ∀ x ∈ l, 1 ≤ x) : v3 l = true := by
  have g : ∀ i (hi : i < l.length), ka2 l i 0 = l[i] := fun i hi => by rw [ka9, kb3 hi]; rfl
  rw [ki0] at h
  refine oB fun i hi => decide_eq_true ⟨?_, ?_⟩
  · rw [g i hi]; exact h2 _ (List.getElem_mem hi)
  · by_cases e : i = 0
    · exact .inl e
    · right; rw [g i hi, g (i - 1) (by omega)]; exact h (i - 1) i (by omega) hi (by omega)
theorem b5 : ∀ (t s : List Int), s.Pairwise (· < ·) → t.Pairwise (· < ·) → (∀ x ∈ s, x ∈ t) → s.length ≤ t.length ∧ (s.length = t.length → s = t)
  | [], [], _, _, _ => ⟨Nat.le_refl _, fun _ => rfl⟩
  | [], x :: s, _, _, h => by have := h x (ka7 ..); cases this
  | y :: t, [], _, _, _ => ⟨Nat.zero_le _, fun h => by cases h⟩
  | y :: t, x :: s, hs, ht, h => by
    rw [List.pairwise_cons] at hs ht
    by_cases e : x = y
    · subst e
      have h1 := b5 t s hs.2 ht.2 fun z hz => by
        rcases List.mem_cons.1 (h z (List.mem_cons_of_mem _ hz)) with h2 | h2
        · have := hs.1 z hz; omega
        · exact h2
      exact ⟨Nat.succ_le_succ h1.1, fun h2 => by rw [h1.2 (Nat.succ.inj h2)]⟩
    · have h0 : x ∈ t := (List.mem_cons.1 (h x (ka7 ..))).resolve_left e
      have hxy := ht.1 x h0
      have h1 := b5 t (x :: s) (List.pairwise_cons.2 hs) ht.2 fun z hz => by
        rcases List.mem_cons.1 (h z hz) with h2 | h2
        · rcases List.mem_cons.1 hz with h3 | h3
          · omega
          · have := hs.1 z h3; omega
        · exact h2
      have h2 := h1.1
      exact ⟨Nat.le_succ_of_le h2, fun h3 => by rw [h3] at h2; exact absurd h2 (Nat.not_succ_le_self _)⟩
theorem jY {a b : List Int} (h : vT a b = true) : ∀ x ∈ a, x ∈ b := fun x hx => of_decide_eq_true (List.all_eq_true.1 h x hx)
theorem oO {a b : List Int} (h : ∀ x ∈ a, x ∈ b) : vT a b = true := List.all_eq_true.2 fun x hx => decide_eq_true (h x hx)
theorem k2g {a b : List Int} (ha : v3 a = true) (hb : v3 b = true) (h : vT a b = true) : a.length ≤ b.length := (b5 b a (mU ha).1 (mU hb).1 (jY h)).1
theorem mT {r s r2 s2 : List Int} (h1 : v3 s = true) (h2 : v3 s2 = true) : dQ r s r2 s2 = uM r s r2 s2 := by
  by_cases e : r = r2
  · by_cases e2 : s = s2
    · subst e2
      rw [k36 e rfl (oO fun x hx => hx), k1t e (decide_eq_true rfl)]
    · rw [k1u (r := r) (r2 := r2) (show nU s s2 = false from decide_eq_false e2)]
      by_cases e3 : s.length = s2.length
      · cases h : vT s s2 with
        | false => exact k38 h
        | true => exact absurd ((b5 s2 s (mU h1).1 (mU h2).1 (jY h)).2 e3) e2
      · exact k39 e3
  · rw [k37 e, k1v e]
theorem zA (r s r2 s2 : List Int) : uM r s r2 s2 = uM r2 s2 r s := by
  unfold uM nU
  rw [show decide (r = r2) = decide (r2 = r) from decide_eq_decide.2 ⟨Eq.symm, Eq.symm⟩, show decide (s = s2) = decide (s2 = s) from decide_eq_decide.2 ⟨Eq.symm, Eq.symm⟩]
theorem vA {r s : List Int} {d : Int} (h : uS r s d = true) : v3 s = true := by
  unfold uS at h; rw [kb1, kb1, kb1] at h; exact h.2.2.1
theorem k2c {r s : List Int} {d : Int} (h : uS r s d = true) : yZ s d = true := by
  unfold uS at h; rw [kb1, kb1, kb1] at h; exact h.2.2.2
theorem gX {xs : List Ch} {i : Nat} (h : cI xs i = true) : uS (kF xs i) (kD xs i) (kM xs i) = true := by
  unfold cI at h; rw [kb1] at h; exact h.1
theorem k1q {xs : List Ch} {i : Nat} (h : cI xs i = true) : iZ (ka5 i xs) (kF xs i) (kD xs i) = false := by
  unfold cI at h; rw [kb1] at h
  cases e : iZ (ka5 i xs) (kF xs i) (kD xs i) with
  | false => rfl
  | true => rw [e] at h; cases h.2
theorem i0 {xs : List Ch} {i k : Nat} (h : k < i) : yG (ka5 i xs) k = yG xs k := by
  unfold yG; rw [ka9, ka9, List.getElem?_take, if_pos h]
theorem zU {xs : List Ch} {r s : List Int} (h : ∀ k, k < xs.length → uM (kF xs k) (kD xs k) r s = false) : iZ xs r s = false := k1e rfl (by
  have h1 : uX xs r s xs.length = -1 := b8 _ h
  omega)
theorem k2z {xs : List Ch} {r s : List Int} {k : Nat} (hk : k < xs.length) (h : uM (kF xs k) (kD xs k) r s = true) : iZ xs r s = true := by
  cases e : iZ xs r s with
  | true => rfl
  | false =>
    have h1 := dG (p := fun j => uM (kF xs j) (kD xs j) r s) (n := xs.length) (of_decide_eq_false e) k hk
    exact (aQ h h1).elim
theorem k31 {xs : List Ch} {r s : List Int} (h : iZ xs r s = false) : ∀ k, k < xs.length → uM (kF xs k) (kD xs k) r s = false := dG (p := fun j => uM (kF xs j) (kD xs j) r s) (of_decide_eq_false h)
theorem wF {xs : List Ch} {i k : Nat} (h : k < i) : kF (ka5 i xs) k = kF xs k := congrArg Ch.r (i0 h)
theorem wE {xs : List Ch} {i k : Nat} (h : k < i) : kD (ka5 i xs) k = kD xs k := congrArg Ch.s (i0 h)
theorem k3p {xs : List Ch} {i : Nat} (hi : i < xs.length) (hb : ∀ j, j < i → cI xs j = true) (h : uS (kF xs i) (kD xs i) (kM xs i) = true) (ha : ∀ m, m < i → dQ (kF xs i) (kD xs i) (kF xs m) (kD xs m) = false) : cI xs i = true := by
  refine oM h (zU fun k hk => ?_)
  rw [kb8] at hk
  have hk2 : k < i := by omega
  rw [wF hk2, wE hk2, zA, ← mT (vA h) (vA (gX (hb k hk2)))]
  exact ha k hk2
theorem wD {xs : List Ch} {i k : Nat} (hi : i < xs.length) (hk : k < i) (hb : ∀ j, j < i → cI xs j = true) (h : uS (kF xs i) (kD xs i) (kM xs i) = true) (h2 : dQ (kF xs i) (kD xs i) (kF xs k) (kD xs k) = true) : cI xs i = false := by
  refine x6 (k2z (k := k) (by rw [kb8]; omega) ?_)
  rw [wF hk, wE hk, zA, ← mT (vA h) (vA (gX (hb k hk)))]
  exact h2
theorem k1y {xs : List Ch} {r s : List Int} {d : Int} {j : Nat} (hv : yF xs = true) (hp : uS r s d = true) (hj : j < xs.length) (h : dQ (kF xs j) (kD xs j) r s = false) : qZ (ka5 (j + 1) xs) r s = qZ (ka5 j xs) r s ++ [kZ (kF xs j) (kD xs j) (kM xs j)] := by
  rw [mT (vA (gX ((oL hv).2 j hj))) (vA hp)] at h
  exact k0r (p := fun c => uM c.r c.s r s) hj h
theorem k1z {xs : List Ch} {r s : List Int} {d : Int} {j : Nat} (hv : yF xs = true) (hp : uS r s d = true) (hj : j < xs.length) (h : dQ (kF xs j) (kD xs j) r s = true) : qZ (ka5 (j + 1) xs) r s = qZ (ka5 j xs) r s := by
  rw [mT (vA (gX ((oL hv).2 j hj))) (vA hp)] at h
  exact k0s (p := fun c => uM c.r c.s r s) hj h
theorem uH {xs o : List Ch} {r s : List Int} {d : Int} {m A : Nat} (h1 : kE xs r s d = oT xs r s d) (h3 : qZ xs r s = o) (hL : o.length = m) (hA : A = m - 31) : kE xs r s d = ka5 ((m + 1) - A) (kb2 A (o ++ [kZ r s d])) ∧ (kE xs r s d).length = (m + 1) - A := by
  subst hA hL
  have e : (kb2 (o.length - 31) (o ++ [kZ r s d])).length = o.length + 1 - (o.length - 31) := by rw [kc0, ka4]; rfl
  rw [h1]; unfold oT; rw [h3]
  exact ⟨(kc5 (Nat.le_of_eq e)).symm, e⟩
theorem aF {p : Prop} (h : p := by first | omega | assumption | simp) : p := h
theorem y2 {p : Prop} (h : p := by first | omega | (simp only [kK, kH, kO, ka8, ka4, kb5, kb6, kb8, kc0] <;> omega)) : p := h
theorem qX {p : Prop} (h : p := by first | omega | with_reducible assumption | (simp only [kK, kH, kO, ka8, ka4, kb5, kb6, kb8, kc0, kc4, ka8] <;> omega) | rfl | assumption) : p := h
theorem eW {p : Prop} (h : p := by first | rfl | omega | assumption | (simp; done) | (simp; omega)) : p := h
theorem jF (xs : List Ch) (q : Nat) (hq : ka0 xs = q) (h0 : q ≤ 1000000) (hX : CsW xs) : Fun 11 [.agg [.d (D.sl (kB xs) q)]] (kC []) 0 (kL (D.lit (.bool (yF xs)))) (kC []) 0 := by
  refine Fun.mk (n := 39) Try.func11 rfl rfl (ka3 rfl) ?_
  intro cx hcx
  refine kI [.no, .no] True [(1, rV 0 0)] [(0, some (25, .ds [D.sl (kB xs) q]))] 1 trivial ?_
  refine AW.seq ?_
  refine yT [.no] True [(1, rV 0 0), (3, iV 0)] trivial ?_
  refine AW.block ?_
  refine kV 0 hcx (fun (x : {x : Nat // match x with | i => (i ≤ q) ∧ (∀ j, j < i → cI xs j = true)}) => match x with | ⟨i, _⟩ => (⟨[(1, rV 0 0), (3, uV i)], [(0, some (25, .ds [D.sl (kB xs) q]))], 1⟩ : ES)) (fun x => match x with | ⟨i, _⟩ => q - i) ⟨(0 : Nat), ⟨aF, (fun j hj => absurd hj (kd1 j))⟩⟩ [] (P := (kT 0) ∧ (k8 0) ∧ (kR [D.sl (kB xs) q])) zk ⟨rfl, rfl, rfl⟩ ?_
  rintro ⟨i, hinv0⟩
  obtain ⟨hi, ha⟩ : (i ≤ q) ∧ (∀ j, j < i → cI xs j = true) := hinv0
  refine qW (l := [(1, rV 0 0), (3, uV i)]) (g := [(0, some (25, .ds [D.sl (kB xs) q]))]) (nx := 1) rfl rfl rfl ?_
  refine AW.seq ?_
  by_cases hx1 : (((i : Nat) : Int) < ((q : Nat) : Int))
  · refine zr (qA 4 [.b true]) [1, 3, 9] [0] (((i : Int) < (q : Int))) [(1, rV 0 0), (3, uV i), (9, bV true)] [(0, some (25, .ds [D.sl (kB xs) q]))] 1 zo ?_
    refine cB ?_
    refine AW.seq ?_
    refine AW.block ?_
    refine AW.seq ?_
    rcases ka6 (uS (kF xs i) (kD xs i) (kM xs i)) with hx5 | hx5
    · obtain ⟨hx6, hx7, hx8⟩ := CsW.at (kQ : CsW xs) (i)
      refine kI [.no, .no, .no, .n i, .ds [D.lit (.string (strOfNums (kF xs i))), D.sl (dI .u64 (kD xs i)) (ka0 (kD xs i)), D.lit (.int .u64 (kM xs i))], .call [] (bV true) [] 0 [] none, .no] ((k8 (i : Int)) ∧ (i < q) ∧ (ka5 3 (kb2 (i * 3) (kB xs)) = [D.lit (.string (strOfNums (kF xs i))), D.sl (dI .u64 (kD xs i)) (ka0 (kD xs i)), D.lit (.int .u64 (kM xs i))]) ∧ (([D.lit (.string (strOfNums (kF xs i))), D.sl (dI .u64 (kD xs i)) (ka0 (kD xs i)), D.lit (.int .u64 (kM xs i))] : List D).length = 3) ∧ (Fun 26 [.agg [.d (D.lit (.string (strOfNums (kF xs i)))), .d (D.sl (dI .u64 (kD xs i)) (ka0 (kD xs i))), .d (D.lit (.int .u64 (kM xs i)))]] (kC []) 0 (bV true) (kC []) 0)) [(1, rV 0 0), (3, uV i), (18, bV false)] [(0, some (25, .ds [D.sl (kB xs) q]))] 1 ⟨rfl, zo, (q7 (i := i) y2), rfl, (by have h0 := (b9 (kF xs i) (kD xs i) (ka0 (kD xs i)) (kM xs i) (kQ : Byt (kF xs i)) qX rfl qX); rw [hx5] at h0; exact h0)⟩ ?_
      refine uF ?_
      refine yT [.no] True [(1, rV 0 0), (3, uV i), (4, iV 0)] trivial ?_
      refine AW.block ?_
      refine kV 0 hcx (fun (x : {x : Nat // match x with | k => (k ≤ i) ∧ (∀ j, j < k → dQ (kF xs i) (kD xs i) (kF xs j) (kD xs j) = false)}) => match x with | ⟨k, _⟩ => (⟨[(1, rV 0 0), (3, uV i), (4, uV k)], [(0, some (25, .ds [D.sl (kB xs) q]))], 1⟩ : ES)) (fun x => match x with | ⟨k, _⟩ => i - k) ⟨(0 : Nat), ⟨aF, (fun j hj => absurd hj (kd1 j))⟩⟩ [] (P := (kT 0) ∧ (k8 (i : Int)) ∧ (k8 0) ∧ (kR [D.sl (kB xs) q])) zk ⟨rfl, rfl, rfl, rfl⟩ ?_
      rintro ⟨k, hinv1⟩
      obtain ⟨hk, hb⟩ : (k ≤ i) ∧ (∀ j, j < k → dQ (kF xs i) (kD xs i) (kF xs j) (kD xs j) = false) := hinv1
      refine qW (l := [(1, rV 0 0), (3, uV i), (4, uV k)]) (g := [(0, some (25, .ds [D.sl (kB xs) q]))]) (nx := 1) rfl rfl rfl ?_
      refine AW.seq ?_
      by_cases hx9 : (((k : Nat) : Int) < ((i : Nat) : Int))
      · refine zr [.no, .no, .b true] [1, 3, 4, 21] [0] (((k : Int) < (i : Int))) [(1, rV 0 0), (3, uV i), (4, uV k), (21, bV true)] [(0, some (25, .ds [D.sl (kB xs) q]))] 1 zo ?_
        refine cB ?_
        refine AW.seq ?_
        refine AW.block ?_
        rcases ka6 (dQ (kF xs i) (kD xs i) (kF xs k) (kD xs k)) with hx13 | hx13
        · obtain ⟨hx14, hx15, hx16⟩ := CsW.at (kQ : CsW xs) (k)
          refine kI [.no, .no, .no, .n i, .ds [D.lit (.string (strOfNums (kF xs i))), D.sl (dI .u64 (kD xs i)) (ka0 (kD xs i)), D.lit (.int .u64 (kM xs i))], .no, .no, .no, .n k, .ds [D.lit (.string (strOfNums (kF xs k))), D.sl (dI .u64 (kD xs k)) (ka0 (kD xs k)), D.lit (.int .u64 (kM xs k))], .call [] (bV true) [] 0 [] none] ((k8 (i : Int)) ∧ (i < q) ∧ (ka5 3 (kb2 (i * 3) (kB xs)) = [D.lit (.string (strOfNums (kF xs i))), D.sl (dI .u64 (kD xs i)) (ka0 (kD xs i)), D.lit (.int .u64 (kM xs i))]) ∧ (([D.lit (.string (strOfNums (kF xs i))), D.sl (dI .u64 (kD xs i)) (ka0 (kD xs i)), D.lit (.int .u64 (kM xs i))] : List D).length = 3) ∧ (k8 (k : Int)) ∧ (k < q) ∧ (ka5 3 (kb2 (k * 3) (kB xs)) = [D.lit (.string (strOfNums (kF xs k))), D.sl (dI .u64 (kD xs k)) (ka0 (kD xs k)), D.lit (.int .u64 (kM xs k))]) ∧ (([D.lit (.string (strOfNums (kF xs k))), D.sl (dI .u64 (kD xs k)) (ka0 (kD xs k)), D.lit (.int .u64 (kM xs k))] : List D).length = 3) ∧ (Fun 27 [.agg [.d (D.lit (.string (strOfNums (kF xs i)))), .d (D.sl (dI .u64 (kD xs i)) (ka0 (kD xs i))), .d (D.lit (.int .u64 (kM xs i)))], .agg [.d (D.lit (.string (strOfNums (kF xs k)))), .d (D.sl (dI .u64 (kD xs k)) (ka0 (kD xs k))), .d (D.lit (.int .u64 (kM xs k)))]] (kC []) 0 (bV true) (kC []) 0)) [(1, rV 0 0), (3, uV i), (4, uV k), (34, bV true)] [(0, some (25, .ds [D.sl (kB xs) q]))] 1 ⟨rfl, zo, (q7 (i := i) y2), rfl, rfl, zo, (q7 (i := k) y2), rfl, (by have h0 := (cA (kF xs i) (kD xs i) (ka0 (kD xs i)) (kM xs i) (kF xs k) (kD xs k) (ka0 (kD xs k)) (kM xs k) (kQ : Byt (kF xs i)) qX rfl qX (kQ : Byt (kF xs k)) qX rfl qX); rw [hx13] at h0; exact h0)⟩ ?_
          refine zt ?_
          refine kI [.no] True [(2, bV false)] [] 1 trivial ?_
          refine AW.ret ?_
          exact kA (.inr rfl) [] (P := ((yF xs) = false)) zk (by first | exact gV (k := i) zo (by first | exact gW (by assumption) | exact wD (k := k) zo zo ha (by assumption) (by assumption)) | exact gU zo | exact fD zo (fun j hj => ha j zo))
        · obtain ⟨hx17, hx18, hx19⟩ := CsW.at (kQ : CsW xs) (k)
          refine kI [.no, .no, .no, .n i, .ds [D.lit (.string (strOfNums (kF xs i))), D.sl (dI .u64 (kD xs i)) (ka0 (kD xs i)), D.lit (.int .u64 (kM xs i))], .no, .no, .no, .n k, .ds [D.lit (.string (strOfNums (kF xs k))), D.sl (dI .u64 (kD xs k)) (ka0 (kD xs k)), D.lit (.int .u64 (kM xs k))], .call [] (bV false) [] 0 [] none] ((k8 (i : Int)) ∧ (i < q) ∧ (ka5 3 (kb2 (i * 3) (kB xs)) = [D.lit (.string (strOfNums (kF xs i))), D.sl (dI .u64 (kD xs i)) (ka0 (kD xs i)), D.lit (.int .u64 (kM xs i))]) ∧ (([D.lit (.string (strOfNums (kF xs i))), D.sl (dI .u64 (kD xs i)) (ka0 (kD xs i)), D.lit (.int .u64 (kM xs i))] : List D).length = 3) ∧ (k8 (k : Int)) ∧ (k < q) ∧ (ka5 3 (kb2 (k * 3) (kB xs)) = [D.lit (.string (strOfNums (kF xs k))), D.sl (dI .u64 (kD xs k)) (ka0 (kD xs k)), D.lit (.int .u64 (kM xs k))]) ∧ (([D.lit (.string (strOfNums (kF xs k))), D.sl (dI .u64 (kD xs k)) (ka0 (kD xs k)), D.lit (.int .u64 (kM xs k))] : List D).length = 3) ∧ (Fun 27 [.agg [.d (D.lit (.string (strOfNums (kF xs i)))), .d (D.sl (dI .u64 (kD xs i)) (ka0 (kD xs i))), .d (D.lit (.int .u64 (kM xs i)))], .agg [.d (D.lit (.string (strOfNums (kF xs k)))), .d (D.sl (dI .u64 (kD xs k)) (ka0 (kD xs k))), .d (D.lit (.int .u64 (kM xs k)))]] (kC []) 0 (bV false) (kC []) 0)) [(1, rV 0 0), (3, uV i), (4, uV k), (34, bV false)] [(0, some (25, .ds [D.sl (kB xs) q]))] 1 ⟨rfl, zo, (q7 (i := i) y2), rfl, rfl, zo, (q7 (i := k) y2), rfl, (by have h0 := (cA (kF xs i) (kD xs i) (ka0 (kD xs i)) (kM xs i) (kF xs k) (kD xs k) (ka0 (kD xs k)) (kM xs k) (kQ : Byt (kF xs i)) qX rfl qX (kQ : Byt (kF xs k)) qX rfl qX); rw [hx13] at h0; exact h0)⟩ ?_
          refine uF ?_
          refine cG [.no, .w, .no] (uU ((k : Int) + 1)) [(1, rV 0 0), (3, uV i), (4, iV (↑k + 1))] ⟨by omega, by omega⟩ ?_
          exact kY ⟨((k + 1) : Nat), ⟨aF, (fun j hj => (Nat.lt_succ_iff_lt_or_eq.1 hj).elim (hb j) (fun e9 => by subst e9; assumption))⟩⟩ [] (P := (kT 0) ∧ (k8 (i : Int)) ∧ (y4 k) ∧ (kR [D.sl (kB xs) q])) zk ⟨rfl, rfl, eW, rfl⟩ (show i - (k + 1) < i - k from (by first | omega | (show _ < _; simp; omega)))
      · refine zr [.no, .no, .b false] [1, 3, 4, 21] [0] (¬ ((k : Int) < (i : Int))) [(1, rV 0 0), (3, uV i), (4, uV k), (21, bV false)] [(0, some (25, .ds [D.sl (kB xs) q]))] 1 zo ?_
        refine zf ?_
        refine AW.exit ?_
        refine bQ [.no, .w, .no] (uU ((i : Int) + 1)) [(1, rV 0 0), (3, iV (↑i + 1))] [(0, some (25, .ds [D.sl (kB xs) q]))] 1 ⟨by omega, by omega⟩ ?_
        exact kY ⟨((i + 1) : Nat), ⟨aF, (fun j hj => (Nat.lt_succ_iff_lt_or_eq.1 hj).elim (ha j) (fun e9 => by subst e9; exact k3p zo ha (by assumption) (fun m hm => hb m zo)))⟩⟩ [] (P := (kT 0) ∧ (y4 i) ∧ (kR [D.sl (kB xs) q])) zk ⟨rfl, eW, rfl⟩ (show q - (i + 1) < q - i from (by first | omega | (show _ < _; simp; omega)))
    · obtain ⟨hx20, hx21, hx22⟩ := CsW.at (kQ : CsW xs) (i)
      refine kI [.no, .no, .no, .n i, .ds [D.lit (.string (strOfNums (kF xs i))), D.sl (dI .u64 (kD xs i)) (ka0 (kD xs i)), D.lit (.int .u64 (kM xs i))], .call [] (bV false) [] 0 [] none, .no] ((k8 (i : Int)) ∧ (i < q) ∧ (ka5 3 (kb2 (i * 3) (kB xs)) = [D.lit (.string (strOfNums (kF xs i))), D.sl (dI .u64 (kD xs i)) (ka0 (kD xs i)), D.lit (.int .u64 (kM xs i))]) ∧ (([D.lit (.string (strOfNums (kF xs i))), D.sl (dI .u64 (kD xs i)) (ka0 (kD xs i)), D.lit (.int .u64 (kM xs i))] : List D).length = 3) ∧ (Fun 26 [.agg [.d (D.lit (.string (strOfNums (kF xs i)))), .d (D.sl (dI .u64 (kD xs i)) (ka0 (kD xs i))), .d (D.lit (.int .u64 (kM xs i)))]] (kC []) 0 (bV false) (kC []) 0)) [(1, rV 0 0), (3, uV i), (18, bV true)] [(0, some (25, .ds [D.sl (kB xs) q]))] 1 ⟨rfl, zo, (q7 (i := i) y2), rfl, (by have h0 := (b9 (kF xs i) (kD xs i) (ka0 (kD xs i)) (kM xs i) (kQ : Byt (kF xs i)) qX rfl qX); rw [hx5] at h0; exact h0)⟩ ?_
      refine zt ?_
      refine kI [.no] True [(2, bV false)] [] 1 trivial ?_
      refine AW.ret ?_
      exact kA (.inr rfl) [] (P := ((yF xs) = false)) zk (by first | exact gV (k := i) zo (by first | exact gW (by assumption) | exact wD (k := k) zo zo ha (by assumption) (by assumption)) | exact gU zo | exact fD zo (fun j hj => ha j zo))
  · refine zr (qA 4 [.b false]) [1, 3, 9] [0] (¬ ((i : Int) < (q : Int))) [(1, rV 0 0), (3, uV i), (9, bV false)] [(0, some (25, .ds [D.sl (kB xs) q]))] 1 zo ?_
    refine zf ?_
    refine AW.exit ?_
    by_cases hx23 : (((q : Nat) : Int) ≤ 32)
    · refine zr [.no, .no, .no, .b true, .no] [2] [] (((q : Int) ≤ 32)) [(2, bV true)] [] 1 zo ?_
      refine AW.ret ?_
      exact kA (.inr rfl) [] (P := ((yF xs) = true)) zk (by first | exact gV (k := i) zo (by first | exact gW (by assumption) | exact wD (k := k) zo zo ha (by assumption) (by assumption)) | exact gU zo | exact fD zo (fun j hj => ha j zo))
    · refine zr [.no, .no, .no, .b false, .no] [2] [] (¬ ((q : Int) ≤ 32)) [(2, bV false)] [] 1 zo ?_
      refine AW.ret ?_
      exact kA (.inr rfl) [] (P := ((yF xs) = false)) zk (by first | exact gV (k := i) zo (by first | exact gW (by assumption) | exact wD (k := k) zo zo ha (by assumption) (by assumption)) | exact gU zo | exact fD zo (fun j hj => ha j zo))
theorem vD {p : Prop} (h : p := by first | omega | (simp only [kK, kH, kO, ka8, uL, ka4, kb5, kb6, kb8, kc0, kc4, ka8, kc8, kd6, ke3] <;> omega) | rfl) : p := h
theorem k1h (xs : List Ch) (q : Nat) (r s : List Int) (n : Nat) (d : Int) (hq : ka0 xs = q) (h0 : q ≤ 1000000) (hX : CsW xs) (hr : Byt r) (hl : ka0 r ≤ 1000000) (hn : ka0 s = n) (h1 : n ≤ 1000000) : Fun 13 [.agg [.d (D.sl (kB xs) q)], .agg [.d (D.lit (.string (strOfNums r))), .d (D.sl (dI .u64 s) n), .d (D.lit (.int .u64 d))]] (kC []) 0 (.tup [.agg [.d (D.sl (kB (kE xs r s d)) (ka0 (kE xs r s d)))], iE (aA xs r s d)]) (kC []) 0 := by
  refine Fun.mk (n := 55) Try.func13 rfl rfl (ka3 rfl) ?_
  intro cx hcx
  refine kI (qA 4 []) True [(2, rV 0 0), (3, rV 1 0), (4, rV 2 0)] [(0, some (25, .ds [D.sl (kB xs) q])), (1, some (29, .ds [D.lit (.string (strOfNums r)), D.sl (dI .u64 s) n, D.lit (.int .u64 d)])), (2, some (25, .ds [uC]))] 3 trivial ?_
  refine AW.seq ?_
  rcases ka6 (yF xs) with hx1 | hx1
  · refine zr [.no, .call [] (bV true) [] 0 [] none, .no] [2, 3, 4, 10] [0, 1, 2] (Fun 11 [.agg [.d (D.sl (kB xs) q)]] (kC []) 0 (bV true) (kC []) 0) [(2, rV 0 0), (3, rV 1 0), (4, rV 2 0), (10, bV false)] [(0, some (25, .ds [D.sl (kB xs) q])), (1, some (29, .ds [D.lit (.string (strOfNums r)), D.sl (dI .u64 s) n, D.lit (.int .u64 d)])), (2, some (25, .ds [uC]))] 3 (by have h0 := (jF xs q zo zo (kQ : CsW xs)); rw [hx1] at h0; exact h0) ?_
    refine uF ?_
    refine AW.seq ?_
    rcases ka6 (uS r s d) with hx2 | hx2
    · refine zr [.no, .call [] (bV true) [] 0 [] none, .no] [2, 3, 4, 14] [0, 1, 2] (Fun 26 [.agg [.d (D.lit (.string (strOfNums r))), .d (D.sl (dI .u64 s) n), .d (D.lit (.int .u64 d))]] (kC []) 0 (bV true) (kC []) 0) [(2, rV 0 0), (3, rV 1 0), (4, rV 2 0), (14, bV false)] [(0, some (25, .ds [D.sl (kB xs) q])), (1, some (29, .ds [D.lit (.string (strOfNums r)), D.sl (dI .u64 s) n, D.lit (.int .u64 d)])), (2, some (25, .ds [uC]))] 3 (by have h0 := (b9 r s n d (kQ : Byt r) zo zo zo); rw [hx2] at h0; exact h0) ?_
      refine uF ?_
      refine kI [.no] True [(2, rV 0 0), (3, rV 1 0), (4, rV 2 0), (6, nV)] [(0, some (25, .ds [D.sl (kB xs) q])), (1, some (29, .ds [D.lit (.string (strOfNums r)), D.sl (dI .u64 s) n, D.lit (.int .u64 d)])), (2, some (25, .ds [uC]))] 3 trivial ?_
      refine AW.seq ?_
      refine yT [.no] True [(2, rV 0 0), (3, rV 1 0), (4, rV 2 0), (6, nV), (7, iV 0)] trivial ?_
      refine AW.block ?_
      refine AW.adoptS 6 3 29 rfl ?_
      refine kV 0 hcx (fun (x : {x : Nat × Nat × List Ch // match x with | (k, m, o) => (k ≤ q ∧ m ≤ k) ∧ (qZ (ka5 k xs) r s = o) ∧ (ka0 o = m)}) => match x with | ⟨(k, m, o), _⟩ => (⟨[(2, rV 0 0), (3, rV 1 0), (4, rV 2 0), (6, oV 4 0 m 3), (7, uV k)], [(0, some (25, .ds [D.sl (kB xs) q])), (1, some (29, .ds [D.lit (.string (strOfNums r)), D.sl (dI .u64 s) n, D.lit (.int .u64 d)])), (2, some (25, .ds [uC])), (4, some (29, .ds (kB o)))], 5⟩ : ES)) (fun x => match x with | ⟨(k, m, o), _⟩ => q - k) ⟨((0 : Nat), (0 : Nat), (([] : List Ch) : List Ch)), ⟨aF, rfl, rfl⟩⟩ [(4, 3)] (P := (kT 0) ∧ (kT 0) ∧ (kT 0) ∧ (kT 0) ∧ (kT 0) ∧ (k8 0) ∧ (kR [D.sl (kB xs) q]) ∧ (kR [D.lit (.string (strOfNums r)), D.sl (dI .u64 s) n, D.lit (.int .u64 d)]) ∧ (kR [uC]) ∧ (((kB ([] : List Ch)) : List D) = ([] : List D))) zk ⟨rfl, rfl, rfl, rfl, rfl, rfl, rfl, rfl, rfl, (by first | rfl | with_reducible assumption)⟩ ?_
      rintro ⟨⟨k, m, o⟩, hinv0⟩
      obtain ⟨hk, hO, hL⟩ : (k ≤ q ∧ m ≤ k) ∧ (qZ (ka5 k xs) r s = o) ∧ (ka0 o = m) := hinv0
      refine qW (l := [(2, rV 0 0), (3, rV 1 0), (4, rV 2 0), (6, oV 4 0 m 3), (7, uV k)]) (g := [(0, some (25, .ds [D.sl (kB xs) q])), (1, some (29, .ds [D.lit (.string (strOfNums r)), D.sl (dI .u64 s) n, D.lit (.int .u64 d)])), (2, some (25, .ds [uC])), (4, some (29, .ds (kB o)))]) (nx := 5) rfl rfl rfl ?_
      refine AW.seq ?_
      by_cases hx3 : (((k : Nat) : Int) < ((q : Nat) : Int))
      · refine zr (qA 4 [.b true]) [2, 3, 4, 6, 7, 20] [0, 1, 2, 4] (((k : Int) < (q : Int))) [(2, rV 0 0), (3, rV 1 0), (4, rV 2 0), (6, oV 4 0 m 3), (7, uV k), (20, bV true)] [(0, some (25, .ds [D.sl (kB xs) q])), (1, some (29, .ds [D.lit (.string (strOfNums r)), D.sl (dI .u64 s) n, D.lit (.int .u64 d)])), (2, some (25, .ds [uC])), (4, some (29, .ds (kB o)))] 5 zo ?_
        refine cB ?_
        refine AW.seq ?_
        refine AW.block ?_
        rcases ka6 (dQ (kF xs k) (kD xs k) r s) with hx7 | hx7
        · obtain ⟨hx8, hx9, hx10⟩ := CsW.at (kQ : CsW xs) (k)
          refine kI [.no, .no, .no, .n k, .ds [D.lit (.string (strOfNums (kF xs k))), D.sl (dI .u64 (kD xs k)) (ka0 (kD xs k)), D.lit (.int .u64 (kM xs k))], .no, .call [] (bV true) [] 0 [] none, .no] ((k8 (k : Int)) ∧ (k < q) ∧ (ka5 3 (kb2 (k * 3) (kB xs)) = [D.lit (.string (strOfNums (kF xs k))), D.sl (dI .u64 (kD xs k)) (ka0 (kD xs k)), D.lit (.int .u64 (kM xs k))]) ∧ (([D.lit (.string (strOfNums (kF xs k))), D.sl (dI .u64 (kD xs k)) (ka0 (kD xs k)), D.lit (.int .u64 (kM xs k))] : List D).length = 3) ∧ (Fun 27 [.agg [.d (D.lit (.string (strOfNums (kF xs k)))), .d (D.sl (dI .u64 (kD xs k)) (ka0 (kD xs k))), .d (D.lit (.int .u64 (kM xs k)))], .agg [.d (D.lit (.string (strOfNums r))), .d (D.sl (dI .u64 s) n), .d (D.lit (.int .u64 d))]] (kC []) 0 (bV true) (kC []) 0)) [(2, rV 0 0), (3, rV 1 0), (4, rV 2 0), (6, oV 4 0 m 3), (7, uV k), (30, bV false)] [(0, some (25, .ds [D.sl (kB xs) q])), (1, some (29, .ds [D.lit (.string (strOfNums r)), D.sl (dI .u64 s) n, D.lit (.int .u64 d)])), (2, some (25, .ds [uC])), (4, some (29, .ds (kB o)))] 5 ⟨rfl, zo, (q7 (i := k) y2), rfl, (by have h0 := (cA (kF xs k) (kD xs k) (ka0 (kD xs k)) (kM xs k) r s n d (kQ : Byt (kF xs k)) qX rfl qX (kQ : Byt r) zo zo zo); rw [hx7] at h0; exact h0)⟩ ?_
          refine uF ?_
          refine cG [.no, .w, .no] (uU ((k : Int) + 1)) [(2, rV 0 0), (3, rV 1 0), (4, rV 2 0), (6, oV 4 0 m 3), (7, iV (↑k + 1))] ⟨by omega, by omega⟩ ?_
          exact kY ⟨(((k + 1) : Nat), (m : Nat), (o : List Ch)), ⟨aF, (by first | exact (hO ▸ k1y (by assumption) (by assumption) zo (by assumption)) | exact ((k1z (by assumption) (by assumption) zo (by assumption)).trans hO)), (by first | assumption | omega | (simp only [kK, kH, kO, ka8, ka4, kb5, kb6] <;> omega))⟩⟩ [] (P := (kT 0) ∧ (kT 0) ∧ (kT 0) ∧ (kT 0) ∧ (kT m) ∧ (y4 k) ∧ (kR [D.sl (kB xs) q]) ∧ (kR [D.lit (.string (strOfNums r)), D.sl (dI .u64 s) n, D.lit (.int .u64 d)]) ∧ (kR [uC]) ∧ (kR (kB o))) zk ⟨rfl, rfl, rfl, rfl, rfl, eW, rfl, rfl, rfl, rfl⟩ (show q - (k + 1) < q - k from (by first | omega | (show _ < _; simp; omega)))
        · obtain ⟨hx11, hx12, hx13⟩ := CsW.at (kQ : CsW xs) (k)
          refine kI [.no, .no, .no, .n k, .ds [D.lit (.string (strOfNums (kF xs k))), D.sl (dI .u64 (kD xs k)) (ka0 (kD xs k)), D.lit (.int .u64 (kM xs k))], .no, .call [] (bV false) [] 0 [] none, .no] ((k8 (k : Int)) ∧ (k < q) ∧ (ka5 3 (kb2 (k * 3) (kB xs)) = [D.lit (.string (strOfNums (kF xs k))), D.sl (dI .u64 (kD xs k)) (ka0 (kD xs k)), D.lit (.int .u64 (kM xs k))]) ∧ (([D.lit (.string (strOfNums (kF xs k))), D.sl (dI .u64 (kD xs k)) (ka0 (kD xs k)), D.lit (.int .u64 (kM xs k))] : List D).length = 3) ∧ (Fun 27 [.agg [.d (D.lit (.string (strOfNums (kF xs k)))), .d (D.sl (dI .u64 (kD xs k)) (ka0 (kD xs k))), .d (D.lit (.int .u64 (kM xs k)))], .agg [.d (D.lit (.string (strOfNums r))), .d (D.sl (dI .u64 s) n), .d (D.lit (.int .u64 d))]] (kC []) 0 (bV false) (kC []) 0)) [(2, rV 0 0), (3, rV 1 0), (4, rV 2 0), (6, oV 4 0 m 3), (7, uV k), (30, bV true)] [(0, some (25, .ds [D.sl (kB xs) q])), (1, some (29, .ds [D.lit (.string (strOfNums r)), D.sl (dI .u64 s) n, D.lit (.int .u64 d)])), (2, some (25, .ds [uC])), (4, some (29, .ds (kB o)))] 5 ⟨rfl, zo, (q7 (i := k) y2), rfl, (by have h0 := (cA (kF xs k) (kD xs k) (ka0 (kD xs k)) (kM xs k) r s n d (kQ : Byt (kF xs k)) qX rfl qX (kQ : Byt r) zo zo zo); rw [hx7] at h0; exact h0)⟩ ?_
          refine zt ?_
          refine bQ (qA 4 [.n k, .ds [D.lit (.string (strOfNums (kF xs k))), D.sl (dI .u64 (kD xs k)) (ka0 (kD xs k)), D.lit (.int .u64 (kM xs k))], .no, .ap none (m + 1) (kB (o ++ ([(kZ (kF xs k) (kD xs k) (kM xs k))] : List Ch))), .no]) ((k8 (k : Int)) ∧ (k < q) ∧ (ka5 3 (kb2 (k * 3) (kB xs)) = [D.lit (.string (strOfNums (kF xs k))), D.sl (dI .u64 (kD xs k)) (ka0 (kD xs k)), D.lit (.int .u64 (kM xs k))]) ∧ (([D.lit (.string (strOfNums (kF xs k))), D.sl (dI .u64 (kD xs k)) (ka0 (kD xs k)), D.lit (.int .u64 (kM xs k))] : List D).length = 3) ∧ ([D.lit (.string (strOfNums (kF xs k))), D.sl (dI .u64 (kD xs k)) (ka0 (kD xs k)), D.lit (.int .u64 (kM xs k))].length = 1 * 3) ∧ (((kB o) : List D).length = m * 3) ∧ ((m + 1) * 48 ≤ 140737488355328) ∧ (m + 1 = (m + 1)) ∧ (((kB o) : List D) ++ [D.lit (.string (strOfNums (kF xs k))), D.sl (dI .u64 (kD xs k)) (ka0 (kD xs k)), D.lit (.int .u64 (kM xs k))] = (kB (o ++ ([(kZ (kF xs k) (kD xs k) (kM xs k))] : List Ch))))) [(2, rV 0 0), (3, rV 1 0), (4, rV 2 0), (6, oV 6 0 (m + 1) 3), (7, uV k)] [(0, some (25, .ds [D.sl (kB xs) q])), (1, some (29, .ds [D.lit (.string (strOfNums r)), D.sl (dI .u64 s) n, D.lit (.int .u64 d)])), (2, some (25, .ds [uC])), (6, some (29, .ds (kB (o ++ ([(kZ (kF xs k) (kD xs k) (kM xs k))] : List Ch)))))] 7 ⟨rfl, zo, (q7 (i := k) y2), rfl, vD, vD, zo, zo, (gL o (kF xs k) (kD xs k) (ka0 (kD xs k)) (kM xs k) (by first | rfl | assumption | omega))⟩ ?_
          refine cG [.no, .w, .no] (uU ((k : Int) + 1)) [(2, rV 0 0), (3, rV 1 0), (4, rV 2 0), (6, oV 6 0 (m + 1) 3), (7, iV (↑k + 1))] ⟨by omega, by omega⟩ ?_
          exact kY ⟨(((k + 1) : Nat), ((m + 1) : Nat), ((o ++ ([(kZ (kF xs k) (kD xs k) (kM xs k))] : List Ch)) : List Ch)), ⟨aF, (by first | exact (hO ▸ k1y (by assumption) (by assumption) zo (by assumption)) | exact ((k1z (by assumption) (by assumption) zo (by assumption)).trans hO)), (by first | assumption | omega | (simp only [kK, kH, kO, ka8, ka4, kb5, kb6] <;> omega))⟩⟩ [(4, 6)] (P := (kT 0) ∧ (kT 0) ∧ (kT 0) ∧ (kT 0) ∧ (kT (m + 1)) ∧ (y4 k) ∧ (kR [D.sl (kB xs) q]) ∧ (kR [D.lit (.string (strOfNums r)), D.sl (dI .u64 s) n, D.lit (.int .u64 d)]) ∧ (kR [uC]) ∧ (kR (kB (o ++ ([(kZ (kF xs k) (kD xs k) (kM xs k))] : List Ch))))) zk ⟨rfl, rfl, rfl, rfl, rfl, eW, rfl, rfl, rfl, rfl⟩ (show q - (k + 1) < q - k from (by first | omega | (show _ < _; simp; omega)))
      · refine zr (qA 4 [.b false]) [2, 3, 4, 6, 7, 20] [0, 1, 2, 4] (¬ ((k : Int) < (q : Int))) [(2, rV 0 0), (3, rV 1 0), (4, rV 2 0), (6, oV 4 0 m 3), (7, uV k), (20, bV false)] [(0, some (25, .ds [D.sl (kB xs) q])), (1, some (29, .ds [D.lit (.string (strOfNums r)), D.sl (dI .u64 s) n, D.lit (.int .u64 d)])), (2, some (25, .ds [uC])), (4, some (29, .ds (kB o)))] 5 zo ?_
        refine zf ?_
        refine AW.exit ?_
        refine kI [.no, .no, .no, .ap none (0 + n) (dI .u64 s), .no, .no] (((dI .u64 s).length = n * 1) ∧ ((([] : List D) : List D).length = 0 * 1) ∧ ((0 + n) * 8 ≤ 140737488355328) ∧ ((0 : Nat) + n = (0 + n)) ∧ ((([] : List D) : List D) ++ (dI .u64 s) = (dI .u64 s))) [(3, rV 1 0), (4, rV 2 0), (6, oV 4 0 m 3)] [(1, some (29, .cs [.d (D.lit (.string (strOfNums r))), .own 6 0 (0 + n) 1 true, .d (D.lit (.int .u64 d))])), (2, some (25, .ds [uC])), (4, some (29, .ds (kB o))), (6, some (27, .ds (dI .u64 s)))] 7 ⟨vD, vD, zo, zo, rfl⟩ ?_
        refine AW.freeze 6 (l' := [(3, rV 1 0), (4, rV 2 0), (6, oV 4 0 m 3)]) (g' := [(1, some (29, .ds [D.lit (.string (strOfNums r)), D.sl (dI .u64 s) (0 + n), D.lit (.int .u64 d)])), (2, some (25, .ds [uC])), (4, some (29, .ds (kB o)))]) rfl (FzS.cons rfl (.same _) (FzS.cons rfl (.same _) (FzS.cons rfl (.same _) FzS.nil))) (FzG.to (bc := .cs [.d (D.lit (.string (strOfNums r))), .own 6 0 (0 + n) 1 true, .d (D.lit (.int .u64 d))]) rfl (by rfl) (FzL.cons (.same _) (FzL.cons (@FzC.own 6 ((dI .u64 s) : List D) 0 (0 + n) 1 true ((dI .u64 s) : List D) (by rw [kf5, ke3, kc5 (by first | omega | (simp only [kK, kH, kO, ka8, uL, ka4, kb5, kb6, kb8, kc0, kc4, ka8, kc8, kd6, ke3] <;> omega))]) vD) (FzL.cons (.same _) FzL.nil))) (vS rfl rfl (vS rfl rfl FzG.nil))) ?_
        refine kI [.no, .no, .no, .ap none (m + 1) (kB (o ++ ([(kZ r s d)] : List Ch))), .no] (([D.lit (.string (strOfNums r)), D.sl (dI .u64 s) (0 + n), D.lit (.int .u64 d)].length = 1 * 3) ∧ (((kB o) : List D).length = m * 3) ∧ ((m + 1) * 48 ≤ 140737488355328) ∧ (m + 1 = (m + 1)) ∧ (((kB o) : List D) ++ [D.lit (.string (strOfNums r)), D.sl (dI .u64 s) (0 + n), D.lit (.int .u64 d)] = (kB (o ++ ([(kZ r s d)] : List Ch))))) [(4, rV 2 0), (6, oV 8 0 (m + 1) 3)] [(2, some (25, .ds [uC])), (8, some (29, .ds (kB (o ++ ([(kZ r s d)] : List Ch)))))] 9 ⟨vD, vD, zo, zo, (gL o r s (0 + n) d (by first | rfl | assumption | omega))⟩ ?_
        refine AW.freeze 8 (l' := [(4, rV 2 0), (6, uT (kB (o ++ ([(kZ r s d)] : List Ch))) (m + 1))]) (g' := [(2, some (25, .ds [uC]))]) rfl (FzS.cons rfl (.same _) (FzS.cons rfl (.e (.c (@FzC.own 8 ((kB (o ++ ([(kZ r s d)] : List Ch))) : List D) 0 (m + 1) 3 true ((kB (o ++ ([(kZ r s d)] : List Ch))) : List D) (by rw [kf5, kc5 (by first | omega | (simp only [kK, kH, kO, ka8, uL, ka4, kb5, kb6, kb8, kc0, kc4, ka8, kc8, kd6, ke3] <;> omega))]) vD))) FzS.nil)) (vS rfl rfl FzG.nil) ?_
        refine kI [.no, .no, .no, .w, .no, .sls (kc6 (max 0 ((((m + 1) : Nat) : Int) - 32))) (m + 1) ((m + 1) - (kc6 (max 0 ((((m + 1) : Nat) : Int) - 32)))) (kB (ka5 ((m + 1) - (kc6 (max 0 ((((m + 1) : Nat) : Int) - 32)))) (kb2 (kc6 (max 0 ((((m + 1) : Nat) : Int) - 32))) (o ++ ([(kZ r s d)] : List Ch))))), .no, .no, .no] ((uU ((((m + 1) : Nat) : Int) - 32)) ∧ (((max 0 ((((m + 1) : Nat) : Int) - 32)) : Int) = (((kc6 (max 0 ((((m + 1) : Nat) : Int) - 32))) : Nat) : Int)) ∧ ((m + 1) = (m + 1)) ∧ ((kc6 (max 0 ((((m + 1) : Nat) : Int) - 32))) ≤ (m + 1)) ∧ ((m + 1) ≤ (m + 1)) ∧ ((m + 1) - (kc6 (max 0 ((((m + 1) : Nat) : Int) - 32))) = ((m + 1) - (kc6 (max 0 ((((m + 1) : Nat) : Int) - 32))))) ∧ (ka5 (((m + 1) - (kc6 (max 0 ((((m + 1) : Nat) : Int) - 32)))) * 3) (kb2 ((kc6 (max 0 ((((m + 1) : Nat) : Int) - 32))) * 3) (kB (o ++ ([(kZ r s d)] : List Ch)))) = (kB (ka5 ((m + 1) - (kc6 (max 0 ((((m + 1) : Nat) : Int) - 32)))) (kb2 (kc6 (max 0 ((((m + 1) : Nat) : Int) - 32))) (o ++ ([(kZ r s d)] : List Ch))))))) [(4, rV 2 0), (5, iV 0)] [(2, some (25, .ds [D.sl (kB (ka5 ((m + 1) - (kc6 (max 0 ((((m + 1) : Nat) : Int) - 32)))) (kb2 (kc6 (max 0 ((((m + 1) : Nat) : Int) - 32))) (o ++ ([(kZ r s d)] : List Ch))))) ((m + 1) - (kc6 (max 0 ((((m + 1) : Nat) : Int) - 32))))]))] 9 ⟨⟨by omega, by omega⟩, (by first | rfl | omega), rfl, zo, zo, zo, (by rw [a7, yX])⟩ ?_
        obtain ⟨hz1, hz2⟩ := jT hx1 hx2
        have hz3 : qZ xs r s = o := by have h9 := hO; rw [kc5 (by omega)] at h9; exact h9
        refine AW.ret ?_
        exact kA (.inr rfl) [] (P := (((kB (kE xs r s d)) : List D) = (kB (ka5 ((m + 1) - (kc6 (max 0 ((((m + 1) : Nat) : Int) - 32)))) (kb2 (kc6 (max 0 ((((m + 1) : Nat) : Int) - 32))) (o ++ ([(kZ r s d)] : List Ch)))))) ∧ (((ka0 (kE xs r s d)) : Nat) = ((m + 1) - (kc6 (max 0 ((((m + 1) : Nat) : Int) - 32))))) ∧ (((aA xs r s d) : Int) = 0)) zk ⟨(by first | rfl | exact hz2 | exact hz2.symm | exact congrArg kB (uH hz1 hz3 hL zo).1 | exact (uH hz1 hz3 hL zo).2 | (rw [hz1]; done) | (rw [hz1]; rfl) | omega), (by first | rfl | exact hz2 | exact hz2.symm | exact congrArg kB (uH hz1 hz3 hL zo).1 | exact (uH hz1 hz3 hL zo).2 | (rw [hz1]; done) | (rw [hz1]; rfl) | omega), (by first | rfl | exact hz2 | exact hz2.symm | exact congrArg kB (uH hz1 hz3 hL zo).1 | exact (uH hz1 hz3 hL zo).2 | (rw [hz1]; done) | (rw [hz1]; rfl) | omega)⟩
    · refine zr [.no, .call [] (bV false) [] 0 [] none, .no] [2, 3, 4, 14] [0, 1, 2] (Fun 26 [.agg [.d (D.lit (.string (strOfNums r))), .d (D.sl (dI .u64 s) n), .d (D.lit (.int .u64 d))]] (kC []) 0 (bV false) (kC []) 0) [(2, rV 0 0), (3, rV 1 0), (4, rV 2 0), (14, bV true)] [(0, some (25, .ds [D.sl (kB xs) q])), (1, some (29, .ds [D.lit (.string (strOfNums r)), D.sl (dI .u64 s) n, D.lit (.int .u64 d)])), (2, some (25, .ds [uC]))] 3 (by have h0 := (b9 r s n d (kQ : Byt r) zo zo zo); rw [hx2] at h0; exact h0) ?_
      refine zt ?_
      refine kI [.no, .no, .no] True [(4, rV 2 0), (5, iV 2)] [(2, some (25, .ds [uC]))] 3 trivial ?_
      obtain ⟨hz1, hz2⟩ := k1w hx1 hx2
      refine dN (l' := [(4, rV 2 0), (5, iV 2)]) (g' := [(2, some (25, .ds [D.sl ([] : List D) 0]))]) (NlS.cons rfl (.same _) (NlS.cons rfl (.same _) NlS.nil)) (NlG.to (bc := .ds [uC]) rfl (NlL.cons (.nil) NlL.nil) NlG.nil) ?_
      refine AW.ret ?_
      exact kA (.inr rfl) [] (P := (((kB (kE xs r s d)) : List D) = ([] : List D)) ∧ (((ka0 (kE xs r s d)) : Nat) = 0) ∧ (((aA xs r s d) : Int) = 2)) zk ⟨(by first | rfl | exact hz2 | exact hz2.symm | exact congrArg kB (uH hz1 hz3 hL zo).1 | exact (uH hz1 hz3 hL zo).2 | (rw [hz1]; done) | (rw [hz1]; rfl) | omega), (by first | rfl | exact hz2 | exact hz2.symm | exact congrArg kB (uH hz1 hz3 hL zo).1 | exact (uH hz1 hz3 hL zo).2 | (rw [hz1]; done) | (rw [hz1]; rfl) | omega), (by first | rfl | exact hz2 | exact hz2.symm | exact congrArg kB (uH hz1 hz3 hL zo).1 | exact (uH hz1 hz3 hL zo).2 | (rw [hz1]; done) | (rw [hz1]; rfl) | omega)⟩
  · refine zr [.no, .call [] (bV false) [] 0 [] none, .no] [2, 3, 4, 10] [0, 1, 2] (Fun 11 [.agg [.d (D.sl (kB xs) q)]] (kC []) 0 (bV false) (kC []) 0) [(2, rV 0 0), (3, rV 1 0), (4, rV 2 0), (10, bV true)] [(0, some (25, .ds [D.sl (kB xs) q])), (1, some (29, .ds [D.lit (.string (strOfNums r)), D.sl (dI .u64 s) n, D.lit (.int .u64 d)])), (2, some (25, .ds [uC]))] 3 (by have h0 := (jF xs q zo zo (kQ : CsW xs)); rw [hx1] at h0; exact h0) ?_
    refine zt ?_
    refine kI [.no, .no, .no] True [(4, rV 2 0), (5, iV 1)] [(2, some (25, .ds [uC]))] 3 trivial ?_
    obtain ⟨hz1, hz2⟩ := k1x (r := r) (s := s) (d := d) hx1
    refine dN (l' := [(4, rV 2 0), (5, iV 1)]) (g' := [(2, some (25, .ds [D.sl ([] : List D) 0]))]) (NlS.cons rfl (.same _) (NlS.cons rfl (.same _) NlS.nil)) (NlG.to (bc := .ds [uC]) rfl (NlL.cons (.nil) NlL.nil) NlG.nil) ?_
    refine AW.ret ?_
    exact kA (.inr rfl) [] (P := (((kB (kE xs r s d)) : List D) = ([] : List D)) ∧ (((ka0 (kE xs r s d)) : Nat) = 0) ∧ (((aA xs r s d) : Int) = 1)) zk ⟨(by first | rfl | exact hz2 | exact hz2.symm | exact congrArg kB (uH hz1 hz3 hL zo).1 | exact (uH hz1 hz3 hL zo).2 | (rw [hz1]; done) | (rw [hz1]; rfl) | omega), (by first | rfl | exact hz2 | exact hz2.symm | exact congrArg kB (uH hz1 hz3 hL zo).1 | exact (uH hz1 hz3 hL zo).2 | (rw [hz1]; done) | (rw [hz1]; rfl) | omega), (by first | rfl | exact hz2 | exact hz2.symm | exact congrArg kB (uH hz1 hz3 hL zo).1 | exact (uH hz1 hz3 hL zo).2 | (rw [hz1]; done) | (rw [hz1]; rfl) | omega)⟩
end Go.Proofs.Ytkjmlililpgamaa
