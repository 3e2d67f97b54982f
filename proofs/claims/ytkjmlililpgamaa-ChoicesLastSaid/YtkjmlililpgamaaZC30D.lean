/- The reference of choices. No statement is proved here. -/
import Derived.Test.YtkjmlililpgamaaZC30B
namespace Go.Proofs.Ytkjmlililpgamaa
open Go.ChangeShapes Go.WideShapes Go.ChangeAt Go.RowKit
open Bool renaming and_eq_true → kb2, eq_false_or_eq_true → ka7
open Int renaming toNat → kc9
open List renaming drop → kb4, drop_zero → kf7, getD → ka2, getD_eq_getElem?_getD → kb0, getElem?_eq_getElem → kb5, length → ka0, length_append → ka5, length_cons → kb7, length_drop → kc0, length_map → kd1, length_nil → kb8, length_replicate → kc5, length_reverse → kd8, length_set → ka8, length_take → kb9, mem_cons_self → ka4, pairwise_iff_getElem → ki2, take → ka6, take_of_length_le → kc7
open Nat renaming le_of_ble_eq_true → ka3, mul_one → ke5, not_lt_zero → kd3
set_option linter.unusedVariables false
set_option linter.unusedSimpArgs false
/-! choices: what the reference says, and choices of a deck -/
set_option maxHeartbeats 4000000
set_option maxRecDepth 100000
theorem nY {l : List Int} (h : v8 l = true) : l.Pairwise (· < ·) ∧ ∀ x ∈ l, 1 ≤ x := by
  have h1 : ∀ i, i < l.length → 1 ≤ ka2 l i 0 ∧ (i = 0 ∨ ka2 l (i - 1) 0 < ka2 l i 0) := fun i hi => of_decide_eq_true (List.all_eq_true.1 h i (List.mem_range.2 hi))
  have g : ∀ i (hi : i < l.length), ka2 l i 0 = l[i] := fun i hi => by rw [kb0, kb5 hi]; rfl
  constructor
  · rw [ki2]
    intro i j hi hj hij
    induction j with
    | zero => omega
    | succ j ih =>
      have h2 := (h1 (j + 1) hj).2
      rw [Nat.add_sub_cancel, g (j + 1) hj, g j (by omega)] at h2
      have h3 : l[j]'(by omega) < l[j + 1] := by omega
      by_cases e : i = j
      · subst e; exact h3
      · have := ih (by omega) (by omega); omega
  · intro x hx
    obtain ⟨j, hj, e⟩ := List.mem_iff_getElem.1 hx
    have := (h1 j hj).1
    rw [g j hj, e] at this; exact this
theorem k3e {l : List Int} (h : l.Pairwise (· < ·)) (h2 : ∀ x ∈ l, 1 ≤ x) : v8 l = true := by
  have g : ∀ i (hi : i < l.length), ka2 l i 0 = l[i] := fun i hi => by rw [kb0, kb5 hi]; rfl
  rw [ki2] at h
  refine pF fun i hi => decide_eq_true ⟨?_, ?_⟩
  · rw [g i hi]; exact h2 _ (List.getElem_mem hi)
  · by_cases e : i = 0
    · exact .inl e
    · right; rw [g i hi, g (i - 1) (by omega)]; exact h (i - 1) i (by omega) hi (by omega)
theorem cJ : ∀ (t s : List Int), s.Pairwise (· < ·) → t.Pairwise (· < ·) → (∀ x ∈ s, x ∈ t) → s.length ≤ t.length ∧ (s.length = t.length → s = t)
  | [], [], _, _, _ => ⟨Nat.le_refl _, fun _ => rfl⟩
  | [], x :: s, _, _, h => by have := h x (ka4 ..); cases this
  | y :: t, [], _, _, _ => ⟨Nat.zero_le _, fun h => by cases h⟩
  | y :: t, x :: s, hs, ht, h => by
    rw [List.pairwise_cons] at hs ht
    by_cases e : x = y
    · subst e
      have h1 := cJ t s hs.2 ht.2 fun z hz => by
        rcases List.mem_cons.1 (h z (List.mem_cons_of_mem _ hz)) with h2 | h2
        · have := hs.1 z hz; omega
        · exact h2
      exact ⟨Nat.succ_le_succ h1.1, fun h2 => by rw [h1.2 (Nat.succ.inj h2)]⟩
    · have h0 : x ∈ t := (List.mem_cons.1 (h x (ka4 ..))).resolve_left e
      have hxy := ht.1 x h0
      have h1 := cJ t (x :: s) (List.pairwise_cons.2 hs) ht.2 fun z hz => by
        rcases List.mem_cons.1 (h z hz) with h2 | h2
        · rcases List.mem_cons.1 hz with h3 | h3
          · omega
          · have := hs.1 z h3; omega
        · exact h2
      have h2 := h1.1
      exact ⟨Nat.le_succ_of_le h2, fun h3 => by rw [h3] at h2; exact absurd h2 (Nat.not_succ_le_self _)⟩
theorem lS {a b : List Int} (h : vZ a b = true) : ∀ x ∈ a, x ∈ b := fun x hx => of_decide_eq_true (List.all_eq_true.1 h x hx)
theorem pR {a b : List Int} (h : ∀ x ∈ a, x ∈ b) : vZ a b = true := List.all_eq_true.2 fun x hx => decide_eq_true (h x hx)
theorem k3k {a b : List Int} (ha : v8 a = true) (hb : v8 b = true) (h : vZ a b = true) : a.length ≤ b.length := (cJ b a (nY ha).1 (nY hb).1 (lS h)).1
theorem nX {r s r2 s2 : List Int} (h1 : v8 s = true) (h2 : v8 s2 = true) : eA r s r2 s2 = uQ r s r2 s2 := by
  by_cases e : r = r2
  · by_cases e2 : s = s2
    · subst e2
      rw [k49 e rfl (pR fun x hx => hx), k2w e (decide_eq_true rfl)]
    · rw [k2x (r := r) (r2 := r2) (show o2 s s2 = false from decide_eq_false e2)]
      by_cases e3 : s.length = s2.length
      · cases h : vZ s s2 with
        | false => exact k4b h
        | true => exact absurd ((cJ s2 s (nY h1).1 (nY h2).1 (lS h)).2 e3) e2
      · exact k4c e3
  · rw [k4a e, k2y e]
theorem k09 (r s r2 s2 : List Int) : uQ r s r2 s2 = uQ r2 s2 r s := by
  unfold uQ o2
  rw [show decide (r = r2) = decide (r2 = r) from decide_eq_decide.2 ⟨Eq.symm, Eq.symm⟩, show decide (s = s2) = decide (s2 = s) from decide_eq_decide.2 ⟨Eq.symm, Eq.symm⟩]
theorem vI {r s : List Int} {d : Int} (h : uW r s d = true) : v8 s = true := by
  unfold uW at h; rw [kb2, kb2, kb2] at h; exact h.2.2.1
theorem k3g {r s : List Int} {d : Int} (h : uW r s d = true) : y6 s d = true := by
  unfold uW at h; rw [kb2, kb2, kb2] at h; exact h.2.2.2
theorem iQ {xs : List Ch} {i : Nat} (h : cY xs i = true) : uW (kH xs i) (kD xs i) (kN xs i) = true := by
  unfold cY at h; rw [kb2] at h; exact h.1
theorem k2t {xs : List Ch} {i : Nat} (h : cY xs i = true) : jZ (ka6 i xs) (kH xs i) (kD xs i) = false := by
  unfold cY at h; rw [kb2] at h
  cases e : jZ (ka6 i xs) (kH xs i) (kD xs i) with
  | false => rfl
  | true => rw [e] at h; cases h.2
theorem j0 {xs : List Ch} {i k : Nat} (h : k < i) : yN (ka6 i xs) k = yN xs k := by
  unfold yN; rw [kb0, kb0, List.getElem?_take, if_pos h]
theorem k0k {xs : List Ch} {r s : List Int} (h : ∀ k, k < xs.length → uQ (kH xs k) (kD xs k) r s = false) : jZ xs r s = false := k2h rfl (by
  have h1 : u0 xs r s xs.length = -1 := cM _ h
  omega)
theorem k42 {xs : List Ch} {r s : List Int} {k : Nat} (hk : k < xs.length) (h : uQ (kH xs k) (kD xs k) r s = true) : jZ xs r s = true := by
  cases e : jZ xs r s with
  | true => rfl
  | false =>
    have h1 := dW (p := fun j => uQ (kH xs j) (kD xs j) r s) (n := xs.length) (of_decide_eq_false e) k hk
    exact (aX h h1).elim
theorem k44 {xs : List Ch} {r s : List Int} (h : jZ xs r s = false) : ∀ k, k < xs.length → uQ (kH xs k) (kD xs k) r s = false := dW (p := fun j => uQ (kH xs j) (kD xs j) r s) (of_decide_eq_false h)
theorem xS {xs : List Ch} {i k : Nat} (h : k < i) : kH (ka6 i xs) k = kH xs k := congrArg Ch.r (j0 h)
theorem xR {xs : List Ch} {i k : Nat} (h : k < i) : kD (ka6 i xs) k = kD xs k := congrArg Ch.s (j0 h)
theorem k4s {xs : List Ch} {i : Nat} (hi : i < xs.length) (hb : ∀ j, j < i → cY xs j = true) (h : uW (kH xs i) (kD xs i) (kN xs i) = true) (ha : ∀ m, m < i → eA (kH xs i) (kD xs i) (kH xs m) (kD xs m) = false) : cY xs i = true := by
  refine pP h (k0k fun k hk => ?_)
  rw [kb9] at hk
  have hk2 : k < i := by omega
  rw [xS hk2, xR hk2, k09, ← nX (vI h) (vI (iQ (hb k hk2)))]
  exact ha k hk2
theorem xQ {xs : List Ch} {i k : Nat} (hi : i < xs.length) (hk : k < i) (hb : ∀ j, j < i → cY xs j = true) (h : uW (kH xs i) (kD xs i) (kN xs i) = true) (h2 : eA (kH xs i) (kD xs i) (kH xs k) (kD xs k) = true) : cY xs i = false := by
  refine k06 (k42 (k := k) (by rw [kb9]; omega) ?_)
  rw [xS hk, xR hk, k09, ← nX (vI h) (vI (iQ (hb k hk)))]
  exact h2
theorem k31 {xs : List Ch} {r s : List Int} {d : Int} {j : Nat} (hv : yM xs = true) (hp : uW r s d = true) (hj : j < xs.length) (h : eA (kH xs j) (kD xs j) r s = false) : q5 (ka6 (j + 1) xs) r s = q5 (ka6 j xs) r s ++ [k9 (kH xs j) (kD xs j) (kN xs j)] := by
  rw [nX (vI (iQ ((pO hv).2 j hj))) (vI hp)] at h
  exact k1r (p := fun c => uQ c.r c.s r s) hj h
theorem k32 {xs : List Ch} {r s : List Int} {d : Int} {j : Nat} (hv : yM xs = true) (hp : uW r s d = true) (hj : j < xs.length) (h : eA (kH xs j) (kD xs j) r s = true) : q5 (ka6 (j + 1) xs) r s = q5 (ka6 j xs) r s := by
  rw [nX (vI (iQ ((pO hv).2 j hj))) (vI hp)] at h
  exact k1s (p := fun c => uQ c.r c.s r s) hj h
theorem uK {xs o : List Ch} {r s : List Int} {d : Int} {m A : Nat} (h1 : kF xs r s d = pY xs r s d) (h3 : q5 xs r s = o) (hL : o.length = m) (hA : A = m - 31) : kF xs r s d = ka6 ((m + 1) - A) (kb4 A (o ++ [k9 r s d])) ∧ (kF xs r s d).length = (m + 1) - A := by
  subst hA hL
  have e : (kb4 (o.length - 31) (o ++ [k9 r s d])).length = o.length + 1 - (o.length - 31) := by rw [kc0, ka5]; rfl
  rw [h1]; unfold pY; rw [h3]
  exact ⟨(kc7 (Nat.le_of_eq e)).symm, e⟩
theorem aK {p : Prop} (h : p := by first | omega | assumption | simp) : p := h
theorem y8 {p : Prop} (h : p := by first | omega | (simp only [kL, kJ, kO, ka8, ka5, kb7, kb8, kb9, kc0] <;> omega)) : p := h
theorem qY {p : Prop} (h : p := by first | omega | with_reducible assumption | (simp only [kL, kJ, kO, ka8, ka5, kb7, kb8, kb9, kc0, kc5, ka8] <;> omega) | rfl | assumption) : p := h
theorem fR {p : Prop} (h : p := by first | rfl | omega | assumption | (simp; done) | (simp; omega)) : p := h
theorem j9 (xs : List Ch) (q : Nat) (hq : ka0 xs = q) (h0 : q ≤ 1000000) (hX : CsW xs) : Fun 11 [.agg [.d (D.sl (kB xs) q)]] (kC []) 0 (kM (D.lit (.bool (yM xs)))) (kC []) 0 := by
  refine Fun.mk (n := 39) Try.func11 rfl rfl (ka3 rfl) ?_
  intro cx hcx
  refine kK [.no, .no] True [(1, rV 0 0)] [(0, some (25, .ds [D.sl (kB xs) q]))] 1 trivial ?_
  refine AW.seq ?_
  refine yZ [.no] True [(1, rV 0 0), (3, iV 0)] trivial ?_
  refine AW.block ?_
  refine kW 0 hcx (fun (x : {x : Nat // match x with | i => (i ≤ q) ∧ (∀ j, j < i → cY xs j = true)}) => match x with | ⟨i, _⟩ => (⟨[(1, rV 0 0), (3, uV i)], [(0, some (25, .ds [D.sl (kB xs) q]))], 1⟩ : ES)) (fun x => match x with | ⟨i, _⟩ => q - i) ⟨(0 : Nat), ⟨aK, (fun j hj => absurd hj (kd3 j))⟩⟩ [] (P := (kU 0) ∧ (qA 0) ∧ (kS [D.sl (kB xs) q])) zk ⟨rfl, rfl, rfl⟩ ?_
  rintro ⟨i, hinv0⟩
  obtain ⟨hi, ha⟩ : (i ≤ q) ∧ (∀ j, j < i → cY xs j = true) := hinv0
  refine qX (l := [(1, rV 0 0), (3, uV i)]) (g := [(0, some (25, .ds [D.sl (kB xs) q]))]) (nx := 1) rfl rfl rfl ?_
  refine AW.seq ?_
  by_cases hx1 : (((i : Nat) : Int) < ((q : Nat) : Int))
  · refine zr (qC 4 [.b true]) [1, 3, 9] [0] (((i : Int) < (q : Int))) [(1, rV 0 0), (3, uV i), (9, bV true)] [(0, some (25, .ds [D.sl (kB xs) q]))] 1 zo ?_
    refine cQ ?_
    refine AW.seq ?_
    refine AW.block ?_
    refine AW.seq ?_
    rcases ka7 (uW (kH xs i) (kD xs i) (kN xs i)) with hx5 | hx5
    · obtain ⟨hx6, hx7, hx8⟩ := CsW.at (kR : CsW xs) (i)
      refine kK [.no, .no, .no, .n i, .ds [D.lit (.string (strOfNums (kH xs i))), D.sl (dI .u64 (kD xs i)) (ka0 (kD xs i)), D.lit (.int .u64 (kN xs i))], .call [] (bV true) [] 0 [] none, .no] ((qA (i : Int)) ∧ (i < q) ∧ (ka6 3 (kb4 (i * 3) (kB xs)) = [D.lit (.string (strOfNums (kH xs i))), D.sl (dI .u64 (kD xs i)) (ka0 (kD xs i)), D.lit (.int .u64 (kN xs i))]) ∧ (([D.lit (.string (strOfNums (kH xs i))), D.sl (dI .u64 (kD xs i)) (ka0 (kD xs i)), D.lit (.int .u64 (kN xs i))] : List D).length = 3) ∧ (Fun 26 [.agg [.d (D.lit (.string (strOfNums (kH xs i)))), .d (D.sl (dI .u64 (kD xs i)) (ka0 (kD xs i))), .d (D.lit (.int .u64 (kN xs i)))]] (kC []) 0 (bV true) (kC []) 0)) [(1, rV 0 0), (3, uV i), (18, bV false)] [(0, some (25, .ds [D.sl (kB xs) q]))] 1 ⟨rfl, zo, (q8 (i := i) y8), rfl, (by have h0 := (cO (kH xs i) (kD xs i) (ka0 (kD xs i)) (kN xs i) (kR : Byt (kH xs i)) qY rfl qY); rw [hx5] at h0; exact h0)⟩ ?_
      refine uI ?_
      refine yZ [.no] True [(1, rV 0 0), (3, uV i), (4, iV 0)] trivial ?_
      refine AW.block ?_
      refine kW 0 hcx (fun (x : {x : Nat // match x with | k => (k ≤ i) ∧ (∀ j, j < k → eA (kH xs i) (kD xs i) (kH xs j) (kD xs j) = false)}) => match x with | ⟨k, _⟩ => (⟨[(1, rV 0 0), (3, uV i), (4, uV k)], [(0, some (25, .ds [D.sl (kB xs) q]))], 1⟩ : ES)) (fun x => match x with | ⟨k, _⟩ => i - k) ⟨(0 : Nat), ⟨aK, (fun j hj => absurd hj (kd3 j))⟩⟩ [] (P := (kU 0) ∧ (qA (i : Int)) ∧ (qA 0) ∧ (kS [D.sl (kB xs) q])) zk ⟨rfl, rfl, rfl, rfl⟩ ?_
      rintro ⟨k, hinv1⟩
      obtain ⟨hk, hb⟩ : (k ≤ i) ∧ (∀ j, j < k → eA (kH xs i) (kD xs i) (kH xs j) (kD xs j) = false) := hinv1
      refine qX (l := [(1, rV 0 0), (3, uV i), (4, uV k)]) (g := [(0, some (25, .ds [D.sl (kB xs) q]))]) (nx := 1) rfl rfl rfl ?_
      refine AW.seq ?_
      by_cases hx9 : (((k : Nat) : Int) < ((i : Nat) : Int))
      · refine zr [.no, .no, .b true] [1, 3, 4, 21] [0] (((k : Int) < (i : Int))) [(1, rV 0 0), (3, uV i), (4, uV k), (21, bV true)] [(0, some (25, .ds [D.sl (kB xs) q]))] 1 zo ?_
        refine cQ ?_
        refine AW.seq ?_
        refine AW.block ?_
        rcases ka7 (eA (kH xs i) (kD xs i) (kH xs k) (kD xs k)) with hx13 | hx13
        · obtain ⟨hx14, hx15, hx16⟩ := CsW.at (kR : CsW xs) (k)
          refine kK [.no, .no, .no, .n i, .ds [D.lit (.string (strOfNums (kH xs i))), D.sl (dI .u64 (kD xs i)) (ka0 (kD xs i)), D.lit (.int .u64 (kN xs i))], .no, .no, .no, .n k, .ds [D.lit (.string (strOfNums (kH xs k))), D.sl (dI .u64 (kD xs k)) (ka0 (kD xs k)), D.lit (.int .u64 (kN xs k))], .call [] (bV true) [] 0 [] none] ((qA (i : Int)) ∧ (i < q) ∧ (ka6 3 (kb4 (i * 3) (kB xs)) = [D.lit (.string (strOfNums (kH xs i))), D.sl (dI .u64 (kD xs i)) (ka0 (kD xs i)), D.lit (.int .u64 (kN xs i))]) ∧ (([D.lit (.string (strOfNums (kH xs i))), D.sl (dI .u64 (kD xs i)) (ka0 (kD xs i)), D.lit (.int .u64 (kN xs i))] : List D).length = 3) ∧ (qA (k : Int)) ∧ (k < q) ∧ (ka6 3 (kb4 (k * 3) (kB xs)) = [D.lit (.string (strOfNums (kH xs k))), D.sl (dI .u64 (kD xs k)) (ka0 (kD xs k)), D.lit (.int .u64 (kN xs k))]) ∧ (([D.lit (.string (strOfNums (kH xs k))), D.sl (dI .u64 (kD xs k)) (ka0 (kD xs k)), D.lit (.int .u64 (kN xs k))] : List D).length = 3) ∧ (Fun 27 [.agg [.d (D.lit (.string (strOfNums (kH xs i)))), .d (D.sl (dI .u64 (kD xs i)) (ka0 (kD xs i))), .d (D.lit (.int .u64 (kN xs i)))], .agg [.d (D.lit (.string (strOfNums (kH xs k)))), .d (D.sl (dI .u64 (kD xs k)) (ka0 (kD xs k))), .d (D.lit (.int .u64 (kN xs k)))]] (kC []) 0 (bV true) (kC []) 0)) [(1, rV 0 0), (3, uV i), (4, uV k), (34, bV true)] [(0, some (25, .ds [D.sl (kB xs) q]))] 1 ⟨rfl, zo, (q8 (i := i) y8), rfl, rfl, zo, (q8 (i := k) y8), rfl, (by have h0 := (cP (kH xs i) (kD xs i) (ka0 (kD xs i)) (kN xs i) (kH xs k) (kD xs k) (ka0 (kD xs k)) (kN xs k) (kR : Byt (kH xs i)) qY rfl qY (kR : Byt (kH xs k)) qY rfl qY); rw [hx13] at h0; exact h0)⟩ ?_
          refine zt ?_
          refine kK [.no] True [(2, bV false)] [] 1 trivial ?_
          refine AW.ret ?_
          exact kA (.inr rfl) [] (P := ((yM xs) = false)) zk (by first | exact iO (k := i) zo (by first | exact iP (by assumption) | exact xQ (k := k) zo zo ha (by assumption) (by assumption)) | exact iN zo | exact f3 zo (fun j hj => ha j zo))
        · obtain ⟨hx17, hx18, hx19⟩ := CsW.at (kR : CsW xs) (k)
          refine kK [.no, .no, .no, .n i, .ds [D.lit (.string (strOfNums (kH xs i))), D.sl (dI .u64 (kD xs i)) (ka0 (kD xs i)), D.lit (.int .u64 (kN xs i))], .no, .no, .no, .n k, .ds [D.lit (.string (strOfNums (kH xs k))), D.sl (dI .u64 (kD xs k)) (ka0 (kD xs k)), D.lit (.int .u64 (kN xs k))], .call [] (bV false) [] 0 [] none] ((qA (i : Int)) ∧ (i < q) ∧ (ka6 3 (kb4 (i * 3) (kB xs)) = [D.lit (.string (strOfNums (kH xs i))), D.sl (dI .u64 (kD xs i)) (ka0 (kD xs i)), D.lit (.int .u64 (kN xs i))]) ∧ (([D.lit (.string (strOfNums (kH xs i))), D.sl (dI .u64 (kD xs i)) (ka0 (kD xs i)), D.lit (.int .u64 (kN xs i))] : List D).length = 3) ∧ (qA (k : Int)) ∧ (k < q) ∧ (ka6 3 (kb4 (k * 3) (kB xs)) = [D.lit (.string (strOfNums (kH xs k))), D.sl (dI .u64 (kD xs k)) (ka0 (kD xs k)), D.lit (.int .u64 (kN xs k))]) ∧ (([D.lit (.string (strOfNums (kH xs k))), D.sl (dI .u64 (kD xs k)) (ka0 (kD xs k)), D.lit (.int .u64 (kN xs k))] : List D).length = 3) ∧ (Fun 27 [.agg [.d (D.lit (.string (strOfNums (kH xs i)))), .d (D.sl (dI .u64 (kD xs i)) (ka0 (kD xs i))), .d (D.lit (.int .u64 (kN xs i)))], .agg [.d (D.lit (.string (strOfNums (kH xs k)))), .d (D.sl (dI .u64 (kD xs k)) (ka0 (kD xs k))), .d (D.lit (.int .u64 (kN xs k)))]] (kC []) 0 (bV false) (kC []) 0)) [(1, rV 0 0), (3, uV i), (4, uV k), (34, bV false)] [(0, some (25, .ds [D.sl (kB xs) q]))] 1 ⟨rfl, zo, (q8 (i := i) y8), rfl, rfl, zo, (q8 (i := k) y8), rfl, (by have h0 := (cP (kH xs i) (kD xs i) (ka0 (kD xs i)) (kN xs i) (kH xs k) (kD xs k) (ka0 (kD xs k)) (kN xs k) (kR : Byt (kH xs i)) qY rfl qY (kR : Byt (kH xs k)) qY rfl qY); rw [hx13] at h0; exact h0)⟩ ?_
          refine uI ?_
          refine cW [.no, .w, .no] (uY ((k : Int) + 1)) [(1, rV 0 0), (3, uV i), (4, iV (↑k + 1))] ⟨by omega, by omega⟩ ?_
          exact k8 ⟨((k + 1) : Nat), ⟨aK, (fun j hj => (Nat.lt_succ_iff_lt_or_eq.1 hj).elim (hb j) (fun e9 => by subst e9; assumption))⟩⟩ [] (P := (kU 0) ∧ (qA (i : Int)) ∧ (vA k) ∧ (kS [D.sl (kB xs) q])) zk ⟨rfl, rfl, fR, rfl⟩ (show i - (k + 1) < i - k from (by first | omega | (show _ < _; simp; omega)))
      · refine zr [.no, .no, .b false] [1, 3, 4, 21] [0] (¬ ((k : Int) < (i : Int))) [(1, rV 0 0), (3, uV i), (4, uV k), (21, bV false)] [(0, some (25, .ds [D.sl (kB xs) q]))] 1 zo ?_
        refine zf ?_
        refine AW.exit ?_
        refine b9 [.no, .w, .no] (uY ((i : Int) + 1)) [(1, rV 0 0), (3, iV (↑i + 1))] [(0, some (25, .ds [D.sl (kB xs) q]))] 1 ⟨by omega, by omega⟩ ?_
        exact k8 ⟨((i + 1) : Nat), ⟨aK, (fun j hj => (Nat.lt_succ_iff_lt_or_eq.1 hj).elim (ha j) (fun e9 => by subst e9; exact k4s zo ha (by assumption) (fun m hm => hb m zo)))⟩⟩ [] (P := (kU 0) ∧ (vA i) ∧ (kS [D.sl (kB xs) q])) zk ⟨rfl, fR, rfl⟩ (show q - (i + 1) < q - i from (by first | omega | (show _ < _; simp; omega)))
    · obtain ⟨hx20, hx21, hx22⟩ := CsW.at (kR : CsW xs) (i)
      refine kK [.no, .no, .no, .n i, .ds [D.lit (.string (strOfNums (kH xs i))), D.sl (dI .u64 (kD xs i)) (ka0 (kD xs i)), D.lit (.int .u64 (kN xs i))], .call [] (bV false) [] 0 [] none, .no] ((qA (i : Int)) ∧ (i < q) ∧ (ka6 3 (kb4 (i * 3) (kB xs)) = [D.lit (.string (strOfNums (kH xs i))), D.sl (dI .u64 (kD xs i)) (ka0 (kD xs i)), D.lit (.int .u64 (kN xs i))]) ∧ (([D.lit (.string (strOfNums (kH xs i))), D.sl (dI .u64 (kD xs i)) (ka0 (kD xs i)), D.lit (.int .u64 (kN xs i))] : List D).length = 3) ∧ (Fun 26 [.agg [.d (D.lit (.string (strOfNums (kH xs i)))), .d (D.sl (dI .u64 (kD xs i)) (ka0 (kD xs i))), .d (D.lit (.int .u64 (kN xs i)))]] (kC []) 0 (bV false) (kC []) 0)) [(1, rV 0 0), (3, uV i), (18, bV true)] [(0, some (25, .ds [D.sl (kB xs) q]))] 1 ⟨rfl, zo, (q8 (i := i) y8), rfl, (by have h0 := (cO (kH xs i) (kD xs i) (ka0 (kD xs i)) (kN xs i) (kR : Byt (kH xs i)) qY rfl qY); rw [hx5] at h0; exact h0)⟩ ?_
      refine zt ?_
      refine kK [.no] True [(2, bV false)] [] 1 trivial ?_
      refine AW.ret ?_
      exact kA (.inr rfl) [] (P := ((yM xs) = false)) zk (by first | exact iO (k := i) zo (by first | exact iP (by assumption) | exact xQ (k := k) zo zo ha (by assumption) (by assumption)) | exact iN zo | exact f3 zo (fun j hj => ha j zo))
  · refine zr (qC 4 [.b false]) [1, 3, 9] [0] (¬ ((i : Int) < (q : Int))) [(1, rV 0 0), (3, uV i), (9, bV false)] [(0, some (25, .ds [D.sl (kB xs) q]))] 1 zo ?_
    refine zf ?_
    refine AW.exit ?_
    by_cases hx23 : (((q : Nat) : Int) ≤ 32)
    · refine zr [.no, .no, .no, .b true, .no] [2] [] (((q : Int) ≤ 32)) [(2, bV true)] [] 1 zo ?_
      refine AW.ret ?_
      exact kA (.inr rfl) [] (P := ((yM xs) = true)) zk (by first | exact iO (k := i) zo (by first | exact iP (by assumption) | exact xQ (k := k) zo zo ha (by assumption) (by assumption)) | exact iN zo | exact f3 zo (fun j hj => ha j zo))
    · refine zr [.no, .no, .no, .b false, .no] [2] [] (¬ ((q : Int) ≤ 32)) [(2, bV false)] [] 1 zo ?_
      refine AW.ret ?_
      exact kA (.inr rfl) [] (P := ((yM xs) = false)) zk (by first | exact iO (k := i) zo (by first | exact iP (by assumption) | exact xQ (k := k) zo zo ha (by assumption) (by assumption)) | exact iN zo | exact f3 zo (fun j hj => ha j zo))
theorem vL {p : Prop} (h : p := by first | omega | (simp only [kL, kJ, kO, ka8, uO, ka5, kb7, kb8, kb9, kc0, kc5, ka8, kd1, kd8, ke5] <;> omega) | rfl) : p := h
theorem k2k (xs : List Ch) (q : Nat) (r s : List Int) (n : Nat) (d : Int) (hq : ka0 xs = q) (h0 : q ≤ 1000000) (hX : CsW xs) (hr : Byt r) (hl : ka0 r ≤ 1000000) (hn : ka0 s = n) (h1 : n ≤ 1000000) : Fun 13 [.agg [.d (D.sl (kB xs) q)], .agg [.d (D.lit (.string (strOfNums r))), .d (D.sl (dI .u64 s) n), .d (D.lit (.int .u64 d))]] (kC []) 0 (.tup [.agg [.d (D.sl (kB (kF xs r s d)) (ka0 (kF xs r s d)))], iE (aF xs r s d)]) (kC []) 0 := by
  refine Fun.mk (n := 55) Try.func13 rfl rfl (ka3 rfl) ?_
  intro cx hcx
  refine kK (qC 4 []) True [(2, rV 0 0), (3, rV 1 0), (4, rV 2 0)] [(0, some (25, .ds [D.sl (kB xs) q])), (1, some (29, .ds [D.lit (.string (strOfNums r)), D.sl (dI .u64 s) n, D.lit (.int .u64 d)])), (2, some (25, .ds [uH]))] 3 trivial ?_
  refine AW.seq ?_
  rcases ka7 (yM xs) with hx1 | hx1
  · refine zr [.no, .call [] (bV true) [] 0 [] none, .no] [2, 3, 4, 10] [0, 1, 2] (Fun 11 [.agg [.d (D.sl (kB xs) q)]] (kC []) 0 (bV true) (kC []) 0) [(2, rV 0 0), (3, rV 1 0), (4, rV 2 0), (10, bV false)] [(0, some (25, .ds [D.sl (kB xs) q])), (1, some (29, .ds [D.lit (.string (strOfNums r)), D.sl (dI .u64 s) n, D.lit (.int .u64 d)])), (2, some (25, .ds [uH]))] 3 (by have h0 := (j9 xs q zo zo (kR : CsW xs)); rw [hx1] at h0; exact h0) ?_
    refine uI ?_
    refine AW.seq ?_
    rcases ka7 (uW r s d) with hx2 | hx2
    · refine zr [.no, .call [] (bV true) [] 0 [] none, .no] [2, 3, 4, 14] [0, 1, 2] (Fun 26 [.agg [.d (D.lit (.string (strOfNums r))), .d (D.sl (dI .u64 s) n), .d (D.lit (.int .u64 d))]] (kC []) 0 (bV true) (kC []) 0) [(2, rV 0 0), (3, rV 1 0), (4, rV 2 0), (14, bV false)] [(0, some (25, .ds [D.sl (kB xs) q])), (1, some (29, .ds [D.lit (.string (strOfNums r)), D.sl (dI .u64 s) n, D.lit (.int .u64 d)])), (2, some (25, .ds [uH]))] 3 (by have h0 := (cO r s n d (kR : Byt r) zo zo zo); rw [hx2] at h0; exact h0) ?_
      refine uI ?_
      refine kK [.no] True [(2, rV 0 0), (3, rV 1 0), (4, rV 2 0), (6, nV)] [(0, some (25, .ds [D.sl (kB xs) q])), (1, some (29, .ds [D.lit (.string (strOfNums r)), D.sl (dI .u64 s) n, D.lit (.int .u64 d)])), (2, some (25, .ds [uH]))] 3 trivial ?_
      refine AW.seq ?_
      refine yZ [.no] True [(2, rV 0 0), (3, rV 1 0), (4, rV 2 0), (6, nV), (7, iV 0)] trivial ?_
      refine AW.block ?_
      refine AW.adoptS 6 3 29 rfl ?_
      refine kW 0 hcx (fun (x : {x : Nat × Nat × List Ch // match x with | (k, m, o) => (k ≤ q ∧ m ≤ k) ∧ (q5 (ka6 k xs) r s = o) ∧ (ka0 o = m)}) => match x with | ⟨(k, m, o), _⟩ => (⟨[(2, rV 0 0), (3, rV 1 0), (4, rV 2 0), (6, oV 4 0 m 3), (7, uV k)], [(0, some (25, .ds [D.sl (kB xs) q])), (1, some (29, .ds [D.lit (.string (strOfNums r)), D.sl (dI .u64 s) n, D.lit (.int .u64 d)])), (2, some (25, .ds [uH])), (4, some (29, .ds (kB o)))], 5⟩ : ES)) (fun x => match x with | ⟨(k, m, o), _⟩ => q - k) ⟨((0 : Nat), (0 : Nat), (([] : List Ch) : List Ch)), ⟨aK, rfl, rfl⟩⟩ [(4, 3)] (P := (kU 0) ∧ (kU 0) ∧ (kU 0) ∧ (kU 0) ∧ (kU 0) ∧ (qA 0) ∧ (kS [D.sl (kB xs) q]) ∧ (kS [D.lit (.string (strOfNums r)), D.sl (dI .u64 s) n, D.lit (.int .u64 d)]) ∧ (kS [uH]) ∧ (((kB ([] : List Ch)) : List D) = ([] : List D))) zk ⟨rfl, rfl, rfl, rfl, rfl, rfl, rfl, rfl, rfl, (by first | rfl | with_reducible assumption)⟩ ?_
      rintro ⟨⟨k, m, o⟩, hinv0⟩
      obtain ⟨hk, hO, hL⟩ : (k ≤ q ∧ m ≤ k) ∧ (q5 (ka6 k xs) r s = o) ∧ (ka0 o = m) := hinv0
      refine qX (l := [(2, rV 0 0), (3, rV 1 0), (4, rV 2 0), (6, oV 4 0 m 3), (7, uV k)]) (g := [(0, some (25, .ds [D.sl (kB xs) q])), (1, some (29, .ds [D.lit (.string (strOfNums r)), D.sl (dI .u64 s) n, D.lit (.int .u64 d)])), (2, some (25, .ds [uH])), (4, some (29, .ds (kB o)))]) (nx := 5) rfl rfl rfl ?_
      refine AW.seq ?_
      by_cases hx3 : (((k : Nat) : Int) < ((q : Nat) : Int))
      · refine zr (qC 4 [.b true]) [2, 3, 4, 6, 7, 20] [0, 1, 2, 4] (((k : Int) < (q : Int))) [(2, rV 0 0), (3, rV 1 0), (4, rV 2 0), (6, oV 4 0 m 3), (7, uV k), (20, bV true)] [(0, some (25, .ds [D.sl (kB xs) q])), (1, some (29, .ds [D.lit (.string (strOfNums r)), D.sl (dI .u64 s) n, D.lit (.int .u64 d)])), (2, some (25, .ds [uH])), (4, some (29, .ds (kB o)))] 5 zo ?_
        refine cQ ?_
        refine AW.seq ?_
        refine AW.block ?_
        rcases ka7 (eA (kH xs k) (kD xs k) r s) with hx7 | hx7
        · obtain ⟨hx8, hx9, hx10⟩ := CsW.at (kR : CsW xs) (k)
          refine kK [.no, .no, .no, .n k, .ds [D.lit (.string (strOfNums (kH xs k))), D.sl (dI .u64 (kD xs k)) (ka0 (kD xs k)), D.lit (.int .u64 (kN xs k))], .no, .call [] (bV true) [] 0 [] none, .no] ((qA (k : Int)) ∧ (k < q) ∧ (ka6 3 (kb4 (k * 3) (kB xs)) = [D.lit (.string (strOfNums (kH xs k))), D.sl (dI .u64 (kD xs k)) (ka0 (kD xs k)), D.lit (.int .u64 (kN xs k))]) ∧ (([D.lit (.string (strOfNums (kH xs k))), D.sl (dI .u64 (kD xs k)) (ka0 (kD xs k)), D.lit (.int .u64 (kN xs k))] : List D).length = 3) ∧ (Fun 27 [.agg [.d (D.lit (.string (strOfNums (kH xs k)))), .d (D.sl (dI .u64 (kD xs k)) (ka0 (kD xs k))), .d (D.lit (.int .u64 (kN xs k)))], .agg [.d (D.lit (.string (strOfNums r))), .d (D.sl (dI .u64 s) n), .d (D.lit (.int .u64 d))]] (kC []) 0 (bV true) (kC []) 0)) [(2, rV 0 0), (3, rV 1 0), (4, rV 2 0), (6, oV 4 0 m 3), (7, uV k), (30, bV false)] [(0, some (25, .ds [D.sl (kB xs) q])), (1, some (29, .ds [D.lit (.string (strOfNums r)), D.sl (dI .u64 s) n, D.lit (.int .u64 d)])), (2, some (25, .ds [uH])), (4, some (29, .ds (kB o)))] 5 ⟨rfl, zo, (q8 (i := k) y8), rfl, (by have h0 := (cP (kH xs k) (kD xs k) (ka0 (kD xs k)) (kN xs k) r s n d (kR : Byt (kH xs k)) qY rfl qY (kR : Byt r) zo zo zo); rw [hx7] at h0; exact h0)⟩ ?_
          refine uI ?_
          refine cW [.no, .w, .no] (uY ((k : Int) + 1)) [(2, rV 0 0), (3, rV 1 0), (4, rV 2 0), (6, oV 4 0 m 3), (7, iV (↑k + 1))] ⟨by omega, by omega⟩ ?_
          exact k8 ⟨(((k + 1) : Nat), (m : Nat), (o : List Ch)), ⟨aK, (by first | exact (hO ▸ k31 (by assumption) (by assumption) zo (by assumption)) | exact ((k32 (by assumption) (by assumption) zo (by assumption)).trans hO)), (by first | assumption | omega | (simp only [kL, kJ, kO, ka8, ka5, kb7, kb8] <;> omega))⟩⟩ [] (P := (kU 0) ∧ (kU 0) ∧ (kU 0) ∧ (kU 0) ∧ (kU m) ∧ (vA k) ∧ (kS [D.sl (kB xs) q]) ∧ (kS [D.lit (.string (strOfNums r)), D.sl (dI .u64 s) n, D.lit (.int .u64 d)]) ∧ (kS [uH]) ∧ (kS (kB o))) zk ⟨rfl, rfl, rfl, rfl, rfl, fR, rfl, rfl, rfl, rfl⟩ (show q - (k + 1) < q - k from (by first | omega | (show _ < _; simp; omega)))
        · obtain ⟨hx11, hx12, hx13⟩ := CsW.at (kR : CsW xs) (k)
          refine kK [.no, .no, .no, .n k, .ds [D.lit (.string (strOfNums (kH xs k))), D.sl (dI .u64 (kD xs k)) (ka0 (kD xs k)), D.lit (.int .u64 (kN xs k))], .no, .call [] (bV false) [] 0 [] none, .no] ((qA (k : Int)) ∧ (k < q) ∧ (ka6 3 (kb4 (k * 3) (kB xs)) = [D.lit (.string (strOfNums (kH xs k))), D.sl (dI .u64 (kD xs k)) (ka0 (kD xs k)), D.lit (.int .u64 (kN xs k))]) ∧ (([D.lit (.string (strOfNums (kH xs k))), D.sl (dI .u64 (kD xs k)) (ka0 (kD xs k)), D.lit (.int .u64 (kN xs k))] : List D).length = 3) ∧ (Fun 27 [.agg [.d (D.lit (.string (strOfNums (kH xs k)))), .d (D.sl (dI .u64 (kD xs k)) (ka0 (kD xs k))), .d (D.lit (.int .u64 (kN xs k)))], .agg [.d (D.lit (.string (strOfNums r))), .d (D.sl (dI .u64 s) n), .d (D.lit (.int .u64 d))]] (kC []) 0 (bV false) (kC []) 0)) [(2, rV 0 0), (3, rV 1 0), (4, rV 2 0), (6, oV 4 0 m 3), (7, uV k), (30, bV true)] [(0, some (25, .ds [D.sl (kB xs) q])), (1, some (29, .ds [D.lit (.string (strOfNums r)), D.sl (dI .u64 s) n, D.lit (.int .u64 d)])), (2, some (25, .ds [uH])), (4, some (29, .ds (kB o)))] 5 ⟨rfl, zo, (q8 (i := k) y8), rfl, (by have h0 := (cP (kH xs k) (kD xs k) (ka0 (kD xs k)) (kN xs k) r s n d (kR : Byt (kH xs k)) qY rfl qY (kR : Byt r) zo zo zo); rw [hx7] at h0; exact h0)⟩ ?_
          refine zt ?_
          refine b9 (qC 4 [.n k, .ds [D.lit (.string (strOfNums (kH xs k))), D.sl (dI .u64 (kD xs k)) (ka0 (kD xs k)), D.lit (.int .u64 (kN xs k))], .no, .ap none (m + 1) (kB (o ++ ([(k9 (kH xs k) (kD xs k) (kN xs k))] : List Ch))), .no]) ((qA (k : Int)) ∧ (k < q) ∧ (ka6 3 (kb4 (k * 3) (kB xs)) = [D.lit (.string (strOfNums (kH xs k))), D.sl (dI .u64 (kD xs k)) (ka0 (kD xs k)), D.lit (.int .u64 (kN xs k))]) ∧ (([D.lit (.string (strOfNums (kH xs k))), D.sl (dI .u64 (kD xs k)) (ka0 (kD xs k)), D.lit (.int .u64 (kN xs k))] : List D).length = 3) ∧ ([D.lit (.string (strOfNums (kH xs k))), D.sl (dI .u64 (kD xs k)) (ka0 (kD xs k)), D.lit (.int .u64 (kN xs k))].length = 1 * 3) ∧ (((kB o) : List D).length = m * 3) ∧ ((m + 1) * 48 ≤ 140737488355328) ∧ (m + 1 = (m + 1)) ∧ (((kB o) : List D) ++ [D.lit (.string (strOfNums (kH xs k))), D.sl (dI .u64 (kD xs k)) (ka0 (kD xs k)), D.lit (.int .u64 (kN xs k))] = (kB (o ++ ([(k9 (kH xs k) (kD xs k) (kN xs k))] : List Ch))))) [(2, rV 0 0), (3, rV 1 0), (4, rV 2 0), (6, oV 6 0 (m + 1) 3), (7, uV k)] [(0, some (25, .ds [D.sl (kB xs) q])), (1, some (29, .ds [D.lit (.string (strOfNums r)), D.sl (dI .u64 s) n, D.lit (.int .u64 d)])), (2, some (25, .ds [uH])), (6, some (29, .ds (kB (o ++ ([(k9 (kH xs k) (kD xs k) (kN xs k))] : List Ch)))))] 7 ⟨rfl, zo, (q8 (i := k) y8), rfl, vL, vL, zo, zo, (iB o (kH xs k) (kD xs k) (ka0 (kD xs k)) (kN xs k) (by first | rfl | assumption | omega))⟩ ?_
          refine cW [.no, .w, .no] (uY ((k : Int) + 1)) [(2, rV 0 0), (3, rV 1 0), (4, rV 2 0), (6, oV 6 0 (m + 1) 3), (7, iV (↑k + 1))] ⟨by omega, by omega⟩ ?_
          exact k8 ⟨(((k + 1) : Nat), ((m + 1) : Nat), ((o ++ ([(k9 (kH xs k) (kD xs k) (kN xs k))] : List Ch)) : List Ch)), ⟨aK, (by first | exact (hO ▸ k31 (by assumption) (by assumption) zo (by assumption)) | exact ((k32 (by assumption) (by assumption) zo (by assumption)).trans hO)), (by first | assumption | omega | (simp only [kL, kJ, kO, ka8, ka5, kb7, kb8] <;> omega))⟩⟩ [(4, 6)] (P := (kU 0) ∧ (kU 0) ∧ (kU 0) ∧ (kU 0) ∧ (kU (m + 1)) ∧ (vA k) ∧ (kS [D.sl (kB xs) q]) ∧ (kS [D.lit (.string (strOfNums r)), D.sl (dI .u64 s) n, D.lit (.int .u64 d)]) ∧ (kS [uH]) ∧ (kS (kB (o ++ ([(k9 (kH xs k) (kD xs k) (kN xs k))] : List Ch))))) zk ⟨rfl, rfl, rfl, rfl, rfl, fR, rfl, rfl, rfl, rfl⟩ (show q - (k + 1) < q - k from (by first | omega | (show _ < _; simp; omega)))
      · refine zr (qC 4 [.b false]) [2, 3, 4, 6, 7, 20] [0, 1, 2, 4] (¬ ((k : Int) < (q : Int))) [(2, rV 0 0), (3, rV 1 0), (4, rV 2 0), (6, oV 4 0 m 3), (7, uV k), (20, bV false)] [(0, some (25, .ds [D.sl (kB xs) q])), (1, some (29, .ds [D.lit (.string (strOfNums r)), D.sl (dI .u64 s) n, D.lit (.int .u64 d)])), (2, some (25, .ds [uH])), (4, some (29, .ds (kB o)))] 5 zo ?_
        refine zf ?_
        refine AW.exit ?_
        refine kK [.no, .no, .no, .ap none (0 + n) (dI .u64 s), .no, .no] (((dI .u64 s).length = n * 1) ∧ ((([] : List D) : List D).length = 0 * 1) ∧ ((0 + n) * 8 ≤ 140737488355328) ∧ ((0 : Nat) + n = (0 + n)) ∧ ((([] : List D) : List D) ++ (dI .u64 s) = (dI .u64 s))) [(3, rV 1 0), (4, rV 2 0), (6, oV 4 0 m 3)] [(1, some (29, .cs [.d (D.lit (.string (strOfNums r))), .own 6 0 (0 + n) 1 true, .d (D.lit (.int .u64 d))])), (2, some (25, .ds [uH])), (4, some (29, .ds (kB o))), (6, some (27, .ds (dI .u64 s)))] 7 ⟨vL, vL, zo, zo, rfl⟩ ?_
        refine AW.freeze 6 (l' := [(3, rV 1 0), (4, rV 2 0), (6, oV 4 0 m 3)]) (g' := [(1, some (29, .ds [D.lit (.string (strOfNums r)), D.sl (dI .u64 s) (0 + n), D.lit (.int .u64 d)])), (2, some (25, .ds [uH])), (4, some (29, .ds (kB o)))]) rfl (FzS.cons rfl (.same _) (FzS.cons rfl (.same _) (FzS.cons rfl (.same _) FzS.nil))) (FzG.to (bc := .cs [.d (D.lit (.string (strOfNums r))), .own 6 0 (0 + n) 1 true, .d (D.lit (.int .u64 d))]) rfl (by rfl) (FzL.cons (.same _) (FzL.cons (@FzC.own 6 ((dI .u64 s) : List D) 0 (0 + n) 1 true ((dI .u64 s) : List D) (by rw [kf7, ke5, kc7 (by first | omega | (simp only [kL, kJ, kO, ka8, uO, ka5, kb7, kb8, kb9, kc0, kc5, ka8, kd1, kd8, ke5] <;> omega))]) vL) (FzL.cons (.same _) FzL.nil))) (vY rfl rfl (vY rfl rfl FzG.nil))) ?_
        refine kK [.no, .no, .no, .ap none (m + 1) (kB (o ++ ([(k9 r s d)] : List Ch))), .no] (([D.lit (.string (strOfNums r)), D.sl (dI .u64 s) (0 + n), D.lit (.int .u64 d)].length = 1 * 3) ∧ (((kB o) : List D).length = m * 3) ∧ ((m + 1) * 48 ≤ 140737488355328) ∧ (m + 1 = (m + 1)) ∧ (((kB o) : List D) ++ [D.lit (.string (strOfNums r)), D.sl (dI .u64 s) (0 + n), D.lit (.int .u64 d)] = (kB (o ++ ([(k9 r s d)] : List Ch))))) [(4, rV 2 0), (6, oV 8 0 (m + 1) 3)] [(2, some (25, .ds [uH])), (8, some (29, .ds (kB (o ++ ([(k9 r s d)] : List Ch)))))] 9 ⟨vL, vL, zo, zo, (iB o r s (0 + n) d (by first | rfl | assumption | omega))⟩ ?_
        refine AW.freeze 8 (l' := [(4, rV 2 0), (6, uX (kB (o ++ ([(k9 r s d)] : List Ch))) (m + 1))]) (g' := [(2, some (25, .ds [uH]))]) rfl (FzS.cons rfl (.same _) (FzS.cons rfl (.e (.c (@FzC.own 8 ((kB (o ++ ([(k9 r s d)] : List Ch))) : List D) 0 (m + 1) 3 true ((kB (o ++ ([(k9 r s d)] : List Ch))) : List D) (by rw [kf7, kc7 (by first | omega | (simp only [kL, kJ, kO, ka8, uO, ka5, kb7, kb8, kb9, kc0, kc5, ka8, kd1, kd8, ke5] <;> omega))]) vL))) FzS.nil)) (vY rfl rfl FzG.nil) ?_
        refine kK [.no, .no, .no, .w, .no, .sls (kc9 (max 0 ((((m + 1) : Nat) : Int) - 32))) (m + 1) ((m + 1) - (kc9 (max 0 ((((m + 1) : Nat) : Int) - 32)))) (kB (ka6 ((m + 1) - (kc9 (max 0 ((((m + 1) : Nat) : Int) - 32)))) (kb4 (kc9 (max 0 ((((m + 1) : Nat) : Int) - 32))) (o ++ ([(k9 r s d)] : List Ch))))), .no, .no, .no] ((uY ((((m + 1) : Nat) : Int) - 32)) ∧ (((max 0 ((((m + 1) : Nat) : Int) - 32)) : Int) = (((kc9 (max 0 ((((m + 1) : Nat) : Int) - 32))) : Nat) : Int)) ∧ ((m + 1) = (m + 1)) ∧ ((kc9 (max 0 ((((m + 1) : Nat) : Int) - 32))) ≤ (m + 1)) ∧ ((m + 1) ≤ (m + 1)) ∧ ((m + 1) - (kc9 (max 0 ((((m + 1) : Nat) : Int) - 32))) = ((m + 1) - (kc9 (max 0 ((((m + 1) : Nat) : Int) - 32))))) ∧ (ka6 (((m + 1) - (kc9 (max 0 ((((m + 1) : Nat) : Int) - 32)))) * 3) (kb4 ((kc9 (max 0 ((((m + 1) : Nat) : Int) - 32))) * 3) (kB (o ++ ([(k9 r s d)] : List Ch)))) = (kB (ka6 ((m + 1) - (kc9 (max 0 ((((m + 1) : Nat) : Int) - 32)))) (kb4 (kc9 (max 0 ((((m + 1) : Nat) : Int) - 32))) (o ++ ([(k9 r s d)] : List Ch))))))) [(4, rV 2 0), (5, iV 0)] [(2, some (25, .ds [D.sl (kB (ka6 ((m + 1) - (kc9 (max 0 ((((m + 1) : Nat) : Int) - 32)))) (kb4 (kc9 (max 0 ((((m + 1) : Nat) : Int) - 32))) (o ++ ([(k9 r s d)] : List Ch))))) ((m + 1) - (kc9 (max 0 ((((m + 1) : Nat) : Int) - 32))))]))] 9 ⟨⟨by omega, by omega⟩, (by first | rfl | omega), rfl, zo, zo, zo, (by rw [bL, y4])⟩ ?_
        obtain ⟨hz1, hz2⟩ := lN hx1 hx2
        have hz3 : q5 xs r s = o := by have h9 := hO; rw [kc7 (by omega)] at h9; exact h9
        refine AW.ret ?_
        exact kA (.inr rfl) [] (P := (((kB (kF xs r s d)) : List D) = (kB (ka6 ((m + 1) - (kc9 (max 0 ((((m + 1) : Nat) : Int) - 32)))) (kb4 (kc9 (max 0 ((((m + 1) : Nat) : Int) - 32))) (o ++ ([(k9 r s d)] : List Ch)))))) ∧ (((ka0 (kF xs r s d)) : Nat) = ((m + 1) - (kc9 (max 0 ((((m + 1) : Nat) : Int) - 32))))) ∧ (((aF xs r s d) : Int) = 0)) zk ⟨(by first | rfl | exact hz2 | exact hz2.symm | exact congrArg kB (uK hz1 hz3 hL zo).1 | exact (uK hz1 hz3 hL zo).2 | (rw [hz1]; done) | (rw [hz1]; rfl) | omega), (by first | rfl | exact hz2 | exact hz2.symm | exact congrArg kB (uK hz1 hz3 hL zo).1 | exact (uK hz1 hz3 hL zo).2 | (rw [hz1]; done) | (rw [hz1]; rfl) | omega), (by first | rfl | exact hz2 | exact hz2.symm | exact congrArg kB (uK hz1 hz3 hL zo).1 | exact (uK hz1 hz3 hL zo).2 | (rw [hz1]; done) | (rw [hz1]; rfl) | omega)⟩
    · refine zr [.no, .call [] (bV false) [] 0 [] none, .no] [2, 3, 4, 14] [0, 1, 2] (Fun 26 [.agg [.d (D.lit (.string (strOfNums r))), .d (D.sl (dI .u64 s) n), .d (D.lit (.int .u64 d))]] (kC []) 0 (bV false) (kC []) 0) [(2, rV 0 0), (3, rV 1 0), (4, rV 2 0), (14, bV true)] [(0, some (25, .ds [D.sl (kB xs) q])), (1, some (29, .ds [D.lit (.string (strOfNums r)), D.sl (dI .u64 s) n, D.lit (.int .u64 d)])), (2, some (25, .ds [uH]))] 3 (by have h0 := (cO r s n d (kR : Byt r) zo zo zo); rw [hx2] at h0; exact h0) ?_
      refine zt ?_
      refine kK [.no, .no, .no] True [(4, rV 2 0), (5, iV 2)] [(2, some (25, .ds [uH]))] 3 trivial ?_
      obtain ⟨hz1, hz2⟩ := k2z hx1 hx2
      refine d8 (l' := [(4, rV 2 0), (5, iV 2)]) (g' := [(2, some (25, .ds [D.sl ([] : List D) 0]))]) (NlS.cons rfl (.same _) (NlS.cons rfl (.same _) NlS.nil)) (NlG.to (bc := .ds [uH]) rfl (NlL.cons (.nil) NlL.nil) NlG.nil) ?_
      refine AW.ret ?_
      exact kA (.inr rfl) [] (P := (((kB (kF xs r s d)) : List D) = ([] : List D)) ∧ (((ka0 (kF xs r s d)) : Nat) = 0) ∧ (((aF xs r s d) : Int) = 2)) zk ⟨(by first | rfl | exact hz2 | exact hz2.symm | exact congrArg kB (uK hz1 hz3 hL zo).1 | exact (uK hz1 hz3 hL zo).2 | (rw [hz1]; done) | (rw [hz1]; rfl) | omega), (by first | rfl | exact hz2 | exact hz2.symm | exact congrArg kB (uK hz1 hz3 hL zo).1 | exact (uK hz1 hz3 hL zo).2 | (rw [hz1]; done) | (rw [hz1]; rfl) | omega), (by first | rfl | exact hz2 | exact hz2.symm | exact congrArg kB (uK hz1 hz3 hL zo).1 | exact (uK hz1 hz3 hL zo).2 | (rw [hz1]; done) | (rw [hz1]; rfl) | omega)⟩
  · refine zr [.no, .call [] (bV false) [] 0 [] none, .no] [2, 3, 4, 10] [0, 1, 2] (Fun 11 [.agg [.d (D.sl (kB xs) q)]] (kC []) 0 (bV false) (kC []) 0) [(2, rV 0 0), (3, rV 1 0), (4, rV 2 0), (10, bV true)] [(0, some (25, .ds [D.sl (kB xs) q])), (1, some (29, .ds [D.lit (.string (strOfNums r)), D.sl (dI .u64 s) n, D.lit (.int .u64 d)])), (2, some (25, .ds [uH]))] 3 (by have h0 := (j9 xs q zo zo (kR : CsW xs)); rw [hx1] at h0; exact h0) ?_
    refine zt ?_
    refine kK [.no, .no, .no] True [(4, rV 2 0), (5, iV 1)] [(2, some (25, .ds [uH]))] 3 trivial ?_
    obtain ⟨hz1, hz2⟩ := k30 (r := r) (s := s) (d := d) hx1
    refine d8 (l' := [(4, rV 2 0), (5, iV 1)]) (g' := [(2, some (25, .ds [D.sl ([] : List D) 0]))]) (NlS.cons rfl (.same _) (NlS.cons rfl (.same _) NlS.nil)) (NlG.to (bc := .ds [uH]) rfl (NlL.cons (.nil) NlL.nil) NlG.nil) ?_
    refine AW.ret ?_
    exact kA (.inr rfl) [] (P := (((kB (kF xs r s d)) : List D) = ([] : List D)) ∧ (((ka0 (kF xs r s d)) : Nat) = 0) ∧ (((aF xs r s d) : Int) = 1)) zk ⟨(by first | rfl | exact hz2 | exact hz2.symm | exact congrArg kB (uK hz1 hz3 hL zo).1 | exact (uK hz1 hz3 hL zo).2 | (rw [hz1]; done) | (rw [hz1]; rfl) | omega), (by first | rfl | exact hz2 | exact hz2.symm | exact congrArg kB (uK hz1 hz3 hL zo).1 | exact (uK hz1 hz3 hL zo).2 | (rw [hz1]; done) | (rw [hz1]; rfl) | omega), (by first | rfl | exact hz2 | exact hz2.symm | exact congrArg kB (uK hz1 hz3 hL zo).1 | exact (uK hz1 hz3 hL zo).2 | (rw [hz1]; done) | (rw [hz1]; rfl) | omega)⟩
end Go.Proofs.Ytkjmlililpgamaa
