/- Lists of choices: what the code does with them. No statement is proved here. -/
import Derived.Test.YtkjmlililpgamaaZC30A
namespace Go.Proofs.Ytkjmlililpgamaa
open Go.ChangeShapes Go.WideShapes Go.ChangeAt Go.RowKit
open Bool renaming eq_false_or_eq_true → ka7
open List renaming append_nil → kg0, drop → kb4, drop_drop → kg3, drop_zero → kf7, filter_append → kk0, filter_nil → kl0, getD → ka2, getD_eq_getElem?_getD → kb0, length → ka0, length_append → ka5, length_cons → kb7, length_drop → kc0, length_map → kd1, length_nil → kb8, length_replicate → kc5, length_reverse → kd8, length_set → ka8, length_take → kb9, replicate → kb1, set → ke6, take → ka6, take_of_length_le → kc7, take_succ_eq_append_getElem → kh6
open Nat renaming le_of_ble_eq_true → ka3, le_refl → kc2, mul_one → ke5, not_lt_zero → kd3
set_option linter.unusedVariables false
set_option linter.unusedSimpArgs false
/-! choices: what the code does with lists of them -/
set_option maxHeartbeats 4000000
set_option maxRecDepth 100000
theorem mM (r s : List Int) (d : Int) (n : Nat) (hn : s.length = n) : ∀ (xs : List Ch) (i : Nat), i < xs.length → lH (kB xs) (i * 3) [D.lit (.string (strOfNums r)), D.sl (dI .u64 s) n, D.lit (.int .u64 d)] = kB (ke6 xs i (k9 r s d))
  | [], _, h => absurd h (kd3 _)
  | _ :: _, 0, _ => by subst hn; rfl
  | c :: q, i + 1, h => by
    have ih := mM r s d n hn q i (Nat.lt_of_succ_lt_succ h)
    rw [show (i + 1) * 3 = i * 3 + 1 + 1 + 1 by omega]
    rw [show kB (ke6 (c :: q) (i + 1) (k9 r s d)) = xH c ++ kB (ke6 q i (k9 r s d)) from rfl, ← ih]
    rfl
theorem CsW.set {xs : List Ch} (h : CsW xs) {c : Ch} (hc : ChW c) (i : Nat) : CsW (ke6 xs i c) := fun m hm => by
  rcases List.mem_or_eq_of_mem_set hm with hm | rfl
  · exact h m hm
  · exact hc
def pE (xs : List Ch) (i m : Nat) : List D := kB (ka6 i xs) ++ (kb1 m [D.lit (.string (ByteArray.mk #[])), D.lit (.slice none 0 0), D.lit (.int .u64 0)]).flatten
theorem kO (xs : List Ch) (i m : Nat) : ka0 (pE xs i m) = min i (ka0 xs) * 3 + m * 3 := by unfold pE; rw [ka5, kJ, nU, kb9]
theorem wR (xs : List Ch) (i m : Nat) (h : i + m = xs.length) : ka6 (i * 3) (kB xs) ++ (kb1 m [D.lit (.string (ByteArray.mk #[])), D.lit (.slice none 0 0), D.lit (.int .u64 0)]).flatten ++ kb4 (i * 3 + m * 3) (kB xs) = pE xs i m := by
  rw [y4, show i * 3 + m * 3 = (i + m) * 3 by omega, bL, h, List.drop_length]
  exact kg0 _
theorem j1 (xs : List Ch) (i m : Nat) (h : i ≤ xs.length) : ka6 (i * 3) (pE xs i m) = kB (ka6 i xs) := by
  unfold pE
  exact List.take_left' (by rw [kJ, kb9]; omega)
def u0 (xs : List Ch) (r s : List Int) (n : Nat) : Int := cH (fun j => uQ (kH xs j) (kD xs j) r s) n
theorem k0a {xs : List Ch} {r s : List Int} {k : Nat} (h : u0 xs r s k = -1) (h2 : uQ (kH xs k) (kD xs k) r s = false) : u0 xs r s (k + 1) = -1 := bE h h2
theorem mV {xs : List Ch} {r s : List Int} {k n : Nat} (h : u0 xs r s k = -1) (h2 : uQ (kH xs k) (kD xs k) r s = true) (hk : k < n) : u0 xs r s n = (k : Int) := aS h h2 n hk
def jZ (xs : List Ch) (r s : List Int) : Bool := decide (0 ≤ u0 xs r s xs.length)
theorem k43 {xs : List Ch} {r s : List Int} {n : Nat} (hn : xs.length = n) (h : 0 ≤ u0 xs r s n) : jZ xs r s = true := decide_eq_true (by rw [hn]; exact h)
theorem k2h {xs : List Ch} {r s : List Int} {n : Nat} (hn : xs.length = n) (h : ¬ 0 ≤ u0 xs r s n) : jZ xs r s = false := decide_eq_false (by rw [hn]; exact h)
def bI (xs : List Ch) (d : Int) (n : Nat) : Int := cH (fun j => decide (kN xs j = d)) n
theorem k3y {xs : List Ch} {d : Int} {k : Nat} (h : bI xs d k = -1) (h2 : decide (kN xs k = d) = false) : bI xs d (k + 1) = -1 := bE h h2
theorem k0j {xs : List Ch} {d : Int} {k n : Nat} (h : bI xs d k = -1) (h2 : decide (kN xs k = d) = true) (hk : k < n) : bI xs d n = (k : Int) := aS h h2 n hk
def cY (xs : List Ch) (i : Nat) : Bool := uW (kH xs i) (kD xs i) (kN xs i) && !jZ (ka6 i xs) (kH xs i) (kD xs i)
def yM (xs : List Ch) : Bool := decide (xs.length ≤ 32) && (List.range xs.length).all (cY xs)
theorem pP {xs : List Ch} {i : Nat} (h : uW (kH xs i) (kD xs i) (kN xs i) = true) (h2 : jZ (ka6 i xs) (kH xs i) (kD xs i) = false) : cY xs i = true := by unfold cY; rw [h, h2]; rfl
theorem iP {xs : List Ch} {i : Nat} (h : uW (kH xs i) (kD xs i) (kN xs i) = false) : cY xs i = false := by unfold cY; rw [h]; rfl
theorem k06 {xs : List Ch} {i : Nat} (h2 : jZ (ka6 i xs) (kH xs i) (kD xs i) = true) : cY xs i = false := by unfold cY; rw [h2, Bool.not_true, Bool.and_false]
theorem f3 {xs : List Ch} (h : xs.length ≤ 32) (h2 : ∀ j, j < xs.length → cY xs j = true) : yM xs = true := by
  unfold yM
  rw [decide_eq_true h, Bool.true_and]
  exact List.all_eq_true.2 fun i hi => h2 i (List.mem_range.1 hi)
theorem iN {xs : List Ch} (h : ¬ xs.length ≤ 32) : yM xs = false := by unfold yM; rw [decide_eq_false h]; rfl
theorem iO {xs : List Ch} {k : Nat} (hk : k < xs.length) (h : cY xs k = false) : yM xs = false := by
  unfold yM
  rw [Bool.and_eq_false_iff]
  right
  cases e : (List.range xs.length).all (cY xs) with
  | false => rfl
  | true => have := List.all_eq_true.1 e k (List.mem_range.2 hk); rw [h] at this; cases this
theorem pO {xs : List Ch} (h : yM xs = true) : xs.length ≤ 32 ∧ ∀ j, j < xs.length → cY xs j = true := by
  unfold yM at h
  rw [Bool.and_eq_true] at h
  exact ⟨of_decide_eq_true h.1, fun j hj => List.all_eq_true.1 h.2 j (List.mem_range.2 hj)⟩
def iM (p : Ch → Bool) (xs : List Ch) : List Ch := List.filter (fun c => !p c) xs
theorem k0h (p : Ch → Bool) (xs : List Ch) : (iM p xs).length ≤ xs.length := List.length_filter_le _ _
theorem k3u {p : Ch → Bool} {xs : List Ch} (h : CsW xs) : CsW (iM p xs) := fun c hc => h c (List.mem_filter.1 hc).1
theorem yP {xs : List Ch} {j : Nat} (h : j < xs.length) : ka6 (j + 1) xs = ka6 j xs ++ [yN xs j] := by
  have e : yN xs j = xs[j] := by unfold yN; rw [kb0, List.getElem?_eq_getElem h]; rfl
  rw [kh6 h, e]
theorem k1r {p : Ch → Bool} {xs : List Ch} {j : Nat} (h : j < xs.length) (h2 : p (yN xs j) = false) : iM p (ka6 (j + 1) xs) = iM p (ka6 j xs) ++ [yN xs j] := by
  rw [yP h]; unfold iM; rw [kk0, List.filter_cons_of_pos (by rw [h2]; rfl), kl0]
theorem k1s {p : Ch → Bool} {xs : List Ch} {j : Nat} (h : j < xs.length) (h2 : p (yN xs j) = true) : iM p (ka6 (j + 1) xs) = iM p (ka6 j xs) := by
  rw [yP h]; unfold iM; rw [kk0, List.filter_cons_of_neg (by rw [h2]; decide), kl0, kg0]
theorem l4 {p : Ch → Bool} {xs : List Ch} : ∀ k, k ≤ xs.length → (∀ j, j < k → p (yN xs j) = false) → iM p (ka6 k xs) = ka6 k xs
  | 0, _, _ => rfl
  | k + 1, hk, h => by
    rw [k1r (by omega) (h k (by omega)), l4 k (by omega) (fun j hj => h j (by omega)), yP (by omega)]
def DfS (p : Ch → Bool) (xs ys : List Ch) (i j : Nat) : Prop := ka6 i ys = iM p (ka6 j xs) ∧ kb4 j ys = kb4 j xs ∧ ka0 ys = ka0 xs
theorem k41 {p : Ch → Bool} {xs : List Ch} {k : Nat} {n : Nat} (hn : xs.length = n) (h : cH (fun j => p (yN xs j)) n = (k : Int)) : DfS p xs xs k (k + 1) := by
  rcases v5 (fun j => p (yN xs j)) n with ⟨h1, _⟩ | ⟨k2, h2, h3, h4⟩
  · omega
  · obtain rfl : k2 = k := by omega
    have h5 : ∀ j, j < k2 → p (yN xs j) = false := by
      intro j hj
      cases e : p (yN xs j) with
      | false => rfl
      | true =>
        rcases v5 (fun j => p (yN xs j)) j with ⟨h6, _⟩ | ⟨k3, h6, h7, h8⟩
        · have := aS (p := fun j => p (yN xs j)) h6 e n (by omega); omega
        · have h9 : ∀ m, j ≤ m → cH (fun j => p (yN xs j)) m = (k3 : Int) := by
            intro m hm
            induction m with
            | zero => have : j = 0 := by omega
                      subst this; exact h7
            | succ m ih =>
              by_cases e2 : j = m + 1
              · subst e2; exact h7
              · have h10 := ih (by omega)
                show (if 0 ≤ cH (fun j => p (yN xs j)) m then _ else _) = _
                rw [if_pos (by omega)]; exact h10
          have := h9 n (by omega); omega
    exact ⟨by rw [k1s (by omega) h4, l4 k2 (by omega) h5], rfl, rfl⟩
theorem k3z {p : Ch → Bool} {xs ys : List Ch} {i j : Nat} (h : DfS p xs ys i j) (hj : j < xs.length) : yN ys j = yN xs j := by
  have h1 := congrArg (fun l => ka2 l 0 ch0) h.2.1
  simpa [yN, kb0, List.getElem?_drop] using h1
theorem z8 {p : Ch → Bool} {xs ys : List Ch} {i j : Nat} (h : DfS p xs ys i j) (hi : i < j) (hj : j < xs.length) (h2 : p (yN ys j) = false) : DfS p xs (ke6 ys i (k9 (kH ys j) (kD ys j) (kN ys j))) (i + 1) (j + 1) := by
  have hg := k3z h hj
  rw [hg] at h2
  have e : k9 (kH ys j) (kD ys j) (kN ys j) = yN xs j := by unfold kH kD kN; rw [hg]; rfl
  have hl := h.2.2
  refine ⟨?_, ?_, ?_⟩
  · rw [e, k1r hj h2, ← h.1, kh6 (by rw [ka8]; omega), List.getElem_set_self, List.take_set_of_le (kc2 _)]
  · rw [List.drop_set_of_lt (by omega)]
    have h3 := congrArg (kb4 1) h.2.1
    rw [kg3, kg3] at h3; exact h3
  · rw [ka8]; exact hl
theorem z9 {p : Ch → Bool} {xs ys : List Ch} {i j : Nat} (h : DfS p xs ys i j) (hj : j < xs.length) (h2 : p (yN ys j) = true) : DfS p xs ys i (j + 1) := by
  rw [k3z h hj] at h2
  refine ⟨by rw [k1s hj h2]; exact h.1, ?_, h.2.2⟩
  have h3 := congrArg (kb4 1) h.2.1
  rw [kg3, kg3] at h3; exact h3
theorem k40 {p : Ch → Bool} {xs ys : List Ch} {i j : Nat} (h : DfS p xs ys i j) (hj : xs.length ≤ j) : ka6 i ys = iM p xs := by rw [h.1, kc7 hj]
theorem nS {p : Ch → Bool} {xs : List Ch} {n : Nat} (hn : xs.length = n) (h : cH (fun j => p (yN xs j)) n = -1) : iM p xs = xs := by
  subst hn
  have h1 := l4 (p := p) (xs := xs) xs.length (kc2 _) (dW (p := fun j => p (yN xs j)) (n := xs.length) (by omega))
  rwa [kc7 (kc2 _)] at h1
def q5 (xs : List Ch) (r s : List Int) : List Ch := iM (fun c => uQ c.r c.s r s) xs
def vJ (xs : List Ch) (d : Int) : List Ch := iM (fun c => decide (c.d = d)) xs
def dfC (xs ys : List Ch) (r s : List Int) (i j : Nat) : Prop := DfS (fun c => uQ c.r c.s r s) xs ys i j
def dfD (xs ys : List Ch) (d : Int) (i j : Nat) : Prop := DfS (fun c => decide (c.d = d)) xs ys i j
theorem g7 (xs : List Ch) (r s : List Int) : (q5 xs r s).length ≤ xs.length := k0h _ _
theorem l5 (xs : List Ch) (d : Int) : (vJ xs d).length ≤ xs.length := k0h _ _
theorem k3w {xs : List Ch} (h : CsW xs) (r s : List Int) : CsW (q5 xs r s) := k3u h
theorem k3v {xs : List Ch} (h : CsW xs) (d : Int) : CsW (vJ xs d) := k3u h
theorem k2p {r s : List Int} (hr : Byt r) (h1 : r.length ≤ 1000000) (h2 : s.length ≤ 1000000) (d : Int) : ChW (k9 r s d) := ⟨hr, h1, h2⟩
def aF (xs : List Ch) (r s : List Int) (d : Int) : Int := if yM xs = true then (if uW r s d = true then 0 else 2) else 1
def pY (xs : List Ch) (r s : List Int) (d : Int) : List Ch := kb4 ((q5 xs r s).length - 31) (q5 xs r s ++ [k9 r s d])
def kF (xs : List Ch) (r s : List Int) (d : Int) : List Ch := if yM xs = true ∧ uW r s d = true then pY xs r s d else []
theorem k30 {xs : List Ch} {r s : List Int} {d : Int} (h : yM xs = false) : kF xs r s d = [] ∧ aF xs r s d = 1 := by
  unfold kF aF; rw [h]; exact ⟨rfl, rfl⟩
theorem k2z {xs : List Ch} {r s : List Int} {d : Int} (h : yM xs = true) (h2 : uW r s d = false) : kF xs r s d = [] ∧ aF xs r s d = 2 := by
  unfold kF aF; rw [h, h2]; exact ⟨rfl, rfl⟩
theorem lN {xs : List Ch} {r s : List Int} {d : Int} (h : yM xs = true) (h2 : uW r s d = true) : kF xs r s d = pY xs r s d ∧ aF xs r s d = 0 := by
  unfold kF aF; rw [h, h2]; exact ⟨rfl, rfl⟩
theorem pX {xs : List Ch} {r s : List Int} {d : Int} (h : (q5 xs r s).length ≤ 31) : pY xs r s d = q5 xs r s ++ [k9 r s d] := by
  unfold pY; rw [Nat.sub_eq_zero_of_le h]; rfl
theorem mY (xs : List Ch) (r s : List Int) (d : Int) : (pY xs r s d).length ≤ 32 := by
  unfold pY; rw [kc0, ka5]; show (q5 xs r s).length + 1 - _ ≤ 32; omega
theorem gC (xs : List Ch) (r s : List Int) (d : Int) : (kF xs r s d).length ≤ 32 := by
  unfold kF; split
  · exact mY xs r s d
  · exact Nat.zero_le _
theorem gD (xs : List Ch) (r s : List Int) (d : Int) : 0 ≤ aF xs r s d ∧ aF xs r s d ≤ 2 := by unfold aF; repeat' split <;> omega
theorem uB {xs : List Ch} {r s : List Int} {d : Int} (h : CsW xs) (hr : Byt r) (h1 : r.length ≤ 1000000) (h2 : s.length ≤ 1000000) : CsW (kF xs r s d) := by
  unfold kF pY; split
  · exact (CsW.app (k3w h r s) (CsW.one (k2p hr h1 h2 d))).drop _
  · exact CsW.nil
def sE (xs : List Ch) (r s : List Int) : Nat → Int × Nat
  | 0 => (0, 0)
  | k + 1 => if kH xs k = r ∧ (sE xs r s k).2 ≤ (kD xs k).length ∧ vZ (kD xs k) s = true then (kN xs k, (kD xs k).length) else sE xs r s k
def pJ (xs : List Ch) (r s : List Int) (k : Nat) : Int := (sE xs r s k).1
def nJ (xs : List Ch) (r s : List Int) (k : Nat) : Nat := (sE xs r s k).2
theorem dP {xs : List Ch} {r s : List Int} {k : Nat} (h1 : kH xs k = r) (h2 : nJ xs r s k ≤ (kD xs k).length) (h3 : vZ (kD xs k) s = true) : pJ xs r s (k + 1) = kN xs k ∧ nJ xs r s (k + 1) = (kD xs k).length := by
  have e : sE xs r s (k + 1) = (kN xs k, (kD xs k).length) := if_pos ⟨h1, h2, h3⟩
  unfold pJ nJ; rw [e]; exact ⟨rfl, rfl⟩
theorem eK {xs : List Ch} {r s : List Int} {k : Nat} (h : ¬ (kH xs k = r ∧ nJ xs r s k ≤ (kD xs k).length ∧ vZ (kD xs k) s = true)) : pJ xs r s (k + 1) = pJ xs r s k ∧ nJ xs r s (k + 1) = nJ xs r s k := by
  have e : sE xs r s (k + 1) = sE xs r s k := if_neg h
  unfold pJ nJ; rw [e]; exact ⟨rfl, rfl⟩
theorem aX {b : Bool} (h : b = true) (h2 : b = false) : False := by rw [h] at h2; cases h2
def kT (xs : List Ch) (r s : List Int) : Int := if yM xs = true ∧ v8 s = true then pJ xs r s xs.length else 0
theorem dQ {xs : List Ch} {r s : List Int} (h : yM xs = true) (h2 : v8 s = true) : kT xs r s = pJ xs r s xs.length := if_pos ⟨h, h2⟩
theorem dR {xs : List Ch} {r s : List Int} (h : yM xs = false) : kT xs r s = 0 := if_neg fun e => by rw [h] at e; cases e.1
theorem a8 {xs : List Ch} {r s : List Int} (h : v8 s = false) : kT xs r s = 0 := if_neg fun e => by rw [h] at e; cases e.2
def q6 (xs : List Ch) (d : Int) : List Ch := if yM xs = true then vJ xs d else xs
theorem k3x {xs : List Ch} {d : Int} (h : yM xs = true) : q6 xs d = vJ xs d := if_pos h
theorem k51 {xs : List Ch} {d : Int} (h : yM xs = false) : q6 xs d = xs := if_neg fun e => by rw [h] at e; cases e
theorem b3 (xs : List Ch) (d : Int) : (q6 xs d).length ≤ xs.length := by
  unfold q6; split
  · exact l5 xs d
  · exact kc2 _
theorem fJ {xs : List Ch} (h : CsW xs) (d : Int) : CsW (q6 xs d) := by
  unfold q6; split
  · exact k3v h d
  · exact h
def iL (a b : List Int) (n : Nat) : Int := cH (fun j => !y6 b (ka2 a j 0)) n
theorem k4y {a b : List Int} {k : Nat} (h : iL a b k = -1) (h2 : y6 b (ka2 a k 0) = true) : iL a b (k + 1) = -1 := bE h (by show (!y6 b _) = false; rw [h2]; rfl)
theorem k3n {a b : List Int} {k n : Nat} (h : iL a b k = -1) (h2 : y6 b (ka2 a k 0) = false) (hk : k < n) : iL a b n = (k : Int) := aS h (by show (!y6 b _) = true; rw [h2]; rfl) n hk
theorem k4x {a b : List Int} {n : Nat} (hn : a.length = n) (h : 0 ≤ iL a b n) : vZ a b = false := by
  obtain ⟨k, hk, h1⟩ := k0i h
  refine k15 (k := k) (by omega) ?_
  cases e : y6 b (ka2 a k 0) with
  | false => rfl
  | true => rw [e] at h1; cases h1
theorem k4z {a b : List Int} {n : Nat} (hn : a.length = n) (h : ¬ 0 ≤ iL a b n) : vZ a b = true := k14 fun j hj => by
  have h1 := dW h j (by omega)
  cases e : y6 b (ka2 a j 0) with
  | true => rfl
  | false => rw [e] at h1; cases h1
def pH (b : List Int) (x : Int) : Bool := !y6 b x
theorem k3p {b : List Int} {x : Int} (h : y6 b x = false) : pH b x = true := by unfold pH; rw [h]; rfl
theorem k3r {b : List Int} {x : Int} (h : y6 b x = true) : pH b x = false := by unfold pH; rw [h]; rfl
theorem k0e {b : List Int} {x : Int} (h : pH b x = true) : y6 b x = false := by unfold pH at h; cases e : y6 b x with
  | false => rfl
  | true => rw [e] at h; cases h
theorem k3q {b : List Int} {x : Int} (h : pH b x = false) : y6 b x = true := by unfold pH at h; cases e : y6 b x with
  | true => rfl
  | false => rw [e] at h; cases h
def pG (a b : List Int) : Bool := !vZ a b
theorem k0c {a b : List Int} {n : Nat} (hn : a.length = n) (h : 0 ≤ iL a b n) : pG a b = true := by unfold pG; rw [k4x hn h]; rfl
theorem k0d {a b : List Int} {n : Nat} (hn : a.length = n) (h : ¬ 0 ≤ iL a b n) : pG a b = false := by unfold pG; rw [k4z hn h]; rfl
theorem rU {a b : List Int} (h : pG a b = true) : vZ a b = false := by unfold pG at h; cases e : vZ a b with
  | false => rfl
  | true => rw [e] at h; cases h
theorem rW {a b : List Int} (h : pG a b = false) : vZ a b = true := by unfold pG at h; cases e : vZ a b with
  | true => rfl
  | false => rw [e] at h; cases h
theorem aM {p : Prop} (h : p := by first | omega | (simp only [kL, kJ, kO, ka8, uO, ka5, kb7, kb8, kb9, kc0, kc5, ka8, kd1, kd8, ke5] <;> omega) | rfl) : p := h
theorem eR (l : List Int) (n : Nat) (hn : ka0 l = n) (hb : n ≤ 1000000) (h1 : 1 ≤ n) : Fun 46 [.c (.d (D.sl (dI .u64 l) n))] (kC []) 0 (oV 0 0 n 1) (kC [(0, some (27, .ds (dI .u64 l)))]) 1 := by
  refine Fun.mk (n := 8) Try.func46 rfl rfl (ka3 rfl) ?_
  intro cx hcx
  refine kK [.no] True [(0, sV .u64 l n)] [] 0 trivial ?_
  refine AW.seq ?_
  refine yZ [.no, .no] (1 ≤ n) [(0, sV .u64 l n), (4, bV false)] zo ?_
  refine uI ?_
  refine kK [.no, .no, .ap none (0 + n) (dI .u64 l), .no] (((dI .u64 l).length = n * 1) ∧ ((([] : List D) : List D).length = 0 * 1) ∧ ((0 + n) * 8 ≤ 140737488355328) ∧ ((0 : Nat) + n = (0 + n)) ∧ ((([] : List D) : List D) ++ (dI .u64 l) = (dI .u64 l))) [(2, oV 1 0 (0 + n) 1)] [(1, some (27, .ds (dI .u64 l)))] 2 ⟨aM, aM, zo, zo, rfl⟩ ?_
  refine AW.ret ?_
  exact kA (.inr rfl) [(0, 1)] (P := (kU 0) ∧ ((n : Nat) = (0 + n)) ∧ (kS (dI .u64 l))) zk ⟨rfl, (by first | omega | rfl | assumption | (simp; done) | (simp; omega)), rfl⟩
theorem eQ   : Fun 46 [.c (.d (D.lit (.slice none 0 0)))] (kC []) 0 (oV 0 0 0 1) (kC [(0, some (27, .ds ([] : List D)))]) 1 := by
  refine Fun.mk (n := 8) Try.func46 rfl rfl (ka3 rfl) ?_
  intro cx hcx
  refine kK [.no] True [(0, nV)] [] 0 trivial ?_
  refine AW.seq ?_
  refine yZ [.no, .no] True [(0, nV), (4, bV true)] trivial ?_
  refine zt ?_
  refine yZ [.no] True [(2, nV)] trivial ?_
  refine AW.adoptS 2 1 27 rfl ?_
  refine AW.ret ?_
  exact kA (.inr rfl) [] (P := (kU 0) ∧ (kU 0) ∧ (kS ([] : List D))) zk ⟨rfl, rfl, rfl⟩
theorem eP (a : Addr) (cap : Nat) (hm : cap ≤ maxLen) : Fun 46 [.c (.d (D.lit (.slice (some a) 0 cap)))] (kC []) 0 (oV 0 0 0 1) (kC [(0, some (27, .ds ([] : List D)))]) 1 := by
  refine Fun.mk (n := 8) Try.func46 rfl rfl (ka3 rfl) ?_
  intro cx hcx
  refine kK [.no] True [(0, kM (D.lit (.slice (some a) 0 cap)))] [] 0 trivial ?_
  refine AW.seq ?_
  refine yZ [.no, .no] True [(0, kM (D.lit (.slice (some a) 0 cap))), (4, bV false)] trivial ?_
  refine uI ?_
  refine xG 0 hm (fun h9 => by cases h9) rfl ?_
  refine kK [.no, .no, .ap none 0 ([] : List D), .no] ((([] : List D).length = 0 * 1) ∧ ((([] : List D) : List D).length = 0 * 1) ∧ ((0 + 0) * 8 ≤ 140737488355328) ∧ ((0 : Nat) + 0 = 0) ∧ ((([] : List D) : List D) ++ ([] : List D) = ([] : List D))) [(2, oV 1 0 0 1)] [(1, some (27, .ds ([] : List D)))] 2 ⟨aM, aM, zo, zo, rfl⟩ ?_
  refine AW.ret ?_
  exact kA (.inr rfl) [(0, 1)] (P := (kU 0) ∧ (kU 0) ∧ (kS ([] : List D))) zk ⟨rfl, rfl, rfl⟩
theorem lC (l : List Int) (n : Nat) (hn : ka0 l = n) (hb : n ≤ 1000000) : Fun 46 [.c (.d (D.sl (dI .u64 l) n))] (kC []) 0 (oV 0 0 n 1) (kC [(0, some (27, .ds (dI .u64 l)))]) 1 := by
  by_cases h1 : 1 ≤ n
  · exact eR l n hn hb h1
  · obtain rfl : n = 0 := by omega
    obtain rfl : l = [] := List.eq_nil_of_length_eq_zero hn
    exact xD eQ (fun a cap hm => eP a cap hm)
theorem k0n (r2 s2 : List Int) (n2 : Nat) (d2 : Int) (r s : List Int) (n : Nat) (d : Int) (hr2 : Byt r2) (hl2 : ka0 r2 ≤ 1000000) (hn2 : ka0 s2 = n2) (h2 : n2 ≤ 1000000) (hr : Byt r) (hl : ka0 r ≤ 1000000) (hn : ka0 s = n) (h1 : n ≤ 1000000) : Fun 22 [.agg [.d (D.lit (.string (strOfNums r2))), .d (D.sl (dI .u64 s2) n2), .d (D.lit (.int .u64 d2))], .c (.ptr 0 0)] (kC [(0, some (29, .ds [D.lit (.string (strOfNums r)), D.sl (dI .u64 s) n, D.lit (.int .u64 d)]))]) 1 (kM (D.lit (.bool (uQ r2 s2 r s)))) (kC [(0, some (29, .ds [D.lit (.string (strOfNums r)), D.sl (dI .u64 s) n, D.lit (.int .u64 d)]))]) 1 := by
  refine Fun.mk (n := 7) Try.func22 rfl rfl (ka3 rfl) ?_
  intro cx hcx
  refine kK [.no, .no] True [(1, rV 0 0), (2, rV 1 0)] [(0, some (29, .ds [D.lit (.string (strOfNums r)), D.sl (dI .u64 s) n, D.lit (.int .u64 d)])), (1, some (29, .ds [D.lit (.string (strOfNums r2)), D.sl (dI .u64 s2) n2, D.lit (.int .u64 d2)]))] 2 trivial ?_
  refine kK [.no, .no, .call [] (kM (D.lit (.bool (uQ r2 s2 r s)))) [] 0 [] none, .no] _ [(3, kM (D.lit (.bool (uQ r2 s2 r s))))] [(0, some (29, .ds [D.lit (.string (strOfNums r)), D.sl (dI .u64 s) n, D.lit (.int .u64 d)]))] 2 (xA r2 s2 n2 d2 r s n d (kR : Byt r2) zo zo zo (kR : Byt r) zo zo zo) ?_
  refine AW.ret ?_
  exact kA (.inr rfl) [] (P := ((uQ r2 s2 r s) = (uQ r2 s2 r s)) ∧ (kS [D.lit (.string (strOfNums r)), D.sl (dI .u64 s) n, D.lit (.int .u64 d)])) zk ⟨rfl, rfl⟩
theorem bT {p : Prop} (h : p := by first | omega | assumption | simp) : p := h
theorem fX {p : Prop} (h : p := by first | omega | (simp only [kL, kJ, kO, ka8, ka5, kb7, kb8, kb9, kc0] <;> omega)) : p := h
theorem uL {p : Prop} (h : p := by first | omega | with_reducible assumption | (simp only [kL, kJ, kO, ka8, ka5, kb7, kb8, kb9, kc0, kc5, ka8] <;> omega) | rfl | assumption) : p := h
theorem k0p (xs : List Ch) (q : Nat) (r s : List Int) (n : Nat) (d : Int) (hq : ka0 xs = q) (h0 : q ≤ 1000000) (hX : CsW xs) (hr : Byt r) (hl : ka0 r ≤ 1000000) (hn : ka0 s = n) (h1 : n ≤ 1000000) : Fun 41 [.c (.d (D.sl (kB xs) q)), .c (.fn 22 [(0, 0)])] (kC [(0, some (29, .ds [D.lit (.string (strOfNums r)), D.sl (dI .u64 s) n, D.lit (.int .u64 d)]))]) 1 (iV (u0 xs r s q)) (kC [(0, some (29, .ds [D.lit (.string (strOfNums r)), D.sl (dI .u64 s) n, D.lit (.int .u64 d)]))]) 1 := by
  refine Fun.mk (n := 19) Try.func41 rfl rfl (ka3 rfl) ?_
  intro cx hcx
  refine kK [.no] True [(0, uX (kB xs) q), (1, .e (.c (.fn 22 [(0, 0)])))] [(0, some (29, .ds [D.lit (.string (strOfNums r)), D.sl (dI .u64 s) n, D.lit (.int .u64 d)]))] 1 trivial ?_
  refine AW.seq ?_
  refine yZ [.no, .no, .no] True [(0, uX (kB xs) q), (1, .e (.c (.fn 22 [(0, 0)]))), (7, uV q), (8, iV 0)] trivial ?_
  refine AW.block ?_
  refine kW 1 hcx (fun (x : {x : Nat // match x with | k => (k ≤ q) ∧ (u0 xs r s k = -1)}) => match x with | ⟨k, _⟩ => (⟨[(0, uX (kB xs) q), (1, .e (.c (.fn 22 [(0, 0)]))), (7, uV q), (8, uV k)], [(0, some (29, .ds [D.lit (.string (strOfNums r)), D.sl (dI .u64 s) n, D.lit (.int .u64 d)]))], 1⟩ : ES)) (fun x => match x with | ⟨k, _⟩ => q - k) ⟨(0 : Nat), ⟨bT, rfl⟩⟩ [] (P := (kS (kB xs)) ∧ (kU q) ∧ (qA (q : Int)) ∧ (qA 0) ∧ (kS [D.lit (.string (strOfNums r)), D.sl (dI .u64 s) n, D.lit (.int .u64 d)])) zk ⟨rfl, rfl, rfl, rfl, rfl⟩ ?_
  rintro ⟨k, hinv0⟩
  obtain ⟨hk, hi⟩ : (k ≤ q) ∧ (u0 xs r s k = -1) := hinv0
  refine qX (l := [(0, uX (kB xs) q), (1, .e (.c (.fn 22 [(0, 0)]))), (7, uV q), (8, uV k)]) (g := [(0, some (29, .ds [D.lit (.string (strOfNums r)), D.sl (dI .u64 s) n, D.lit (.int .u64 d)]))]) (nx := 1) rfl rfl rfl ?_
  by_cases hx1 : (((k : Nat) : Int) < ((q : Nat) : Int))
  · refine zr [.b true] [0, 1, 7, 8, 9] [0] (((k : Int) < (q : Int))) [(0, uX (kB xs) q), (1, .e (.c (.fn 22 [(0, 0)]))), (7, uV q), (8, uV k), (9, bV true)] [(0, some (29, .ds [D.lit (.string (strOfNums r)), D.sl (dI .u64 s) n, D.lit (.int .u64 d)]))] 1 zo ?_
    refine AW.seq ?_
    refine cQ ?_
    refine AW.seq ?_
    refine AW.block ?_
    refine kK [.no, .no] True [(0, uX (kB xs) q), (1, .e (.c (.fn 22 [(0, 0)]))), (5, uV k), (7, uV q), (8, uV k)] [(0, some (29, .ds [D.lit (.string (strOfNums r)), D.sl (dI .u64 s) n, D.lit (.int .u64 d)]))] 1 trivial ?_
    rcases ka7 (uQ (kH xs k) (kD xs k) r s) with hx5 | hx5
    · obtain ⟨hx6, hx7, hx8⟩ := CsW.at (kR : CsW xs) (k)
      refine kK [.no, .no, .no, .n k, .ds [D.lit (.string (strOfNums (kH xs k))), D.sl (dI .u64 (kD xs k)) (ka0 (kD xs k)), D.lit (.int .u64 (kN xs k))], .call [0] (bV true) [(0, some (29, .ds [D.lit (.string (strOfNums r)), D.sl (dI .u64 s) n, D.lit (.int .u64 d)]))] 1 [] none] ((qA (k : Int)) ∧ (k < q) ∧ (ka6 3 (kb4 (k * 3) (kB xs)) = [D.lit (.string (strOfNums (kH xs k))), D.sl (dI .u64 (kD xs k)) (ka0 (kD xs k)), D.lit (.int .u64 (kN xs k))]) ∧ (([D.lit (.string (strOfNums (kH xs k))), D.sl (dI .u64 (kD xs k)) (ka0 (kD xs k)), D.lit (.int .u64 (kN xs k))] : List D).length = 3) ∧ (Fun 22 [.agg [.d (D.lit (.string (strOfNums (kH xs k)))), .d (D.sl (dI .u64 (kD xs k)) (ka0 (kD xs k))), .d (D.lit (.int .u64 (kN xs k)))], .c (.ptr 0 0)] (kC [(0, some (29, .ds [D.lit (.string (strOfNums r)), D.sl (dI .u64 s) n, D.lit (.int .u64 d)]))]) 1 (bV true) (kC [(0, some (29, .ds [D.lit (.string (strOfNums r)), D.sl (dI .u64 s) n, D.lit (.int .u64 d)]))]) 1)) [(0, uX (kB xs) q), (1, .e (.c (.fn 22 [(0, 0)]))), (5, uV k), (7, uV q), (8, uV k), (16, bV true)] [(0, some (29, .ds [D.lit (.string (strOfNums r)), D.sl (dI .u64 s) n, D.lit (.int .u64 d)]))] 1 ⟨rfl, zo, (q8 (i := k) fX), rfl, (by have h0 := (k0n (kH xs k) (kD xs k) (ka0 (kD xs k)) (kN xs k) r s n d (kR : Byt (kH xs k)) uL rfl uL (kR : Byt r) zo zo zo); rw [hx5] at h0; exact h0)⟩ ?_
      refine zt ?_
      refine yZ [.no, .no] True [(4, uV k)] trivial ?_
      refine AW.ret ?_
      exact kA (.inr rfl) [] (P := (((u0 xs r s q) : Int) = (k : Int)) ∧ (kS [D.lit (.string (strOfNums r)), D.sl (dI .u64 s) n, D.lit (.int .u64 d)])) zk ⟨(by first | rfl | exact mV hi (by assumption) zo | (rw [show q = k by omega]; exact hi) | omega), rfl⟩
    · obtain ⟨hx9, hx10, hx11⟩ := CsW.at (kR : CsW xs) (k)
      refine kK [.no, .no, .no, .n k, .ds [D.lit (.string (strOfNums (kH xs k))), D.sl (dI .u64 (kD xs k)) (ka0 (kD xs k)), D.lit (.int .u64 (kN xs k))], .call [0] (bV false) [(0, some (29, .ds [D.lit (.string (strOfNums r)), D.sl (dI .u64 s) n, D.lit (.int .u64 d)]))] 1 [] none] ((qA (k : Int)) ∧ (k < q) ∧ (ka6 3 (kb4 (k * 3) (kB xs)) = [D.lit (.string (strOfNums (kH xs k))), D.sl (dI .u64 (kD xs k)) (ka0 (kD xs k)), D.lit (.int .u64 (kN xs k))]) ∧ (([D.lit (.string (strOfNums (kH xs k))), D.sl (dI .u64 (kD xs k)) (ka0 (kD xs k)), D.lit (.int .u64 (kN xs k))] : List D).length = 3) ∧ (Fun 22 [.agg [.d (D.lit (.string (strOfNums (kH xs k)))), .d (D.sl (dI .u64 (kD xs k)) (ka0 (kD xs k))), .d (D.lit (.int .u64 (kN xs k)))], .c (.ptr 0 0)] (kC [(0, some (29, .ds [D.lit (.string (strOfNums r)), D.sl (dI .u64 s) n, D.lit (.int .u64 d)]))]) 1 (bV false) (kC [(0, some (29, .ds [D.lit (.string (strOfNums r)), D.sl (dI .u64 s) n, D.lit (.int .u64 d)]))]) 1)) [(0, uX (kB xs) q), (1, .e (.c (.fn 22 [(0, 0)]))), (5, uV k), (7, uV q), (8, uV k), (16, bV false)] [(0, some (29, .ds [D.lit (.string (strOfNums r)), D.sl (dI .u64 s) n, D.lit (.int .u64 d)]))] 1 ⟨rfl, zo, (q8 (i := k) fX), rfl, (by have h0 := (k0n (kH xs k) (kD xs k) (ka0 (kD xs k)) (kN xs k) r s n d (kR : Byt (kH xs k)) uL rfl uL (kR : Byt r) zo zo zo); rw [hx5] at h0; exact h0)⟩ ?_
      refine uI ?_
      refine cW [.w, .no] (uY ((k : Int) + 1)) [(0, uX (kB xs) q), (1, .e (.c (.fn 22 [(0, 0)]))), (7, uV q), (8, iV (↑k + 1))] ⟨by omega, by omega⟩ ?_
      exact k8 ⟨((k + 1) : Nat), ⟨bT, (k0a hi (by assumption))⟩⟩ [] (P := (kS (kB xs)) ∧ (kU q) ∧ (qA (q : Int)) ∧ (vA k) ∧ (kS [D.lit (.string (strOfNums r)), D.sl (dI .u64 s) n, D.lit (.int .u64 d)])) zk ⟨rfl, rfl, rfl, (by first | rfl | omega | assumption | (simp; done) | (simp; omega)), rfl⟩ (show q - (k + 1) < q - k from (by first | omega | (show _ < _; simp; omega)))
  · refine zr [.b false] [0, 1, 7, 8, 9] [0] (¬ ((k : Int) < (q : Int))) [(0, uX (kB xs) q), (1, .e (.c (.fn 22 [(0, 0)]))), (7, uV q), (8, uV k), (9, bV false)] [(0, some (29, .ds [D.lit (.string (strOfNums r)), D.sl (dI .u64 s) n, D.lit (.int .u64 d)]))] 1 zo ?_
    refine AW.seq ?_
    refine zf ?_
    refine AW.exit ?_
    refine kK [.no] True [(4, iV (-1))] [(0, some (29, .ds [D.lit (.string (strOfNums r)), D.sl (dI .u64 s) n, D.lit (.int .u64 d)]))] 1 trivial ?_
    refine AW.ret ?_
    exact kA (.inr rfl) [] (P := (((u0 xs r s q) : Int) = (-1)) ∧ (kS [D.lit (.string (strOfNums r)), D.sl (dI .u64 s) n, D.lit (.int .u64 d)])) zk ⟨(by first | rfl | exact mV hi (by assumption) zo | (rw [show q = k by omega]; exact hi) | omega), rfl⟩
theorem k4k (xs : List Ch) (q : Nat) (r s : List Int) (n : Nat) (d : Int) (hq : ka0 xs = q) (h0 : q ≤ 1000000) (hX : CsW xs) (hr : Byt r) (hl : ka0 r ≤ 1000000) (hn : ka0 s = n) (h1 : n ≤ 1000000) : Fun 25 [.c (.d (D.sl (kB xs) q)), .c (.fn 22 [(0, 0)])] (kC [(0, some (29, .ds [D.lit (.string (strOfNums r)), D.sl (dI .u64 s) n, D.lit (.int .u64 d)]))]) 1 (kM (D.lit (.bool (jZ xs r s)))) (kC [(0, some (29, .ds [D.lit (.string (strOfNums r)), D.sl (dI .u64 s) n, D.lit (.int .u64 d)]))]) 1 := by
  refine Fun.mk (n := 9) Try.func25 rfl rfl (ka3 rfl) ?_
  intro cx hcx
  refine kK [.no] True [(0, uX (kB xs) q), (1, .e (.c (.fn 22 [(0, 0)])))] [(0, some (29, .ds [D.lit (.string (strOfNums r)), D.sl (dI .u64 s) n, D.lit (.int .u64 d)]))] 1 trivial ?_
  by_cases hx2 : ((0 : Int) ≤ (u0 xs r s q))
  · have hx3 : (((((-1) : Int) ≤ (u0 xs r s q)) ∧ ((u0 xs r s q) < ((q : Nat) : Int))) ∨ ((q = 0) ∧ ((u0 xs r s q) = (-1)))) := hC _ _
    refine kK [.no, .no, .call [0] (iV (u0 xs r s q)) [(0, some (29, .ds [D.lit (.string (strOfNums r)), D.sl (dI .u64 s) n, D.lit (.int .u64 d)]))] 1 [] none, .b true, .no] ((_) ∧ (((0 : Int) ≤ (u0 xs r s q)))) [(4, bV true)] [(0, some (29, .ds [D.lit (.string (strOfNums r)), D.sl (dI .u64 s) n, D.lit (.int .u64 d)]))] 1 ⟨(k0p xs q r s n d zo zo (kR : CsW xs) (kR : Byt r) zo zo zo), zo⟩ ?_
    refine AW.ret ?_
    exact kA (.inr rfl) [] (P := ((jZ xs r s) = true) ∧ (kS [D.lit (.string (strOfNums r)), D.sl (dI .u64 s) n, D.lit (.int .u64 d)])) zk ⟨(by first | exact k43 hq zo | exact k2h hq zo), rfl⟩
  · have hx4 : (((((-1) : Int) ≤ (u0 xs r s q)) ∧ ((u0 xs r s q) < ((q : Nat) : Int))) ∨ ((q = 0) ∧ ((u0 xs r s q) = (-1)))) := hC _ _
    refine kK [.no, .no, .call [0] (iV (u0 xs r s q)) [(0, some (29, .ds [D.lit (.string (strOfNums r)), D.sl (dI .u64 s) n, D.lit (.int .u64 d)]))] 1 [] none, .b false, .no] ((_) ∧ (¬ ((0 : Int) ≤ (u0 xs r s q)))) [(4, bV false)] [(0, some (29, .ds [D.lit (.string (strOfNums r)), D.sl (dI .u64 s) n, D.lit (.int .u64 d)]))] 1 ⟨(k0p xs q r s n d zo zo (kR : CsW xs) (kR : Byt r) zo zo zo), zo⟩ ?_
    refine AW.ret ?_
    exact kA (.inr rfl) [] (P := ((jZ xs r s) = false) ∧ (kS [D.lit (.string (strOfNums r)), D.sl (dI .u64 s) n, D.lit (.int .u64 d)])) zk ⟨(by first | exact k43 hq zo | exact k2h hq zo), rfl⟩
theorem n3 (r2 s2 : List Int) (n2 : Nat) (d2 : Int) (r s : List Int) (n : Nat) (d : Int) (hr2 : Byt r2) (hl2 : ka0 r2 ≤ 1000000) (hn2 : ka0 s2 = n2) (h2 : n2 ≤ 1000000) (hr : Byt r) (hl : ka0 r ≤ 1000000) (hn : ka0 s = n) (h1 : n ≤ 1000000) : Fun 29 [.agg [.d (D.lit (.string (strOfNums r2))), .d (D.sl (dI .u64 s2) n2), .d (D.lit (.int .u64 d2))], .c (.ptr 0 0)] (kC [(0, some (29, .ds [D.lit (.string (strOfNums r)), D.sl (dI .u64 s) n, D.lit (.int .u64 d)]))]) 1 (kM (D.lit (.bool (uQ r2 s2 r s)))) (kC [(0, some (29, .ds [D.lit (.string (strOfNums r)), D.sl (dI .u64 s) n, D.lit (.int .u64 d)]))]) 1 := by
  refine Fun.mk (n := 7) Try.func29 rfl rfl (ka3 rfl) ?_
  intro cx hcx
  refine kK [.no, .no] True [(1, rV 0 0), (2, rV 1 0)] [(0, some (29, .ds [D.lit (.string (strOfNums r)), D.sl (dI .u64 s) n, D.lit (.int .u64 d)])), (1, some (29, .ds [D.lit (.string (strOfNums r2)), D.sl (dI .u64 s2) n2, D.lit (.int .u64 d2)]))] 2 trivial ?_
  refine kK [.no, .no, .call [] (kM (D.lit (.bool (uQ r2 s2 r s)))) [] 0 [] none, .no] _ [(3, kM (D.lit (.bool (uQ r2 s2 r s))))] [(0, some (29, .ds [D.lit (.string (strOfNums r)), D.sl (dI .u64 s) n, D.lit (.int .u64 d)]))] 2 (xA r2 s2 n2 d2 r s n d (kR : Byt r2) zo zo zo (kR : Byt r) zo zo zo) ?_
  refine AW.ret ?_
  exact kA (.inr rfl) [] (P := ((uQ r2 s2 r s) = (uQ r2 s2 r s)) ∧ (kS [D.lit (.string (strOfNums r)), D.sl (dI .u64 s) n, D.lit (.int .u64 d)])) zk ⟨rfl, rfl⟩
theorem k05 (r s : List Int) (n : Nat) (d : Int) (z : Int) (hr : Byt r) (hl : ka0 r ≤ 1000000) (hn : ka0 s = n) (h1 : n ≤ 1000000) : Fun 36 [.agg [.d (D.lit (.string (strOfNums r))), .d (D.sl (dI .u64 s) n), .d (D.lit (.int .u64 d))], .c (.ptr 0 0)] (kC [(0, some (27, .ds [D.lit (.int .u64 z)]))]) 1 (kM (D.lit (.bool (decide (d = z))))) (kC [(0, some (27, .ds [D.lit (.int .u64 z)]))]) 1 := by
  refine Fun.mk (n := 8) Try.func36 rfl rfl (ka3 rfl) ?_
  intro cx hcx
  refine kK [.no, .no] True [(1, rV 0 0), (2, rV 1 0)] [(0, some (27, .ds [D.lit (.int .u64 z)])), (1, some (29, .ds [D.lit (.string (strOfNums r)), D.sl (dI .u64 s) n, D.lit (.int .u64 d)]))] 2 trivial ?_
  by_cases hx1 : (d = z)
  · refine zr [.no, .no, .no, .b true, .no] [3] [0] ((d = z)) [(3, bV true)] [(0, some (27, .ds [D.lit (.int .u64 z)]))] 2 zo ?_
    refine AW.ret ?_
    exact kA (.inr rfl) [] (P := ((decide (d = z)) = true) ∧ (kS [D.lit (.int .u64 z)])) zk ⟨(by first | rfl | assumption | exact decide_eq_true zo | exact decide_eq_false zo | (simp; omega)), rfl⟩
  · refine zr [.no, .no, .no, .b false, .no] [3] [0] (¬ (d = z)) [(3, bV false)] [(0, some (27, .ds [D.lit (.int .u64 z)]))] 2 zo ?_
    refine AW.ret ?_
    exact kA (.inr rfl) [] (P := ((decide (d = z)) = false) ∧ (kS [D.lit (.int .u64 z)])) zk ⟨(by first | rfl | assumption | exact decide_eq_true zo | exact decide_eq_false zo | (simp; omega)), rfl⟩
theorem fW {p : Prop} (h : p := by first | exact iP (by assumption) | exact k06 (by assumption)) : p := h
theorem yQ (xs : List Ch) (q : Nat) (hq : ka0 xs = q) (h0 : q ≤ 1000000) (hX : CsW xs) : Fun 10 [.agg [.d (D.sl (kB xs) q)]] (kC []) 0 (kM (D.lit (.bool (yM xs)))) (kC []) 0 := by
  refine Fun.mk (n := 31) Try.func10 rfl rfl (ka3 rfl) ?_
  intro cx hcx
  refine kK [.no, .no] True [(1, rV 0 0)] [(0, some (25, .ds [D.sl (kB xs) q]))] 1 trivial ?_
  refine AW.seq ?_
  by_cases hx1 : ((32 : Int) < ((q : Nat) : Int))
  · refine zr [.no, .no, .no, .b true] [1, 9] [0] (((32 : Int) < (q : Int))) [(1, rV 0 0), (9, bV true)] [(0, some (25, .ds [D.sl (kB xs) q]))] 1 zo ?_
    refine zt ?_
    refine kK [.no] True [(2, bV false)] [] 1 trivial ?_
    refine AW.ret ?_
    exact kA (.inr rfl) [] (P := ((yM xs) = false)) zk (by first | exact iN zo | exact f3 zo (fun j hj => ha j zo) | exact iO (k := i) zo fW)
  · refine zr [.no, .no, .no, .b false] [1, 9] [0] (¬ ((32 : Int) < (q : Int))) [(1, rV 0 0), (9, bV false)] [(0, some (25, .ds [D.sl (kB xs) q]))] 1 zo ?_
    refine uI ?_
    refine AW.seq ?_
    refine kK (qC 4 []) True [(1, rV 0 0), (11, uX (kB xs) q), (12, uV q), (13, iV 0)] [(0, some (25, .ds [D.sl (kB xs) q]))] 1 trivial ?_
    refine AW.block ?_
    refine kW 0 hcx (fun (x : {x : Nat // match x with | i => (i ≤ q) ∧ (∀ j, j < i → cY xs j = true)}) => match x with | ⟨i, _⟩ => (⟨[(1, rV 0 0), (11, uX (kB xs) q), (12, uV q), (13, uV i)], [(0, some (25, .ds [D.sl (kB xs) q]))], 1⟩ : ES)) (fun x => match x with | ⟨i, _⟩ => q - i) ⟨(0 : Nat), ⟨bT, (fun j hj => absurd hj (kd3 j))⟩⟩ [] (P := (kU 0) ∧ (kS (kB xs)) ∧ (kU q) ∧ (qA (q : Int)) ∧ (qA 0) ∧ (kS [D.sl (kB xs) q])) zk ⟨rfl, rfl, rfl, rfl, rfl, rfl⟩ ?_
    rintro ⟨i, hinv0⟩
    obtain ⟨hi, ha⟩ : (i ≤ q) ∧ (∀ j, j < i → cY xs j = true) := hinv0
    refine qX (l := [(1, rV 0 0), (11, uX (kB xs) q), (12, uV q), (13, uV i)]) (g := [(0, some (25, .ds [D.sl (kB xs) q]))]) (nx := 1) rfl rfl rfl ?_
    by_cases hx2 : (((i : Nat) : Int) < ((q : Nat) : Int))
    · refine zr [.b true] [1, 11, 12, 13, 14] [0] (((i : Int) < (q : Int))) [(1, rV 0 0), (11, uX (kB xs) q), (12, uV q), (13, uV i), (14, bV true)] [(0, some (25, .ds [D.sl (kB xs) q]))] 1 zo ?_
      refine AW.seq ?_
      refine cQ ?_
      refine AW.seq ?_
      refine AW.block ?_
      obtain ⟨hx3, hx4, hx5⟩ := CsW.at (kR : CsW xs) (i)
      refine kK [.no, .n i, .ds [D.lit (.string (strOfNums (kH xs i))), D.sl (dI .u64 (kD xs i)) (ka0 (kD xs i)), D.lit (.int .u64 (kN xs i))], .no, .no, .no] ((qA (i : Int)) ∧ (i < q) ∧ (ka6 3 (kb4 (i * 3) (kB xs)) = [D.lit (.string (strOfNums (kH xs i))), D.sl (dI .u64 (kD xs i)) (ka0 (kD xs i)), D.lit (.int .u64 (kN xs i))]) ∧ (([D.lit (.string (strOfNums (kH xs i))), D.sl (dI .u64 (kD xs i)) (ka0 (kD xs i)), D.lit (.int .u64 (kN xs i))] : List D).length = 3)) [(1, rV 0 0), (3, uV i), (4, rV 1 0), (11, uX (kB xs) q), (12, uV q), (13, uV i)] [(0, some (25, .ds [D.sl (kB xs) q])), (1, some (29, .ds [D.lit (.string (strOfNums (kH xs i))), D.sl (dI .u64 (kD xs i)) (ka0 (kD xs i)), D.lit (.int .u64 (kN xs i))]))] 2 ⟨rfl, zo, (q8 (i := i) fX), rfl⟩ ?_
      refine yZ [.no, .no] True [(1, rV 0 0), (3, uV i), (4, rV 1 0), (5, .e (.c (.fn 22 [(1, 0)]))), (11, uX (kB xs) q), (12, uV q), (13, uV i)] trivial ?_
      rcases ka7 (uW (kH xs i) (kD xs i) (kN xs i)) with hx6 | hx6
      · refine zr (.no :: .call [] (bV true) [] 0 [] none :: qC 5 [.sls 0 i i (kB (ka6 i xs)), .no, .call [1] (kM (D.lit (.bool (jZ (ka6 i xs) (kH xs i) (kD xs i))))) [(0, some (29, .ds [D.lit (.string (strOfNums (kH xs i))), D.sl (dI .u64 (kD xs i)) (ka0 (kD xs i)), D.lit (.int .u64 (kN xs i))]))] 1 [] none, .no]) [1, 11, 12, 13, 29] [0] ((Fun 24 [.agg [.d (D.lit (.string (strOfNums (kH xs i)))), .d (D.sl (dI .u64 (kD xs i)) (ka0 (kD xs i))), .d (D.lit (.int .u64 (kN xs i)))]] (kC []) 0 (bV true) (kC []) 0) ∧ (kU 0) ∧ (qA (i : Int)) ∧ ((0 : Nat) ≤ i) ∧ (i ≤ q) ∧ (i - 0 = i) ∧ (ka6 (i * 3) (kb4 (0 * 3) (kB xs)) = (kB (ka6 i xs))) ∧ (_)) [(1, rV 0 0), (11, uX (kB xs) q), (12, uV q), (13, uV i), (29, kM (D.lit (.bool (jZ (ka6 i xs) (kH xs i) (kD xs i)))))] [(0, some (25, .ds [D.sl (kB xs) q]))] 2 ⟨(by have h0 := (iI (kH xs i) (kD xs i) (ka0 (kD xs i)) (kN xs i) (kR : Byt (kH xs i)) uL rfl uL); rw [hx6] at h0; exact h0), rfl, rfl, zo, zo, zo, (by first | exact y4 _ _ | (rw [kf7]; exact y4 _ _) | (rw [Nat.zero_mul, kf7]; exact y4 _ _)), (k4k (ka6 i xs) i (kH xs i) (kD xs i) (ka0 (kD xs i)) (kN xs i) uL zo (CsW.take (kR : CsW xs) _) (kR : Byt (kH xs i)) uL rfl uL)⟩ ?_
        rcases ka7 (jZ (ka6 i xs) (kH xs i) (kD xs i)) with hx7 | hx7
        · rw [hx7]
          refine zt ?_
          refine kK [.no] True [(2, bV false)] [] 2 trivial ?_
          refine AW.ret ?_
          exact kA (.inr rfl) [] (P := ((yM xs) = false)) zk (by first | exact iN zo | exact f3 zo (fun j hj => ha j zo) | exact iO (k := i) zo fW)
        · rw [hx7]
          refine uI ?_
          refine b9 [.w, .no] (uY ((i : Int) + 1)) [(1, rV 0 0), (11, uX (kB xs) q), (12, uV q), (13, iV (↑i + 1))] [(0, some (25, .ds [D.sl (kB xs) q]))] 2 ⟨by omega, by omega⟩ ?_
          exact k8 ⟨((i + 1) : Nat), ⟨bT, (fun j hj => (Nat.lt_succ_iff_lt_or_eq.1 hj).elim (ha j) (fun e9 => by subst e9; exact pP (by assumption) (by assumption)))⟩⟩ [] (P := (kU 0) ∧ (kS (kB xs)) ∧ (kU q) ∧ (qA (q : Int)) ∧ (vA i) ∧ (kS [D.sl (kB xs) q])) zk ⟨rfl, rfl, rfl, rfl, (by first | rfl | omega | assumption | (simp; done) | (simp; omega)), rfl⟩ (show q - (i + 1) < q - i from (by first | omega | (show _ < _; simp; omega)))
      · refine zr [.no, .call [] (bV false) [] 0 [] none, .no, .no, .no] [1, 11, 12, 13, 29] [0] (Fun 24 [.agg [.d (D.lit (.string (strOfNums (kH xs i)))), .d (D.sl (dI .u64 (kD xs i)) (ka0 (kD xs i))), .d (D.lit (.int .u64 (kN xs i)))]] (kC []) 0 (bV false) (kC []) 0) [(1, rV 0 0), (11, uX (kB xs) q), (12, uV q), (13, uV i), (29, bV true)] [(0, some (25, .ds [D.sl (kB xs) q]))] 2 (by have h0 := (iI (kH xs i) (kD xs i) (ka0 (kD xs i)) (kN xs i) (kR : Byt (kH xs i)) uL rfl uL); rw [hx6] at h0; exact h0) ?_
        refine zt ?_
        refine kK [.no] True [(2, bV false)] [] 2 trivial ?_
        refine AW.ret ?_
        exact kA (.inr rfl) [] (P := ((yM xs) = false)) zk (by first | exact iN zo | exact f3 zo (fun j hj => ha j zo) | exact iO (k := i) zo fW)
    · refine zr [.b false] [1, 11, 12, 13, 14] [0] (¬ ((i : Int) < (q : Int))) [(1, rV 0 0), (11, uX (kB xs) q), (12, uV q), (13, uV i), (14, bV false)] [(0, some (25, .ds [D.sl (kB xs) q]))] 1 zo ?_
      refine AW.seq ?_
      refine zf ?_
      refine AW.exit ?_
      refine kK [.no] True [(2, bV true)] [] 1 trivial ?_
      refine AW.ret ?_
      exact kA (.inr rfl) [] (P := ((yM xs) = true)) zk (by first | exact iN zo | exact f3 zo (fun j hj => ha j zo) | exact iO (k := i) zo fW)
theorem k0s (r s : List Int) (n : Nat) (d : Int) (hr : Byt r) (hl : ka0 r ≤ 1000000) (hn : ka0 s = n) (h1 : n ≤ 1000000) : Fun 30 [.agg [.d (D.lit (.string (strOfNums r))), .d (D.sl (dI .u64 s) n), .d (D.lit (.int .u64 d))]] (kC []) 0 (.e (.agg [.d (D.lit (.string (strOfNums r))), .d (D.sl (dI .u64 s) n), .d (D.lit (.int .u64 d))])) (kC []) 0 := by
  refine Fun.mk (n := 8) Try.func30 rfl rfl (ka3 rfl) ?_
  intro cx hcx
  refine kK [.no, .no] True [(1, rV 0 0), (2, rV 1 0)] [(0, some (29, .ds [D.lit (.string (strOfNums r)), D.sl (dI .u64 s) n, D.lit (.int .u64 d)])), (1, some (29, .ds [D.lit (.string { data := #[] }), uH, D.lit (.int .u64 0)]))] 2 trivial ?_
  refine kK [.no, .no, .call [] (oV 0 0 n 1) [(0, some (27, .ds (dI .u64 s)))] 1 [] none, .no, .no] _ [(1, rV 0 0), (2, rV 1 0)] [(0, some (29, .cs [.d (D.lit (.string (strOfNums r))), .own 2 0 n 1 true, .d (D.lit (.int .u64 d))])), (1, some (29, .ds [D.lit (.string { data := #[] }), uH, D.lit (.int .u64 0)])), (2, some (27, .ds (dI .u64 s)))] 3 (lC s n zo zo) ?_
  refine kK [.no, .no] True [(2, rV 1 0)] [(1, some (29, .cs [.d (D.lit (.string (strOfNums r))), .own 2 0 n 1 true, .d (D.lit (.int .u64 d))])), (2, some (27, .ds (dI .u64 s)))] 3 trivial ?_
  refine AW.freeze 2 (l' := [(2, rV 1 0)]) (g' := [(1, some (29, .ds [D.lit (.string (strOfNums r)), D.sl (dI .u64 s) n, D.lit (.int .u64 d)]))]) rfl (FzS.cons rfl (.same _) FzS.nil) (FzG.to (bc := .cs [.d (D.lit (.string (strOfNums r))), .own 2 0 n 1 true, .d (D.lit (.int .u64 d))]) rfl (by rfl) (FzL.cons (.same _) (FzL.cons (@FzC.own 2 ((dI .u64 s) : List D) 0 n 1 true ((dI .u64 s) : List D) (by rw [kf7, ke5, kc7 (by first | omega | (simp only [kL, kJ, kO, ka8, uO, ka5, kb7, kb8, kb9, kc0, kc5, ka8, kd1, kd8, ke5] <;> omega))]) aM) (FzL.cons (.same _) FzL.nil))) FzG.nil) ?_
  refine AW.ret ?_
  exact kA (.inr rfl) [] (P := ((.string (strOfNums r) : Value) = .string (strOfNums r)) ∧ (kS (dI .u64 s)) ∧ (kU n) ∧ (qA d)) zk ⟨rfl, rfl, rfl, rfl⟩
theorem k04 (xs : List Ch) (q : Nat) (hq : ka0 xs = q) (h0 : q ≤ 1000000) (hX : CsW xs) : Fun 49 [.c (.d (D.sl (kB xs) q)), .c (.fn 30 [])] (kC []) 0 (oV 0 0 q 3) (kC [(0, some (29, .ds (kB xs)))]) 1 := by
  refine Fun.mk (n := 22) Try.func49 rfl rfl (ka3 rfl) ?_
  intro cx hcx
  refine kK [.no] True [(0, uX (kB xs) q), (1, .e (.c (.fn 30 [])))] [] 0 trivial ?_
  refine yZ [.no] True [(0, uX (kB xs) q), (1, .e (.c (.fn 30 []))), (5, nV)] trivial ?_
  refine AW.seq ?_
  refine yZ [.no, .no, .no] True [(1, .e (.c (.fn 30 []))), (5, nV), (8, uX (kB xs) q), (9, uV q), (10, iV 0)] trivial ?_
  refine AW.block ?_
  refine AW.adoptS 5 3 29 rfl ?_
  refine kW 0 hcx (fun (x : {x : Nat // match x with | z => (z ≤ q)}) => match x with | ⟨z, _⟩ => (⟨[(1, .e (.c (.fn 30 []))), (5, oV 1 0 z 3), (8, uX (kB xs) q), (9, uV q), (10, uV z)], [(1, some (29, .ds (kB (ka6 z xs))))], 2⟩ : ES)) (fun x => match x with | ⟨z, _⟩ => q - z) ⟨(0 : Nat), (show ((0 : Nat) ≤ q) from bT)⟩ [(1, 0)] (P := (kU 0) ∧ (kU 0) ∧ (kS (kB xs)) ∧ (kU q) ∧ (qA (q : Int)) ∧ (qA 0) ∧ (((kB (ka6 0 xs)) : List D) = ([] : List D))) zk ⟨rfl, rfl, rfl, rfl, rfl, rfl, (by first | rfl | with_reducible assumption | exact congrArg kB (yP zo).symm | exact congrArg kB (yP zo))⟩ ?_
  rintro ⟨z, hinv0⟩
  have hz : (z ≤ q) := hinv0
  refine qX (l := [(1, .e (.c (.fn 30 []))), (5, oV 1 0 z 3), (8, uX (kB xs) q), (9, uV q), (10, uV z)]) (g := [(1, some (29, .ds (kB (ka6 z xs))))]) (nx := 2) rfl rfl rfl ?_
  by_cases hx1 : (((z : Nat) : Int) < ((q : Nat) : Int))
  · refine zr [.b true] [1, 5, 8, 9, 10, 11] [1] (((z : Int) < (q : Int))) [(1, .e (.c (.fn 30 []))), (5, oV 1 0 z 3), (8, uX (kB xs) q), (9, uV q), (10, uV z), (11, bV true)] [(1, some (29, .ds (kB (ka6 z xs))))] 2 zo ?_
    refine AW.seq ?_
    refine cQ ?_
    refine AW.seq ?_
    refine AW.block ?_
    obtain ⟨hx2, hx3, hx4⟩ := CsW.at (kR : CsW xs) (z)
    refine kK [.n z, .ds [D.lit (.string (strOfNums (kH xs z))), D.sl (dI .u64 (kD xs z)) (ka0 (kD xs z)), D.lit (.int .u64 (kN xs z))], .no, .no] ((qA (z : Int)) ∧ (z < q) ∧ (ka6 3 (kb4 (z * 3) (kB xs)) = [D.lit (.string (strOfNums (kH xs z))), D.sl (dI .u64 (kD xs z)) (ka0 (kD xs z)), D.lit (.int .u64 (kN xs z))]) ∧ (([D.lit (.string (strOfNums (kH xs z))), D.sl (dI .u64 (kD xs z)) (ka0 (kD xs z)), D.lit (.int .u64 (kN xs z))] : List D).length = 3)) [(1, .e (.c (.fn 30 []))), (5, oV 1 0 z 3), (7, rV 2 0), (8, uX (kB xs) q), (9, uV q), (10, uV z)] [(1, some (29, .ds (kB (ka6 z xs)))), (2, some (29, .ds [D.lit (.string (strOfNums (kH xs z))), D.sl (dI .u64 (kD xs z)) (ka0 (kD xs z)), D.lit (.int .u64 (kN xs z))]))] 3 ⟨rfl, zo, (q8 (i := z) fX), rfl⟩ ?_
    refine b9 [.no, .no, .no, .call [] (.e (.agg [.d (D.lit (.string (strOfNums (kH xs z)))), .d (D.sl (dI .u64 (kD xs z)) (ka0 (kD xs z))), .d (D.lit (.int .u64 (kN xs z)))])) [] 0 [] none, .no, .ap none (z + 1) (kB ((ka6 z xs) ++ ([(k9 (kH xs z) (kD xs z) (kN xs z))] : List Ch))), .no] ((_) ∧ ([D.lit (.string (strOfNums (kH xs z))), D.sl (dI .u64 (kD xs z)) (ka0 (kD xs z)), D.lit (.int .u64 (kN xs z))].length = 1 * 3) ∧ (((kB (ka6 z xs)) : List D).length = z * 3) ∧ ((z + 1) * 48 ≤ 140737488355328) ∧ (z + 1 = (z + 1)) ∧ (((kB (ka6 z xs)) : List D) ++ [D.lit (.string (strOfNums (kH xs z))), D.sl (dI .u64 (kD xs z)) (ka0 (kD xs z)), D.lit (.int .u64 (kN xs z))] = (kB ((ka6 z xs) ++ ([(k9 (kH xs z) (kD xs z) (kN xs z))] : List Ch))))) [(1, .e (.c (.fn 30 []))), (5, oV 4 0 (z + 1) 3), (8, uX (kB xs) q), (9, uV q), (10, uV z)] [(4, some (29, .ds (kB ((ka6 z xs) ++ ([(k9 (kH xs z) (kD xs z) (kN xs z))] : List Ch)))))] 5 ⟨(k0s (kH xs z) (kD xs z) (ka0 (kD xs z)) (kN xs z) (kR : Byt (kH xs z)) uL rfl uL), aM, aM, zo, zo, (iB (ka6 z xs) (kH xs z) (kD xs z) (ka0 (kD xs z)) (kN xs z) (by first | rfl | assumption | omega))⟩ ?_
    refine cW [.w, .no] (uY ((z : Int) + 1)) [(1, .e (.c (.fn 30 []))), (5, oV 4 0 (z + 1) 3), (8, uX (kB xs) q), (9, uV q), (10, iV (↑z + 1))] ⟨by omega, by omega⟩ ?_
    exact k8 ⟨((z + 1) : Nat), (show ((z + 1) ≤ q) from bT)⟩ [(1, 4)] (P := (kU 0) ∧ (kU (z + 1)) ∧ (kS (kB xs)) ∧ (kU q) ∧ (qA (q : Int)) ∧ (vA z) ∧ (((kB (ka6 (z + 1) xs)) : List D) = (kB ((ka6 z xs) ++ ([(k9 (kH xs z) (kD xs z) (kN xs z))] : List Ch))))) zk ⟨rfl, rfl, rfl, rfl, rfl, (by first | rfl | omega | assumption | (simp; done) | (simp; omega)), (by first | rfl | with_reducible assumption | exact congrArg kB (yP zo).symm | exact congrArg kB (yP zo))⟩ (show q - (z + 1) < q - z from (by first | omega | (show _ < _; simp; omega)))
  · refine zr [.b false] [1, 5, 8, 9, 10, 11] [1] (¬ ((z : Int) < (q : Int))) [(1, .e (.c (.fn 30 []))), (5, oV 1 0 z 3), (8, uX (kB xs) q), (9, uV q), (10, uV z), (11, bV false)] [(1, some (29, .ds (kB (ka6 z xs))))] 2 zo ?_
    refine AW.seq ?_
    refine zf ?_
    refine AW.exit ?_
    refine kK [.no, .no] True [(4, oV 1 0 z 3)] [(1, some (29, .ds (kB (ka6 z xs))))] 2 trivial ?_
    have hz1 : ka6 z xs = xs := kc7 (by omega)
    refine AW.ret ?_
    exact kA (.inr rfl) [(0, 1)] (P := (kU 0) ∧ ((q : Nat) = z) ∧ (((kB xs) : List D) = (kB (ka6 z xs)))) zk ⟨rfl, (by first | rfl | omega), (by first | rfl | (rw [hz1]; done) | (rw [hz1]; rfl))⟩
theorem mO (xs : List Ch) (q : Nat) (hq : ka0 xs = q) (h0 : q ≤ 1000000) (hX : CsW xs) : Fun 35 [.agg [.d (D.sl (kB xs) q)]] (kC []) 0 (.e (.agg [.own 0 0 q 3 true])) (kC [(0, some (29, .ds (kB xs)))]) 1 := by
  refine Fun.mk (n := 7) Try.func35 rfl rfl (ka3 rfl) ?_
  intro cx hcx
  refine kK [.no, .no] True [(1, rV 0 0), (2, rV 1 0)] [(0, some (25, .ds [D.sl (kB xs) q])), (1, some (25, .ds [uH]))] 2 trivial ?_
  refine kK [.no, .no, .call [] (oV 0 0 q 3) [(0, some (29, .ds (kB xs)))] 1 [] none, .no, .no] _ [(2, rV 1 0)] [(1, some (25, .cs [.own 2 0 q 3 true])), (2, some (29, .ds (kB xs)))] 3 (k04 xs q zo zo (kR : CsW xs)) ?_
  refine AW.ret ?_
  exact kA (.inr rfl) [(0, 2)] (P := (kU 0) ∧ (kU q) ∧ (kS (kB xs))) zk ⟨rfl, rfl, rfl⟩
end Go.Proofs.Ytkjmlililpgamaa
