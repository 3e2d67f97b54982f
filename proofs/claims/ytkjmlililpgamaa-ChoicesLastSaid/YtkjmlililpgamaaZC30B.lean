/- Lists of choices: what the code does with them. No statement is proved here. -/
import Derived.Test.YtkjmlililpgamaaZC30A
namespace Go.Proofs.Ytkjmlililpgamaa
open Go.ChangeShapes Go.WideShapes Go.ChangeAt Go.RowKit
open Bool renaming eq_false_or_eq_true → ka6
open List renaming append_nil → kg4, drop → kb2, drop_drop → kf9, drop_zero → kf5, filter_append → kj9, filter_nil → kk9, getD → ka2, getD_eq_getElem?_getD → ka9, length → ka0, length_append → ka4, length_cons → kb5, length_drop → kc0, length_map → kc8, length_nil → kb6, length_replicate → kc4, length_reverse → kd6, length_set → ka8, length_take → kb8, replicate → kb0, set → ke2, take → ka5, take_of_length_le → kc5, take_succ_eq_append_getElem → kh2
open Nat renaming le_of_ble_eq_true → ka3, le_refl → kc1, mul_one → ke3, not_lt_zero → kd1
set_option linter.unusedVariables false
set_option linter.unusedSimpArgs false
/-! choices: what the code does with lists of them -/
set_option maxHeartbeats 4000000
set_option maxRecDepth 100000
theorem lQ (r s : List Int) (d : Int) (n : Nat) (hn : s.length = n) : ∀ (xs : List Ch) (i : Nat), i < xs.length → jN (kB xs) (i * 3) [D.lit (.string (strOfNums r)), D.sl (dI .u64 s) n, D.lit (.int .u64 d)] = kB (ke2 xs i (kZ r s d))
  | [], _, h => absurd h (kd1 _)
  | _ :: _, 0, _ => by subst hn; rfl
  | c :: q, i + 1, h => by
    have ih := lQ r s d n hn q i (Nat.lt_of_succ_lt_succ h)
    rw [show (i + 1) * 3 = i * 3 + 1 + 1 + 1 by omega]
    rw [show kB (ke2 (c :: q) (i + 1) (kZ r s d)) = t5 c ++ kB (ke2 q i (kZ r s d)) from rfl, ← ih]
    rfl
theorem CsW.set {xs : List Ch} (h : CsW xs) {c : Ch} (hc : ChW c) (i : Nat) : CsW (ke2 xs i c) := fun m hm => by
  rcases List.mem_or_eq_of_mem_set hm with hm | rfl
  · exact h m hm
  · exact hc
def oA (xs : List Ch) (i m : Nat) : List D := kB (ka5 i xs) ++ (kb0 m [D.lit (.string (ByteArray.mk #[])), D.lit (.slice none 0 0), D.lit (.int .u64 0)]).flatten
theorem kO (xs : List Ch) (i m : Nat) : ka0 (oA xs i m) = min i (ka0 xs) * 3 + m * 3 := by unfold oA; rw [ka4, kH, mR, kb8]
theorem tI (xs : List Ch) (i m : Nat) (h : i + m = xs.length) : ka5 (i * 3) (kB xs) ++ (kb0 m [D.lit (.string (ByteArray.mk #[])), D.lit (.slice none 0 0), D.lit (.int .u64 0)]).flatten ++ kb2 (i * 3 + m * 3) (kB xs) = oA xs i m := by
  rw [yX, show i * 3 + m * 3 = (i + m) * 3 by omega, a7, h, List.drop_length]
  exact kg4 _
theorem i1 (xs : List Ch) (i m : Nat) (h : i ≤ xs.length) : ka5 (i * 3) (oA xs i m) = kB (ka5 i xs) := by
  unfold oA
  exact List.take_left' (by rw [kH, kb8]; omega)
def uX (xs : List Ch) (r s : List Int) (n : Nat) : Int := b1 (fun j => uM (kF xs j) (kD xs j) r s) n
theorem zB {xs : List Ch} {r s : List Int} {k : Nat} (h : uX xs r s k = -1) (h2 : uM (kF xs k) (kD xs k) r s = false) : uX xs r s (k + 1) = -1 := a1 h h2
theorem lZ {xs : List Ch} {r s : List Int} {k n : Nat} (h : uX xs r s k = -1) (h2 : uM (kF xs k) (kD xs k) r s = true) (hk : k < n) : uX xs r s n = (k : Int) := aN h h2 n hk
def iZ (xs : List Ch) (r s : List Int) : Bool := decide (0 ≤ uX xs r s xs.length)
theorem k30 {xs : List Ch} {r s : List Int} {n : Nat} (hn : xs.length = n) (h : 0 ≤ uX xs r s n) : iZ xs r s = true := decide_eq_true (by rw [hn]; exact h)
theorem k1e {xs : List Ch} {r s : List Int} {n : Nat} (hn : xs.length = n) (h : ¬ 0 ≤ uX xs r s n) : iZ xs r s = false := decide_eq_false (by rw [hn]; exact h)
def a4 (xs : List Ch) (d : Int) (n : Nat) : Int := b1 (fun j => decide (kM xs j = d)) n
theorem k2v {xs : List Ch} {d : Int} {k : Nat} (h : a4 xs d k = -1) (h2 : decide (kM xs k = d) = false) : a4 xs d (k + 1) = -1 := a1 h h2
theorem zT {xs : List Ch} {d : Int} {k n : Nat} (h : a4 xs d k = -1) (h2 : decide (kM xs k = d) = true) (hk : k < n) : a4 xs d n = (k : Int) := aN h h2 n hk
def cI (xs : List Ch) (i : Nat) : Bool := uS (kF xs i) (kD xs i) (kM xs i) && !iZ (ka5 i xs) (kF xs i) (kD xs i)
def yF (xs : List Ch) : Bool := decide (xs.length ≤ 32) && (List.range xs.length).all (cI xs)
theorem oM {xs : List Ch} {i : Nat} (h : uS (kF xs i) (kD xs i) (kM xs i) = true) (h2 : iZ (ka5 i xs) (kF xs i) (kD xs i) = false) : cI xs i = true := by unfold cI; rw [h, h2]; rfl
theorem gW {xs : List Ch} {i : Nat} (h : uS (kF xs i) (kD xs i) (kM xs i) = false) : cI xs i = false := by unfold cI; rw [h]; rfl
theorem x6 {xs : List Ch} {i : Nat} (h2 : iZ (ka5 i xs) (kF xs i) (kD xs i) = true) : cI xs i = false := by unfold cI; rw [h2, Bool.not_true, Bool.and_false]
theorem fD {xs : List Ch} (h : xs.length ≤ 32) (h2 : ∀ j, j < xs.length → cI xs j = true) : yF xs = true := by
  unfold yF
  rw [decide_eq_true h, Bool.true_and]
  exact List.all_eq_true.2 fun i hi => h2 i (List.mem_range.1 hi)
theorem gU {xs : List Ch} (h : ¬ xs.length ≤ 32) : yF xs = false := by unfold yF; rw [decide_eq_false h]; rfl
theorem gV {xs : List Ch} {k : Nat} (hk : k < xs.length) (h : cI xs k = false) : yF xs = false := by
  unfold yF
  rw [Bool.and_eq_false_iff]
  right
  cases e : (List.range xs.length).all (cI xs) with
  | false => rfl
  | true => have := List.all_eq_true.1 e k (List.mem_range.2 hk); rw [h] at this; cases this
theorem oL {xs : List Ch} (h : yF xs = true) : xs.length ≤ 32 ∧ ∀ j, j < xs.length → cI xs j = true := by
  unfold yF at h
  rw [Bool.and_eq_true] at h
  exact ⟨of_decide_eq_true h.1, fun j hj => List.all_eq_true.1 h.2 j (List.mem_range.2 hj)⟩
def gT (p : Ch → Bool) (xs : List Ch) : List Ch := List.filter (fun c => !p c) xs
theorem zJ (p : Ch → Bool) (xs : List Ch) : (gT p xs).length ≤ xs.length := List.length_filter_le _ _
theorem k2p {p : Ch → Bool} {xs : List Ch} (h : CsW xs) : CsW (gT p xs) := fun c hc => h c (List.mem_filter.1 hc).1
theorem yJ {xs : List Ch} {j : Nat} (h : j < xs.length) : ka5 (j + 1) xs = ka5 j xs ++ [yG xs j] := by
  have e : yG xs j = xs[j] := by unfold yG; rw [ka9, List.getElem?_eq_getElem h]; rfl
  rw [kh2 h, e]
theorem k0r {p : Ch → Bool} {xs : List Ch} {j : Nat} (h : j < xs.length) (h2 : p (yG xs j) = false) : gT p (ka5 (j + 1) xs) = gT p (ka5 j xs) ++ [yG xs j] := by
  rw [yJ h]; unfold gT; rw [kj9, List.filter_cons_of_pos (by rw [h2]; rfl), kk9]
theorem k0s {p : Ch → Bool} {xs : List Ch} {j : Nat} (h : j < xs.length) (h2 : p (yG xs j) = true) : gT p (ka5 (j + 1) xs) = gT p (ka5 j xs) := by
  rw [yJ h]; unfold gT; rw [kj9, List.filter_cons_of_neg (by rw [h2]; decide), kk9, kg4]
theorem j9 {p : Ch → Bool} {xs : List Ch} : ∀ k, k ≤ xs.length → (∀ j, j < k → p (yG xs j) = false) → gT p (ka5 k xs) = ka5 k xs
  | 0, _, _ => rfl
  | k + 1, hk, h => by
    rw [k0r (by omega) (h k (by omega)), j9 k (by omega) (fun j hj => h j (by omega)), yJ (by omega)]
def x5 (p : Ch → Bool) (xs ys : List Ch) (i j : Nat) : Prop := ka5 i ys = gT p (ka5 j xs) ∧ kb2 j ys = kb2 j xs ∧ ka0 ys = ka0 xs
theorem k2y {p : Ch → Bool} {xs : List Ch} {k : Nat} {n : Nat} (hn : xs.length = n) (h : b1 (fun j => p (yG xs j)) n = (k : Int)) : x5 p xs xs k (k + 1) := by
  rcases vW (fun j => p (yG xs j)) n with ⟨h1, _⟩ | ⟨k2, h2, h3, h4⟩
  · omega
  · obtain rfl : k2 = k := by omega
    have h5 : ∀ j, j < k2 → p (yG xs j) = false := by
      intro j hj
      cases e : p (yG xs j) with
      | false => rfl
      | true =>
        rcases vW (fun j => p (yG xs j)) j with ⟨h6, _⟩ | ⟨k3, h6, h7, h8⟩
        · have := aN (p := fun j => p (yG xs j)) h6 e n (by omega); omega
        · have h9 : ∀ m, j ≤ m → b1 (fun j => p (yG xs j)) m = (k3 : Int) := by
            intro m hm
            induction m with
            | zero => have : j = 0 := by omega
                      subst this; exact h7
            | succ m ih =>
              by_cases e2 : j = m + 1
              · subst e2; exact h7
              · have h10 := ih (by omega)
                show (if 0 ≤ b1 (fun j => p (yG xs j)) m then _ else _) = _
                rw [if_pos (by omega)]; exact h10
          have := h9 n (by omega); omega
    exact ⟨by rw [k0s (by omega) h4, j9 k2 (by omega) h5], rfl, rfl⟩
theorem k2w {p : Ch → Bool} {xs ys : List Ch} {i j : Nat} (h : x5 p xs ys i j) (hj : j < xs.length) : yG ys j = yG xs j := by
  have h1 := congrArg (fun l => ka2 l 0 ch0) h.2.1
  simpa [yG, ka9, List.getElem?_drop] using h1
theorem xW {p : Ch → Bool} {xs ys : List Ch} {i j : Nat} (h : x5 p xs ys i j) (hi : i < j) (hj : j < xs.length) (h2 : p (yG ys j) = false) : x5 p xs (ke2 ys i (kZ (kF ys j) (kD ys j) (kM ys j))) (i + 1) (j + 1) := by
  have hg := k2w h hj
  rw [hg] at h2
  have e : kZ (kF ys j) (kD ys j) (kM ys j) = yG xs j := by unfold kF kD kM; rw [hg]; rfl
  have hl := h.2.2
  refine ⟨?_, ?_, ?_⟩
  · rw [e, k0r hj h2, ← h.1, kh2 (by rw [ka8]; omega), List.getElem_set_self, List.take_set_of_le (kc1 _)]
  · rw [List.drop_set_of_lt (by omega)]
    have h3 := congrArg (kb2 1) h.2.1
    rw [kf9, kf9] at h3; exact h3
  · rw [ka8]; exact hl
theorem xX {p : Ch → Bool} {xs ys : List Ch} {i j : Nat} (h : x5 p xs ys i j) (hj : j < xs.length) (h2 : p (yG ys j) = true) : x5 p xs ys i (j + 1) := by
  rw [k2w h hj] at h2
  refine ⟨by rw [k0s hj h2]; exact h.1, ?_, h.2.2⟩
  have h3 := congrArg (kb2 1) h.2.1
  rw [kf9, kf9] at h3; exact h3
theorem k2x {p : Ch → Bool} {xs ys : List Ch} {i j : Nat} (h : x5 p xs ys i j) (hj : xs.length ≤ j) : ka5 i ys = gT p xs := by rw [h.1, kc5 hj]
theorem mP {p : Ch → Bool} {xs : List Ch} {n : Nat} (hn : xs.length = n) (h : b1 (fun j => p (yG xs j)) n = -1) : gT p xs = xs := by
  subst hn
  have h1 := j9 (p := p) (xs := xs) xs.length (kc1 _) (dG (p := fun j => p (yG xs j)) (n := xs.length) (by omega))
  rwa [kc5 (kc1 _)] at h1
def qZ (xs : List Ch) (r s : List Int) : List Ch := gT (fun c => uM c.r c.s r s) xs
def vB (xs : List Ch) (d : Int) : List Ch := gT (fun c => decide (c.d = d)) xs
def dfC (xs ys : List Ch) (r s : List Int) (i j : Nat) : Prop := x5 (fun c => uM c.r c.s r s) xs ys i j
def dfD (xs ys : List Ch) (d : Int) (i j : Nat) : Prop := x5 (fun c => decide (c.d = d)) xs ys i j
theorem f9 (xs : List Ch) (r s : List Int) : (qZ xs r s).length ≤ xs.length := zJ _ _
theorem lA (xs : List Ch) (d : Int) : (vB xs d).length ≤ xs.length := zJ _ _
theorem k2r {xs : List Ch} (h : CsW xs) (r s : List Int) : CsW (qZ xs r s) := k2p h
theorem k2q {xs : List Ch} (h : CsW xs) (d : Int) : CsW (vB xs d) := k2p h
theorem k1m {r s : List Int} (hr : Byt r) (h1 : r.length ≤ 1000000) (h2 : s.length ≤ 1000000) (d : Int) : ChW (kZ r s d) := ⟨hr, h1, h2⟩
def aA (xs : List Ch) (r s : List Int) (d : Int) : Int := if yF xs = true then (if uS r s d = true then 0 else 2) else 1
def oT (xs : List Ch) (r s : List Int) (d : Int) : List Ch := kb2 ((qZ xs r s).length - 31) (qZ xs r s ++ [kZ r s d])
def kE (xs : List Ch) (r s : List Int) (d : Int) : List Ch := if yF xs = true ∧ uS r s d = true then oT xs r s d else []
theorem k1x {xs : List Ch} {r s : List Int} {d : Int} (h : yF xs = false) : kE xs r s d = [] ∧ aA xs r s d = 1 := by
  unfold kE aA; rw [h]; exact ⟨rfl, rfl⟩
theorem k1w {xs : List Ch} {r s : List Int} {d : Int} (h : yF xs = true) (h2 : uS r s d = false) : kE xs r s d = [] ∧ aA xs r s d = 2 := by
  unfold kE aA; rw [h, h2]; exact ⟨rfl, rfl⟩
theorem jT {xs : List Ch} {r s : List Int} {d : Int} (h : yF xs = true) (h2 : uS r s d = true) : kE xs r s d = oT xs r s d ∧ aA xs r s d = 0 := by
  unfold kE aA; rw [h, h2]; exact ⟨rfl, rfl⟩
theorem oS {xs : List Ch} {r s : List Int} {d : Int} (h : (qZ xs r s).length ≤ 31) : oT xs r s d = qZ xs r s ++ [kZ r s d] := by
  unfold oT; rw [Nat.sub_eq_zero_of_le h]; rfl
theorem l3 (xs : List Ch) (r s : List Int) (d : Int) : (oT xs r s d).length ≤ 32 := by
  unfold oT; rw [kc0, ka4]; show (qZ xs r s).length + 1 - _ ≤ 32; omega
theorem fK (xs : List Ch) (r s : List Int) (d : Int) : (kE xs r s d).length ≤ 32 := by
  unfold kE; split
  · exact l3 xs r s d
  · exact Nat.zero_le _
theorem fL (xs : List Ch) (r s : List Int) (d : Int) : 0 ≤ aA xs r s d ∧ aA xs r s d ≤ 2 := by unfold aA; repeat' split <;> omega
theorem q9 {xs : List Ch} {r s : List Int} {d : Int} (h : CsW xs) (hr : Byt r) (h1 : r.length ≤ 1000000) (h2 : s.length ≤ 1000000) : CsW (kE xs r s d) := by
  unfold kE oT; split
  · exact (CsW.app (k2r h r s) (CsW.one (k1m hr h1 h2 d))).drop _
  · exact CsW.nil
def pZ (xs : List Ch) (r s : List Int) : Nat → Int × Nat
  | 0 => (0, 0)
  | k + 1 => if kF xs k = r ∧ (pZ xs r s k).2 ≤ (kD xs k).length ∧ vT (kD xs k) s = true then (kM xs k, (kD xs k).length) else pZ xs r s k
def oG (xs : List Ch) (r s : List Int) (k : Nat) : Int := (pZ xs r s k).1
def mH (xs : List Ch) (r s : List Int) (k : Nat) : Nat := (pZ xs r s k).2
theorem c9 {xs : List Ch} {r s : List Int} {k : Nat} (h1 : kF xs k = r) (h2 : mH xs r s k ≤ (kD xs k).length) (h3 : vT (kD xs k) s = true) : oG xs r s (k + 1) = kM xs k ∧ mH xs r s (k + 1) = (kD xs k).length := by
  have e : pZ xs r s (k + 1) = (kM xs k, (kD xs k).length) := if_pos ⟨h1, h2, h3⟩
  unfold oG mH; rw [e]; exact ⟨rfl, rfl⟩
theorem dY {xs : List Ch} {r s : List Int} {k : Nat} (h : ¬ (kF xs k = r ∧ mH xs r s k ≤ (kD xs k).length ∧ vT (kD xs k) s = true)) : oG xs r s (k + 1) = oG xs r s k ∧ mH xs r s (k + 1) = mH xs r s k := by
  have e : pZ xs r s (k + 1) = pZ xs r s k := if_neg h
  unfold oG mH; rw [e]; exact ⟨rfl, rfl⟩
theorem aQ {b : Bool} (h : b = true) (h2 : b = false) : False := by rw [h] at h2; cases h2
def kS (xs : List Ch) (r s : List Int) : Int := if yF xs = true ∧ v3 s = true then oG xs r s xs.length else 0
theorem dA {xs : List Ch} {r s : List Int} (h : yF xs = true) (h2 : v3 s = true) : kS xs r s = oG xs r s xs.length := if_pos ⟨h, h2⟩
theorem dB {xs : List Ch} {r s : List Int} (h : yF xs = false) : kS xs r s = 0 := if_neg fun e => by rw [h] at e; cases e.1
theorem aW {xs : List Ch} {r s : List Int} (h : v3 s = false) : kS xs r s = 0 := if_neg fun e => by rw [h] at e; cases e.2
def q5 (xs : List Ch) (d : Int) : List Ch := if yF xs = true then vB xs d else xs
theorem k2s {xs : List Ch} {d : Int} (h : yF xs = true) : q5 xs d = vB xs d := if_pos h
theorem k3y {xs : List Ch} {d : Int} (h : yF xs = false) : q5 xs d = xs := if_neg fun e => by rw [h] at e; cases e
theorem bJ (xs : List Ch) (d : Int) : (q5 xs d).length ≤ xs.length := by
  unfold q5; split
  · exact lA xs d
  · exact kc1 _
theorem eP {xs : List Ch} (h : CsW xs) (d : Int) : CsW (q5 xs d) := by
  unfold q5; split
  · exact k2q h d
  · exact h
def gS (a b : List Int) (n : Nat) : Int := b1 (fun j => !yZ b (ka2 a j 0)) n
theorem k3v {a b : List Int} {k : Nat} (h : gS a b k = -1) (h2 : yZ b (ka2 a k 0) = true) : gS a b (k + 1) = -1 := a1 h (by show (!yZ b _) = false; rw [h2]; rfl)
theorem k2i {a b : List Int} {k n : Nat} (h : gS a b k = -1) (h2 : yZ b (ka2 a k 0) = false) (hk : k < n) : gS a b n = (k : Int) := aN h (by show (!yZ b _) = true; rw [h2]; rfl) n hk
theorem k3u {a b : List Int} {n : Nat} (hn : a.length = n) (h : 0 ≤ gS a b n) : vT a b = false := by
  obtain ⟨k, hk, h1⟩ := zK h
  refine k06 (k := k) (by omega) ?_
  cases e : yZ b (ka2 a k 0) with
  | false => rfl
  | true => rw [e] at h1; cases h1
theorem k3w {a b : List Int} {n : Nat} (hn : a.length = n) (h : ¬ 0 ≤ gS a b n) : vT a b = true := k05 fun j hj => by
  have h1 := dG h j (by omega)
  cases e : yZ b (ka2 a j 0) with
  | true => rfl
  | false => rw [e] at h1; cases h1
def oE (b : List Int) (x : Int) : Bool := !yZ b x
theorem k2k {b : List Int} {x : Int} (h : yZ b x = false) : oE b x = true := by unfold oE; rw [h]; rfl
theorem k2m {b : List Int} {x : Int} (h : yZ b x = true) : oE b x = false := by unfold oE; rw [h]; rfl
theorem zF {b : List Int} {x : Int} (h : oE b x = true) : yZ b x = false := by unfold oE at h; cases e : yZ b x with
  | false => rfl
  | true => rw [e] at h; cases h
theorem k2l {b : List Int} {x : Int} (h : oE b x = false) : yZ b x = true := by unfold oE at h; cases e : yZ b x with
  | true => rfl
  | false => rw [e] at h; cases h
def oD (a b : List Int) : Bool := !vT a b
theorem zD {a b : List Int} {n : Nat} (hn : a.length = n) (h : 0 ≤ gS a b n) : oD a b = true := by unfold oD; rw [k3u hn h]; rfl
theorem zE {a b : List Int} {n : Nat} (hn : a.length = n) (h : ¬ 0 ≤ gS a b n) : oD a b = false := by unfold oD; rw [k3w hn h]; rfl
theorem pJ {a b : List Int} (h : oD a b = true) : vT a b = false := by unfold oD at h; cases e : vT a b with
  | false => rfl
  | true => rw [e] at h; cases h
theorem pK {a b : List Int} (h : oD a b = false) : vT a b = true := by unfold oD at h; cases e : vT a b with
  | true => rfl
  | false => rw [e] at h; cases h
theorem aH {p : Prop} (h : p := by first | omega | (simp only [kK, kH, kO, ka8, uL, ka4, kb5, kb6, kb8, kc0, kc4, ka8, kc8, kd6, ke3] <;> omega) | rfl) : p := h
theorem d7 (l : List Int) (n : Nat) (hn : ka0 l = n) (hb : n ≤ 1000000) (h1 : 1 ≤ n) : Fun 46 [.c (.d (D.sl (dI .u64 l) n))] (kC []) 0 (oV 0 0 n 1) (kC [(0, some (27, .ds (dI .u64 l)))]) 1 := by
  refine Fun.mk (n := 8) Try.func46 rfl rfl (ka3 rfl) ?_
  intro cx hcx
  refine kI [.no] True [(0, sV .u64 l n)] [] 0 trivial ?_
  refine AW.seq ?_
  refine yT [.no, .no] (1 ≤ n) [(0, sV .u64 l n), (4, bV false)] zo ?_
  refine uF ?_
  refine kI [.no, .no, .ap none (0 + n) (dI .u64 l), .no] (((dI .u64 l).length = n * 1) ∧ ((([] : List D) : List D).length = 0 * 1) ∧ ((0 + n) * 8 ≤ 140737488355328) ∧ ((0 : Nat) + n = (0 + n)) ∧ ((([] : List D) : List D) ++ (dI .u64 l) = (dI .u64 l))) [(2, oV 1 0 (0 + n) 1)] [(1, some (27, .ds (dI .u64 l)))] 2 ⟨aH, aH, zo, zo, rfl⟩ ?_
  refine AW.ret ?_
  exact kA (.inr rfl) [(0, 1)] (P := (kT 0) ∧ ((n : Nat) = (0 + n)) ∧ (kR (dI .u64 l))) zk ⟨rfl, (by first | omega | rfl | assumption | (simp; done) | (simp; omega)), rfl⟩
theorem d6   : Fun 46 [.c (.d (D.lit (.slice none 0 0)))] (kC []) 0 (oV 0 0 0 1) (kC [(0, some (27, .ds ([] : List D)))]) 1 := by
  refine Fun.mk (n := 8) Try.func46 rfl rfl (ka3 rfl) ?_
  intro cx hcx
  refine kI [.no] True [(0, nV)] [] 0 trivial ?_
  refine AW.seq ?_
  refine yT [.no, .no] True [(0, nV), (4, bV true)] trivial ?_
  refine zt ?_
  refine yT [.no] True [(2, nV)] trivial ?_
  refine AW.adoptS 2 1 27 rfl ?_
  refine AW.ret ?_
  exact kA (.inr rfl) [] (P := (kT 0) ∧ (kT 0) ∧ (kR ([] : List D))) zk ⟨rfl, rfl, rfl⟩
theorem d5 (a : Addr) (cap : Nat) (hm : cap ≤ maxLen) : Fun 46 [.c (.d (D.lit (.slice (some a) 0 cap)))] (kC []) 0 (oV 0 0 0 1) (kC [(0, some (27, .ds ([] : List D)))]) 1 := by
  refine Fun.mk (n := 8) Try.func46 rfl rfl (ka3 rfl) ?_
  intro cx hcx
  refine kI [.no] True [(0, kL (D.lit (.slice (some a) 0 cap)))] [] 0 trivial ?_
  refine AW.seq ?_
  refine yT [.no, .no] True [(0, kL (D.lit (.slice (some a) 0 cap))), (4, bV false)] trivial ?_
  refine uF ?_
  refine t4 0 hm (fun h9 => by cases h9) rfl ?_
  refine kI [.no, .no, .ap none 0 ([] : List D), .no] ((([] : List D).length = 0 * 1) ∧ ((([] : List D) : List D).length = 0 * 1) ∧ ((0 + 0) * 8 ≤ 140737488355328) ∧ ((0 : Nat) + 0 = 0) ∧ ((([] : List D) : List D) ++ ([] : List D) = ([] : List D))) [(2, oV 1 0 0 1)] [(1, some (27, .ds ([] : List D)))] 2 ⟨aH, aH, zo, zo, rfl⟩ ?_
  refine AW.ret ?_
  exact kA (.inr rfl) [(0, 1)] (P := (kT 0) ∧ (kT 0) ∧ (kR ([] : List D))) zk ⟨rfl, rfl, rfl⟩
theorem jI (l : List Int) (n : Nat) (hn : ka0 l = n) (hb : n ≤ 1000000) : Fun 46 [.c (.d (D.sl (dI .u64 l) n))] (kC []) 0 (oV 0 0 n 1) (kC [(0, some (27, .ds (dI .u64 l)))]) 1 := by
  by_cases h1 : 1 ≤ n
  · exact d7 l n hn hb h1
  · obtain rfl : n = 0 := by omega
    obtain rfl : l = [] := List.eq_nil_of_length_eq_zero hn
    exact t1 d6 (fun a cap hm => d5 a cap hm)
theorem zX (r2 s2 : List Int) (n2 : Nat) (d2 : Int) (r s : List Int) (n : Nat) (d : Int) (hr2 : Byt r2) (hl2 : ka0 r2 ≤ 1000000) (hn2 : ka0 s2 = n2) (h2 : n2 ≤ 1000000) (hr : Byt r) (hl : ka0 r ≤ 1000000) (hn : ka0 s = n) (h1 : n ≤ 1000000) : Fun 22 [.agg [.d (D.lit (.string (strOfNums r2))), .d (D.sl (dI .u64 s2) n2), .d (D.lit (.int .u64 d2))], .c (.ptr 0 0)] (kC [(0, some (29, .ds [D.lit (.string (strOfNums r)), D.sl (dI .u64 s) n, D.lit (.int .u64 d)]))]) 1 (kL (D.lit (.bool (uM r2 s2 r s)))) (kC [(0, some (29, .ds [D.lit (.string (strOfNums r)), D.sl (dI .u64 s) n, D.lit (.int .u64 d)]))]) 1 := by
  refine Fun.mk (n := 7) Try.func22 rfl rfl (ka3 rfl) ?_
  intro cx hcx
  refine kI [.no, .no] True [(1, rV 0 0), (2, rV 1 0)] [(0, some (29, .ds [D.lit (.string (strOfNums r)), D.sl (dI .u64 s) n, D.lit (.int .u64 d)])), (1, some (29, .ds [D.lit (.string (strOfNums r2)), D.sl (dI .u64 s2) n2, D.lit (.int .u64 d2)]))] 2 trivial ?_
  refine kI [.no, .no, .call [] (kL (D.lit (.bool (uM r2 s2 r s)))) [] 0 [] none, .no] _ [(3, kL (D.lit (.bool (uM r2 s2 r s))))] [(0, some (29, .ds [D.lit (.string (strOfNums r)), D.sl (dI .u64 s) n, D.lit (.int .u64 d)]))] 2 (tX r2 s2 n2 d2 r s n d (kQ : Byt r2) zo zo zo (kQ : Byt r) zo zo zo) ?_
  refine AW.ret ?_
  exact kA (.inr rfl) [] (P := ((uM r2 s2 r s) = (uM r2 s2 r s)) ∧ (kR [D.lit (.string (strOfNums r)), D.sl (dI .u64 s) n, D.lit (.int .u64 d)])) zk ⟨rfl, rfl⟩
theorem bD {p : Prop} (h : p := by first | omega | assumption | simp) : p := h
theorem e8 {p : Prop} (h : p := by first | omega | (simp only [kK, kH, kO, ka8, ka4, kb5, kb6, kb8, kc0] <;> omega)) : p := h
theorem uI {p : Prop} (h : p := by first | omega | with_reducible assumption | (simp only [kK, kH, kO, ka8, ka4, kb5, kb6, kb8, kc0, kc4, ka8] <;> omega) | rfl | assumption) : p := h
theorem zZ (xs : List Ch) (q : Nat) (r s : List Int) (n : Nat) (d : Int) (hq : ka0 xs = q) (h0 : q ≤ 1000000) (hX : CsW xs) (hr : Byt r) (hl : ka0 r ≤ 1000000) (hn : ka0 s = n) (h1 : n ≤ 1000000) : Fun 41 [.c (.d (D.sl (kB xs) q)), .c (.fn 22 [(0, 0)])] (kC [(0, some (29, .ds [D.lit (.string (strOfNums r)), D.sl (dI .u64 s) n, D.lit (.int .u64 d)]))]) 1 (iV (uX xs r s q)) (kC [(0, some (29, .ds [D.lit (.string (strOfNums r)), D.sl (dI .u64 s) n, D.lit (.int .u64 d)]))]) 1 := by
  refine Fun.mk (n := 19) Try.func41 rfl rfl (ka3 rfl) ?_
  intro cx hcx
  refine kI [.no] True [(0, uT (kB xs) q), (1, .e (.c (.fn 22 [(0, 0)])))] [(0, some (29, .ds [D.lit (.string (strOfNums r)), D.sl (dI .u64 s) n, D.lit (.int .u64 d)]))] 1 trivial ?_
  refine AW.seq ?_
  refine yT [.no, .no, .no] True [(0, uT (kB xs) q), (1, .e (.c (.fn 22 [(0, 0)]))), (7, uV q), (8, iV 0)] trivial ?_
  refine AW.block ?_
  refine kV 1 hcx (fun (x : {x : Nat // match x with | k => (k ≤ q) ∧ (uX xs r s k = -1)}) => match x with | ⟨k, _⟩ => (⟨[(0, uT (kB xs) q), (1, .e (.c (.fn 22 [(0, 0)]))), (7, uV q), (8, uV k)], [(0, some (29, .ds [D.lit (.string (strOfNums r)), D.sl (dI .u64 s) n, D.lit (.int .u64 d)]))], 1⟩ : ES)) (fun x => match x with | ⟨k, _⟩ => q - k) ⟨(0 : Nat), ⟨bD, rfl⟩⟩ [] (P := (kR (kB xs)) ∧ (kT q) ∧ (k8 (q : Int)) ∧ (k8 0) ∧ (kR [D.lit (.string (strOfNums r)), D.sl (dI .u64 s) n, D.lit (.int .u64 d)])) zk ⟨rfl, rfl, rfl, rfl, rfl⟩ ?_
  rintro ⟨k, hinv0⟩
  obtain ⟨hk, hi⟩ : (k ≤ q) ∧ (uX xs r s k = -1) := hinv0
  refine qW (l := [(0, uT (kB xs) q), (1, .e (.c (.fn 22 [(0, 0)]))), (7, uV q), (8, uV k)]) (g := [(0, some (29, .ds [D.lit (.string (strOfNums r)), D.sl (dI .u64 s) n, D.lit (.int .u64 d)]))]) (nx := 1) rfl rfl rfl ?_
  by_cases hx1 : (((k : Nat) : Int) < ((q : Nat) : Int))
  · refine zr [.b true] [0, 1, 7, 8, 9] [0] (((k : Int) < (q : Int))) [(0, uT (kB xs) q), (1, .e (.c (.fn 22 [(0, 0)]))), (7, uV q), (8, uV k), (9, bV true)] [(0, some (29, .ds [D.lit (.string (strOfNums r)), D.sl (dI .u64 s) n, D.lit (.int .u64 d)]))] 1 zo ?_
    refine AW.seq ?_
    refine cB ?_
    refine AW.seq ?_
    refine AW.block ?_
    refine kI [.no, .no] True [(0, uT (kB xs) q), (1, .e (.c (.fn 22 [(0, 0)]))), (5, uV k), (7, uV q), (8, uV k)] [(0, some (29, .ds [D.lit (.string (strOfNums r)), D.sl (dI .u64 s) n, D.lit (.int .u64 d)]))] 1 trivial ?_
    rcases ka6 (uM (kF xs k) (kD xs k) r s) with hx5 | hx5
    · obtain ⟨hx6, hx7, hx8⟩ := CsW.at (kQ : CsW xs) (k)
      refine kI [.no, .no, .no, .n k, .ds [D.lit (.string (strOfNums (kF xs k))), D.sl (dI .u64 (kD xs k)) (ka0 (kD xs k)), D.lit (.int .u64 (kM xs k))], .call [0] (bV true) [(0, some (29, .ds [D.lit (.string (strOfNums r)), D.sl (dI .u64 s) n, D.lit (.int .u64 d)]))] 1 [] none] ((k8 (k : Int)) ∧ (k < q) ∧ (ka5 3 (kb2 (k * 3) (kB xs)) = [D.lit (.string (strOfNums (kF xs k))), D.sl (dI .u64 (kD xs k)) (ka0 (kD xs k)), D.lit (.int .u64 (kM xs k))]) ∧ (([D.lit (.string (strOfNums (kF xs k))), D.sl (dI .u64 (kD xs k)) (ka0 (kD xs k)), D.lit (.int .u64 (kM xs k))] : List D).length = 3) ∧ (Fun 22 [.agg [.d (D.lit (.string (strOfNums (kF xs k)))), .d (D.sl (dI .u64 (kD xs k)) (ka0 (kD xs k))), .d (D.lit (.int .u64 (kM xs k)))], .c (.ptr 0 0)] (kC [(0, some (29, .ds [D.lit (.string (strOfNums r)), D.sl (dI .u64 s) n, D.lit (.int .u64 d)]))]) 1 (bV true) (kC [(0, some (29, .ds [D.lit (.string (strOfNums r)), D.sl (dI .u64 s) n, D.lit (.int .u64 d)]))]) 1)) [(0, uT (kB xs) q), (1, .e (.c (.fn 22 [(0, 0)]))), (5, uV k), (7, uV q), (8, uV k), (16, bV true)] [(0, some (29, .ds [D.lit (.string (strOfNums r)), D.sl (dI .u64 s) n, D.lit (.int .u64 d)]))] 1 ⟨rfl, zo, (q7 (i := k) e8), rfl, (by have h0 := (zX (kF xs k) (kD xs k) (ka0 (kD xs k)) (kM xs k) r s n d (kQ : Byt (kF xs k)) uI rfl uI (kQ : Byt r) zo zo zo); rw [hx5] at h0; exact h0)⟩ ?_
      refine zt ?_
      refine yT [.no, .no] True [(4, uV k)] trivial ?_
      refine AW.ret ?_
      exact kA (.inr rfl) [] (P := (((uX xs r s q) : Int) = (k : Int)) ∧ (kR [D.lit (.string (strOfNums r)), D.sl (dI .u64 s) n, D.lit (.int .u64 d)])) zk ⟨(by first | rfl | exact lZ hi (by assumption) zo | (rw [show q = k by omega]; exact hi) | omega), rfl⟩
    · obtain ⟨hx9, hx10, hx11⟩ := CsW.at (kQ : CsW xs) (k)
      refine kI [.no, .no, .no, .n k, .ds [D.lit (.string (strOfNums (kF xs k))), D.sl (dI .u64 (kD xs k)) (ka0 (kD xs k)), D.lit (.int .u64 (kM xs k))], .call [0] (bV false) [(0, some (29, .ds [D.lit (.string (strOfNums r)), D.sl (dI .u64 s) n, D.lit (.int .u64 d)]))] 1 [] none] ((k8 (k : Int)) ∧ (k < q) ∧ (ka5 3 (kb2 (k * 3) (kB xs)) = [D.lit (.string (strOfNums (kF xs k))), D.sl (dI .u64 (kD xs k)) (ka0 (kD xs k)), D.lit (.int .u64 (kM xs k))]) ∧ (([D.lit (.string (strOfNums (kF xs k))), D.sl (dI .u64 (kD xs k)) (ka0 (kD xs k)), D.lit (.int .u64 (kM xs k))] : List D).length = 3) ∧ (Fun 22 [.agg [.d (D.lit (.string (strOfNums (kF xs k)))), .d (D.sl (dI .u64 (kD xs k)) (ka0 (kD xs k))), .d (D.lit (.int .u64 (kM xs k)))], .c (.ptr 0 0)] (kC [(0, some (29, .ds [D.lit (.string (strOfNums r)), D.sl (dI .u64 s) n, D.lit (.int .u64 d)]))]) 1 (bV false) (kC [(0, some (29, .ds [D.lit (.string (strOfNums r)), D.sl (dI .u64 s) n, D.lit (.int .u64 d)]))]) 1)) [(0, uT (kB xs) q), (1, .e (.c (.fn 22 [(0, 0)]))), (5, uV k), (7, uV q), (8, uV k), (16, bV false)] [(0, some (29, .ds [D.lit (.string (strOfNums r)), D.sl (dI .u64 s) n, D.lit (.int .u64 d)]))] 1 ⟨rfl, zo, (q7 (i := k) e8), rfl, (by have h0 := (zX (kF xs k) (kD xs k) (ka0 (kD xs k)) (kM xs k) r s n d (kQ : Byt (kF xs k)) uI rfl uI (kQ : Byt r) zo zo zo); rw [hx5] at h0; exact h0)⟩ ?_
      refine uF ?_
      refine cG [.w, .no] (uU ((k : Int) + 1)) [(0, uT (kB xs) q), (1, .e (.c (.fn 22 [(0, 0)]))), (7, uV q), (8, iV (↑k + 1))] ⟨by omega, by omega⟩ ?_
      exact kY ⟨((k + 1) : Nat), ⟨bD, (zB hi (by assumption))⟩⟩ [] (P := (kR (kB xs)) ∧ (kT q) ∧ (k8 (q : Int)) ∧ (y4 k) ∧ (kR [D.lit (.string (strOfNums r)), D.sl (dI .u64 s) n, D.lit (.int .u64 d)])) zk ⟨rfl, rfl, rfl, (by first | rfl | omega | assumption | (simp; done) | (simp; omega)), rfl⟩ (show q - (k + 1) < q - k from (by first | omega | (show _ < _; simp; omega)))
  · refine zr [.b false] [0, 1, 7, 8, 9] [0] (¬ ((k : Int) < (q : Int))) [(0, uT (kB xs) q), (1, .e (.c (.fn 22 [(0, 0)]))), (7, uV q), (8, uV k), (9, bV false)] [(0, some (29, .ds [D.lit (.string (strOfNums r)), D.sl (dI .u64 s) n, D.lit (.int .u64 d)]))] 1 zo ?_
    refine AW.seq ?_
    refine zf ?_
    refine AW.exit ?_
    refine kI [.no] True [(4, iV (-1))] [(0, some (29, .ds [D.lit (.string (strOfNums r)), D.sl (dI .u64 s) n, D.lit (.int .u64 d)]))] 1 trivial ?_
    refine AW.ret ?_
    exact kA (.inr rfl) [] (P := (((uX xs r s q) : Int) = (-1)) ∧ (kR [D.lit (.string (strOfNums r)), D.sl (dI .u64 s) n, D.lit (.int .u64 d)])) zk ⟨(by first | rfl | exact lZ hi (by assumption) zo | (rw [show q = k by omega]; exact hi) | omega), rfl⟩
theorem k3h (xs : List Ch) (q : Nat) (r s : List Int) (n : Nat) (d : Int) (hq : ka0 xs = q) (h0 : q ≤ 1000000) (hX : CsW xs) (hr : Byt r) (hl : ka0 r ≤ 1000000) (hn : ka0 s = n) (h1 : n ≤ 1000000) : Fun 25 [.c (.d (D.sl (kB xs) q)), .c (.fn 22 [(0, 0)])] (kC [(0, some (29, .ds [D.lit (.string (strOfNums r)), D.sl (dI .u64 s) n, D.lit (.int .u64 d)]))]) 1 (kL (D.lit (.bool (iZ xs r s)))) (kC [(0, some (29, .ds [D.lit (.string (strOfNums r)), D.sl (dI .u64 s) n, D.lit (.int .u64 d)]))]) 1 := by
  refine Fun.mk (n := 9) Try.func25 rfl rfl (ka3 rfl) ?_
  intro cx hcx
  refine kI [.no] True [(0, uT (kB xs) q), (1, .e (.c (.fn 22 [(0, 0)])))] [(0, some (29, .ds [D.lit (.string (strOfNums r)), D.sl (dI .u64 s) n, D.lit (.int .u64 d)]))] 1 trivial ?_
  by_cases hx2 : ((0 : Int) ≤ (uX xs r s q))
  · have hx3 : (((((-1) : Int) ≤ (uX xs r s q)) ∧ ((uX xs r s q) < ((q : Nat) : Int))) ∨ ((q = 0) ∧ ((uX xs r s q) = (-1)))) := gC _ _
    refine kI [.no, .no, .call [0] (iV (uX xs r s q)) [(0, some (29, .ds [D.lit (.string (strOfNums r)), D.sl (dI .u64 s) n, D.lit (.int .u64 d)]))] 1 [] none, .b true, .no] ((_) ∧ (((0 : Int) ≤ (uX xs r s q)))) [(4, bV true)] [(0, some (29, .ds [D.lit (.string (strOfNums r)), D.sl (dI .u64 s) n, D.lit (.int .u64 d)]))] 1 ⟨(zZ xs q r s n d zo zo (kQ : CsW xs) (kQ : Byt r) zo zo zo), zo⟩ ?_
    refine AW.ret ?_
    exact kA (.inr rfl) [] (P := ((iZ xs r s) = true) ∧ (kR [D.lit (.string (strOfNums r)), D.sl (dI .u64 s) n, D.lit (.int .u64 d)])) zk ⟨(by first | exact k30 hq zo | exact k1e hq zo), rfl⟩
  · have hx4 : (((((-1) : Int) ≤ (uX xs r s q)) ∧ ((uX xs r s q) < ((q : Nat) : Int))) ∨ ((q = 0) ∧ ((uX xs r s q) = (-1)))) := gC _ _
    refine kI [.no, .no, .call [0] (iV (uX xs r s q)) [(0, some (29, .ds [D.lit (.string (strOfNums r)), D.sl (dI .u64 s) n, D.lit (.int .u64 d)]))] 1 [] none, .b false, .no] ((_) ∧ (¬ ((0 : Int) ≤ (uX xs r s q)))) [(4, bV false)] [(0, some (29, .ds [D.lit (.string (strOfNums r)), D.sl (dI .u64 s) n, D.lit (.int .u64 d)]))] 1 ⟨(zZ xs q r s n d zo zo (kQ : CsW xs) (kQ : Byt r) zo zo zo), zo⟩ ?_
    refine AW.ret ?_
    exact kA (.inr rfl) [] (P := ((iZ xs r s) = false) ∧ (kR [D.lit (.string (strOfNums r)), D.sl (dI .u64 s) n, D.lit (.int .u64 d)])) zk ⟨(by first | exact k30 hq zo | exact k1e hq zo), rfl⟩
theorem mW (r2 s2 : List Int) (n2 : Nat) (d2 : Int) (r s : List Int) (n : Nat) (d : Int) (hr2 : Byt r2) (hl2 : ka0 r2 ≤ 1000000) (hn2 : ka0 s2 = n2) (h2 : n2 ≤ 1000000) (hr : Byt r) (hl : ka0 r ≤ 1000000) (hn : ka0 s = n) (h1 : n ≤ 1000000) : Fun 29 [.agg [.d (D.lit (.string (strOfNums r2))), .d (D.sl (dI .u64 s2) n2), .d (D.lit (.int .u64 d2))], .c (.ptr 0 0)] (kC [(0, some (29, .ds [D.lit (.string (strOfNums r)), D.sl (dI .u64 s) n, D.lit (.int .u64 d)]))]) 1 (kL (D.lit (.bool (uM r2 s2 r s)))) (kC [(0, some (29, .ds [D.lit (.string (strOfNums r)), D.sl (dI .u64 s) n, D.lit (.int .u64 d)]))]) 1 := by
  refine Fun.mk (n := 7) Try.func29 rfl rfl (ka3 rfl) ?_
  intro cx hcx
  refine kI [.no, .no] True [(1, rV 0 0), (2, rV 1 0)] [(0, some (29, .ds [D.lit (.string (strOfNums r)), D.sl (dI .u64 s) n, D.lit (.int .u64 d)])), (1, some (29, .ds [D.lit (.string (strOfNums r2)), D.sl (dI .u64 s2) n2, D.lit (.int .u64 d2)]))] 2 trivial ?_
  refine kI [.no, .no, .call [] (kL (D.lit (.bool (uM r2 s2 r s)))) [] 0 [] none, .no] _ [(3, kL (D.lit (.bool (uM r2 s2 r s))))] [(0, some (29, .ds [D.lit (.string (strOfNums r)), D.sl (dI .u64 s) n, D.lit (.int .u64 d)]))] 2 (tX r2 s2 n2 d2 r s n d (kQ : Byt r2) zo zo zo (kQ : Byt r) zo zo zo) ?_
  refine AW.ret ?_
  exact kA (.inr rfl) [] (P := ((uM r2 s2 r s) = (uM r2 s2 r s)) ∧ (kR [D.lit (.string (strOfNums r)), D.sl (dI .u64 s) n, D.lit (.int .u64 d)])) zk ⟨rfl, rfl⟩
theorem x4 (r s : List Int) (n : Nat) (d : Int) (z : Int) (hr : Byt r) (hl : ka0 r ≤ 1000000) (hn : ka0 s = n) (h1 : n ≤ 1000000) : Fun 36 [.agg [.d (D.lit (.string (strOfNums r))), .d (D.sl (dI .u64 s) n), .d (D.lit (.int .u64 d))], .c (.ptr 0 0)] (kC [(0, some (27, .ds [D.lit (.int .u64 z)]))]) 1 (kL (D.lit (.bool (decide (d = z))))) (kC [(0, some (27, .ds [D.lit (.int .u64 z)]))]) 1 := by
  refine Fun.mk (n := 8) Try.func36 rfl rfl (ka3 rfl) ?_
  intro cx hcx
  refine kI [.no, .no] True [(1, rV 0 0), (2, rV 1 0)] [(0, some (27, .ds [D.lit (.int .u64 z)])), (1, some (29, .ds [D.lit (.string (strOfNums r)), D.sl (dI .u64 s) n, D.lit (.int .u64 d)]))] 2 trivial ?_
  by_cases hx1 : (d = z)
  · refine zr [.no, .no, .no, .b true, .no] [3] [0] ((d = z)) [(3, bV true)] [(0, some (27, .ds [D.lit (.int .u64 z)]))] 2 zo ?_
    refine AW.ret ?_
    exact kA (.inr rfl) [] (P := ((decide (d = z)) = true) ∧ (kR [D.lit (.int .u64 z)])) zk ⟨(by first | rfl | assumption | exact decide_eq_true zo | exact decide_eq_false zo | (simp; omega)), rfl⟩
  · refine zr [.no, .no, .no, .b false, .no] [3] [0] (¬ (d = z)) [(3, bV false)] [(0, some (27, .ds [D.lit (.int .u64 z)]))] 2 zo ?_
    refine AW.ret ?_
    exact kA (.inr rfl) [] (P := ((decide (d = z)) = false) ∧ (kR [D.lit (.int .u64 z)])) zk ⟨(by first | rfl | assumption | exact decide_eq_true zo | exact decide_eq_false zo | (simp; omega)), rfl⟩
theorem e7 {p : Prop} (h : p := by first | exact gW (by assumption) | exact x6 (by assumption)) : p := h
theorem yK (xs : List Ch) (q : Nat) (hq : ka0 xs = q) (h0 : q ≤ 1000000) (hX : CsW xs) : Fun 10 [.agg [.d (D.sl (kB xs) q)]] (kC []) 0 (kL (D.lit (.bool (yF xs)))) (kC []) 0 := by
  refine Fun.mk (n := 31) Try.func10 rfl rfl (ka3 rfl) ?_
  intro cx hcx
  refine kI [.no, .no] True [(1, rV 0 0)] [(0, some (25, .ds [D.sl (kB xs) q]))] 1 trivial ?_
  refine AW.seq ?_
  by_cases hx1 : ((32 : Int) < ((q : Nat) : Int))
  · refine zr [.no, .no, .no, .b true] [1, 9] [0] (((32 : Int) < (q : Int))) [(1, rV 0 0), (9, bV true)] [(0, some (25, .ds [D.sl (kB xs) q]))] 1 zo ?_
    refine zt ?_
    refine kI [.no] True [(2, bV false)] [] 1 trivial ?_
    refine AW.ret ?_
    exact kA (.inr rfl) [] (P := ((yF xs) = false)) zk (by first | exact gU zo | exact fD zo (fun j hj => ha j zo) | exact gV (k := i) zo e7)
  · refine zr [.no, .no, .no, .b false] [1, 9] [0] (¬ ((32 : Int) < (q : Int))) [(1, rV 0 0), (9, bV false)] [(0, some (25, .ds [D.sl (kB xs) q]))] 1 zo ?_
    refine uF ?_
    refine AW.seq ?_
    refine kI (qA 4 []) True [(1, rV 0 0), (11, uT (kB xs) q), (12, uV q), (13, iV 0)] [(0, some (25, .ds [D.sl (kB xs) q]))] 1 trivial ?_
    refine AW.block ?_
    refine kV 0 hcx (fun (x : {x : Nat // match x with | i => (i ≤ q) ∧ (∀ j, j < i → cI xs j = true)}) => match x with | ⟨i, _⟩ => (⟨[(1, rV 0 0), (11, uT (kB xs) q), (12, uV q), (13, uV i)], [(0, some (25, .ds [D.sl (kB xs) q]))], 1⟩ : ES)) (fun x => match x with | ⟨i, _⟩ => q - i) ⟨(0 : Nat), ⟨bD, (fun j hj => absurd hj (kd1 j))⟩⟩ [] (P := (kT 0) ∧ (kR (kB xs)) ∧ (kT q) ∧ (k8 (q : Int)) ∧ (k8 0) ∧ (kR [D.sl (kB xs) q])) zk ⟨rfl, rfl, rfl, rfl, rfl, rfl⟩ ?_
    rintro ⟨i, hinv0⟩
    obtain ⟨hi, ha⟩ : (i ≤ q) ∧ (∀ j, j < i → cI xs j = true) := hinv0
    refine qW (l := [(1, rV 0 0), (11, uT (kB xs) q), (12, uV q), (13, uV i)]) (g := [(0, some (25, .ds [D.sl (kB xs) q]))]) (nx := 1) rfl rfl rfl ?_
    by_cases hx2 : (((i : Nat) : Int) < ((q : Nat) : Int))
    · refine zr [.b true] [1, 11, 12, 13, 14] [0] (((i : Int) < (q : Int))) [(1, rV 0 0), (11, uT (kB xs) q), (12, uV q), (13, uV i), (14, bV true)] [(0, some (25, .ds [D.sl (kB xs) q]))] 1 zo ?_
      refine AW.seq ?_
      refine cB ?_
      refine AW.seq ?_
      refine AW.block ?_
      obtain ⟨hx3, hx4, hx5⟩ := CsW.at (kQ : CsW xs) (i)
      refine kI [.no, .n i, .ds [D.lit (.string (strOfNums (kF xs i))), D.sl (dI .u64 (kD xs i)) (ka0 (kD xs i)), D.lit (.int .u64 (kM xs i))], .no, .no, .no] ((k8 (i : Int)) ∧ (i < q) ∧ (ka5 3 (kb2 (i * 3) (kB xs)) = [D.lit (.string (strOfNums (kF xs i))), D.sl (dI .u64 (kD xs i)) (ka0 (kD xs i)), D.lit (.int .u64 (kM xs i))]) ∧ (([D.lit (.string (strOfNums (kF xs i))), D.sl (dI .u64 (kD xs i)) (ka0 (kD xs i)), D.lit (.int .u64 (kM xs i))] : List D).length = 3)) [(1, rV 0 0), (3, uV i), (4, rV 1 0), (11, uT (kB xs) q), (12, uV q), (13, uV i)] [(0, some (25, .ds [D.sl (kB xs) q])), (1, some (29, .ds [D.lit (.string (strOfNums (kF xs i))), D.sl (dI .u64 (kD xs i)) (ka0 (kD xs i)), D.lit (.int .u64 (kM xs i))]))] 2 ⟨rfl, zo, (q7 (i := i) e8), rfl⟩ ?_
      refine yT [.no, .no] True [(1, rV 0 0), (3, uV i), (4, rV 1 0), (5, .e (.c (.fn 22 [(1, 0)]))), (11, uT (kB xs) q), (12, uV q), (13, uV i)] trivial ?_
      rcases ka6 (uS (kF xs i) (kD xs i) (kM xs i)) with hx6 | hx6
      · refine zr (.no :: .call [] (bV true) [] 0 [] none :: qA 5 [.sls 0 i i (kB (ka5 i xs)), .no, .call [1] (kL (D.lit (.bool (iZ (ka5 i xs) (kF xs i) (kD xs i))))) [(0, some (29, .ds [D.lit (.string (strOfNums (kF xs i))), D.sl (dI .u64 (kD xs i)) (ka0 (kD xs i)), D.lit (.int .u64 (kM xs i))]))] 1 [] none, .no]) [1, 11, 12, 13, 29] [0] ((Fun 24 [.agg [.d (D.lit (.string (strOfNums (kF xs i)))), .d (D.sl (dI .u64 (kD xs i)) (ka0 (kD xs i))), .d (D.lit (.int .u64 (kM xs i)))]] (kC []) 0 (bV true) (kC []) 0) ∧ (kT 0) ∧ (k8 (i : Int)) ∧ ((0 : Nat) ≤ i) ∧ (i ≤ q) ∧ (i - 0 = i) ∧ (ka5 (i * 3) (kb2 (0 * 3) (kB xs)) = (kB (ka5 i xs))) ∧ (_)) [(1, rV 0 0), (11, uT (kB xs) q), (12, uV q), (13, uV i), (29, kL (D.lit (.bool (iZ (ka5 i xs) (kF xs i) (kD xs i)))))] [(0, some (25, .ds [D.sl (kB xs) q]))] 2 ⟨(by have h0 := (gP (kF xs i) (kD xs i) (ka0 (kD xs i)) (kM xs i) (kQ : Byt (kF xs i)) uI rfl uI); rw [hx6] at h0; exact h0), rfl, rfl, zo, zo, zo, (by first | exact yX _ _ | (rw [kf5]; exact yX _ _) | (rw [Nat.zero_mul, kf5]; exact yX _ _)), (k3h (ka5 i xs) i (kF xs i) (kD xs i) (ka0 (kD xs i)) (kM xs i) uI zo (CsW.take (kQ : CsW xs) _) (kQ : Byt (kF xs i)) uI rfl uI)⟩ ?_
        rcases ka6 (iZ (ka5 i xs) (kF xs i) (kD xs i)) with hx7 | hx7
        · rw [hx7]
          refine zt ?_
          refine kI [.no] True [(2, bV false)] [] 2 trivial ?_
          refine AW.ret ?_
          exact kA (.inr rfl) [] (P := ((yF xs) = false)) zk (by first | exact gU zo | exact fD zo (fun j hj => ha j zo) | exact gV (k := i) zo e7)
        · rw [hx7]
          refine uF ?_
          refine bQ [.w, .no] (uU ((i : Int) + 1)) [(1, rV 0 0), (11, uT (kB xs) q), (12, uV q), (13, iV (↑i + 1))] [(0, some (25, .ds [D.sl (kB xs) q]))] 2 ⟨by omega, by omega⟩ ?_
          exact kY ⟨((i + 1) : Nat), ⟨bD, (fun j hj => (Nat.lt_succ_iff_lt_or_eq.1 hj).elim (ha j) (fun e9 => by subst e9; exact oM (by assumption) (by assumption)))⟩⟩ [] (P := (kT 0) ∧ (kR (kB xs)) ∧ (kT q) ∧ (k8 (q : Int)) ∧ (y4 i) ∧ (kR [D.sl (kB xs) q])) zk ⟨rfl, rfl, rfl, rfl, (by first | rfl | omega | assumption | (simp; done) | (simp; omega)), rfl⟩ (show q - (i + 1) < q - i from (by first | omega | (show _ < _; simp; omega)))
      · refine zr [.no, .call [] (bV false) [] 0 [] none, .no, .no, .no] [1, 11, 12, 13, 29] [0] (Fun 24 [.agg [.d (D.lit (.string (strOfNums (kF xs i)))), .d (D.sl (dI .u64 (kD xs i)) (ka0 (kD xs i))), .d (D.lit (.int .u64 (kM xs i)))]] (kC []) 0 (bV false) (kC []) 0) [(1, rV 0 0), (11, uT (kB xs) q), (12, uV q), (13, uV i), (29, bV true)] [(0, some (25, .ds [D.sl (kB xs) q]))] 2 (by have h0 := (gP (kF xs i) (kD xs i) (ka0 (kD xs i)) (kM xs i) (kQ : Byt (kF xs i)) uI rfl uI); rw [hx6] at h0; exact h0) ?_
        refine zt ?_
        refine kI [.no] True [(2, bV false)] [] 2 trivial ?_
        refine AW.ret ?_
        exact kA (.inr rfl) [] (P := ((yF xs) = false)) zk (by first | exact gU zo | exact fD zo (fun j hj => ha j zo) | exact gV (k := i) zo e7)
    · refine zr [.b false] [1, 11, 12, 13, 14] [0] (¬ ((i : Int) < (q : Int))) [(1, rV 0 0), (11, uT (kB xs) q), (12, uV q), (13, uV i), (14, bV false)] [(0, some (25, .ds [D.sl (kB xs) q]))] 1 zo ?_
      refine AW.seq ?_
      refine zf ?_
      refine AW.exit ?_
      refine kI [.no] True [(2, bV true)] [] 1 trivial ?_
      refine AW.ret ?_
      exact kA (.inr rfl) [] (P := ((yF xs) = true)) zk (by first | exact gU zo | exact fD zo (fun j hj => ha j zo) | exact gV (k := i) zo e7)
theorem z3 (r s : List Int) (n : Nat) (d : Int) (hr : Byt r) (hl : ka0 r ≤ 1000000) (hn : ka0 s = n) (h1 : n ≤ 1000000) : Fun 30 [.agg [.d (D.lit (.string (strOfNums r))), .d (D.sl (dI .u64 s) n), .d (D.lit (.int .u64 d))]] (kC []) 0 (.e (.agg [.d (D.lit (.string (strOfNums r))), .d (D.sl (dI .u64 s) n), .d (D.lit (.int .u64 d))])) (kC []) 0 := by
  refine Fun.mk (n := 8) Try.func30 rfl rfl (ka3 rfl) ?_
  intro cx hcx
  refine kI [.no, .no] True [(1, rV 0 0), (2, rV 1 0)] [(0, some (29, .ds [D.lit (.string (strOfNums r)), D.sl (dI .u64 s) n, D.lit (.int .u64 d)])), (1, some (29, .ds [D.lit (.string { data := #[] }), uC, D.lit (.int .u64 0)]))] 2 trivial ?_
  refine kI [.no, .no, .call [] (oV 0 0 n 1) [(0, some (27, .ds (dI .u64 s)))] 1 [] none, .no, .no] _ [(1, rV 0 0), (2, rV 1 0)] [(0, some (29, .cs [.d (D.lit (.string (strOfNums r))), .own 2 0 n 1 true, .d (D.lit (.int .u64 d))])), (1, some (29, .ds [D.lit (.string { data := #[] }), uC, D.lit (.int .u64 0)])), (2, some (27, .ds (dI .u64 s)))] 3 (jI s n zo zo) ?_
  refine kI [.no, .no] True [(2, rV 1 0)] [(1, some (29, .cs [.d (D.lit (.string (strOfNums r))), .own 2 0 n 1 true, .d (D.lit (.int .u64 d))])), (2, some (27, .ds (dI .u64 s)))] 3 trivial ?_
  refine AW.freeze 2 (l' := [(2, rV 1 0)]) (g' := [(1, some (29, .ds [D.lit (.string (strOfNums r)), D.sl (dI .u64 s) n, D.lit (.int .u64 d)]))]) rfl (FzS.cons rfl (.same _) FzS.nil) (FzG.to (bc := .cs [.d (D.lit (.string (strOfNums r))), .own 2 0 n 1 true, .d (D.lit (.int .u64 d))]) rfl (by rfl) (FzL.cons (.same _) (FzL.cons (@FzC.own 2 ((dI .u64 s) : List D) 0 n 1 true ((dI .u64 s) : List D) (by rw [kf5, ke3, kc5 (by first | omega | (simp only [kK, kH, kO, ka8, uL, ka4, kb5, kb6, kb8, kc0, kc4, ka8, kc8, kd6, ke3] <;> omega))]) aH) (FzL.cons (.same _) FzL.nil))) FzG.nil) ?_
  refine AW.ret ?_
  exact kA (.inr rfl) [] (P := ((.string (strOfNums r) : Value) = .string (strOfNums r)) ∧ (kR (dI .u64 s)) ∧ (kT n) ∧ (k8 d)) zk ⟨rfl, rfl, rfl, rfl⟩
theorem x3 (xs : List Ch) (q : Nat) (hq : ka0 xs = q) (h0 : q ≤ 1000000) (hX : CsW xs) : Fun 49 [.c (.d (D.sl (kB xs) q)), .c (.fn 30 [])] (kC []) 0 (oV 0 0 q 3) (kC [(0, some (29, .ds (kB xs)))]) 1 := by
  refine Fun.mk (n := 22) Try.func49 rfl rfl (ka3 rfl) ?_
  intro cx hcx
  refine kI [.no] True [(0, uT (kB xs) q), (1, .e (.c (.fn 30 [])))] [] 0 trivial ?_
  refine yT [.no] True [(0, uT (kB xs) q), (1, .e (.c (.fn 30 []))), (5, nV)] trivial ?_
  refine AW.seq ?_
  refine yT [.no, .no, .no] True [(1, .e (.c (.fn 30 []))), (5, nV), (8, uT (kB xs) q), (9, uV q), (10, iV 0)] trivial ?_
  refine AW.block ?_
  refine AW.adoptS 5 3 29 rfl ?_
  refine kV 0 hcx (fun (x : {x : Nat // match x with | z => (z ≤ q)}) => match x with | ⟨z, _⟩ => (⟨[(1, .e (.c (.fn 30 []))), (5, oV 1 0 z 3), (8, uT (kB xs) q), (9, uV q), (10, uV z)], [(1, some (29, .ds (kB (ka5 z xs))))], 2⟩ : ES)) (fun x => match x with | ⟨z, _⟩ => q - z) ⟨(0 : Nat), (show ((0 : Nat) ≤ q) from bD)⟩ [(1, 0)] (P := (kT 0) ∧ (kT 0) ∧ (kR (kB xs)) ∧ (kT q) ∧ (k8 (q : Int)) ∧ (k8 0) ∧ (((kB (ka5 0 xs)) : List D) = ([] : List D))) zk ⟨rfl, rfl, rfl, rfl, rfl, rfl, (by first | rfl | with_reducible assumption | exact congrArg kB (yJ zo).symm | exact congrArg kB (yJ zo))⟩ ?_
  rintro ⟨z, hinv0⟩
  have hz : (z ≤ q) := hinv0
  refine qW (l := [(1, .e (.c (.fn 30 []))), (5, oV 1 0 z 3), (8, uT (kB xs) q), (9, uV q), (10, uV z)]) (g := [(1, some (29, .ds (kB (ka5 z xs))))]) (nx := 2) rfl rfl rfl ?_
  by_cases hx1 : (((z : Nat) : Int) < ((q : Nat) : Int))
  · refine zr [.b true] [1, 5, 8, 9, 10, 11] [1] (((z : Int) < (q : Int))) [(1, .e (.c (.fn 30 []))), (5, oV 1 0 z 3), (8, uT (kB xs) q), (9, uV q), (10, uV z), (11, bV true)] [(1, some (29, .ds (kB (ka5 z xs))))] 2 zo ?_
    refine AW.seq ?_
    refine cB ?_
    refine AW.seq ?_
    refine AW.block ?_
    obtain ⟨hx2, hx3, hx4⟩ := CsW.at (kQ : CsW xs) (z)
    refine kI [.n z, .ds [D.lit (.string (strOfNums (kF xs z))), D.sl (dI .u64 (kD xs z)) (ka0 (kD xs z)), D.lit (.int .u64 (kM xs z))], .no, .no] ((k8 (z : Int)) ∧ (z < q) ∧ (ka5 3 (kb2 (z * 3) (kB xs)) = [D.lit (.string (strOfNums (kF xs z))), D.sl (dI .u64 (kD xs z)) (ka0 (kD xs z)), D.lit (.int .u64 (kM xs z))]) ∧ (([D.lit (.string (strOfNums (kF xs z))), D.sl (dI .u64 (kD xs z)) (ka0 (kD xs z)), D.lit (.int .u64 (kM xs z))] : List D).length = 3)) [(1, .e (.c (.fn 30 []))), (5, oV 1 0 z 3), (7, rV 2 0), (8, uT (kB xs) q), (9, uV q), (10, uV z)] [(1, some (29, .ds (kB (ka5 z xs)))), (2, some (29, .ds [D.lit (.string (strOfNums (kF xs z))), D.sl (dI .u64 (kD xs z)) (ka0 (kD xs z)), D.lit (.int .u64 (kM xs z))]))] 3 ⟨rfl, zo, (q7 (i := z) e8), rfl⟩ ?_
    refine bQ [.no, .no, .no, .call [] (.e (.agg [.d (D.lit (.string (strOfNums (kF xs z)))), .d (D.sl (dI .u64 (kD xs z)) (ka0 (kD xs z))), .d (D.lit (.int .u64 (kM xs z)))])) [] 0 [] none, .no, .ap none (z + 1) (kB ((ka5 z xs) ++ ([(kZ (kF xs z) (kD xs z) (kM xs z))] : List Ch))), .no] ((_) ∧ ([D.lit (.string (strOfNums (kF xs z))), D.sl (dI .u64 (kD xs z)) (ka0 (kD xs z)), D.lit (.int .u64 (kM xs z))].length = 1 * 3) ∧ (((kB (ka5 z xs)) : List D).length = z * 3) ∧ ((z + 1) * 48 ≤ 140737488355328) ∧ (z + 1 = (z + 1)) ∧ (((kB (ka5 z xs)) : List D) ++ [D.lit (.string (strOfNums (kF xs z))), D.sl (dI .u64 (kD xs z)) (ka0 (kD xs z)), D.lit (.int .u64 (kM xs z))] = (kB ((ka5 z xs) ++ ([(kZ (kF xs z) (kD xs z) (kM xs z))] : List Ch))))) [(1, .e (.c (.fn 30 []))), (5, oV 4 0 (z + 1) 3), (8, uT (kB xs) q), (9, uV q), (10, uV z)] [(4, some (29, .ds (kB ((ka5 z xs) ++ ([(kZ (kF xs z) (kD xs z) (kM xs z))] : List Ch)))))] 5 ⟨(z3 (kF xs z) (kD xs z) (ka0 (kD xs z)) (kM xs z) (kQ : Byt (kF xs z)) uI rfl uI), aH, aH, zo, zo, (gL (ka5 z xs) (kF xs z) (kD xs z) (ka0 (kD xs z)) (kM xs z) (by first | rfl | assumption | omega))⟩ ?_
    refine cG [.w, .no] (uU ((z : Int) + 1)) [(1, .e (.c (.fn 30 []))), (5, oV 4 0 (z + 1) 3), (8, uT (kB xs) q), (9, uV q), (10, iV (↑z + 1))] ⟨by omega, by omega⟩ ?_
    exact kY ⟨((z + 1) : Nat), (show ((z + 1) ≤ q) from bD)⟩ [(1, 4)] (P := (kT 0) ∧ (kT (z + 1)) ∧ (kR (kB xs)) ∧ (kT q) ∧ (k8 (q : Int)) ∧ (y4 z) ∧ (((kB (ka5 (z + 1) xs)) : List D) = (kB ((ka5 z xs) ++ ([(kZ (kF xs z) (kD xs z) (kM xs z))] : List Ch))))) zk ⟨rfl, rfl, rfl, rfl, rfl, (by first | rfl | omega | assumption | (simp; done) | (simp; omega)), (by first | rfl | with_reducible assumption | exact congrArg kB (yJ zo).symm | exact congrArg kB (yJ zo))⟩ (show q - (z + 1) < q - z from (by first | omega | (show _ < _; simp; omega)))
  · refine zr [.b false] [1, 5, 8, 9, 10, 11] [1] (¬ ((z : Int) < (q : Int))) [(1, .e (.c (.fn 30 []))), (5, oV 1 0 z 3), (8, uT (kB xs) q), (9, uV q), (10, uV z), (11, bV false)] [(1, some (29, .ds (kB (ka5 z xs))))] 2 zo ?_
    refine AW.seq ?_
    refine zf ?_
    refine AW.exit ?_
    refine kI [.no, .no] True [(4, oV 1 0 z 3)] [(1, some (29, .ds (kB (ka5 z xs))))] 2 trivial ?_
    have hz1 : ka5 z xs = xs := kc5 (by omega)
    refine AW.ret ?_
    exact kA (.inr rfl) [(0, 1)] (P := (kT 0) ∧ ((q : Nat) = z) ∧ (((kB xs) : List D) = (kB (ka5 z xs)))) zk ⟨rfl, (by first | rfl | omega), (by first | rfl | (rw [hz1]; done) | (rw [hz1]; rfl))⟩
theorem lS (xs : List Ch) (q : Nat) (hq : ka0 xs = q) (h0 : q ≤ 1000000) (hX : CsW xs) : Fun 35 [.agg [.d (D.sl (kB xs) q)]] (kC []) 0 (.e (.agg [.own 0 0 q 3 true])) (kC [(0, some (29, .ds (kB xs)))]) 1 := by
  refine Fun.mk (n := 7) Try.func35 rfl rfl (ka3 rfl) ?_
  intro cx hcx
  refine kI [.no, .no] True [(1, rV 0 0), (2, rV 1 0)] [(0, some (25, .ds [D.sl (kB xs) q])), (1, some (25, .ds [uC]))] 2 trivial ?_
  refine kI [.no, .no, .call [] (oV 0 0 q 3) [(0, some (29, .ds (kB xs)))] 1 [] none, .no, .no] _ [(2, rV 1 0)] [(1, some (25, .cs [.own 2 0 q 3 true])), (2, some (29, .ds (kB xs)))] 3 (x3 xs q zo zo (kQ : CsW xs)) ?_
  refine AW.ret ?_
  exact kA (.inr rfl) [(0, 2)] (P := (kT 0) ∧ (kT q) ∧ (kR (kB xs))) zk ⟨rfl, rfl, rfl⟩
end Go.Proofs.Ytkjmlililpgamaa
