/- Lists of choices: what the code does with them. No statement is proved here. -/
import Derived.Test.YtkjmlililpgamaaZC30A
namespace Go.Proofs.Ytkjmlililpgamaa
open Go.ChangeShapes Go.WideShapes Go.ChangeAt Go.RowKit
open Bool renaming eq_false_or_eq_true → ka6
open List renaming append_nil → kg4, drop → kb2, drop_drop → kf9, drop_zero → kf5, filter_append → kj9, filter_nil → kk9, getD → ka2, getD_eq_getElem?_getD → ka9, length → ka0, length_append → ka4, length_cons → kb5, length_drop → kc0, length_map → kc8, length_nil → kb6, length_replicate → kc4, length_reverse → kd6, length_set → ka8, length_take → kb8, replicate → kb0, set → ke2, take → ka5, take_of_length_le → kc5, take_succ_eq_append_getElem → kh2
open Nat renaming le_of_ble_eq_true → ka3, le_refl → kc1, mul_one → ke3, not_lt_zero → kd1
set_option linter.unusedVariables false
set_option linter.unusedSimpArgs false
/-! choices: what the code does with lists of them -/
set_option maxHeartbeats 4000000
set_option maxRecDepth 100000
theorem lS (r s : List Int) (d : Int) (n : Nat) (hn : s.length = n) : ∀ (xs : List Ch) (i : Nat), i < xs.length → jP (kB xs) (i * 3) [D.lit (.string (strOfNums r)), D.sl (dI .u64 s) n, D.lit (.int .u64 d)] = kB (ke2 xs i (kZ r s d))
  | [], _, h => absurd h (kd1 _)
  | _ :: _, 0, _ => by subst hn; rfl
  | c :: q, i + 1, h => by
    have ih := lS r s d n hn q i (Nat.lt_of_succ_lt_succ h)
    rw [show (i + 1) * 3 = i * 3 + 1 + 1 + 1 by omega]
    rw [show kB (ke2 (c :: q) (i + 1) (kZ r s d)) = t7 c ++ kB (ke2 q i (kZ r s d)) from rfl, ← ih]
    rfl
theorem CsW.set {xs : List Ch} (h : CsW xs) {c : Ch} (hc : ChW c) (i : Nat) : CsW (ke2 xs i c) := fun m hm => by
  rcases List.mem_or_eq_of_mem_set hm with hm | rfl
  · exact h m hm
  · exact hc
def oC (xs : List Ch) (i m : Nat) : List D := kB (ka5 i xs) ++ (kb0 m [D.lit (.string (ByteArray.mk #[])), D.lit (.slice none 0 0), D.lit (.int .u64 0)]).flatten
theorem kO (xs : List Ch) (i m : Nat) : ka0 (oC xs i m) = min i (ka0 xs) * 3 + m * 3 := by unfold oC; rw [ka4, kH, mT, kb8]
theorem tK (xs : List Ch) (i m : Nat) (h : i + m = xs.length) : ka5 (i * 3) (kB xs) ++ (kb0 m [D.lit (.string (ByteArray.mk #[])), D.lit (.slice none 0 0), D.lit (.int .u64 0)]).flatten ++ kb2 (i * 3 + m * 3) (kB xs) = oC xs i m := by
  rw [yY, show i * 3 + m * 3 = (i + m) * 3 by omega, a8, h, List.drop_length]
  exact kg4 _
theorem i7 (xs : List Ch) (i m : Nat) (h : i ≤ xs.length) : ka5 (i * 3) (oC xs i m) = kB (ka5 i xs) := by
  unfold oC
  exact List.take_left' (by rw [kH, kb8]; omega)
def uY (xs : List Ch) (r s : List Int) (n : Nat) : Int := b3 (fun j => uN (kF xs j) (kD xs j) r s) n
theorem zD {xs : List Ch} {r s : List Int} {k : Nat} (h : uY xs r s k = -1) (h2 : uN (kF xs k) (kD xs k) r s = false) : uY xs r s (k + 1) = -1 := a2 h h2
theorem l1 {xs : List Ch} {r s : List Int} {k n : Nat} (h : uY xs r s k = -1) (h2 : uN (kF xs k) (kD xs k) r s = true) (hk : k < n) : uY xs r s n = (k : Int) := aO h h2 n hk
def i1 (xs : List Ch) (r s : List Int) : Bool := decide (0 ≤ uY xs r s xs.length)
theorem k32 {xs : List Ch} {r s : List Int} {n : Nat} (hn : xs.length = n) (h : 0 ≤ uY xs r s n) : i1 xs r s = true := decide_eq_true (by rw [hn]; exact h)
theorem k1g {xs : List Ch} {r s : List Int} {n : Nat} (hn : xs.length = n) (h : ¬ 0 ≤ uY xs r s n) : i1 xs r s = false := decide_eq_false (by rw [hn]; exact h)
def a5 (xs : List Ch) (d : Int) (n : Nat) : Int := b3 (fun j => decide (kM xs j = d)) n
theorem k2x {xs : List Ch} {d : Int} {k : Nat} (h : a5 xs d k = -1) (h2 : decide (kM xs k = d) = false) : a5 xs d (k + 1) = -1 := a2 h h2
theorem zV {xs : List Ch} {d : Int} {k n : Nat} (h : a5 xs d k = -1) (h2 : decide (kM xs k = d) = true) (hk : k < n) : a5 xs d n = (k : Int) := aO h h2 n hk
def cJ (xs : List Ch) (i : Nat) : Bool := uT (kF xs i) (kD xs i) (kM xs i) && !i1 (ka5 i xs) (kF xs i) (kD xs i)
def yG (xs : List Ch) : Bool := decide (xs.length ≤ 32) && (List.range xs.length).all (cJ xs)
theorem oO {xs : List Ch} {i : Nat} (h : uT (kF xs i) (kD xs i) (kM xs i) = true) (h2 : i1 (ka5 i xs) (kF xs i) (kD xs i) = false) : cJ xs i = true := by unfold cJ; rw [h, h2]; rfl
theorem gX {xs : List Ch} {i : Nat} (h : uT (kF xs i) (kD xs i) (kM xs i) = false) : cJ xs i = false := by unfold cJ; rw [h]; rfl
theorem x8 {xs : List Ch} {i : Nat} (h2 : i1 (ka5 i xs) (kF xs i) (kD xs i) = true) : cJ xs i = false := by unfold cJ; rw [h2, Bool.not_true, Bool.and_false]
theorem fE {xs : List Ch} (h : xs.length ≤ 32) (h2 : ∀ j, j < xs.length → cJ xs j = true) : yG xs = true := by
  unfold yG
  rw [decide_eq_true h, Bool.true_and]
  exact List.all_eq_true.2 fun i hi => h2 i (List.mem_range.1 hi)
theorem gV {xs : List Ch} (h : ¬ xs.length ≤ 32) : yG xs = false := by unfold yG; rw [decide_eq_false h]; rfl
theorem gW {xs : List Ch} {k : Nat} (hk : k < xs.length) (h : cJ xs k = false) : yG xs = false := by
  unfold yG
  rw [Bool.and_eq_false_iff]
  right
  cases e : (List.range xs.length).all (cJ xs) with
  | false => rfl
  | true => have := List.all_eq_true.1 e k (List.mem_range.2 hk); rw [h] at this; cases this
theorem oN {xs : List Ch} (h : yG xs = true) : xs.length ≤ 32 ∧ ∀ j, j < xs.length → cJ xs j = true := by
  unfold yG at h
  rw [Bool.and_eq_true] at h
  exact ⟨of_decide_eq_true h.1, fun j hj => List.all_eq_true.1 h.2 j (List.mem_range.2 hj)⟩
def gU (p : Ch → Bool) (xs : List Ch) : List Ch := List.filter (fun c => !p c) xs
theorem zL (p : Ch → Bool) (xs : List Ch) : (gU p xs).length ≤ xs.length := List.length_filter_le _ _
theorem k2r {p : Ch → Bool} {xs : List Ch} (h : CsW xs) : CsW (gU p xs) := fun c hc => h c (List.mem_filter.1 hc).1
theorem yK {xs : List Ch} {j : Nat} (h : j < xs.length) : ka5 (j + 1) xs = ka5 j xs ++ [yH xs j] := by
  have e : yH xs j = xs[j] := by unfold yH; rw [ka9, List.getElem?_eq_getElem h]; rfl
  rw [kh2 h, e]
theorem k0t {p : Ch → Bool} {xs : List Ch} {j : Nat} (h : j < xs.length) (h2 : p (yH xs j) = false) : gU p (ka5 (j + 1) xs) = gU p (ka5 j xs) ++ [yH xs j] := by
  rw [yK h]; unfold gU; rw [kj9, List.filter_cons_of_pos (by rw [h2]; rfl), kk9]
theorem k0u {p : Ch → Bool} {xs : List Ch} {j : Nat} (h : j < xs.length) (h2 : p (yH xs j) = true) : gU p (ka5 (j + 1) xs) = gU p (ka5 j xs) := by
  rw [yK h]; unfold gU; rw [kj9, List.filter_cons_of_neg (by rw [h2]; decide), kk9, kg4]
theorem lB {p : Ch → Bool} {xs : List Ch} : ∀ k, k ≤ xs.length → (∀ j, j < k → p (yH xs j) = false) → gU p (ka5 k xs) = ka5 k xs
  | 0, _, _ => rfl
  | k + 1, hk, h => by
    rw [k0t (by omega) (h k (by omega)), lB k (by omega) (fun j hj => h j (by omega)), yK (by omega)]
def x7 (p : Ch → Bool) (xs ys : List Ch) (i j : Nat) : Prop := ka5 i ys = gU p (ka5 j xs) ∧ kb2 j ys = kb2 j xs ∧ ka0 ys = ka0 xs
theorem k30 {p : Ch → Bool} {xs : List Ch} {k : Nat} {n : Nat} (hn : xs.length = n) (h : b3 (fun j => p (yH xs j)) n = (k : Int)) : x7 p xs xs k (k + 1) := by
  rcases vX (fun j => p (yH xs j)) n with ⟨h1, _⟩ | ⟨k2, h2, h3, h4⟩
  · omega
  · obtain rfl : k2 = k := by omega
    have h5 : ∀ j, j < k2 → p (yH xs j) = false := by
      intro j hj
      cases e : p (yH xs j) with
      | false => rfl
      | true =>
        rcases vX (fun j => p (yH xs j)) j with ⟨h6, _⟩ | ⟨k3, h6, h7, h8⟩
        · have := aO (p := fun j => p (yH xs j)) h6 e n (by omega); omega
        · have h9 : ∀ m, j ≤ m → b3 (fun j => p (yH xs j)) m = (k3 : Int) := by
            intro m hm
            induction m with
            | zero => have : j = 0 := by omega
                      subst this; exact h7
            | succ m ih =>
              by_cases e2 : j = m + 1
              · subst e2; exact h7
              · have h10 := ih (by omega)
                show (if 0 ≤ b3 (fun j => p (yH xs j)) m then _ else _) = _
                rw [if_pos (by omega)]; exact h10
          have := h9 n (by omega); omega
    exact ⟨by rw [k0u (by omega) h4, lB k2 (by omega) h5], rfl, rfl⟩
theorem k2y {p : Ch → Bool} {xs ys : List Ch} {i j : Nat} (h : x7 p xs ys i j) (hj : j < xs.length) : yH ys j = yH xs j := by
  have h1 := congrArg (fun l => ka2 l 0 ch0) h.2.1
  simpa [yH, ka9, List.getElem?_drop] using h1
theorem xY {p : Ch → Bool} {xs ys : List Ch} {i j : Nat} (h : x7 p xs ys i j) (hi : i < j) (hj : j < xs.length) (h2 : p (yH ys j) = false) : x7 p xs (ke2 ys i (kZ (kF ys j) (kD ys j) (kM ys j))) (i + 1) (j + 1) := by
  have hg := k2y h hj
  rw [hg] at h2
  have e : kZ (kF ys j) (kD ys j) (kM ys j) = yH xs j := by unfold kF kD kM; rw [hg]; rfl
  have hl := h.2.2
  refine ⟨?_, ?_, ?_⟩
  · rw [e, k0t hj h2, ← h.1, kh2 (by rw [ka8]; omega), List.getElem_set_self, List.take_set_of_le (kc1 _)]
  · rw [List.drop_set_of_lt (by omega)]
    have h3 := congrArg (kb2 1) h.2.1
    rw [kf9, kf9] at h3; exact h3
  · rw [ka8]; exact hl
theorem xZ {p : Ch → Bool} {xs ys : List Ch} {i j : Nat} (h : x7 p xs ys i j) (hj : j < xs.length) (h2 : p (yH ys j) = true) : x7 p xs ys i (j + 1) := by
  rw [k2y h hj] at h2
  refine ⟨by rw [k0u hj h2]; exact h.1, ?_, h.2.2⟩
  have h3 := congrArg (kb2 1) h.2.1
  rw [kf9, kf9] at h3; exact h3
theorem k2z {p : Ch → Bool} {xs ys : List Ch} {i j : Nat} (h : x7 p xs ys i j) (hj : xs.length ≤ j) : ka5 i ys = gU p xs := by rw [h.1, kc5 hj]
theorem mR {p : Ch → Bool} {xs : List Ch} {n : Nat} (hn : xs.length = n) (h : b3 (fun j => p (yH xs j)) n = -1) : gU p xs = xs := by
  subst hn
  have h1 := lB (p := p) (xs := xs) xs.length (kc1 _) (dH (p := fun j => p (yH xs j)) (n := xs.length) (by omega))
  rwa [kc5 (kc1 _)] at h1
def qZ (xs : List Ch) (r s : List Int) : List Ch := gU (fun c => uN c.r c.s r s) xs
def vC (xs : List Ch) (d : Int) : List Ch := gU (fun c => decide (c.d = d)) xs
def dfC (xs ys : List Ch) (r s : List Int) (i j : Nat) : Prop := x7 (fun c => uN c.r c.s r s) xs ys i j
def dfD (xs ys : List Ch) (d : Int) (i j : Nat) : Prop := x7 (fun c => decide (c.d = d)) xs ys i j
theorem gA (xs : List Ch) (r s : List Int) : (qZ xs r s).length ≤ xs.length := zL _ _
theorem lC (xs : List Ch) (d : Int) : (vC xs d).length ≤ xs.length := zL _ _
theorem k2t {xs : List Ch} (h : CsW xs) (r s : List Int) : CsW (qZ xs r s) := k2r h
theorem k2s {xs : List Ch} (h : CsW xs) (d : Int) : CsW (vC xs d) := k2r h
theorem k1o {r s : List Int} (hr : Byt r) (h1 : r.length ≤ 1000000) (h2 : s.length ≤ 1000000) (d : Int) : ChW (kZ r s d) := ⟨hr, h1, h2⟩
def aB (xs : List Ch) (r s : List Int) (d : Int) : Int := if yG xs = true then (if uT r s d = true then 0 else 2) else 1
def oW (xs : List Ch) (r s : List Int) (d : Int) : List Ch := kb2 ((qZ xs r s).length - 31) (qZ xs r s ++ [kZ r s d])
def kE (xs : List Ch) (r s : List Int) (d : Int) : List Ch := if yG xs = true ∧ uT r s d = true then oW xs r s d else []
theorem k1z {xs : List Ch} {r s : List Int} {d : Int} (h : yG xs = false) : kE xs r s d = [] ∧ aB xs r s d = 1 := by
  unfold kE aB; rw [h]; exact ⟨rfl, rfl⟩
theorem k1y {xs : List Ch} {r s : List Int} {d : Int} (h : yG xs = true) (h2 : uT r s d = false) : kE xs r s d = [] ∧ aB xs r s d = 2 := by
  unfold kE aB; rw [h, h2]; exact ⟨rfl, rfl⟩
theorem jV {xs : List Ch} {r s : List Int} {d : Int} (h : yG xs = true) (h2 : uT r s d = true) : kE xs r s d = oW xs r s d ∧ aB xs r s d = 0 := by
  unfold kE aB; rw [h, h2]; exact ⟨rfl, rfl⟩
theorem oU {xs : List Ch} {r s : List Int} {d : Int} (h : (qZ xs r s).length ≤ 31) : oW xs r s d = qZ xs r s ++ [kZ r s d] := by
  unfold oW; rw [Nat.sub_eq_zero_of_le h]; rfl
theorem l5 (xs : List Ch) (r s : List Int) (d : Int) : (oW xs r s d).length ≤ 32 := by
  unfold oW; rw [kc0, ka4]; show (qZ xs r s).length + 1 - _ ≤ 32; omega
theorem fL (xs : List Ch) (r s : List Int) (d : Int) : (kE xs r s d).length ≤ 32 := by
  unfold kE; split
  · exact l5 xs r s d
  · exact Nat.zero_le _
theorem fM (xs : List Ch) (r s : List Int) (d : Int) : 0 ≤ aB xs r s d ∧ aB xs r s d ≤ 2 := by unfold aB; repeat' split <;> omega
theorem q9 {xs : List Ch} {r s : List Int} {d : Int} (h : CsW xs) (hr : Byt r) (h1 : r.length ≤ 1000000) (h2 : s.length ≤ 1000000) : CsW (kE xs r s d) := by
  unfold kE oW; split
  · exact (CsW.app (k2t h r s) (CsW.one (k1o hr h1 h2 d))).drop _
  · exact CsW.nil
def p7 (xs : List Ch) (r s : List Int) : Nat → Int × Nat
  | 0 => (0, 0)
  | k + 1 => if kF xs k = r ∧ (p7 xs r s k).2 ≤ (kD xs k).length ∧ vU (kD xs k) s = true then (kM xs k, (kD xs k).length) else p7 xs r s k
def oI (xs : List Ch) (r s : List Int) (k : Nat) : Int := (p7 xs r s k).1
def mJ (xs : List Ch) (r s : List Int) (k : Nat) : Nat := (p7 xs r s k).2
theorem dA {xs : List Ch} {r s : List Int} {k : Nat} (h1 : kF xs k = r) (h2 : mJ xs r s k ≤ (kD xs k).length) (h3 : vU (kD xs k) s = true) : oI xs r s (k + 1) = kM xs k ∧ mJ xs r s (k + 1) = (kD xs k).length := by
  have e : p7 xs r s (k + 1) = (kM xs k, (kD xs k).length) := if_pos ⟨h1, h2, h3⟩
  unfold oI mJ; rw [e]; exact ⟨rfl, rfl⟩
theorem dZ {xs : List Ch} {r s : List Int} {k : Nat} (h : ¬ (kF xs k = r ∧ mJ xs r s k ≤ (kD xs k).length ∧ vU (kD xs k) s = true)) : oI xs r s (k + 1) = oI xs r s k ∧ mJ xs r s (k + 1) = mJ xs r s k := by
  have e : p7 xs r s (k + 1) = p7 xs r s k := if_neg h
  unfold oI mJ; rw [e]; exact ⟨rfl, rfl⟩
theorem aR {b : Bool} (h : b = true) (h2 : b = false) : False := by rw [h] at h2; cases h2
def kS (xs : List Ch) (r s : List Int) : Int := if yG xs = true ∧ v4 s = true then oI xs r s xs.length else 0
theorem dB {xs : List Ch} {r s : List Int} (h : yG xs = true) (h2 : v4 s = true) : kS xs r s = oI xs r s xs.length := if_pos ⟨h, h2⟩
theorem dC {xs : List Ch} {r s : List Int} (h : yG xs = false) : kS xs r s = 0 := if_neg fun e => by rw [h] at e; cases e.1
theorem aX {xs : List Ch} {r s : List Int} (h : v4 s = false) : kS xs r s = 0 := if_neg fun e => by rw [h] at e; cases e.2
def q5 (xs : List Ch) (d : Int) : List Ch := if yG xs = true then vC xs d else xs
theorem k2u {xs : List Ch} {d : Int} (h : yG xs = true) : q5 xs d = vC xs d := if_pos h
theorem k40 {xs : List Ch} {d : Int} (h : yG xs = false) : q5 xs d = xs := if_neg fun e => by rw [h] at e; cases e
theorem bK (xs : List Ch) (d : Int) : (q5 xs d).length ≤ xs.length := by
  unfold q5; split
  · exact lC xs d
  · exact kc1 _
theorem eQ {xs : List Ch} (h : CsW xs) (d : Int) : CsW (q5 xs d) := by
  unfold q5; split
  · exact k2s h d
  · exact h
def gT (a b : List Int) (n : Nat) : Int := b3 (fun j => !y1 b (ka2 a j 0)) n
theorem k3x {a b : List Int} {k : Nat} (h : gT a b k = -1) (h2 : y1 b (ka2 a k 0) = true) : gT a b (k + 1) = -1 := a2 h (by show (!y1 b _) = false; rw [h2]; rfl)
theorem k2k {a b : List Int} {k n : Nat} (h : gT a b k = -1) (h2 : y1 b (ka2 a k 0) = false) (hk : k < n) : gT a b n = (k : Int) := aO h (by show (!y1 b _) = true; rw [h2]; rfl) n hk
theorem k3w {a b : List Int} {n : Nat} (hn : a.length = n) (h : 0 ≤ gT a b n) : vU a b = false := by
  obtain ⟨k, hk, h1⟩ := zM h
  refine k08 (k := k) (by omega) ?_
  cases e : y1 b (ka2 a k 0) with
  | false => rfl
  | true => rw [e] at h1; cases h1
theorem k3y {a b : List Int} {n : Nat} (hn : a.length = n) (h : ¬ 0 ≤ gT a b n) : vU a b = true := k07 fun j hj => by
  have h1 := dH h j (by omega)
  cases e : y1 b (ka2 a j 0) with
  | true => rfl
  | false => rw [e] at h1; cases h1
def oG (b : List Int) (x : Int) : Bool := !y1 b x
theorem k2m {b : List Int} {x : Int} (h : y1 b x = false) : oG b x = true := by unfold oG; rw [h]; rfl
theorem k2o {b : List Int} {x : Int} (h : y1 b x = true) : oG b x = false := by unfold oG; rw [h]; rfl
theorem zH {b : List Int} {x : Int} (h : oG b x = true) : y1 b x = false := by unfold oG at h; cases e : y1 b x with
  | false => rfl
  | true => rw [e] at h; cases h
theorem k2n {b : List Int} {x : Int} (h : oG b x = false) : y1 b x = true := by unfold oG at h; cases e : y1 b x with
  | true => rfl
  | false => rw [e] at h; cases h
def oF (a b : List Int) : Bool := !vU a b
theorem zF {a b : List Int} {n : Nat} (hn : a.length = n) (h : 0 ≤ gT a b n) : oF a b = true := by unfold oF; rw [k3w hn h]; rfl
theorem zG {a b : List Int} {n : Nat} (hn : a.length = n) (h : ¬ 0 ≤ gT a b n) : oF a b = false := by unfold oF; rw [k3y hn h]; rfl
theorem pL {a b : List Int} (h : oF a b = true) : vU a b = false := by unfold oF at h; cases e : vU a b with
  | false => rfl
  | true => rw [e] at h; cases h
theorem pM {a b : List Int} (h : oF a b = false) : vU a b = true := by unfold oF at h; cases e : vU a b with
  | true => rfl
  | false => rw [e] at h; cases h
theorem aI {p : Prop} (h : p := by first | omega | (simp only [kK, kH, kO, ka8, uM, ka4, kb5, kb6, kb8, kc0, kc4, ka8, kc8, kd6, ke3] <;> omega) | rfl) : p := h
theorem d8 (l : List Int) (n : Nat) (hn : ka0 l = n) (hb : n ≤ 1000000) (h1 : 1 ≤ n) : Fun 46 [.c (.d (D.sl (dI .u64 l) n))] (kC []) 0 (oV 0 0 n 1) (kC [(0, some (27, .ds (dI .u64 l)))]) 1 := by
  refine Fun.mk (n := 8) Try.func46 rfl rfl (ka3 rfl) ?_
  intro cx hcx
  refine kI [.no] True [(0, sV .u64 l n)] [] 0 trivial ?_
  refine AW.seq ?_
  refine yU [.no, .no] (1 ≤ n) [(0, sV .u64 l n), (4, bV false)] zo ?_
  refine uG ?_
  refine kI [.no, .no, .ap none (0 + n) (dI .u64 l), .no] (((dI .u64 l).length = n * 1) ∧ ((([] : List D) : List D).length = 0 * 1) ∧ ((0 + n) * 8 ≤ 140737488355328) ∧ ((0 : Nat) + n = (0 + n)) ∧ ((([] : List D) : List D) ++ (dI .u64 l) = (dI .u64 l))) [(2, oV 1 0 (0 + n) 1)] [(1, some (27, .ds (dI .u64 l)))] 2 ⟨aI, aI, zo, zo, rfl⟩ ?_
  refine AW.ret ?_
  exact kA (.inr rfl) [(0, 1)] (P := (kT 0) ∧ ((n : Nat) = (0 + n)) ∧ (kR (dI .u64 l))) zk ⟨rfl, (by first | omega | rfl | assumption | (simp; done) | (simp; omega)), rfl⟩
theorem d7   : Fun 46 [.c (.d (D.lit (.slice none 0 0)))] (kC []) 0 (oV 0 0 0 1) (kC [(0, some (27, .ds ([] : List D)))]) 1 := by
  refine Fun.mk (n := 8) Try.func46 rfl rfl (ka3 rfl) ?_
  intro cx hcx
  refine kI [.no] True [(0, nV)] [] 0 trivial ?_
  refine AW.seq ?_
  refine yU [.no, .no] True [(0, nV), (4, bV true)] trivial ?_
  refine zt ?_
  refine yU [.no] True [(2, nV)] trivial ?_
  refine AW.adoptS 2 1 27 rfl ?_
  refine AW.ret ?_
  exact kA (.inr rfl) [] (P := (kT 0) ∧ (kT 0) ∧ (kR ([] : List D))) zk ⟨rfl, rfl, rfl⟩
theorem d6 (a : Addr) (cap : Nat) (hm : cap ≤ maxLen) : Fun 46 [.c (.d (D.lit (.slice (some a) 0 cap)))] (kC []) 0 (oV 0 0 0 1) (kC [(0, some (27, .ds ([] : List D)))]) 1 := by
  refine Fun.mk (n := 8) Try.func46 rfl rfl (ka3 rfl) ?_
  intro cx hcx
  refine kI [.no] True [(0, kL (D.lit (.slice (some a) 0 cap)))] [] 0 trivial ?_
  refine AW.seq ?_
  refine yU [.no, .no] True [(0, kL (D.lit (.slice (some a) 0 cap))), (4, bV false)] trivial ?_
  refine uG ?_
  refine t6 0 hm (fun h9 => by cases h9) rfl ?_
  refine kI [.no, .no, .ap none 0 ([] : List D), .no] ((([] : List D).length = 0 * 1) ∧ ((([] : List D) : List D).length = 0 * 1) ∧ ((0 + 0) * 8 ≤ 140737488355328) ∧ ((0 : Nat) + 0 = 0) ∧ ((([] : List D) : List D) ++ ([] : List D) = ([] : List D))) [(2, oV 1 0 0 1)] [(1, some (27, .ds ([] : List D)))] 2 ⟨aI, aI, zo, zo, rfl⟩ ?_
  refine AW.ret ?_
  exact kA (.inr rfl) [(0, 1)] (P := (kT 0) ∧ (kT 0) ∧ (kR ([] : List D))) zk ⟨rfl, rfl, rfl⟩
theorem jK (l : List Int) (n : Nat) (hn : ka0 l = n) (hb : n ≤ 1000000) : Fun 46 [.c (.d (D.sl (dI .u64 l) n))] (kC []) 0 (oV 0 0 n 1) (kC [(0, some (27, .ds (dI .u64 l)))]) 1 := by
  by_cases h1 : 1 ≤ n
  · exact d8 l n hn hb h1
  · obtain rfl : n = 0 := by omega
    obtain rfl : l = [] := List.eq_nil_of_length_eq_zero hn
    exact t3 d7 (fun a cap hm => d6 a cap hm)
theorem zZ (r2 s2 : List Int) (n2 : Nat) (d2 : Int) (r s : List Int) (n : Nat) (d : Int) (hr2 : Byt r2) (hl2 : ka0 r2 ≤ 1000000) (hn2 : ka0 s2 = n2) (h2 : n2 ≤ 1000000) (hr : Byt r) (hl : ka0 r ≤ 1000000) (hn : ka0 s = n) (h1 : n ≤ 1000000) : Fun 22 [.agg [.d (D.lit (.string (strOfNums r2))), .d (D.sl (dI .u64 s2) n2), .d (D.lit (.int .u64 d2))], .c (.ptr 0 0)] (kC [(0, some (29, .ds [D.lit (.string (strOfNums r)), D.sl (dI .u64 s) n, D.lit (.int .u64 d)]))]) 1 (kL (D.lit (.bool (uN r2 s2 r s)))) (kC [(0, some (29, .ds [D.lit (.string (strOfNums r)), D.sl (dI .u64 s) n, D.lit (.int .u64 d)]))]) 1 := by
  refine Fun.mk (n := 7) Try.func22 rfl rfl (ka3 rfl) ?_
  intro cx hcx
  refine kI [.no, .no] True [(1, rV 0 0), (2, rV 1 0)] [(0, some (29, .ds [D.lit (.string (strOfNums r)), D.sl (dI .u64 s) n, D.lit (.int .u64 d)])), (1, some (29, .ds [D.lit (.string (strOfNums r2)), D.sl (dI .u64 s2) n2, D.lit (.int .u64 d2)]))] 2 trivial ?_
  refine kI [.no, .no, .call [] (kL (D.lit (.bool (uN r2 s2 r s)))) [] 0 [] none, .no] _ [(3, kL (D.lit (.bool (uN r2 s2 r s))))] [(0, some (29, .ds [D.lit (.string (strOfNums r)), D.sl (dI .u64 s) n, D.lit (.int .u64 d)]))] 2 (tZ r2 s2 n2 d2 r s n d (kQ : Byt r2) zo zo zo (kQ : Byt r) zo zo zo) ?_
  refine AW.ret ?_
  exact kA (.inr rfl) [] (P := ((uN r2 s2 r s) = (uN r2 s2 r s)) ∧ (kR [D.lit (.string (strOfNums r)), D.sl (dI .u64 s) n, D.lit (.int .u64 d)])) zk ⟨rfl, rfl⟩
theorem bE {p : Prop} (h : p := by first | omega | assumption | simp) : p := h
theorem fA {p : Prop} (h : p := by first | omega | (simp only [kK, kH, kO, ka8, ka4, kb5, kb6, kb8, kc0] <;> omega)) : p := h
theorem uJ {p : Prop} (h : p := by first | omega | with_reducible assumption | (simp only [kK, kH, kO, ka8, ka4, kb5, kb6, kb8, kc0, kc4, ka8] <;> omega) | rfl | assumption) : p := h
theorem z2 (xs : List Ch) (q : Nat) (r s : List Int) (n : Nat) (d : Int) (hq : ka0 xs = q) (h0 : q ≤ 1000000) (hX : CsW xs) (hr : Byt r) (hl : ka0 r ≤ 1000000) (hn : ka0 s = n) (h1 : n ≤ 1000000) : Fun 41 [.c (.d (D.sl (kB xs) q)), .c (.fn 22 [(0, 0)])] (kC [(0, some (29, .ds [D.lit (.string (strOfNums r)), D.sl (dI .u64 s) n, D.lit (.int .u64 d)]))]) 1 (iV (uY xs r s q)) (kC [(0, some (29, .ds [D.lit (.string (strOfNums r)), D.sl (dI .u64 s) n, D.lit (.int .u64 d)]))]) 1 := by
  refine Fun.mk (n := 19) Try.func41 rfl rfl (ka3 rfl) ?_
  intro cx hcx
  refine kI [.no] True [(0, uU (kB xs) q), (1, .e (.c (.fn 22 [(0, 0)])))] [(0, some (29, .ds [D.lit (.string (strOfNums r)), D.sl (dI .u64 s) n, D.lit (.int .u64 d)]))] 1 trivial ?_
  refine AW.seq ?_
  refine yU [.no, .no, .no] True [(0, uU (kB xs) q), (1, .e (.c (.fn 22 [(0, 0)]))), (7, uV q), (8, iV 0)] trivial ?_
  refine AW.block ?_
  refine kV 1 hcx (fun (x : {x : Nat // match x with | k => (k ≤ q) ∧ (uY xs r s k = -1)}) => match x with | ⟨k, _⟩ => (⟨[(0, uU (kB xs) q), (1, .e (.c (.fn 22 [(0, 0)]))), (7, uV q), (8, uV k)], [(0, some (29, .ds [D.lit (.string (strOfNums r)), D.sl (dI .u64 s) n, D.lit (.int .u64 d)]))], 1⟩ : ES)) (fun x => match x with | ⟨k, _⟩ => q - k) ⟨(0 : Nat), ⟨bE, rfl⟩⟩ [] (P := (kR (kB xs)) ∧ (kT q) ∧ (k8 (q : Int)) ∧ (k8 0) ∧ (kR [D.lit (.string (strOfNums r)), D.sl (dI .u64 s) n, D.lit (.int .u64 d)])) zk ⟨rfl, rfl, rfl, rfl, rfl⟩ ?_
  rintro ⟨k, hinv0⟩
  obtain ⟨hk, hi⟩ : (k ≤ q) ∧ (uY xs r s k = -1) := hinv0
  refine qW (l := [(0, uU (kB xs) q), (1, .e (.c (.fn 22 [(0, 0)]))), (7, uV q), (8, uV k)]) (g := [(0, some (29, .ds [D.lit (.string (strOfNums r)), D.sl (dI .u64 s) n, D.lit (.int .u64 d)]))]) (nx := 1) rfl rfl rfl ?_
  by_cases hx1 : (((k : Nat) : Int) < ((q : Nat) : Int))
  · refine zr [.b true] [0, 1, 7, 8, 9] [0] (((k : Int) < (q : Int))) [(0, uU (kB xs) q), (1, .e (.c (.fn 22 [(0, 0)]))), (7, uV q), (8, uV k), (9, bV true)] [(0, some (29, .ds [D.lit (.string (strOfNums r)), D.sl (dI .u64 s) n, D.lit (.int .u64 d)]))] 1 zo ?_
    refine AW.seq ?_
    refine cC ?_
    refine AW.seq ?_
    refine AW.block ?_
    refine kI [.no, .no] True [(0, uU (kB xs) q), (1, .e (.c (.fn 22 [(0, 0)]))), (5, uV k), (7, uV q), (8, uV k)] [(0, some (29, .ds [D.lit (.string (strOfNums r)), D.sl (dI .u64 s) n, D.lit (.int .u64 d)]))] 1 trivial ?_
    rcases ka6 (uN (kF xs k) (kD xs k) r s) with hx5 | hx5
    · obtain ⟨hx6, hx7, hx8⟩ := CsW.at (kQ : CsW xs) (k)
      refine kI [.no, .no, .no, .n k, .ds [D.lit (.string (strOfNums (kF xs k))), D.sl (dI .u64 (kD xs k)) (ka0 (kD xs k)), D.lit (.int .u64 (kM xs k))], .call [0] (bV true) [(0, some (29, .ds [D.lit (.string (strOfNums r)), D.sl (dI .u64 s) n, D.lit (.int .u64 d)]))] 1 [] none] ((k8 (k : Int)) ∧ (k < q) ∧ (ka5 3 (kb2 (k * 3) (kB xs)) = [D.lit (.string (strOfNums (kF xs k))), D.sl (dI .u64 (kD xs k)) (ka0 (kD xs k)), D.lit (.int .u64 (kM xs k))]) ∧ (([D.lit (.string (strOfNums (kF xs k))), D.sl (dI .u64 (kD xs k)) (ka0 (kD xs k)), D.lit (.int .u64 (kM xs k))] : List D).length = 3) ∧ (Fun 22 [.agg [.d (D.lit (.string (strOfNums (kF xs k)))), .d (D.sl (dI .u64 (kD xs k)) (ka0 (kD xs k))), .d (D.lit (.int .u64 (kM xs k)))], .c (.ptr 0 0)] (kC [(0, some (29, .ds [D.lit (.string (strOfNums r)), D.sl (dI .u64 s) n, D.lit (.int .u64 d)]))]) 1 (bV true) (kC [(0, some (29, .ds [D.lit (.string (strOfNums r)), D.sl (dI .u64 s) n, D.lit (.int .u64 d)]))]) 1)) [(0, uU (kB xs) q), (1, .e (.c (.fn 22 [(0, 0)]))), (5, uV k), (7, uV q), (8, uV k), (16, bV true)] [(0, some (29, .ds [D.lit (.string (strOfNums r)), D.sl (dI .u64 s) n, D.lit (.int .u64 d)]))] 1 ⟨rfl, zo, (q7 (i := k) fA), rfl, (by have h0 := (zZ (kF xs k) (kD xs k) (ka0 (kD xs k)) (kM xs k) r s n d (kQ : Byt (kF xs k)) uJ rfl uJ (kQ : Byt r) zo zo zo); rw [hx5] at h0; exact h0)⟩ ?_
      refine zt ?_
      refine yU [.no, .no] True [(4, uV k)] trivial ?_
      refine AW.ret ?_
      exact kA (.inr rfl) [] (P := (((uY xs r s q) : Int) = (k : Int)) ∧ (kR [D.lit (.string (strOfNums r)), D.sl (dI .u64 s) n, D.lit (.int .u64 d)])) zk ⟨(by first | rfl | exact l1 hi (by assumption) zo | (rw [show q = k by omega]; exact hi) | omega), rfl⟩
    · obtain ⟨hx9, hx10, hx11⟩ := CsW.at (kQ : CsW xs) (k)
      refine kI [.no, .no, .no, .n k, .ds [D.lit (.string (strOfNums (kF xs k))), D.sl (dI .u64 (kD xs k)) (ka0 (kD xs k)), D.lit (.int .u64 (kM xs k))], .call [0] (bV false) [(0, some (29, .ds [D.lit (.string (strOfNums r)), D.sl (dI .u64 s) n, D.lit (.int .u64 d)]))] 1 [] none] ((k8 (k : Int)) ∧ (k < q) ∧ (ka5 3 (kb2 (k * 3) (kB xs)) = [D.lit (.string (strOfNums (kF xs k))), D.sl (dI .u64 (kD xs k)) (ka0 (kD xs k)), D.lit (.int .u64 (kM xs k))]) ∧ (([D.lit (.string (strOfNums (kF xs k))), D.sl (dI .u64 (kD xs k)) (ka0 (kD xs k)), D.lit (.int .u64 (kM xs k))] : List D).length = 3) ∧ (Fun 22 [.agg [.d (D.lit (.string (strOfNums (kF xs k)))), .d (D.sl (dI .u64 (kD xs k)) (ka0 (kD xs k))), .d (D.lit (.int .u64 (kM xs k)))], .c (.ptr 0 0)] (kC [(0, some (29, .ds [D.lit (.string (strOfNums r)), D.sl (dI .u64 s) n, D.lit (.int .u64 d)]))]) 1 (bV false) (kC [(0, some (29, .ds [D.lit (.string (strOfNums r)), D.sl (dI .u64 s) n, D.lit (.int .u64 d)]))]) 1)) [(0, uU (kB xs) q), (1, .e (.c (.fn 22 [(0, 0)]))), (5, uV k), (7, uV q), (8, uV k), (16, bV false)] [(0, some (29, .ds [D.lit (.string (strOfNums r)), D.sl (dI .u64 s) n, D.lit (.int .u64 d)]))] 1 ⟨rfl, zo, (q7 (i := k) fA), rfl, (by have h0 := (zZ (kF xs k) (kD xs k) (ka0 (kD xs k)) (kM xs k) r s n d (kQ : Byt (kF xs k)) uJ rfl uJ (kQ : Byt r) zo zo zo); rw [hx5] at h0; exact h0)⟩ ?_
      refine uG ?_
      refine cH [.w, .no] (uW ((k : Int) + 1)) [(0, uU (kB xs) q), (1, .e (.c (.fn 22 [(0, 0)]))), (7, uV q), (8, iV (↑k + 1))] ⟨by omega, by omega⟩ ?_
      exact kY ⟨((k + 1) : Nat), ⟨bE, (zD hi (by assumption))⟩⟩ [] (P := (kR (kB xs)) ∧ (kT q) ∧ (k8 (q : Int)) ∧ (y5 k) ∧ (kR [D.lit (.string (strOfNums r)), D.sl (dI .u64 s) n, D.lit (.int .u64 d)])) zk ⟨rfl, rfl, rfl, (by first | rfl | omega | assumption | (simp; done) | (simp; omega)), rfl⟩ (show q - (k + 1) < q - k from (by first | omega | (show _ < _; simp; omega)))
  · refine zr [.b false] [0, 1, 7, 8, 9] [0] (¬ ((k : Int) < (q : Int))) [(0, uU (kB xs) q), (1, .e (.c (.fn 22 [(0, 0)]))), (7, uV q), (8, uV k), (9, bV false)] [(0, some (29, .ds [D.lit (.string (strOfNums r)), D.sl (dI .u64 s) n, D.lit (.int .u64 d)]))] 1 zo ?_
    refine AW.seq ?_
    refine zf ?_
    refine AW.exit ?_
    refine kI [.no] True [(4, iV (-1))] [(0, some (29, .ds [D.lit (.string (strOfNums r)), D.sl (dI .u64 s) n, D.lit (.int .u64 d)]))] 1 trivial ?_
    refine AW.ret ?_
    exact kA (.inr rfl) [] (P := (((uY xs r s q) : Int) = (-1)) ∧ (kR [D.lit (.string (strOfNums r)), D.sl (dI .u64 s) n, D.lit (.int .u64 d)])) zk ⟨(by first | rfl | exact l1 hi (by assumption) zo | (rw [show q = k by omega]; exact hi) | omega), rfl⟩
theorem k3j (xs : List Ch) (q : Nat) (r s : List Int) (n : Nat) (d : Int) (hq : ka0 xs = q) (h0 : q ≤ 1000000) (hX : CsW xs) (hr : Byt r) (hl : ka0 r ≤ 1000000) (hn : ka0 s = n) (h1 : n ≤ 1000000) : Fun 25 [.c (.d (D.sl (kB xs) q)), .c (.fn 22 [(0, 0)])] (kC [(0, some (29, .ds [D.lit (.string (strOfNums r)), D.sl (dI .u64 s) n, D.lit (.int .u64 d)]))]) 1 (kL (D.lit (.bool (i1 xs r s)))) (kC [(0, some (29, .ds [D.lit (.string (strOfNums r)), D.sl (dI .u64 s) n, D.lit (.int .u64 d)]))]) 1 := by
  refine Fun.mk (n := 9) Try.func25 rfl rfl (ka3 rfl) ?_
  intro cx hcx
  refine kI [.no] True [(0, uU (kB xs) q), (1, .e (.c (.fn 22 [(0, 0)])))] [(0, some (29, .ds [D.lit (.string (strOfNums r)), D.sl (dI .u64 s) n, D.lit (.int .u64 d)]))] 1 trivial ?_
  by_cases hx2 : ((0 : Int) ≤ (uY xs r s q))
  · have hx3 : (((((-1) : Int) ≤ (uY xs r s q)) ∧ ((uY xs r s q) < ((q : Nat) : Int))) ∨ ((q = 0) ∧ ((uY xs r s q) = (-1)))) := gD _ _
    refine kI [.no, .no, .call [0] (iV (uY xs r s q)) [(0, some (29, .ds [D.lit (.string (strOfNums r)), D.sl (dI .u64 s) n, D.lit (.int .u64 d)]))] 1 [] none, .b true, .no] ((_) ∧ (((0 : Int) ≤ (uY xs r s q)))) [(4, bV true)] [(0, some (29, .ds [D.lit (.string (strOfNums r)), D.sl (dI .u64 s) n, D.lit (.int .u64 d)]))] 1 ⟨(z2 xs q r s n d zo zo (kQ : CsW xs) (kQ : Byt r) zo zo zo), zo⟩ ?_
    refine AW.ret ?_
    exact kA (.inr rfl) [] (P := ((i1 xs r s) = true) ∧ (kR [D.lit (.string (strOfNums r)), D.sl (dI .u64 s) n, D.lit (.int .u64 d)])) zk ⟨(by first | exact k32 hq zo | exact k1g hq zo), rfl⟩
  · have hx4 : (((((-1) : Int) ≤ (uY xs r s q)) ∧ ((uY xs r s q) < ((q : Nat) : Int))) ∨ ((q = 0) ∧ ((uY xs r s q) = (-1)))) := gD _ _
    refine kI [.no, .no, .call [0] (iV (uY xs r s q)) [(0, some (29, .ds [D.lit (.string (strOfNums r)), D.sl (dI .u64 s) n, D.lit (.int .u64 d)]))] 1 [] none, .b false, .no] ((_) ∧ (¬ ((0 : Int) ≤ (uY xs r s q)))) [(4, bV false)] [(0, some (29, .ds [D.lit (.string (strOfNums r)), D.sl (dI .u64 s) n, D.lit (.int .u64 d)]))] 1 ⟨(z2 xs q r s n d zo zo (kQ : CsW xs) (kQ : Byt r) zo zo zo), zo⟩ ?_
    refine AW.ret ?_
    exact kA (.inr rfl) [] (P := ((i1 xs r s) = false) ∧ (kR [D.lit (.string (strOfNums r)), D.sl (dI .u64 s) n, D.lit (.int .u64 d)])) zk ⟨(by first | exact k32 hq zo | exact k1g hq zo), rfl⟩
theorem mY (r2 s2 : List Int) (n2 : Nat) (d2 : Int) (r s : List Int) (n : Nat) (d : Int) (hr2 : Byt r2) (hl2 : ka0 r2 ≤ 1000000) (hn2 : ka0 s2 = n2) (h2 : n2 ≤ 1000000) (hr : Byt r) (hl : ka0 r ≤ 1000000) (hn : ka0 s = n) (h1 : n ≤ 1000000) : Fun 29 [.agg [.d (D.lit (.string (strOfNums r2))), .d (D.sl (dI .u64 s2) n2), .d (D.lit (.int .u64 d2))], .c (.ptr 0 0)] (kC [(0, some (29, .ds [D.lit (.string (strOfNums r)), D.sl (dI .u64 s) n, D.lit (.int .u64 d)]))]) 1 (kL (D.lit (.bool (uN r2 s2 r s)))) (kC [(0, some (29, .ds [D.lit (.string (strOfNums r)), D.sl (dI .u64 s) n, D.lit (.int .u64 d)]))]) 1 := by
  refine Fun.mk (n := 7) Try.func29 rfl rfl (ka3 rfl) ?_
  intro cx hcx
  refine kI [.no, .no] True [(1, rV 0 0), (2, rV 1 0)] [(0, some (29, .ds [D.lit (.string (strOfNums r)), D.sl (dI .u64 s) n, D.lit (.int .u64 d)])), (1, some (29, .ds [D.lit (.string (strOfNums r2)), D.sl (dI .u64 s2) n2, D.lit (.int .u64 d2)]))] 2 trivial ?_
  refine kI [.no, .no, .call [] (kL (D.lit (.bool (uN r2 s2 r s)))) [] 0 [] none, .no] _ [(3, kL (D.lit (.bool (uN r2 s2 r s))))] [(0, some (29, .ds [D.lit (.string (strOfNums r)), D.sl (dI .u64 s) n, D.lit (.int .u64 d)]))] 2 (tZ r2 s2 n2 d2 r s n d (kQ : Byt r2) zo zo zo (kQ : Byt r) zo zo zo) ?_
  refine AW.ret ?_
  exact kA (.inr rfl) [] (P := ((uN r2 s2 r s) = (uN r2 s2 r s)) ∧ (kR [D.lit (.string (strOfNums r)), D.sl (dI .u64 s) n, D.lit (.int .u64 d)])) zk ⟨rfl, rfl⟩
theorem x6 (r s : List Int) (n : Nat) (d : Int) (z : Int) (hr : Byt r) (hl : ka0 r ≤ 1000000) (hn : ka0 s = n) (h1 : n ≤ 1000000) : Fun 36 [.agg [.d (D.lit (.string (strOfNums r))), .d (D.sl (dI .u64 s) n), .d (D.lit (.int .u64 d))], .c (.ptr 0 0)] (kC [(0, some (27, .ds [D.lit (.int .u64 z)]))]) 1 (kL (D.lit (.bool (decide (d = z))))) (kC [(0, some (27, .ds [D.lit (.int .u64 z)]))]) 1 := by
  refine Fun.mk (n := 8) Try.func36 rfl rfl (ka3 rfl) ?_
  intro cx hcx
  refine kI [.no, .no] True [(1, rV 0 0), (2, rV 1 0)] [(0, some (27, .ds [D.lit (.int .u64 z)])), (1, some (29, .ds [D.lit (.string (strOfNums r)), D.sl (dI .u64 s) n, D.lit (.int .u64 d)]))] 2 trivial ?_
  by_cases hx1 : (d = z)
  · refine zr [.no, .no, .no, .b true, .no] [3] [0] ((d = z)) [(3, bV true)] [(0, some (27, .ds [D.lit (.int .u64 z)]))] 2 zo ?_
    refine AW.ret ?_
    exact kA (.inr rfl) [] (P := ((decide (d = z)) = true) ∧ (kR [D.lit (.int .u64 z)])) zk ⟨(by first | rfl | assumption | exact decide_eq_true zo | exact decide_eq_false zo | (simp; omega)), rfl⟩
  · refine zr [.no, .no, .no, .b false, .no] [3] [0] (¬ (d = z)) [(3, bV false)] [(0, some (27, .ds [D.lit (.int .u64 z)]))] 2 zo ?_
    refine AW.ret ?_
    exact kA (.inr rfl) [] (P := ((decide (d = z)) = false) ∧ (kR [D.lit (.int .u64 z)])) zk ⟨(by first | rfl | assumption | exact decide_eq_true zo | exact decide_eq_false zo | (simp; omega)), rfl⟩
theorem e8 {p : Prop} (h : p := by first | exact gX (by assumption) | exact x8 (by assumption)) : p := h
theorem yL (xs : List Ch) (q : Nat) (hq : ka0 xs = q) (h0 : q ≤ 1000000) (hX : CsW xs) : Fun 10 [.agg [.d (D.sl (kB xs) q)]] (kC []) 0 (kL (D.lit (.bool (yG xs)))) (kC []) 0 := by
  refine Fun.mk (n := 31) Try.func10 rfl rfl (ka3 rfl) ?_
  intro cx hcx
  refine kI [.no, .no] True [(1, rV 0 0)] [(0, some (25, .ds [D.sl (kB xs) q]))] 1 trivial ?_
  refine AW.seq ?_
  by_cases hx1 : ((32 : Int) < ((q : Nat) : Int))
  · refine zr [.no, .no, .no, .b true] [1, 9] [0] (((32 : Int) < (q : Int))) [(1, rV 0 0), (9, bV true)] [(0, some (25, .ds [D.sl (kB xs) q]))] 1 zo ?_
    refine zt ?_
    refine kI [.no] True [(2, bV false)] [] 1 trivial ?_
    refine AW.ret ?_
    exact kA (.inr rfl) [] (P := ((yG xs) = false)) zk (by first | exact gV zo | exact fE zo (fun j hj => ha j zo) | exact gW (k := i) zo e8)
  · refine zr [.no, .no, .no, .b false] [1, 9] [0] (¬ ((32 : Int) < (q : Int))) [(1, rV 0 0), (9, bV false)] [(0, some (25, .ds [D.sl (kB xs) q]))] 1 zo ?_
    refine uG ?_
    refine AW.seq ?_
    refine kI (qA 4 []) True [(1, rV 0 0), (11, uU (kB xs) q), (12, uV q), (13, iV 0)] [(0, some (25, .ds [D.sl (kB xs) q]))] 1 trivial ?_
    refine AW.block ?_
    refine kV 0 hcx (fun (x : {x : Nat // match x with | i => (i ≤ q) ∧ (∀ j, j < i → cJ xs j = true)}) => match x with | ⟨i, _⟩ => (⟨[(1, rV 0 0), (11, uU (kB xs) q), (12, uV q), (13, uV i)], [(0, some (25, .ds [D.sl (kB xs) q]))], 1⟩ : ES)) (fun x => match x with | ⟨i, _⟩ => q - i) ⟨(0 : Nat), ⟨bE, (fun j hj => absurd hj (kd1 j))⟩⟩ [] (P := (kT 0) ∧ (kR (kB xs)) ∧ (kT q) ∧ (k8 (q : Int)) ∧ (k8 0) ∧ (kR [D.sl (kB xs) q])) zk ⟨rfl, rfl, rfl, rfl, rfl, rfl⟩ ?_
    rintro ⟨i, hinv0⟩
    obtain ⟨hi, ha⟩ : (i ≤ q) ∧ (∀ j, j < i → cJ xs j = true) := hinv0
    refine qW (l := [(1, rV 0 0), (11, uU (kB xs) q), (12, uV q), (13, uV i)]) (g := [(0, some (25, .ds [D.sl (kB xs) q]))]) (nx := 1) rfl rfl rfl ?_
    by_cases hx2 : (((i : Nat) : Int) < ((q : Nat) : Int))
    · refine zr [.b true] [1, 11, 12, 13, 14] [0] (((i : Int) < (q : Int))) [(1, rV 0 0), (11, uU (kB xs) q), (12, uV q), (13, uV i), (14, bV true)] [(0, some (25, .ds [D.sl (kB xs) q]))] 1 zo ?_
      refine AW.seq ?_
      refine cC ?_
      refine AW.seq ?_
      refine AW.block ?_
      obtain ⟨hx3, hx4, hx5⟩ := CsW.at (kQ : CsW xs) (i)
      refine kI [.no, .n i, .ds [D.lit (.string (strOfNums (kF xs i))), D.sl (dI .u64 (kD xs i)) (ka0 (kD xs i)), D.lit (.int .u64 (kM xs i))], .no, .no, .no] ((k8 (i : Int)) ∧ (i < q) ∧ (ka5 3 (kb2 (i * 3) (kB xs)) = [D.lit (.string (strOfNums (kF xs i))), D.sl (dI .u64 (kD xs i)) (ka0 (kD xs i)), D.lit (.int .u64 (kM xs i))]) ∧ (([D.lit (.string (strOfNums (kF xs i))), D.sl (dI .u64 (kD xs i)) (ka0 (kD xs i)), D.lit (.int .u64 (kM xs i))] : List D).length = 3)) [(1, rV 0 0), (3, uV i), (4, rV 1 0), (11, uU (kB xs) q), (12, uV q), (13, uV i)] [(0, some (25, .ds [D.sl (kB xs) q])), (1, some (29, .ds [D.lit (.string (strOfNums (kF xs i))), D.sl (dI .u64 (kD xs i)) (ka0 (kD xs i)), D.lit (.int .u64 (kM xs i))]))] 2 ⟨rfl, zo, (q7 (i := i) fA), rfl⟩ ?_
      refine yU [.no, .no] True [(1, rV 0 0), (3, uV i), (4, rV 1 0), (5, .e (.c (.fn 22 [(1, 0)]))), (11, uU (kB xs) q), (12, uV q), (13, uV i)] trivial ?_
      rcases ka6 (uT (kF xs i) (kD xs i) (kM xs i)) with hx6 | hx6
      · refine zr (.no :: .call [] (bV true) [] 0 [] none :: qA 5 [.sls 0 i i (kB (ka5 i xs)), .no, .call [1] (kL (D.lit (.bool (i1 (ka5 i xs) (kF xs i) (kD xs i))))) [(0, some (29, .ds [D.lit (.string (strOfNums (kF xs i))), D.sl (dI .u64 (kD xs i)) (ka0 (kD xs i)), D.lit (.int .u64 (kM xs i))]))] 1 [] none, .no]) [1, 11, 12, 13, 29] [0] ((Fun 24 [.agg [.d (D.lit (.string (strOfNums (kF xs i)))), .d (D.sl (dI .u64 (kD xs i)) (ka0 (kD xs i))), .d (D.lit (.int .u64 (kM xs i)))]] (kC []) 0 (bV true) (kC []) 0) ∧ (kT 0) ∧ (k8 (i : Int)) ∧ ((0 : Nat) ≤ i) ∧ (i ≤ q) ∧ (i - 0 = i) ∧ (ka5 (i * 3) (kb2 (0 * 3) (kB xs)) = (kB (ka5 i xs))) ∧ (_)) [(1, rV 0 0), (11, uU (kB xs) q), (12, uV q), (13, uV i), (29, kL (D.lit (.bool (i1 (ka5 i xs) (kF xs i) (kD xs i)))))] [(0, some (25, .ds [D.sl (kB xs) q]))] 2 ⟨(by have h0 := (gQ (kF xs i) (kD xs i) (ka0 (kD xs i)) (kM xs i) (kQ : Byt (kF xs i)) uJ rfl uJ); rw [hx6] at h0; exact h0), rfl, rfl, zo, zo, zo, (by first | exact yY _ _ | (rw [kf5]; exact yY _ _) | (rw [Nat.zero_mul, kf5]; exact yY _ _)), (k3j (ka5 i xs) i (kF xs i) (kD xs i) (ka0 (kD xs i)) (kM xs i) uJ zo (CsW.take (kQ : CsW xs) _) (kQ : Byt (kF xs i)) uJ rfl uJ)⟩ ?_
        rcases ka6 (i1 (ka5 i xs) (kF xs i) (kD xs i)) with hx7 | hx7
        · rw [hx7]
          refine zt ?_
          refine kI [.no] True [(2, bV false)] [] 2 trivial ?_
          refine AW.ret ?_
          exact kA (.inr rfl) [] (P := ((yG xs) = false)) zk (by first | exact gV zo | exact fE zo (fun j hj => ha j zo) | exact gW (k := i) zo e8)
        · rw [hx7]
          refine uG ?_
          refine bS [.w, .no] (uW ((i : Int) + 1)) [(1, rV 0 0), (11, uU (kB xs) q), (12, uV q), (13, iV (↑i + 1))] [(0, some (25, .ds [D.sl (kB xs) q]))] 2 ⟨by omega, by omega⟩ ?_
          exact kY ⟨((i + 1) : Nat), ⟨bE, (fun j hj => (Nat.lt_succ_iff_lt_or_eq.1 hj).elim (ha j) (fun e9 => by subst e9; exact oO (by assumption) (by assumption)))⟩⟩ [] (P := (kT 0) ∧ (kR (kB xs)) ∧ (kT q) ∧ (k8 (q : Int)) ∧ (y5 i) ∧ (kR [D.sl (kB xs) q])) zk ⟨rfl, rfl, rfl, rfl, (by first | rfl | omega | assumption | (simp; done) | (simp; omega)), rfl⟩ (show q - (i + 1) < q - i from (by first | omega | (show _ < _; simp; omega)))
      · refine zr [.no, .call [] (bV false) [] 0 [] none, .no, .no, .no] [1, 11, 12, 13, 29] [0] (Fun 24 [.agg [.d (D.lit (.string (strOfNums (kF xs i)))), .d (D.sl (dI .u64 (kD xs i)) (ka0 (kD xs i))), .d (D.lit (.int .u64 (kM xs i)))]] (kC []) 0 (bV false) (kC []) 0) [(1, rV 0 0), (11, uU (kB xs) q), (12, uV q), (13, uV i), (29, bV true)] [(0, some (25, .ds [D.sl (kB xs) q]))] 2 (by have h0 := (gQ (kF xs i) (kD xs i) (ka0 (kD xs i)) (kM xs i) (kQ : Byt (kF xs i)) uJ rfl uJ); rw [hx6] at h0; exact h0) ?_
        refine zt ?_
        refine kI [.no] True [(2, bV false)] [] 2 trivial ?_
        refine AW.ret ?_
        exact kA (.inr rfl) [] (P := ((yG xs) = false)) zk (by first | exact gV zo | exact fE zo (fun j hj => ha j zo) | exact gW (k := i) zo e8)
    · refine zr [.b false] [1, 11, 12, 13, 14] [0] (¬ ((i : Int) < (q : Int))) [(1, rV 0 0), (11, uU (kB xs) q), (12, uV q), (13, uV i), (14, bV false)] [(0, some (25, .ds [D.sl (kB xs) q]))] 1 zo ?_
      refine AW.seq ?_
      refine zf ?_
      refine AW.exit ?_
      refine kI [.no] True [(2, bV true)] [] 1 trivial ?_
      refine AW.ret ?_
      exact kA (.inr rfl) [] (P := ((yG xs) = true)) zk (by first | exact gV zo | exact fE zo (fun j hj => ha j zo) | exact gW (k := i) zo e8)
theorem z5 (r s : List Int) (n : Nat) (d : Int) (hr : Byt r) (hl : ka0 r ≤ 1000000) (hn : ka0 s = n) (h1 : n ≤ 1000000) : Fun 30 [.agg [.d (D.lit (.string (strOfNums r))), .d (D.sl (dI .u64 s) n), .d (D.lit (.int .u64 d))]] (kC []) 0 (.e (.agg [.d (D.lit (.string (strOfNums r))), .d (D.sl (dI .u64 s) n), .d (D.lit (.int .u64 d))])) (kC []) 0 := by
  refine Fun.mk (n := 8) Try.func30 rfl rfl (ka3 rfl) ?_
  intro cx hcx
  refine kI [.no, .no] True [(1, rV 0 0), (2, rV 1 0)] [(0, some (29, .ds [D.lit (.string (strOfNums r)), D.sl (dI .u64 s) n, D.lit (.int .u64 d)])), (1, some (29, .ds [D.lit (.string { data := #[] }), uF, D.lit (.int .u64 0)]))] 2 trivial ?_
  refine kI [.no, .no, .call [] (oV 0 0 n 1) [(0, some (27, .ds (dI .u64 s)))] 1 [] none, .no, .no] _ [(1, rV 0 0), (2, rV 1 0)] [(0, some (29, .cs [.d (D.lit (.string (strOfNums r))), .own 2 0 n 1 true, .d (D.lit (.int .u64 d))])), (1, some (29, .ds [D.lit (.string { data := #[] }), uF, D.lit (.int .u64 0)])), (2, some (27, .ds (dI .u64 s)))] 3 (jK s n zo zo) ?_
  refine kI [.no, .no] True [(2, rV 1 0)] [(1, some (29, .cs [.d (D.lit (.string (strOfNums r))), .own 2 0 n 1 true, .d (D.lit (.int .u64 d))])), (2, some (27, .ds (dI .u64 s)))] 3 trivial ?_
  refine AW.freeze 2 (l' := [(2, rV 1 0)]) (g' := [(1, some (29, .ds [D.lit (.string (strOfNums r)), D.sl (dI .u64 s) n, D.lit (.int .u64 d)]))]) rfl (FzS.cons rfl (.same _) FzS.nil) (FzG.to (bc := .cs [.d (D.lit (.string (strOfNums r))), .own 2 0 n 1 true, .d (D.lit (.int .u64 d))]) rfl (by rfl) (FzL.cons (.same _) (FzL.cons (@FzC.own 2 ((dI .u64 s) : List D) 0 n 1 true ((dI .u64 s) : List D) (by rw [kf5, ke3, kc5 (by first | omega | (simp only [kK, kH, kO, ka8, uM, ka4, kb5, kb6, kb8, kc0, kc4, ka8, kc8, kd6, ke3] <;> omega))]) aI) (FzL.cons (.same _) FzL.nil))) FzG.nil) ?_
  refine AW.ret ?_
  exact kA (.inr rfl) [] (P := ((.string (strOfNums r) : Value) = .string (strOfNums r)) ∧ (kR (dI .u64 s)) ∧ (kT n) ∧ (k8 d)) zk ⟨rfl, rfl, rfl, rfl⟩
theorem x5 (xs : List Ch) (q : Nat) (hq : ka0 xs = q) (h0 : q ≤ 1000000) (hX : CsW xs) : Fun 49 [.c (.d (D.sl (kB xs) q)), .c (.fn 30 [])] (kC []) 0 (oV 0 0 q 3) (kC [(0, some (29, .ds (kB xs)))]) 1 := by
  refine Fun.mk (n := 22) Try.func49 rfl rfl (ka3 rfl) ?_
  intro cx hcx
  refine kI [.no] True [(0, uU (kB xs) q), (1, .e (.c (.fn 30 [])))] [] 0 trivial ?_
  refine yU [.no] True [(0, uU (kB xs) q), (1, .e (.c (.fn 30 []))), (5, nV)] trivial ?_
  refine AW.seq ?_
  refine yU [.no, .no, .no] True [(1, .e (.c (.fn 30 []))), (5, nV), (8, uU (kB xs) q), (9, uV q), (10, iV 0)] trivial ?_
  refine AW.block ?_
  refine AW.adoptS 5 3 29 rfl ?_
  refine kV 0 hcx (fun (x : {x : Nat // match x with | z => (z ≤ q)}) => match x with | ⟨z, _⟩ => (⟨[(1, .e (.c (.fn 30 []))), (5, oV 1 0 z 3), (8, uU (kB xs) q), (9, uV q), (10, uV z)], [(1, some (29, .ds (kB (ka5 z xs))))], 2⟩ : ES)) (fun x => match x with | ⟨z, _⟩ => q - z) ⟨(0 : Nat), (show ((0 : Nat) ≤ q) from bE)⟩ [(1, 0)] (P := (kT 0) ∧ (kT 0) ∧ (kR (kB xs)) ∧ (kT q) ∧ (k8 (q : Int)) ∧ (k8 0) ∧ (((kB (ka5 0 xs)) : List D) = ([] : List D))) zk ⟨rfl, rfl, rfl, rfl, rfl, rfl, (by first | rfl | with_reducible assumption | exact congrArg kB (yK zo).symm | exact congrArg kB (yK zo))⟩ ?_
  rintro ⟨z, hinv0⟩
  have hz : (z ≤ q) := hinv0
  refine qW (l := [(1, .e (.c (.fn 30 []))), (5, oV 1 0 z 3), (8, uU (kB xs) q), (9, uV q), (10, uV z)]) (g := [(1, some (29, .ds (kB (ka5 z xs))))]) (nx := 2) rfl rfl rfl ?_
  by_cases hx1 : (((z : Nat) : Int) < ((q : Nat) : Int))
  · refine zr [.b true] [1, 5, 8, 9, 10, 11] [1] (((z : Int) < (q : Int))) [(1, .e (.c (.fn 30 []))), (5, oV 1 0 z 3), (8, uU (kB xs) q), (9, uV q), (10, uV z), (11, bV true)] [(1, some (29, .ds (kB (ka5 z xs))))] 2 zo ?_
    refine AW.seq ?_
    refine cC ?_
    refine AW.seq ?_
    refine AW.block ?_
    obtain ⟨hx2, hx3, hx4⟩ := CsW.at (kQ : CsW xs) (z)
    refine kI [.n z, .ds [D.lit (.string (strOfNums (kF xs z))), D.sl (dI .u64 (kD xs z)) (ka0 (kD xs z)), D.lit (.int .u64 (kM xs z))], .no, .no] ((k8 (z : Int)) ∧ (z < q) ∧ (ka5 3 (kb2 (z * 3) (kB xs)) = [D.lit (.string (strOfNums (kF xs z))), D.sl (dI .u64 (kD xs z)) (ka0 (kD xs z)), D.lit (.int .u64 (kM xs z))]) ∧ (([D.lit (.string (strOfNums (kF xs z))), D.sl (dI .u64 (kD xs z)) (ka0 (kD xs z)), D.lit (.int .u64 (kM xs z))] : List D).length = 3)) [(1, .e (.c (.fn 30 []))), (5, oV 1 0 z 3), (7, rV 2 0), (8, uU (kB xs) q), (9, uV q), (10, uV z)] [(1, some (29, .ds (kB (ka5 z xs)))), (2, some (29, .ds [D.lit (.string (strOfNums (kF xs z))), D.sl (dI .u64 (kD xs z)) (ka0 (kD xs z)), D.lit (.int .u64 (kM xs z))]))] 3 ⟨rfl, zo, (q7 (i := z) fA), rfl⟩ ?_
    refine bS [.no, .no, .no, .call [] (.e (.agg [.d (D.lit (.string (strOfNums (kF xs z)))), .d (D.sl (dI .u64 (kD xs z)) (ka0 (kD xs z))), .d (D.lit (.int .u64 (kM xs z)))])) [] 0 [] none, .no, .ap none (z + 1) (kB ((ka5 z xs) ++ ([(kZ (kF xs z) (kD xs z) (kM xs z))] : List Ch))), .no] ((_) ∧ ([D.lit (.string (strOfNums (kF xs z))), D.sl (dI .u64 (kD xs z)) (ka0 (kD xs z)), D.lit (.int .u64 (kM xs z))].length = 1 * 3) ∧ (((kB (ka5 z xs)) : List D).length = z * 3) ∧ ((z + 1) * 48 ≤ 140737488355328) ∧ (z + 1 = (z + 1)) ∧ (((kB (ka5 z xs)) : List D) ++ [D.lit (.string (strOfNums (kF xs z))), D.sl (dI .u64 (kD xs z)) (ka0 (kD xs z)), D.lit (.int .u64 (kM xs z))] = (kB ((ka5 z xs) ++ ([(kZ (kF xs z) (kD xs z) (kM xs z))] : List Ch))))) [(1, .e (.c (.fn 30 []))), (5, oV 4 0 (z + 1) 3), (8, uU (kB xs) q), (9, uV q), (10, uV z)] [(4, some (29, .ds (kB ((ka5 z xs) ++ ([(kZ (kF xs z) (kD xs z) (kM xs z))] : List Ch)))))] 5 ⟨(z5 (kF xs z) (kD xs z) (ka0 (kD xs z)) (kM xs z) (kQ : Byt (kF xs z)) uJ rfl uJ), aI, aI, zo, zo, (gM (ka5 z xs) (kF xs z) (kD xs z) (ka0 (kD xs z)) (kM xs z) (by first | rfl | assumption | omega))⟩ ?_
    refine cH [.w, .no] (uW ((z : Int) + 1)) [(1, .e (.c (.fn 30 []))), (5, oV 4 0 (z + 1) 3), (8, uU (kB xs) q), (9, uV q), (10, iV (↑z + 1))] ⟨by omega, by omega⟩ ?_
    exact kY ⟨((z + 1) : Nat), (show ((z + 1) ≤ q) from bE)⟩ [(1, 4)] (P := (kT 0) ∧ (kT (z + 1)) ∧ (kR (kB xs)) ∧ (kT q) ∧ (k8 (q : Int)) ∧ (y5 z) ∧ (((kB (ka5 (z + 1) xs)) : List D) = (kB ((ka5 z xs) ++ ([(kZ (kF xs z) (kD xs z) (kM xs z))] : List Ch))))) zk ⟨rfl, rfl, rfl, rfl, rfl, (by first | rfl | omega | assumption | (simp; done) | (simp; omega)), (by first | rfl | with_reducible assumption | exact congrArg kB (yK zo).symm | exact congrArg kB (yK zo))⟩ (show q - (z + 1) < q - z from (by first | omega | (show _ < _; simp; omega)))
  · refine zr [.b false] [1, 5, 8, 9, 10, 11] [1] (¬ ((z : Int) < (q : Int))) [(1, .e (.c (.fn 30 []))), (5, oV 1 0 z 3), (8, uU (kB xs) q), (9, uV q), (10, uV z), (11, bV false)] [(1, some (29, .ds (kB (ka5 z xs))))] 2 zo ?_
    refine AW.seq ?_
    refine zf ?_
    refine AW.exit ?_
    refine kI [.no, .no] True [(4, oV 1 0 z 3)] [(1, some (29, .ds (kB (ka5 z xs))))] 2 trivial ?_
    have hz1 : ka5 z xs = xs := kc5 (by omega)
    refine AW.ret ?_
    exact kA (.inr rfl) [(0, 1)] (P := (kT 0) ∧ ((q : Nat) = z) ∧ (((kB xs) : List D) = (kB (ka5 z xs)))) zk ⟨rfl, (by first | rfl | omega), (by first | rfl | (rw [hz1]; done) | (rw [hz1]; rfl))⟩
theorem lU (xs : List Ch) (q : Nat) (hq : ka0 xs = q) (h0 : q ≤ 1000000) (hX : CsW xs) : Fun 35 [.agg [.d (D.sl (kB xs) q)]] (kC []) 0 (.e (.agg [.own 0 0 q 3 true])) (kC [(0, some (29, .ds (kB xs)))]) 1 := by
  refine Fun.mk (n := 7) Try.func35 rfl rfl (ka3 rfl) ?_
  intro cx hcx
  refine kI [.no, .no] True [(1, rV 0 0), (2, rV 1 0)] [(0, some (25, .ds [D.sl (kB xs) q])), (1, some (25, .ds [uF]))] 2 trivial ?_
  refine kI [.no, .no, .call [] (oV 0 0 q 3) [(0, some (29, .ds (kB xs)))] 1 [] none, .no, .no] _ [(2, rV 1 0)] [(1, some (25, .cs [.own 2 0 q 3 true])), (2, some (29, .ds (kB xs)))] 3 (x5 xs q zo zo (kQ : CsW xs)) ?_
  refine AW.ret ?_
  exact kA (.inr rfl) [(0, 2)] (P := (kT 0) ∧ (kT q) ∧ (kR (kB xs))) zk ⟨rfl, rfl, rfl⟩
end Go.Proofs.Ytkjmlililpgamaa
