/- Names, sets of devices, choices as data. No statement is proved here. -/
import Derived.Test.YtkjmlililpgamaaZLBy
namespace Go.Proofs.Ytkjmlililpgamaa
open Go.ChangeShapes Go.WideShapes Go.ChangeAt Go.RowKit
open Bool renaming and_false → kd3, eq_false_or_eq_true → ka6, false_and → kl5
open List renaming drop → kb2, getD → ka2, getD_eq_getElem?_getD → ka9, getElem?_eq_getElem → kb3, getElem_mem → ki1, length → ka0, length_append → ka4, length_cons → kb5, length_drop → kc0, length_map → kc8, length_nil → kb6, length_replicate → kc4, length_set → ka8, length_take → kb8, take → ka5
open Nat renaming le_of_ble_eq_true → ka3, lt_succ_self → kk8, not_lt_zero → kd1
set_option linter.unusedVariables false
set_option linter.unusedSimpArgs false
set_option maxHeartbeats 4000000
set_option maxRecDepth 100000
theorem a8 {l : List Int} (h : ∀ j, j < l.length → 0 ≤ ka2 l j 0 ∧ ka2 l j 0 ≤ 255) {k : Nat} (hk : k < l.length) : vF (strOfNums l) (k : Int) = some (ka2 l k 0) := by
  have h9 := h k hk
  unfold vF
  rw [if_pos (by omega), strOfNums_data, Int.toNat_natCast, List.getElem?_map, kb3 hk]
  rw [ka9, kb3 hk, Option.getD_some] at *
  simp only [Option.map_some, UInt8.toNat_ofNat', Option.some.injEq]
  omega
theorem x7 {l : List Int} (h : l.length = 0) : (ByteArray.toList (strOfNums l) == ByteArray.toList (ByteArray.mk #[])) = true := by
  have : l = [] := List.length_eq_zero_iff.1 h
  subst this; rw [ByteArray.toList_eq, ByteArray.toList_eq]; rfl
theorem cM {l : List Int} (h : ¬ l.length = 0) : (ByteArray.toList (strOfNums l) == ByteArray.toList (ByteArray.mk #[])) = false := by
  rw [beq_eq_false_iff_ne]
  intro e
  have e2 := congrArg ka0 e
  rw [ByteArray.toList_eq, ByteArray.toList_eq, strOfNums_data, kc8] at e2
  exact h (by rw [e2]; rfl)
/-! names -/
theorem tO {l : List Int} {p : Int → Bool} (h : ∀ j, j < l.length → p (ka2 l j 0) = true) : l.all p = true := by
  rw [List.all_eq_true]
  intro x hx
  obtain ⟨j, hj, e⟩ := List.mem_iff_getElem.1 hx
  have h1 := h j hj
  rw [ka9, kb3 hj] at h1
  rw [← e]; exact h1
theorem tP {l : List Int} {p : Int → Bool} (h : l.all p = true) (j : Nat) (hj : j < l.length) : p (ka2 l j 0) = true := by
  rw [ka9, kb3 hj]
  exact List.all_eq_true.1 h _ (ki1 hj)
def dP (x : Int) : Bool := decide ((97 ≤ x ∧ x ≤ 122) ∨ (65 ≤ x ∧ x ≤ 90))
def eM (x : Int) : Bool := decide (((97 ≤ x ∧ x ≤ 122) ∨ (65 ≤ x ∧ x ≤ 90)) ∨ (48 ≤ x ∧ x ≤ 57) ∨ x = 45 ∨ x = 46 ∨ x = 95)
theorem c7 {x : Int} (h : dP x = true) : eM x = true := decide_eq_true (.inl (of_decide_eq_true h))
theorem j6 {x : Int} (h : (48 ≤ x ∧ x ≤ 57) ∨ x = 45 ∨ x = 46 ∨ x = 95) : eM x = true := decide_eq_true (.inr h)
theorem j7 {x : Int} (h : dP x = false) (h2 : ¬ ((48 ≤ x ∧ x ≤ 57) ∨ x = 45 ∨ x = 46 ∨ x = 95)) : eM x = false := decide_eq_false (fun h9 => h9.elim (of_decide_eq_false h) h2)
def qK (l : List Int) : Bool := decide (1 ≤ l.length ∧ l.length ≤ 64) && dP (ka2 l 0 0) && l.all eM
theorem u6 {l : List Int} (h : 1 ≤ l.length ∧ l.length ≤ 64) (h1 : dP (ka2 l 0 0) = true) (h2 : ∀ j, j < l.length → eM (ka2 l j 0) = true) : qK l = true := by unfold qK; rw [decide_eq_true h, h1, tO h2]; rfl
theorem u7 {l : List Int} (h : ¬ (1 ≤ l.length ∧ l.length ≤ 64)) : qK l = false := by unfold qK; rw [decide_eq_false h]; rfl
theorem yA {l : List Int} (h : dP (ka2 l 0 0) = false) : qK l = false := by unfold qK; rw [h, kd3]; rfl
theorem u9 {l : List Int} {k : Nat} (hk : k < l.length) (h : eM (ka2 l k 0) = false) : qK l = false := by
  unfold qK
  rw [Bool.and_eq_false_iff]
  right
  cases e : l.all eM with
  | false => rfl
  | true => have := tP e k hk; rw [h] at this; cases this
/-! chapter 30: choices as data -/
structure Ch where
  r : List Int
  s : List Int
  d : Int
def ch0 : Ch := ⟨[], [], 0⟩
def kZ (r s : List Int) (d : Int) : Ch := ⟨r, s, d⟩
def t5 (c : Ch) : List D := [D.lit (.string (strOfNums c.r)), D.sl (dI .u64 c.s) c.s.length, D.lit (.int .u64 c.d)]
def kB : List Ch → List D
  | [] => []
  | c :: r => t5 c ++ kB r
theorem kH : ∀ xs : List Ch, ka0 (kB xs) = ka0 xs * 3
  | [] => rfl
  | c :: r => by show ka0 (t5 c ++ kB r) = (ka0 r + 1) * 3; rw [ka4, kH r]; show 3 + _ = _; omega
theorem mQ : ∀ a b : List Ch, kB (a ++ b) = kB a ++ kB b
  | [], _ => rfl
  | l :: r, b => by show t5 l ++ kB (r ++ b) = t5 l ++ kB r ++ kB b; rw [mQ r b, List.append_assoc]
theorem a7 : ∀ (i : Nat) (xs : List Ch), kb2 (i * 3) (kB xs) = kB (kb2 i xs)
  | 0, _ => rfl
  | i + 1, [] => by simp [kB]
  | i + 1, l :: r => by
    show kb2 ((i + 1) * 3) (t5 l ++ kB r) = kB (kb2 i r)
    rw [show (i + 1) * 3 = 3 + i * 3 by omega, ← List.drop_drop, ← a7 i r]; rfl
theorem yX : ∀ (i : Nat) (xs : List Ch), ka5 (i * 3) (kB xs) = kB (ka5 i xs)
  | 0, _ => rfl
  | i + 1, [] => by simp [kB]
  | i + 1, l :: r => by
    show ka5 ((i + 1) * 3) (t5 l ++ kB r) = t5 l ++ kB (ka5 i r)
    rw [← yX i r, show (i + 1) * 3 = ka0 (t5 l) + i * 3 by show _ = 3 + _; omega, List.take_length_add_append]
def yG (xs : List Ch) (i : Nat) : Ch := ka2 xs i ch0
def kF (xs : List Ch) (i : Nat) : List Int := (yG xs i).r
def kD (xs : List Ch) (i : Nat) : List Int := (yG xs i).s
def kM (xs : List Ch) (i : Nat) : Int := (yG xs i).d
theorem x1 {xs : List Ch} {i : Nat} (h : i < ka0 xs) : kB (kb2 i xs) = t5 (yG xs i) ++ kB (kb2 (i + 1) xs) := by
  have e : yG xs i = xs[i] := by unfold yG; rw [ka9, kb3 h]; rfl
  rw [List.drop_eq_getElem_cons h, e]; rfl
theorem q7 {xs : List Ch} {i : Nat} (h : i < ka0 xs) : ka5 3 (kb2 (i * 3) (kB xs)) = [D.lit (.string (strOfNums (kF xs i))), D.sl (dI .u64 (kD xs i)) (ka0 (kD xs i)), D.lit (.int .u64 (kM xs i))] := by
  rw [a7, x1 h]; rfl
theorem gL (xs : List Ch) (r s : List Int) (n : Nat) (d : Int) (h : s.length = n) : kB xs ++ [D.lit (.string (strOfNums r)), D.sl (dI .u64 s) n, D.lit (.int .u64 d)] = kB (xs ++ [kZ r s d]) := by
  subst h; rw [mQ]; rfl
def ChW (c : Ch) : Prop := Byt c.r ∧ ka0 c.r ≤ 1000000 ∧ ka0 c.s ≤ 1000000
def CsW (xs : List Ch) : Prop := ∀ c ∈ xs, ChW c
theorem k32 : ChW ch0 := ⟨Byt.nil, Nat.zero_le _, Nat.zero_le _⟩
theorem CsW.get {xs : List Ch} (h : CsW xs) (i : Nat) : ChW (yG xs i) := by
  unfold yG
  rw [ka9]
  cases e : xs[i]? with
  | none => exact k32
  | some l => exact h l (List.mem_of_getElem? e)
theorem CsW.at {xs : List Ch} (h : CsW xs) (i : Nat) : Byt (kF xs i) ∧ ka0 (kF xs i) ≤ 1000000 ∧ ka0 (kD xs i) ≤ 1000000 := h.get i
theorem CsW.take {xs : List Ch} (h : CsW xs) (n : Nat) : CsW (ka5 n xs) := fun m hm => h m (List.mem_of_mem_take hm)
theorem CsW.drop {xs : List Ch} (h : CsW xs) (n : Nat) : CsW (kb2 n xs) := fun m hm => h m (List.mem_of_mem_drop hm)
theorem CsW.app {xs ys : List Ch} (h : CsW xs) (h2 : CsW ys) : CsW (xs ++ ys) := fun m hm => (List.mem_append.1 hm).elim (h m) (h2 m)
theorem CsW.nil : CsW [] := fun l h => by cases h
theorem CsW.one {c : Ch} (h : ChW c) : CsW [c] := fun m hm => by rw [List.mem_singleton.1 hm]; exact h
theorem mR : ∀ n : Nat, (List.replicate n [D.lit (.string (ByteArray.mk #[])), D.lit (.slice none 0 0), D.lit (.int .u64 0)]).flatten.length = n * 3
  | 0 => rfl
  | n + 1 => by rw [List.replicate_succ, List.flatten_cons, ka4, mR n]; show 3 + _ = _; omega
def gN (l : List Int) (i : Nat) : Bool := decide (1 ≤ ka2 l i 0 ∧ (i = 0 ∨ ka2 l (i - 1) 0 < ka2 l i 0))
def v3 (l : List Int) : Bool := (List.range l.length).all (gN l)
theorem oB {l : List Int} (h : ∀ i, i < l.length → gN l i = true) : v3 l = true := List.all_eq_true.2 fun i hi => h i (List.mem_range.1 hi)
theorem tR {l : List Int} {k : Nat} (hk : k < l.length) (h : gN l k = false) : v3 l = false := by
  cases e : v3 l with
  | false => rfl
  | true => have := List.all_eq_true.1 e k (List.mem_range.2 hk); rw [h] at this; cases this
def yZ (l : List Int) (x : Int) : Bool := decide (x ∈ l)
theorem wR {l : List Int} {x : Int} {k : Nat} (hk : k < l.length) (h : ka2 l k 0 = x) : yZ l x = true := decide_eq_true (by
  rw [← h, ka9, kb3 hk]; exact ki1 hk)
theorem k0f {l : List Int} {x : Int} (h : ∀ j, j < l.length → ¬ ka2 l j 0 = x) : yZ l x = false := decide_eq_false fun hm => by
  obtain ⟨j, hj, e⟩ := List.mem_iff_getElem.1 hm
  exact h j hj (by rw [ka9, kb3 hj]; exact e)
def uS (r s : List Int) (d : Int) : Bool := qK r && (decide (1 ≤ s.length ∧ s.length ≤ 8) && (v3 s && yZ s d))
def b1 (p : Nat → Bool) : Nat → Int
  | 0 => -1
  | k + 1 => if 0 ≤ b1 p k then b1 p k else if p k = true then (k : Int) else -1
theorem a1 {p : Nat → Bool} {k : Nat} (h : b1 p k = -1) (h2 : p k = false) : b1 p (k + 1) = -1 := by
  show (if 0 ≤ b1 p k then _ else _) = _
  rw [if_neg (by omega), if_neg (by rw [h2]; decide)]
theorem aN {p : Nat → Bool} {k : Nat} (h : b1 p k = -1) (h2 : p k = true) : ∀ n, k < n → b1 p n = (k : Int)
  | 0, h3 => absurd h3 (kd1 k)
  | n + 1, h3 => by
    show (if 0 ≤ b1 p n then _ else _) = _
    by_cases e : k = n
    · subst e; rw [if_neg (by omega), if_pos h2]
    · have h4 := aN h h2 n (by omega)
      rw [if_pos (by omega), h4]
theorem vW (p : Nat → Bool) : ∀ n, (b1 p n = -1 ∧ ∀ j, j < n → p j = false) ∨ ∃ k, k < n ∧ b1 p n = (k : Int) ∧ p k = true
  | 0 => .inl ⟨rfl, fun j h => absurd h (kd1 j)⟩
  | n + 1 => by
    rcases vW p n with ⟨h1, h2⟩ | ⟨k, hk, h1, h2⟩
    · cases e : p n with
      | false => exact .inl ⟨a1 h1 e, fun j hj => (Nat.lt_succ_iff_lt_or_eq.1 hj).elim (h2 j) fun e9 => e9 ▸ e⟩
      | true => exact .inr ⟨n, kk8 n, aN h1 e _ (kk8 n), e⟩
    · refine .inr ⟨k, by omega, ?_, h2⟩
      show (if 0 ≤ b1 p n then _ else _) = _
      rw [if_pos (by omega)]; exact h1
theorem gC (p : Nat → Bool) (n : Nat) : -1 ≤ b1 p n ∧ b1 p n < (n : Int) ∨ n = 0 ∧ b1 p n = -1 := by
  rcases vW p n with ⟨h1, _⟩ | ⟨k, hk, h1, _⟩ <;> omega
theorem zK {p : Nat → Bool} {n : Nat} (h : 0 ≤ b1 p n) : ∃ k, k < n ∧ p k = true := by
  rcases vW p n with ⟨h1, _⟩ | ⟨k, hk, _, h2⟩
  · omega
  · exact ⟨k, hk, h2⟩
theorem dG {p : Nat → Bool} {n : Nat} (h : ¬ 0 ≤ b1 p n) : ∀ j, j < n → p j = false := by
  rcases vW p n with ⟨_, h2⟩ | ⟨k, hk, h1, _⟩
  · exact h2
  · omega
theorem b8 {p : Nat → Bool} : ∀ k, (∀ j, j < k → p j = false) → b1 p k = -1
  | 0, _ => rfl
  | k + 1, h => a1 (b8 k fun j hj => h j (by omega)) (h k (by omega))
theorem k3z {l : List Int} {k : Nat} {y : Int} (h : y = if k = 0 then 0 else ka2 l (k - 1) 0) (h0 : 0 ≤ y) (h1 : y < ka2 l k 0) : gN l k = true := by
  refine decide_eq_true ?_
  by_cases e : k = 0
  · exact ⟨by omega, .inl e⟩
  · rw [if_neg e] at h; exact ⟨by omega, .inr (by omega)⟩
theorem k35 {l : List Int} {k : Nat} {y : Int} (h : y = if k = 0 then 0 else ka2 l (k - 1) 0) (h1 : ka2 l k 0 ≤ y) : gN l k = false := by
  refine decide_eq_false fun e => ?_
  by_cases e2 : k = 0
  · rw [if_pos e2] at h; omega
  · rw [if_neg e2] at h
    rcases e.2 with e3 | e3
    · exact e2 e3
    · omega
def oF (l : List Int) (x : Int) : Nat → Int := b1 fun j => decide (ka2 l j 0 = x)
theorem mF {l : List Int} {x : Int} {k n : Nat} (hk : k < n) (ha : ∀ j, j < k → ¬ ka2 l j 0 = x) (h : ka2 l k 0 = x) : oF l x n = (k : Int) :=
  aN (b8 k fun j hj => decide_eq_false (ha j hj)) (decide_eq_true h) n hk
theorem mE {l : List Int} {x : Int} {k n : Nat} (hk : k = n) (ha : ∀ j, j < k → ¬ ka2 l j 0 = x) : oF l x n = -1 := by
  subst hk; exact b8 _ fun j hj => decide_eq_false (ha j hj)
theorem zG {l : List Int} {x : Int} {n : Nat} (hn : l.length = n) (h : 0 ≤ oF l x n) : yZ l x = true := by
  obtain ⟨k, hk, h1⟩ := zK h
  exact wR (k := k) (by omega) (of_decide_eq_true h1)
theorem zH {l : List Int} {x : Int} {n : Nat} (hn : l.length = n) (h : ¬ 0 ≤ oF l x n) : yZ l x = false :=
  k0f fun j hj => of_decide_eq_false (dG h j (by omega))
theorem k2b {r s : List Int} {d : Int} (h : qK r = true) (h1 : 1 ≤ s.length ∧ s.length ≤ 8) (h2 : v3 s = true) (h3 : yZ s d = true) : uS r s d = true := by unfold uS; rw [h, decide_eq_true h1, h2, h3]; rfl
theorem k3q {r s : List Int} {d : Int} (h : qK r = false) : uS r s d = false := by unfold uS; rw [h]; rfl
theorem k3s {r s : List Int} {d : Int} (h : ¬ (1 ≤ s.length ∧ s.length ≤ 8)) : uS r s d = false := by unfold uS; rw [decide_eq_false h, kl5, kd3]
theorem k3t {r s : List Int} {d : Int} (h : v3 s = false) : uS r s d = false := by unfold uS; rw [h, kl5, kd3, kd3]
theorem k3r {r s : List Int} {d : Int} (h : yZ s d = false) : uS r s d = false := by unfold uS; rw [h, kd3, kd3, kd3]
def nU (a b : List Int) : Bool := decide (a = b)
theorem k19 {a b : List Int} (h : ¬ a.length = b.length) : nU a b = false := decide_eq_false fun e => h (by rw [e])
theorem k1a {a b : List Int} {k : Nat} (h : ¬ ka2 a k 0 = ka2 b k 0) : nU a b = false := decide_eq_false fun e => h (by rw [e])
theorem k18 {a b : List Int} (h : a.length = b.length) (h2 : ∀ j, j < a.length → ka2 a j 0 = ka2 b j 0) : nU a b = true := by
  refine decide_eq_true (List.ext_getElem h fun j h3 h4 => ?_)
  have := h2 j h3
  rw [ka9, kb3 h3, ka9, kb3 h4] at this
  exact this
def uM (r s r2 s2 : List Int) : Bool := decide (r = r2) && nU s s2
theorem k1t {r s r2 s2 : List Int} (h : r = r2) (h2 : nU s s2 = true) : uM r s r2 s2 = true := by unfold uM; rw [decide_eq_true h, h2]; rfl
theorem k1v {r s r2 s2 : List Int} (h : ¬ r = r2) : uM r s r2 s2 = false := by unfold uM; rw [decide_eq_false h]; rfl
theorem k1u {r s r2 s2 : List Int} (h : nU s s2 = false) : uM r s r2 s2 = false := by unfold uM; rw [h, kd3]
def vT (a b : List Int) : Bool := a.all (yZ b)
theorem k05 {a b : List Int} (h : ∀ j, j < a.length → yZ b (ka2 a j 0) = true) : vT a b = true := tO h
theorem k06 {a b : List Int} {k : Nat} (hk : k < a.length) (h : yZ b (ka2 a k 0) = false) : vT a b = false := by
  cases e : vT a b with
  | false => rfl
  | true => have := tP e k hk; rw [h] at this; cases this
def dQ (r s r2 s2 : List Int) : Bool := decide (r = r2 ∧ s.length = s2.length) && vT s s2
theorem k36 {r s r2 s2 : List Int} (h : r = r2) (h1 : s.length = s2.length) (h2 : vT s s2 = true) : dQ r s r2 s2 = true := by unfold dQ; rw [decide_eq_true ⟨h, h1⟩, h2]; rfl
theorem k37 {r s r2 s2 : List Int} (h : ¬ r = r2) : dQ r s r2 s2 = false := by unfold dQ; rw [decide_eq_false fun e => h e.1]; rfl
theorem k39 {r s r2 s2 : List Int} (h : ¬ s.length = s2.length) : dQ r s r2 s2 = false := by unfold dQ; rw [decide_eq_false fun e => h e.2]; rfl
theorem k38 {r s r2 s2 : List Int} (h : vT s s2 = false) : dQ r s r2 s2 = false := by unfold dQ; rw [h, kd3]
theorem yM {p : Prop} (h : p := by first | exact decide_eq_true (by omega) | exact decide_eq_false (by omega)) : p := h
theorem bC (x : Int) (hx : 0 ≤ x ∧ x ≤ 255) : Fun 50 [.c (.d (D.lit (.int .u8 x)))] (kC []) 0 (kL (D.lit (.bool (dP x)))) (kC []) 0 := by
  refine Fun.mk (n := 17) Try.func50 rfl rfl (ka3 rfl) ?_
  intro cx hcx
  refine kI [.no] True [(0, kL (D.lit (.int .u8 x)))] [] 0 trivial ?_
  by_cases hx1 : ((97 : Int) ≤ x)
  · by_cases hx2 : (x ≤ 122)
    · refine zr [.no, .b true, .no, .no, .b true, .no, .no, .no, .no] [2] [] ((((97 : Int) ≤ x)) ∧ ((x ≤ 122))) [(2, bV true)] [] 0 ⟨zo, zo⟩ ?_
      refine AW.ret ?_
      exact kA (.inr rfl) [] (P := ((dP x) = true)) zk yM
    · refine zr [.no, .b true, .no, .no, .b false, .no, .no, .no, .b true, .no, .no, .b false, .no, .no, .no] [2] [] ((((97 : Int) ≤ x)) ∧ (¬ (x ≤ 122)) ∧ (((65 : Int) ≤ x)) ∧ (¬ (x ≤ 90))) [(2, bV false)] [] 0 ⟨zo, zo, zo, zo⟩ ?_
      refine AW.ret ?_
      exact kA (.inr rfl) [] (P := ((dP x) = false)) zk yM
  · by_cases hx3 : ((65 : Int) ≤ x)
    · by_cases hx4 : (x ≤ 90)
      · refine zr (.no :: .b false :: qA 4 [.b true, .no, .no, .b true, .no, .no, .no]) [2] [] ((¬ ((97 : Int) ≤ x)) ∧ (((65 : Int) ≤ x)) ∧ ((x ≤ 90))) [(2, bV true)] [] 0 ⟨zo, zo, zo⟩ ?_
        refine AW.ret ?_
        exact kA (.inr rfl) [] (P := ((dP x) = true)) zk yM
      · refine zr (.no :: .b false :: qA 4 [.b true, .no, .no, .b false, .no, .no, .no]) [2] [] ((¬ ((97 : Int) ≤ x)) ∧ (((65 : Int) ≤ x)) ∧ (¬ (x ≤ 90))) [(2, bV false)] [] 0 ⟨zo, zo, zo⟩ ?_
        refine AW.ret ?_
        exact kA (.inr rfl) [] (P := ((dP x) = false)) zk yM
    · refine zr (.no :: .b false :: qA 4 (.b false :: qA 4 [])) [2] [] ((¬ ((97 : Int) ≤ x)) ∧ (¬ ((65 : Int) ≤ x))) [(2, bV false)] [] 0 ⟨zo, zo⟩ ?_
      refine AW.ret ?_
      exact kA (.inr rfl) [] (P := ((dP x) = false)) zk yM
theorem vQ (x : Int) (hx : 0 ≤ x ∧ x ≤ 255) : Fun 53 [.c (.d (D.lit (.int .u8 x)))] (kC []) 0 (kL (D.lit (.bool (dP x)))) (kC []) 0 := by
  refine Fun.mk (n := 17) Try.func53 rfl rfl (ka3 rfl) ?_
  intro cx hcx
  refine kI [.no] True [(0, kL (D.lit (.int .u8 x)))] [] 0 trivial ?_
  by_cases hx1 : ((97 : Int) ≤ x)
  · by_cases hx2 : (x ≤ 122)
    · refine zr [.no, .b true, .no, .no, .b true, .no, .no, .no, .no] [2] [] ((((97 : Int) ≤ x)) ∧ ((x ≤ 122))) [(2, bV true)] [] 0 ⟨zo, zo⟩ ?_
      refine AW.ret ?_
      exact kA (.inr rfl) [] (P := ((dP x) = true)) zk yM
    · refine zr [.no, .b true, .no, .no, .b false, .no, .no, .no, .b true, .no, .no, .b false, .no, .no, .no] [2] [] ((((97 : Int) ≤ x)) ∧ (¬ (x ≤ 122)) ∧ (((65 : Int) ≤ x)) ∧ (¬ (x ≤ 90))) [(2, bV false)] [] 0 ⟨zo, zo, zo, zo⟩ ?_
      refine AW.ret ?_
      exact kA (.inr rfl) [] (P := ((dP x) = false)) zk yM
  · by_cases hx3 : ((65 : Int) ≤ x)
    · by_cases hx4 : (x ≤ 90)
      · refine zr (.no :: .b false :: qA 4 [.b true, .no, .no, .b true, .no, .no, .no]) [2] [] ((¬ ((97 : Int) ≤ x)) ∧ (((65 : Int) ≤ x)) ∧ ((x ≤ 90))) [(2, bV true)] [] 0 ⟨zo, zo, zo⟩ ?_
        refine AW.ret ?_
        exact kA (.inr rfl) [] (P := ((dP x) = true)) zk yM
      · refine zr (.no :: .b false :: qA 4 [.b true, .no, .no, .b false, .no, .no, .no]) [2] [] ((¬ ((97 : Int) ≤ x)) ∧ (((65 : Int) ≤ x)) ∧ (¬ (x ≤ 90))) [(2, bV false)] [] 0 ⟨zo, zo, zo⟩ ?_
        refine AW.ret ?_
        exact kA (.inr rfl) [] (P := ((dP x) = false)) zk yM
    · refine zr (.no :: .b false :: qA 4 (.b false :: qA 4 [])) [2] [] ((¬ ((97 : Int) ≤ x)) ∧ (¬ ((65 : Int) ≤ x))) [(2, bV false)] [] 0 ⟨zo, zo⟩ ?_
      refine AW.ret ?_
      exact kA (.inr rfl) [] (P := ((dP x) = false)) zk yM
theorem aI {p : Prop} (h : p := by first | exact c7 (by assumption) | exact j6 (by omega) | exact j7 (by assumption) (by omega)) : p := h
theorem z1 (x : Int) (hx : 0 ≤ x ∧ x ≤ 255) : Fun 51 [.c (.d (D.lit (.int .u8 x)))] (kC []) 0 (kL (D.lit (.bool (eM x)))) (kC []) 0 := by
  refine Fun.mk (n := 25) Try.func51 rfl rfl (ka3 rfl) ?_
  intro cx hcx
  refine kI [.no] True [(0, kL (D.lit (.int .u8 x)))] [] 0 trivial ?_
  rcases ka6 (dP x) with hx1 | hx1
  · refine zr (.no :: .call [] (bV true) [] 0 [] none :: qA 9 []) [2] [] (Fun 50 [.c (.d (D.lit (.int .u8 x)))] (kC []) 0 (bV true) (kC []) 0) [(2, bV true)] [] 0 (by have h0 := (bC x zo); rw [hx1] at h0; exact h0) ?_
    refine AW.ret ?_
    exact kA (.inr rfl) [] (P := ((eM x) = true)) zk aI
  · by_cases hx2 : ((48 : Int) ≤ x)
    · by_cases hx3 : (x ≤ 57)
      · refine zr (.no :: .call [] (bV false) [] 0 [] none :: .no :: .no :: .b true :: .no :: .no :: .b true :: qA 9 []) [2] [] ((Fun 50 [.c (.d (D.lit (.int .u8 x)))] (kC []) 0 (bV false) (kC []) 0) ∧ (((48 : Int) ≤ x)) ∧ ((x ≤ 57))) [(2, bV true)] [] 0 ⟨(by have h0 := (bC x zo); rw [hx1] at h0; exact h0), zo, zo⟩ ?_
        refine AW.ret ?_
        exact kA (.inr rfl) [] (P := ((eM x) = true)) zk aI
      · by_cases hx4 : (x = 95)
        · refine zr [.no, .call [] (bV false) [] 0 [] none, .no, .no, .b true, .no, .no, .b false, .no, .no, .no, .no, .b false, .no, .no, .no, .b false, .no, .no, .no, .b true, .no, .no] [2] [] ((Fun 50 [.c (.d (D.lit (.int .u8 x)))] (kC []) 0 (bV false) (kC []) 0) ∧ (((48 : Int) ≤ x)) ∧ (¬ (x ≤ 57)) ∧ (¬ (x = 45)) ∧ (¬ (x = 46)) ∧ ((x = 95))) [(2, bV true)] [] 0 ⟨(by have h0 := (bC x zo); rw [hx1] at h0; exact h0), zo, zo, zo, zo, zo⟩ ?_
          refine AW.ret ?_
          exact kA (.inr rfl) [] (P := ((eM x) = true)) zk aI
        · refine zr [.no, .call [] (bV false) [] 0 [] none, .no, .no, .b true, .no, .no, .b false, .no, .no, .no, .no, .b false, .no, .no, .no, .b false, .no, .no, .no, .b false, .no, .no] [2] [] ((Fun 50 [.c (.d (D.lit (.int .u8 x)))] (kC []) 0 (bV false) (kC []) 0) ∧ (((48 : Int) ≤ x)) ∧ (¬ (x ≤ 57)) ∧ (¬ (x = 45)) ∧ (¬ (x = 46)) ∧ (¬ (x = 95))) [(2, bV false)] [] 0 ⟨(by have h0 := (bC x zo); rw [hx1] at h0; exact h0), zo, zo, zo, zo, zo⟩ ?_
          refine AW.ret ?_
          exact kA (.inr rfl) [] (P := ((eM x) = false)) zk aI
    · by_cases hx5 : (x = 45)
      · refine zr (.no :: .call [] (bV false) [] 0 [] none :: .no :: .no :: .b false :: qA 5 (.b true :: qA 6 [])) [2] [] ((Fun 50 [.c (.d (D.lit (.int .u8 x)))] (kC []) 0 (bV false) (kC []) 0) ∧ (¬ ((48 : Int) ≤ x)) ∧ ((x = 45))) [(2, bV true)] [] 0 ⟨(by have h0 := (bC x zo); rw [hx1] at h0; exact h0), zo, zo⟩ ?_
        refine AW.ret ?_
        exact kA (.inr rfl) [] (P := ((eM x) = true)) zk aI
      · by_cases hx6 : (x = 46)
        · refine zr (.no :: .call [] (bV false) [] 0 [] none :: .no :: .no :: .b false :: qA 5 (.b false :: .no :: .no :: .no :: .b true :: qA 4 [])) [2] [] ((Fun 50 [.c (.d (D.lit (.int .u8 x)))] (kC []) 0 (bV false) (kC []) 0) ∧ (¬ ((48 : Int) ≤ x)) ∧ (¬ (x = 45)) ∧ ((x = 46))) [(2, bV true)] [] 0 ⟨(by have h0 := (bC x zo); rw [hx1] at h0; exact h0), zo, zo, zo⟩ ?_
          refine AW.ret ?_
          exact kA (.inr rfl) [] (P := ((eM x) = true)) zk aI
        · refine zr (.no :: .call [] (bV false) [] 0 [] none :: .no :: .no :: .b false :: qA 5 [.b false, .no, .no, .no, .b false, .no, .no, .no, .b false, .no, .no]) [2] [] ((Fun 50 [.c (.d (D.lit (.int .u8 x)))] (kC []) 0 (bV false) (kC []) 0) ∧ (¬ ((48 : Int) ≤ x)) ∧ (¬ (x = 45)) ∧ (¬ (x = 46)) ∧ (¬ (x = 95))) [(2, bV false)] [] 0 ⟨(by have h0 := (bC x zo); rw [hx1] at h0; exact h0), zo, zo, zo, zo⟩ ?_
          refine AW.ret ?_
          exact kA (.inr rfl) [] (P := ((eM x) = false)) zk aI
theorem yL {p : Prop} (h : p := by first | omega | (simp only [kc0, kb8]; omega)) : p := h
theorem uR {p : Prop} (h : p := by first | omega | with_reducible assumption | (simp only [kK, kH, ka4, kb5, kb6, kb8, kc0, kc4, ka8] <;> omega) | rfl | assumption) : p := h
theorem qB {p : Prop} (h : p := by first | omega | assumption | simp) : p := h
theorem uK {p : Prop} (h : p := by first | rfl | omega | assumption | (simp; done) | (simp; omega)) : p := h
theorem uJ {p : Prop} (h : p := by first | omega | (show _ < _; simp; omega)) : p := h
@[reducible] def y4 (k : Nat) : Prop := (((((k + 1) : Nat) : Int) : Int) = ((k : Int) + 1))
theorem bO (l : List Int) (hy : Byt l) (hb : ka0 l ≤ 9223372036854775807) : Fun 39 [.c (.d (D.lit (.string (strOfNums l))))] (kC []) 0 (kL (D.lit (.bool (qK l)))) (kC []) 0 := by
  refine Fun.mk (n := 28) Try.func39 rfl rfl (ka3 rfl) ?_
  intro cx hcx
  refine kI [.no] True [(0, kL (D.lit (.string (strOfNums l))))] [] 0 trivial ?_
  refine AW.seq ?_
  by_cases hx1 : ((ka0 l) = 0)
  · refine zr (.no :: .b true :: qA 4 []) [0, 16] [] ((ByteArray.toList (strOfNums l) == ByteArray.toList (ByteArray.mk #[])) = true) [(0, kL (D.lit (.string (strOfNums l)))), (16, bV true)] [] 0 (x7 zo) ?_
    refine zt ?_
    refine kI [.no] True [(2, bV false)] [] 0 trivial ?_
    refine AW.ret ?_
    exact kA (.inr rfl) [] (P := ((qK l) = false)) zk (by first | exact u7 zo | exact yA (by assumption) | exact u9 (k := k) zo (by assumption) | exact u6 zo (by assumption) (fun j hj => ha j zo))
  · by_cases hx2 : ((64 : Int) < (((ka0 l) : Nat) : Int))
    · refine zr [.no, .b false, .no, .no, .i (ka0 l : Int), .b true, .no, .no, .no] [0, 16] [] (((ByteArray.toList (strOfNums l) == ByteArray.toList (ByteArray.mk #[])) = false) ∧ ((ByteArray.size (strOfNums l) : Int) = ((ka0 l : Int) : Int)) ∧ (((64 : Int) < (ka0 l : Int)))) [(0, kL (D.lit (.string (strOfNums l)))), (16, bV true)] [] 0 ⟨(cM zo), (by rw [strOfNums_size]), zo⟩ ?_
      refine zt ?_
      refine kI [.no] True [(2, bV false)] [] 0 trivial ?_
      refine AW.ret ?_
      exact kA (.inr rfl) [] (P := ((qK l) = false)) zk (by first | exact u7 zo | exact yA (by assumption) | exact u9 (k := k) zo (by assumption) | exact u6 zo (by assumption) (fun j hj => ha j zo))
    · rcases ka6 (dP (ka2 l 0 0)) with hx4 | hx4
      · have hx5 : 0 ≤ (ka2 l 0 0) ∧ (ka2 l 0 0) ≤ 255 := Byt.at (kQ : Byt l) _ yL
        refine kI [.no, .b false, .no, .no, .i (ka0 l : Int), .b false, .no, .no, .no, .i (ka2 l 0 0), .call [] (bV true) [] 0 [] none, .no, .no] (((ByteArray.toList (strOfNums l) == ByteArray.toList (ByteArray.mk #[])) = false) ∧ ((ByteArray.size (strOfNums l) : Int) = ((ka0 l : Int) : Int)) ∧ (¬ ((64 : Int) < (ka0 l : Int))) ∧ (vF (strOfNums l) (0 : Int) = some ((ka2 l 0 0) : Int)) ∧ (Fun 50 [.c (.d (D.lit (.int .u8 (ka2 l 0 0))))] (kC []) 0 (bV true) (kC []) 0)) [(0, kL (D.lit (.string (strOfNums l)))), (16, bV false)] [] 0 ⟨(cM zo), (by rw [strOfNums_size]), zo, (by have h9 := a8 (l := l) (Byt.at (kQ : Byt l)) (k := 0) yL; exact h9), (by have h0 := (bC (ka2 l 0 0) uR); rw [hx4] at h0; exact h0)⟩ ?_
        refine uF ?_
        refine AW.seq ?_
        refine yT [.no, .i (ka0 l : Int), .no] ((ByteArray.size (strOfNums l) : Int) = ((ka0 l : Int) : Int)) [(0, kL (D.lit (.string (strOfNums l)))), (18, uV (ka0 l)), (19, iV 0)] (by rw [strOfNums_size]) ?_
        refine AW.block ?_
        refine kV 0 hcx (fun (x : {x : Nat // match x with | k => (k ≤ ka0 l) ∧ (∀ j, j < k → eM (ka2 l j 0) = true)}) => match x with | ⟨k, _⟩ => (⟨[(0, kL (D.lit (.string (strOfNums l)))), (18, uV (ka0 l)), (19, uV k)], [], 0⟩ : ES)) (fun x => match x with | ⟨k, _⟩ => ka0 l - k) ⟨(0 : Nat), ⟨qB, (fun j hj => absurd hj (kd1 j))⟩⟩ [] (P := ((.string (strOfNums l) : Value) = .string (strOfNums l)) ∧ (k8 (ka0 l : Int)) ∧ (k8 0)) zk ⟨rfl, rfl, rfl⟩ ?_
        rintro ⟨k, hinv0⟩
        obtain ⟨hk, ha⟩ : (k ≤ ka0 l) ∧ (∀ j, j < k → eM (ka2 l j 0) = true) := hinv0
        refine qW (l := [(0, kL (D.lit (.string (strOfNums l)))), (18, uV (ka0 l)), (19, uV k)]) (g := []) (nx := 0) rfl rfl rfl ?_
        by_cases hx6 : (((k : Nat) : Int) < (((ka0 l) : Nat) : Int))
        · refine zr [.b true] [0, 18, 19, 20] [] (((k : Int) < (ka0 l : Int))) [(0, kL (D.lit (.string (strOfNums l)))), (18, uV (ka0 l)), (19, uV k), (20, bV true)] [] 0 zo ?_
          refine AW.seq ?_
          refine cB ?_
          refine AW.seq ?_
          refine AW.block ?_
          refine kI [.no, .no] True [(0, kL (D.lit (.string (strOfNums l)))), (3, uV k), (18, uV (ka0 l)), (19, uV k)] [] 0 trivial ?_
          rcases ka6 (eM (ka2 l k 0)) with hx8 | hx8
          · have hx9 : 0 ≤ (ka2 l k 0) ∧ (ka2 l k 0) ≤ 255 := Byt.at (kQ : Byt l) _ yL
            refine kI [.no, .no, .i (ka2 l k 0), .call [] (bV true) [] 0 [] none, .no] ((vF (strOfNums l) ((k : Int) : Int) = some ((ka2 l k 0) : Int)) ∧ (Fun 51 [.c (.d (D.lit (.int .u8 (ka2 l k 0))))] (kC []) 0 (bV true) (kC []) 0)) [(0, kL (D.lit (.string (strOfNums l)))), (18, uV (ka0 l)), (19, uV k), (26, bV false)] [] 0 ⟨(by have h9 := a8 (l := l) (Byt.at (kQ : Byt l)) (k := k) yL; exact h9), (by have h0 := (z1 (ka2 l k 0) uR); rw [hx8] at h0; exact h0)⟩ ?_
            refine uF ?_
            refine cG [.w, .no] (uU ((k : Int) + 1)) [(0, kL (D.lit (.string (strOfNums l)))), (18, uV (ka0 l)), (19, iV (↑k + 1))] ⟨by omega, by omega⟩ ?_
            exact kY ⟨((k + 1) : Nat), ⟨qB, (fun j hj => (Nat.lt_succ_iff_lt_or_eq.1 hj).elim (ha j) (fun e9 => by subst e9; first | assumption | exact c7 (by assumption) | exact j6 zo))⟩⟩ [] (P := ((.string (strOfNums l) : Value) = .string (strOfNums l)) ∧ (k8 (ka0 l : Int)) ∧ (y4 k)) zk ⟨rfl, rfl, uK⟩ (show ka0 l - (k + 1) < ka0 l - k from uJ)
          · have hx10 : 0 ≤ (ka2 l k 0) ∧ (ka2 l k 0) ≤ 255 := Byt.at (kQ : Byt l) _ yL
            refine kI [.no, .no, .i (ka2 l k 0), .call [] (bV false) [] 0 [] none, .no] ((vF (strOfNums l) ((k : Int) : Int) = some ((ka2 l k 0) : Int)) ∧ (Fun 51 [.c (.d (D.lit (.int .u8 (ka2 l k 0))))] (kC []) 0 (bV false) (kC []) 0)) [(0, kL (D.lit (.string (strOfNums l)))), (18, uV (ka0 l)), (19, uV k), (26, bV true)] [] 0 ⟨(by have h9 := a8 (l := l) (Byt.at (kQ : Byt l)) (k := k) yL; exact h9), (by have h0 := (z1 (ka2 l k 0) uR); rw [hx8] at h0; exact h0)⟩ ?_
            refine zt ?_
            refine yT [.no] True [(2, bV false)] trivial ?_
            refine AW.ret ?_
            exact kA (.inr rfl) [] (P := ((qK l) = false)) zk (by first | exact u7 zo | exact yA (by assumption) | exact u9 (k := k) zo (by assumption) | exact u6 zo (by assumption) (fun j hj => ha j zo))
        · refine zr [.b false] [0, 18, 19, 20] [] (¬ ((k : Int) < (ka0 l : Int))) [(0, kL (D.lit (.string (strOfNums l)))), (18, uV (ka0 l)), (19, uV k), (20, bV false)] [] 0 zo ?_
          refine AW.seq ?_
          refine zf ?_
          refine AW.exit ?_
          refine kI [.no] True [(2, bV true)] [] 0 trivial ?_
          refine AW.ret ?_
          exact kA (.inr rfl) [] (P := ((qK l) = true)) zk (by first | exact u7 zo | exact yA (by assumption) | exact u9 (k := k) zo (by assumption) | exact u6 zo (by assumption) (fun j hj => ha j zo))
      · have hx11 : 0 ≤ (ka2 l 0 0) ∧ (ka2 l 0 0) ≤ 255 := Byt.at (kQ : Byt l) _ yL
        refine kI [.no, .b false, .no, .no, .i (ka0 l : Int), .b false, .no, .no, .no, .i (ka2 l 0 0), .call [] (bV false) [] 0 [] none, .no, .no] (((ByteArray.toList (strOfNums l) == ByteArray.toList (ByteArray.mk #[])) = false) ∧ ((ByteArray.size (strOfNums l) : Int) = ((ka0 l : Int) : Int)) ∧ (¬ ((64 : Int) < (ka0 l : Int))) ∧ (vF (strOfNums l) (0 : Int) = some ((ka2 l 0 0) : Int)) ∧ (Fun 50 [.c (.d (D.lit (.int .u8 (ka2 l 0 0))))] (kC []) 0 (bV false) (kC []) 0)) [(0, kL (D.lit (.string (strOfNums l)))), (16, bV true)] [] 0 ⟨(cM zo), (by rw [strOfNums_size]), zo, (by have h9 := a8 (l := l) (Byt.at (kQ : Byt l)) (k := 0) yL; exact h9), (by have h0 := (bC (ka2 l 0 0) uR); rw [hx4] at h0; exact h0)⟩ ?_
        refine zt ?_
        refine yT [.no] True [(2, bV false)] trivial ?_
        refine AW.ret ?_
        exact kA (.inr rfl) [] (P := ((qK l) = false)) zk (by first | exact u7 zo | exact yA (by assumption) | exact u9 (k := k) zo (by assumption) | exact u6 zo (by assumption) (fun j hj => ha j zo))
theorem v5 (l : List Int) (hy : Byt l) (hb : ka0 l ≤ 9223372036854775807) : Fun 42 [.c (.d (D.lit (.string (strOfNums l))))] (kC []) 0 (kL (D.lit (.bool (qK l)))) (kC []) 0 := by
  refine Fun.mk (n := 48) Try.func42 rfl rfl (ka3 rfl) ?_
  intro cx hcx
  refine kI [.no] True [(0, kL (D.lit (.string (strOfNums l))))] [] 0 trivial ?_
  refine AW.seq ?_
  refine yT [.no] True [(0, kL (D.lit (.string (strOfNums l)))), (3, iV 0)] trivial ?_
  refine AW.block ?_
  refine kV 0 hcx (fun (x : {x : Nat // match x with | k => (k ≤ ka0 l) ∧ (∀ j, j < k → (eM (ka2 l j 0) = true ∧ (j = 0 → dP (ka2 l 0 0) = true)))}) => match x with | ⟨k, _⟩ => (⟨[(0, kL (D.lit (.string (strOfNums l)))), (3, uV k)], [], 0⟩ : ES)) (fun x => match x with | ⟨k, _⟩ => ka0 l - k) ⟨(0 : Nat), ⟨qB, (fun j hj => absurd hj (kd1 j))⟩⟩ [] (P := ((.string (strOfNums l) : Value) = .string (strOfNums l)) ∧ (k8 0)) zk ⟨rfl, rfl⟩ ?_
  rintro ⟨k, hinv0⟩
  obtain ⟨hk, ha⟩ : (k ≤ ka0 l) ∧ (∀ j, j < k → (eM (ka2 l j 0) = true ∧ (j = 0 → dP (ka2 l 0 0) = true))) := hinv0
  refine qW (l := [(0, kL (D.lit (.string (strOfNums l)))), (3, uV k)]) (g := []) (nx := 0) rfl rfl rfl ?_
  refine AW.seq ?_
  by_cases hx1 : (((k : Nat) : Int) < (((ka0 l) : Nat) : Int))
  · refine zr [.no, .no, .i (ka0 l : Int), .b true] [0, 3, 8] [] (((ByteArray.size (strOfNums l) : Int) = ((ka0 l : Int) : Int)) ∧ (((k : Int) < (ka0 l : Int)))) [(0, kL (D.lit (.string (strOfNums l)))), (3, uV k), (8, bV true)] [] 0 ⟨(by rw [strOfNums_size]), zo⟩ ?_
    refine cB ?_
    refine AW.seq ?_
    refine AW.block ?_
    have hx2 : 0 ≤ (ka2 l k 0) ∧ (ka2 l k 0) ≤ 255 := Byt.at (kQ : Byt l) _ yL
    refine kI [.no, .no, .i (ka2 l k 0), .no] (vF (strOfNums l) ((k : Int) : Int) = some ((ka2 l k 0) : Int)) [(0, kL (D.lit (.string (strOfNums l)))), (3, uV k), (4, kL (D.lit (.int .u8 (ka2 l k 0))))] [] 0 (by have h9 := a8 (l := l) (Byt.at (kQ : Byt l)) (k := k) yL; exact h9) ?_
    rcases ka6 (dP (ka2 l k 0)) with hx3 | hx3
    · refine zr [.no, .call [] (bV true) [] 0 [] none, .no, .no, .no] [0, 3, 40] [] (Fun 53 [.c (.d (D.lit (.int .u8 (ka2 l k 0))))] (kC []) 0 (bV true) (kC []) 0) [(0, kL (D.lit (.string (strOfNums l)))), (3, uV k), (40, bV false)] [] 0 (by have h0 := (vQ (ka2 l k 0) uR); rw [hx3] at h0; exact h0) ?_
      refine uF ?_
      refine bQ [.no, .w, .no] (uU ((k : Int) + 1)) [(0, kL (D.lit (.string (strOfNums l)))), (3, iV (↑k + 1))] [] 0 ⟨by omega, by omega⟩ ?_
      exact kY ⟨((k + 1) : Nat), ⟨qB, (fun j hj => (Nat.lt_succ_iff_lt_or_eq.1 hj).elim (ha j) (fun e9 => by subst e9; first | exact ⟨c7 (by assumption), fun h0 => by subst h0; assumption⟩ | exact ⟨j6 zo, fun h0 => by omega⟩))⟩⟩ [] (P := ((.string (strOfNums l) : Value) = .string (strOfNums l)) ∧ (y4 k)) zk ⟨rfl, uK⟩ (show ka0 l - (k + 1) < ka0 l - k from uJ)
    · by_cases hx4 : (((k : Nat) : Int) = 0)
      · refine zr [.no, .call [] (bV false) [] 0 [] none, .no, .no, .no, .b true, .no, .no, .no] [0, 3, 40] [] ((Fun 53 [.c (.d (D.lit (.int .u8 (ka2 l k 0))))] (kC []) 0 (bV false) (kC []) 0) ∧ (((k : Int) = 0))) [(0, kL (D.lit (.string (strOfNums l)))), (3, uV k), (40, bV true)] [] 0 ⟨(by have h0 := (vQ (ka2 l k 0) uR); rw [hx3] at h0; exact h0), zo⟩ ?_
        refine zt ?_
        refine kI [.no] True [(2, bV false)] [] 0 trivial ?_
        refine AW.ret ?_
        exact kA (.inr rfl) [] (P := ((qK l) = false)) zk (by first | exact u7 zo | exact u9 (k := k) zo (j7 (by assumption) zo) | (obtain rfl : k = 0 := zo; exact yA (by assumption)) | exact u6 zo ((ha 0 zo).2 rfl) (fun j hj => (ha j zo).1))
      · by_cases hx5 : ((ka2 l k 0) < 48)
        · by_cases hx6 : ((ka2 l k 0) ≠ 45)
          · by_cases hx7 : ((ka2 l k 0) ≠ 46)
            · refine zr [.no, .call [] (bV false) [] 0 [] none, .no, .no, .no, .b false, .no, .no, .b true, .no, .no, .no, .no, .b true, .no, .no, .no, .b true, .no, .no, .no, .b true, .no, .no, .no] [0, 3, 40] [] ((Fun 53 [.c (.d (D.lit (.int .u8 (ka2 l k 0))))] (kC []) 0 (bV false) (kC []) 0) ∧ (¬ ((k : Int) = 0)) ∧ (((ka2 l k 0) < 48)) ∧ (((ka2 l k 0) ≠ 45)) ∧ (((ka2 l k 0) ≠ 46)) ∧ (((ka2 l k 0) ≠ 95))) [(0, kL (D.lit (.string (strOfNums l)))), (3, uV k), (40, bV true)] [] 0 ⟨(by have h0 := (vQ (ka2 l k 0) uR); rw [hx3] at h0; exact h0), zo, zo, zo, zo, zo⟩ ?_
              refine zt ?_
              refine kI [.no] True [(2, bV false)] [] 0 trivial ?_
              refine AW.ret ?_
              exact kA (.inr rfl) [] (P := ((qK l) = false)) zk (by first | exact u7 zo | exact u9 (k := k) zo (j7 (by assumption) zo) | (obtain rfl : k = 0 := zo; exact yA (by assumption)) | exact u6 zo ((ha 0 zo).2 rfl) (fun j hj => (ha j zo).1))
            · refine zr [.no, .call [] (bV false) [] 0 [] none, .no, .no, .no, .b false, .no, .no, .b true, .no, .no, .no, .no, .b true, .no, .no, .no, .b false, .no, .no, .no, .no, .no] [0, 3, 40] [] ((Fun 53 [.c (.d (D.lit (.int .u8 (ka2 l k 0))))] (kC []) 0 (bV false) (kC []) 0) ∧ (¬ ((k : Int) = 0)) ∧ (((ka2 l k 0) < 48)) ∧ (((ka2 l k 0) ≠ 45)) ∧ (¬ ((ka2 l k 0) ≠ 46))) [(0, kL (D.lit (.string (strOfNums l)))), (3, uV k), (40, bV false)] [] 0 ⟨(by have h0 := (vQ (ka2 l k 0) uR); rw [hx3] at h0; exact h0), zo, zo, zo, zo⟩ ?_
              refine uF ?_
              refine bQ [.no, .w, .no] (uU ((k : Int) + 1)) [(0, kL (D.lit (.string (strOfNums l)))), (3, iV (↑k + 1))] [] 0 ⟨by omega, by omega⟩ ?_
              exact kY ⟨((k + 1) : Nat), ⟨qB, (fun j hj => (Nat.lt_succ_iff_lt_or_eq.1 hj).elim (ha j) (fun e9 => by subst e9; first | exact ⟨c7 (by assumption), fun h0 => by subst h0; assumption⟩ | exact ⟨j6 zo, fun h0 => by omega⟩))⟩⟩ [] (P := ((.string (strOfNums l) : Value) = .string (strOfNums l)) ∧ (y4 k)) zk ⟨rfl, uK⟩ (show ka0 l - (k + 1) < ka0 l - k from uJ)
          · refine zr (.no :: .call [] (bV false) [] 0 [] none :: .no :: .no :: .no :: .b false :: .no :: .no :: .b true :: qA 4 (.b false :: qA 7 [])) [0, 3, 40] [] ((Fun 53 [.c (.d (D.lit (.int .u8 (ka2 l k 0))))] (kC []) 0 (bV false) (kC []) 0) ∧ (¬ ((k : Int) = 0)) ∧ (((ka2 l k 0) < 48)) ∧ (¬ ((ka2 l k 0) ≠ 45))) [(0, kL (D.lit (.string (strOfNums l)))), (3, uV k), (40, bV false)] [] 0 ⟨(by have h0 := (vQ (ka2 l k 0) uR); rw [hx3] at h0; exact h0), zo, zo, zo⟩ ?_
            refine uF ?_
            refine bQ [.no, .w, .no] (uU ((k : Int) + 1)) [(0, kL (D.lit (.string (strOfNums l)))), (3, iV (↑k + 1))] [] 0 ⟨by omega, by omega⟩ ?_
            exact kY ⟨((k + 1) : Nat), ⟨qB, (fun j hj => (Nat.lt_succ_iff_lt_or_eq.1 hj).elim (ha j) (fun e9 => by subst e9; first | exact ⟨c7 (by assumption), fun h0 => by subst h0; assumption⟩ | exact ⟨j6 zo, fun h0 => by omega⟩))⟩⟩ [] (P := ((.string (strOfNums l) : Value) = .string (strOfNums l)) ∧ (y4 k)) zk ⟨rfl, uK⟩ (show ka0 l - (k + 1) < ka0 l - k from uJ)
        · by_cases hx8 : ((57 : Int) < (ka2 l k 0))
          · by_cases hx9 : ((ka2 l k 0) ≠ 95)
            · refine zr [.no, .call [] (bV false) [] 0 [] none, .no, .no, .no, .b false, .no, .no, .b false, .no, .no, .b true, .no, .no, .no, .b true, .no, .no, .no, .b true, .no, .no, .no, .b true, .no, .no, .no] [0, 3, 40] [] ((Fun 53 [.c (.d (D.lit (.int .u8 (ka2 l k 0))))] (kC []) 0 (bV false) (kC []) 0) ∧ (¬ ((k : Int) = 0)) ∧ (¬ ((ka2 l k 0) < 48)) ∧ (((57 : Int) < (ka2 l k 0))) ∧ (((ka2 l k 0) ≠ 45)) ∧ (((ka2 l k 0) ≠ 46)) ∧ (((ka2 l k 0) ≠ 95))) [(0, kL (D.lit (.string (strOfNums l)))), (3, uV k), (40, bV true)] [] 0 ⟨(by have h0 := (vQ (ka2 l k 0) uR); rw [hx3] at h0; exact h0), zo, zo, zo, zo, zo, zo⟩ ?_
              refine zt ?_
              refine kI [.no] True [(2, bV false)] [] 0 trivial ?_
              refine AW.ret ?_
              exact kA (.inr rfl) [] (P := ((qK l) = false)) zk (by first | exact u7 zo | exact u9 (k := k) zo (j7 (by assumption) zo) | (obtain rfl : k = 0 := zo; exact yA (by assumption)) | exact u6 zo ((ha 0 zo).2 rfl) (fun j hj => (ha j zo).1))
            · refine zr [.no, .call [] (bV false) [] 0 [] none, .no, .no, .no, .b false, .no, .no, .b false, .no, .no, .b true, .no, .no, .no, .b true, .no, .no, .no, .b true, .no, .no, .no, .b false, .no, .no, .no] [0, 3, 40] [] ((Fun 53 [.c (.d (D.lit (.int .u8 (ka2 l k 0))))] (kC []) 0 (bV false) (kC []) 0) ∧ (¬ ((k : Int) = 0)) ∧ (¬ ((ka2 l k 0) < 48)) ∧ (((57 : Int) < (ka2 l k 0))) ∧ (((ka2 l k 0) ≠ 45)) ∧ (((ka2 l k 0) ≠ 46)) ∧ (¬ ((ka2 l k 0) ≠ 95))) [(0, kL (D.lit (.string (strOfNums l)))), (3, uV k), (40, bV false)] [] 0 ⟨(by have h0 := (vQ (ka2 l k 0) uR); rw [hx3] at h0; exact h0), zo, zo, zo, zo, zo, zo⟩ ?_
              refine uF ?_
              refine bQ [.no, .w, .no] (uU ((k : Int) + 1)) [(0, kL (D.lit (.string (strOfNums l)))), (3, iV (↑k + 1))] [] 0 ⟨by omega, by omega⟩ ?_
              exact kY ⟨((k + 1) : Nat), ⟨qB, (fun j hj => (Nat.lt_succ_iff_lt_or_eq.1 hj).elim (ha j) (fun e9 => by subst e9; first | exact ⟨c7 (by assumption), fun h0 => by subst h0; assumption⟩ | exact ⟨j6 zo, fun h0 => by omega⟩))⟩⟩ [] (P := ((.string (strOfNums l) : Value) = .string (strOfNums l)) ∧ (y4 k)) zk ⟨rfl, uK⟩ (show ka0 l - (k + 1) < ka0 l - k from uJ)
          · refine zr (.no :: .call [] (bV false) [] 0 [] none :: .no :: .no :: .no :: .b false :: .no :: .no :: .b false :: .no :: .no :: .b false :: qA 9 []) [0, 3, 40] [] ((Fun 53 [.c (.d (D.lit (.int .u8 (ka2 l k 0))))] (kC []) 0 (bV false) (kC []) 0) ∧ (¬ ((k : Int) = 0)) ∧ (¬ ((ka2 l k 0) < 48)) ∧ (¬ ((57 : Int) < (ka2 l k 0)))) [(0, kL (D.lit (.string (strOfNums l)))), (3, uV k), (40, bV false)] [] 0 ⟨(by have h0 := (vQ (ka2 l k 0) uR); rw [hx3] at h0; exact h0), zo, zo, zo⟩ ?_
            refine uF ?_
            refine bQ [.no, .w, .no] (uU ((k : Int) + 1)) [(0, kL (D.lit (.string (strOfNums l)))), (3, iV (↑k + 1))] [] 0 ⟨by omega, by omega⟩ ?_
            exact kY ⟨((k + 1) : Nat), ⟨qB, (fun j hj => (Nat.lt_succ_iff_lt_or_eq.1 hj).elim (ha j) (fun e9 => by subst e9; first | exact ⟨c7 (by assumption), fun h0 => by subst h0; assumption⟩ | exact ⟨j6 zo, fun h0 => by omega⟩))⟩⟩ [] (P := ((.string (strOfNums l) : Value) = .string (strOfNums l)) ∧ (y4 k)) zk ⟨rfl, uK⟩ (show ka0 l - (k + 1) < ka0 l - k from uJ)
  · refine zr [.no, .no, .i (ka0 l : Int), .b false] [0, 3, 8] [] (((ByteArray.size (strOfNums l) : Int) = ((ka0 l : Int) : Int)) ∧ (¬ ((k : Int) < (ka0 l : Int)))) [(0, kL (D.lit (.string (strOfNums l)))), (3, uV k), (8, bV false)] [] 0 ⟨(by rw [strOfNums_size]), zo⟩ ?_
    refine zf ?_
    refine AW.exit ?_
    by_cases hx10 : ((ka0 l) = 0)
    · refine zr [.no, .b false, .no, .no, .no] [2] [] ((!(ByteArray.toList (strOfNums l) == ByteArray.toList (ByteArray.mk #[]))) = false) [(2, bV false)] [] 0 (by rw [show (ByteArray.toList (strOfNums l) == ByteArray.toList (ByteArray.mk #[])) = true from (x7 (by omega))]; rfl) ?_
      refine AW.ret ?_
      exact kA (.inr rfl) [] (P := ((qK l) = false)) zk (by first | exact u7 zo | exact u9 (k := k) zo (j7 (by assumption) zo) | (obtain rfl : k = 0 := zo; exact yA (by assumption)) | exact u6 zo ((ha 0 zo).2 rfl) (fun j hj => (ha j zo).1))
    · by_cases hx11 : ((((ka0 l) : Nat) : Int) ≤ 64)
      · refine zr [.no, .b true, .no, .no, .i (ka0 l : Int), .b true, .no, .no] [2] [] (((!(ByteArray.toList (strOfNums l) == ByteArray.toList (ByteArray.mk #[]))) = true) ∧ ((ByteArray.size (strOfNums l) : Int) = ((ka0 l : Int) : Int)) ∧ (((ka0 l : Int) ≤ 64))) [(2, bV true)] [] 0 ⟨(by rw [show (ByteArray.toList (strOfNums l) == ByteArray.toList (ByteArray.mk #[])) = false from (cM (by omega))]; rfl), (by rw [strOfNums_size]), zo⟩ ?_
        refine AW.ret ?_
        exact kA (.inr rfl) [] (P := ((qK l) = true)) zk (by first | exact u7 zo | exact u9 (k := k) zo (j7 (by assumption) zo) | (obtain rfl : k = 0 := zo; exact yA (by assumption)) | exact u6 zo ((ha 0 zo).2 rfl) (fun j hj => (ha j zo).1))
      · refine zr [.no, .b true, .no, .no, .i (ka0 l : Int), .b false, .no, .no] [2] [] (((!(ByteArray.toList (strOfNums l) == ByteArray.toList (ByteArray.mk #[]))) = true) ∧ ((ByteArray.size (strOfNums l) : Int) = ((ka0 l : Int) : Int)) ∧ (¬ ((ka0 l : Int) ≤ 64))) [(2, bV false)] [] 0 ⟨(by rw [show (ByteArray.toList (strOfNums l) == ByteArray.toList (ByteArray.mk #[])) = false from (cM (by omega))]; rfl), (by rw [strOfNums_size]), zo⟩ ?_
        refine AW.ret ?_
        exact kA (.inr rfl) [] (P := ((qK l) = false)) zk (by first | exact u7 zo | exact u9 (k := k) zo (j7 (by assumption) zo) | (obtain rfl : k = 0 := zo; exact yA (by assumption)) | exact u6 zo ((ha 0 zo).2 rfl) (fun j hj => (ha j zo).1))
theorem qO {p : Prop} (h : p := by first | omega | (simp only [kK, kH, uL, ka4, kb5, kb6, kb8, kc0, kc4, ka8, kc8, List.length_reverse, Nat.mul_one] <;> omega) | rfl) : p := h
theorem jG (l : List Int) (n : Nat) (hn : ka0 l = n) (h1 : n ≤ 1000000) : Fun 33 [.c (.d (D.sl (dI .u64 l) n))] (kC []) 0 (kL (D.lit (.bool (v3 l)))) (kC []) 0 := by
  refine Fun.mk (n := 17) Try.func33 rfl rfl (ka3 rfl) ?_
  intro cx hcx
  refine kI [.no] True [(0, sV .u64 l n)] [] 0 trivial ?_
  refine yT [.no] True [(0, sV .u64 l n), (3, kL (D.lit (.int .u64 0)))] trivial ?_
  refine AW.seq ?_
  refine yT [.no, .no, .no] True [(3, kL (D.lit (.int .u64 0))), (6, sV .u64 l n), (7, uV n), (8, iV 0)] trivial ?_
  refine AW.block ?_
  refine kV 0 hcx (fun (x : {x : Nat × Int // match x with | (k, y) => (k ≤ n) ∧ (y = if k = 0 then 0 else ka2 l (k - 1) 0) ∧ (0 ≤ y) ∧ (∀ j, j < k → gN l j = true)}) => match x with | ⟨(k, y), _⟩ => (⟨[(3, kL (D.lit (.int .u64 y))), (6, sV .u64 l n), (7, uV n), (8, uV k)], [], 0⟩ : ES)) (fun x => match x with | ⟨(k, y), _⟩ => n - k) ⟨((0 : Nat), (0 : Int)), ⟨qB, rfl, zo, (fun j hj => absurd hj (kd1 j))⟩⟩ [] (P := (k8 0) ∧ (kR (dI .u64 l)) ∧ (kT n) ∧ (k8 (n : Int)) ∧ (k8 0)) zk ⟨rfl, rfl, rfl, rfl, rfl⟩ ?_
  rintro ⟨⟨k, y⟩, hinv0⟩
  obtain ⟨hk, hl, hy0, ha⟩ : (k ≤ n) ∧ (y = if k = 0 then 0 else ka2 l (k - 1) 0) ∧ (0 ≤ y) ∧ (∀ j, j < k → gN l j = true) := hinv0
  refine qW (l := [(3, kL (D.lit (.int .u64 y))), (6, sV .u64 l n), (7, uV n), (8, uV k)]) (g := []) (nx := 0) rfl rfl rfl ?_
  by_cases hx1 : (((k : Nat) : Int) < ((n : Nat) : Int))
  · refine zr [.b true] [3, 6, 7, 8, 9] [] (((k : Int) < (n : Int))) [(3, kL (D.lit (.int .u64 y))), (6, sV .u64 l n), (7, uV n), (8, uV k), (9, bV true)] [] 0 zo ?_
    refine AW.seq ?_
    refine cB ?_
    refine AW.seq ?_
    refine AW.block ?_
    refine kI [.n k, .d (D.lit (.int .u64 (ka2 l k 0))), .no] ((k8 (k : Int)) ∧ (k < n) ∧ ((kb2 k (dI .u64 l))[0]? = some (D.lit (.int .u64 (ka2 l k 0))))) [(3, kL (D.lit (.int .u64 y))), (5, kL (D.lit (.int .u64 (ka2 l k 0)))), (6, sV .u64 l n), (7, uV n), (8, uV k)] [] 0 ⟨rfl, zo, (qV _ _ _ qO)⟩ ?_
    refine AW.seq ?_
    by_cases hx2 : ((ka2 l k 0) ≤ y)
    · refine zr [.no, .no, .b true] [5, 6, 7, 8, 14] [] (((ka2 l k 0) ≤ y)) [(5, kL (D.lit (.int .u64 (ka2 l k 0)))), (6, sV .u64 l n), (7, uV n), (8, uV k), (14, bV true)] [] 0 zo ?_
      refine zt ?_
      refine kI [.no] True [(2, bV false)] [] 0 trivial ?_
      refine AW.ret ?_
      exact kA (.inr rfl) [] (P := ((v3 l) = false)) zk (by first | exact oB (fun i hi => ha i zo) | exact tR (k := k) zo (k35 hl zo))
    · refine zr [.no, .no, .b false] [5, 6, 7, 8, 14] [] (¬ ((ka2 l k 0) ≤ y)) [(5, kL (D.lit (.int .u64 (ka2 l k 0)))), (6, sV .u64 l n), (7, uV n), (8, uV k), (14, bV false)] [] 0 zo ?_
      refine uF ?_
      refine bQ [.no, .no] True [(3, kL (D.lit (.int .u64 (ka2 l k 0)))), (6, sV .u64 l n), (7, uV n), (8, uV k)] [] 0 trivial ?_
      refine cG [.w, .no] (uU ((k : Int) + 1)) [(3, kL (D.lit (.int .u64 (ka2 l k 0)))), (6, sV .u64 l n), (7, uV n), (8, iV (↑k + 1))] ⟨by omega, by omega⟩ ?_
      exact kY ⟨(((k + 1) : Nat), ((ka2 l k 0) : Int)), ⟨qB, (if_neg (Nat.succ_ne_zero _)).symm, zo, (fun j hj => (Nat.lt_succ_iff_lt_or_eq.1 hj).elim (ha j) (fun e9 => by subst e9; exact k3z hl hy0 zo))⟩⟩ [] (P := (k8 (ka2 l k 0)) ∧ (kR (dI .u64 l)) ∧ (kT n) ∧ (k8 (n : Int)) ∧ (y4 k)) zk ⟨rfl, rfl, rfl, rfl, uK⟩ (show n - (k + 1) < n - k from uJ)
  · refine zr [.b false] [3, 6, 7, 8, 9] [] (¬ ((k : Int) < (n : Int))) [(3, kL (D.lit (.int .u64 y))), (6, sV .u64 l n), (7, uV n), (8, uV k), (9, bV false)] [] 0 zo ?_
    refine AW.seq ?_
    refine zf ?_
    refine AW.exit ?_
    refine kI [.no] True [(2, bV true)] [] 0 trivial ?_
    refine AW.ret ?_
    exact kA (.inr rfl) [] (P := ((v3 l) = true)) zk (by first | exact oB (fun i hi => ha i zo) | exact tR (k := k) zo (k35 hl zo))
theorem lR (l : List Int) (n : Nat) (hn : ka0 l = n) (h1 : n ≤ 1000000) : Fun 43 [.c (.d (D.sl (dI .u64 l) n))] (kC []) 0 (kL (D.lit (.bool (v3 l)))) (kC []) 0 := by
  refine Fun.mk (n := 31) Try.func43 rfl rfl (ka3 rfl) ?_
  intro cx hcx
  refine kI [.no] True [(0, sV .u64 l n)] [] 0 trivial ?_
  refine AW.seq ?_
  refine yT [.no] True [(0, sV .u64 l n), (3, iV 0)] trivial ?_
  refine AW.block ?_
  refine kV 0 hcx (fun (x : {x : Nat // match x with | k => (k ≤ n) ∧ (∀ j, j < k → gN l j = true)}) => match x with | ⟨k, _⟩ => (⟨[(0, sV .u64 l n), (3, uV k)], [], 0⟩ : ES)) (fun x => match x with | ⟨k, _⟩ => n - k) ⟨(0 : Nat), ⟨qB, (fun j hj => absurd hj (kd1 j))⟩⟩ [] (P := (kR (dI .u64 l)) ∧ (kT n) ∧ (k8 0)) zk ⟨rfl, rfl, rfl⟩ ?_
  rintro ⟨k, hinv0⟩
  obtain ⟨hk, ha⟩ : (k ≤ n) ∧ (∀ j, j < k → gN l j = true) := hinv0
  refine qW (l := [(0, sV .u64 l n), (3, uV k)]) (g := []) (nx := 0) rfl rfl rfl ?_
  refine AW.seq ?_
  by_cases hx1 : (((k : Nat) : Int) < ((n : Nat) : Int))
  · refine zr [.no, .no, .no, .b true] [0, 3, 7] [] (((k : Int) < (n : Int))) [(0, sV .u64 l n), (3, uV k), (7, bV true)] [] 0 zo ?_
    refine cB ?_
    refine AW.seq ?_
    refine AW.block ?_
    by_cases hx2 : ((ka2 l k 0) < 1)
    · refine zr [.no, .no, .n k, .d (D.lit (.int .u64 (ka2 l k 0))), .b true, .no, .no] [0, 3, 30] [] ((k8 (k : Int)) ∧ (k < n) ∧ ((kb2 k (dI .u64 l))[0]? = some (D.lit (.int .u64 (ka2 l k 0)))) ∧ (((ka2 l k 0) < 1))) [(0, sV .u64 l n), (3, uV k), (30, bV true)] [] 0 ⟨rfl, zo, (qV _ _ _ qO), zo⟩ ?_
      refine zt ?_
      refine kI [.no] True [(2, bV false)] [] 0 trivial ?_
      refine AW.ret ?_
      exact kA (.inr rfl) [] (P := ((v3 l) = false)) zk (by first | exact oB (fun i hi => ha i zo) | exact tR (k := k) zo (decide_eq_false zo))
    · by_cases hx3 : ((0 : Int) < ((k : Nat) : Int))
      · by_cases hx4 : ((ka2 l k 0) ≤ (ka2 l (k - 1) 0))
        · refine zr [.no, .no, .n k, .d (D.lit (.int .u64 (ka2 l k 0))), .b false, .no, .no, .b true, .no, .no, .no, .n k, .d (D.lit (.int .u64 (ka2 l k 0))), .no, .no, .w, .n (k - 1), .d (D.lit (.int .u64 (ka2 l (k - 1) 0))), .b true, .no, .no] [0, 3, 30] [] ((k8 (k : Int)) ∧ (k < n) ∧ ((kb2 k (dI .u64 l))[0]? = some (D.lit (.int .u64 (ka2 l k 0)))) ∧ (¬ ((ka2 l k 0) < 1)) ∧ (((0 : Int) < (k : Int))) ∧ (k8 (k : Int)) ∧ (k < n) ∧ ((kb2 k (dI .u64 l))[0]? = some (D.lit (.int .u64 (ka2 l k 0)))) ∧ (uU ((k : Int) - 1)) ∧ ((((k : Int) - 1) : Int) = (((k - 1) : Nat) : Int)) ∧ ((k - 1) < n) ∧ ((kb2 (k - 1) (dI .u64 l))[0]? = some (D.lit (.int .u64 (ka2 l (k - 1) 0)))) ∧ (((ka2 l k 0) ≤ (ka2 l (k - 1) 0)))) [(0, sV .u64 l n), (3, uV k), (30, bV true)] [] 0 ⟨rfl, zo, (qV _ _ _ qO), zo, zo, rfl, zo, (qV _ _ _ qO), ⟨by omega, by omega⟩, (by first | rfl | omega), zo, (qV _ _ _ qO), zo⟩ ?_
          refine zt ?_
          refine kI [.no] True [(2, bV false)] [] 0 trivial ?_
          refine AW.ret ?_
          exact kA (.inr rfl) [] (P := ((v3 l) = false)) zk (by first | exact oB (fun i hi => ha i zo) | exact tR (k := k) zo (decide_eq_false zo))
        · refine zr [.no, .no, .n k, .d (D.lit (.int .u64 (ka2 l k 0))), .b false, .no, .no, .b true, .no, .no, .no, .n k, .d (D.lit (.int .u64 (ka2 l k 0))), .no, .no, .w, .n (k - 1), .d (D.lit (.int .u64 (ka2 l (k - 1) 0))), .b false, .no, .no] [0, 3, 30] [] ((k8 (k : Int)) ∧ (k < n) ∧ ((kb2 k (dI .u64 l))[0]? = some (D.lit (.int .u64 (ka2 l k 0)))) ∧ (¬ ((ka2 l k 0) < 1)) ∧ (((0 : Int) < (k : Int))) ∧ (k8 (k : Int)) ∧ (k < n) ∧ ((kb2 k (dI .u64 l))[0]? = some (D.lit (.int .u64 (ka2 l k 0)))) ∧ (uU ((k : Int) - 1)) ∧ ((((k : Int) - 1) : Int) = (((k - 1) : Nat) : Int)) ∧ ((k - 1) < n) ∧ ((kb2 (k - 1) (dI .u64 l))[0]? = some (D.lit (.int .u64 (ka2 l (k - 1) 0)))) ∧ (¬ ((ka2 l k 0) ≤ (ka2 l (k - 1) 0)))) [(0, sV .u64 l n), (3, uV k), (30, bV false)] [] 0 ⟨rfl, zo, (qV _ _ _ qO), zo, zo, rfl, zo, (qV _ _ _ qO), ⟨by omega, by omega⟩, (by first | rfl | omega), zo, (qV _ _ _ qO), zo⟩ ?_
          refine uF ?_
          refine bQ [.no, .w, .no] (uU ((k : Int) + 1)) [(0, sV .u64 l n), (3, iV (↑k + 1))] [] 0 ⟨by omega, by omega⟩ ?_
          exact kY ⟨((k + 1) : Nat), ⟨qB, (fun j hj => (Nat.lt_succ_iff_lt_or_eq.1 hj).elim (ha j) (fun e9 => by subst e9; exact decide_eq_true zo))⟩⟩ [] (P := (kR (dI .u64 l)) ∧ (kT n) ∧ (y4 k)) zk ⟨rfl, rfl, uK⟩ (show n - (k + 1) < n - k from uJ)
      · refine zr [.no, .no, .n k, .d (D.lit (.int .u64 (ka2 l k 0))), .b false, .no, .no, .b false, .no, .no, .no] [0, 3, 30] [] ((k8 (k : Int)) ∧ (k < n) ∧ ((kb2 k (dI .u64 l))[0]? = some (D.lit (.int .u64 (ka2 l k 0)))) ∧ (¬ ((ka2 l k 0) < 1)) ∧ (¬ ((0 : Int) < (k : Int)))) [(0, sV .u64 l n), (3, uV k), (30, bV false)] [] 0 ⟨rfl, zo, (qV _ _ _ qO), zo, zo⟩ ?_
        refine uF ?_
        refine bQ [.no, .w, .no] (uU ((k : Int) + 1)) [(0, sV .u64 l n), (3, iV (↑k + 1))] [] 0 ⟨by omega, by omega⟩ ?_
        exact kY ⟨((k + 1) : Nat), ⟨qB, (fun j hj => (Nat.lt_succ_iff_lt_or_eq.1 hj).elim (ha j) (fun e9 => by subst e9; exact decide_eq_true zo))⟩⟩ [] (P := (kR (dI .u64 l)) ∧ (kT n) ∧ (y4 k)) zk ⟨rfl, rfl, uK⟩ (show n - (k + 1) < n - k from uJ)
  · refine zr [.no, .no, .no, .b false] [0, 3, 7] [] (¬ ((k : Int) < (n : Int))) [(0, sV .u64 l n), (3, uV k), (7, bV false)] [] 0 zo ?_
    refine zf ?_
    refine AW.exit ?_
    refine kI [.no] True [(2, bV true)] [] 0 trivial ?_
    refine AW.ret ?_
    exact kA (.inr rfl) [] (P := ((v3 l) = true)) zk (by first | exact oB (fun i hi => ha i zo) | exact tR (k := k) zo (decide_eq_false zo))
theorem bN (l : List Int) (n : Nat) (z : Int) (hn : ka0 l = n) (h1 : n ≤ 1000000) : Fun 19 [.c (.d (D.sl (dI .u64 l) n)), .c (.d (D.lit (.int .u64 z)))] (kC []) 0 (kL (D.lit (.bool (yZ l z)))) (kC []) 0 := by
  refine Fun.mk (n := 18) Try.func19 rfl rfl (ka3 rfl) ?_
  intro cx hcx
  refine kI [.no] True [(0, sV .u64 l n), (1, kL (D.lit (.int .u64 z)))] [] 0 trivial ?_
  refine AW.seq ?_
  refine yT [.no] True [(0, sV .u64 l n), (1, kL (D.lit (.int .u64 z))), (5, iV 0)] trivial ?_
  refine AW.block ?_
  refine kV 0 hcx (fun (x : {x : Nat // match x with | k => (k ≤ n) ∧ (∀ j, j < k → ¬ ka2 l j 0 = z)}) => match x with | ⟨k, _⟩ => (⟨[(0, sV .u64 l n), (1, kL (D.lit (.int .u64 z))), (5, uV k)], [], 0⟩ : ES)) (fun x => match x with | ⟨k, _⟩ => n - k) ⟨(0 : Nat), ⟨qB, (fun j hj => absurd hj (kd1 j))⟩⟩ [] (P := (kR (dI .u64 l)) ∧ (kT n) ∧ (k8 z) ∧ (k8 0)) zk ⟨rfl, rfl, rfl, rfl⟩ ?_
  rintro ⟨k, hinv0⟩
  obtain ⟨hk, ha⟩ : (k ≤ n) ∧ (∀ j, j < k → ¬ ka2 l j 0 = z) := hinv0
  refine qW (l := [(0, sV .u64 l n), (1, kL (D.lit (.int .u64 z))), (5, uV k)]) (g := []) (nx := 0) rfl rfl rfl ?_
  refine AW.seq ?_
  by_cases hx1 : (((k : Nat) : Int) < ((n : Nat) : Int))
  · refine zr [.no, .no, .no, .b true] [0, 1, 5, 9] [] (((k : Int) < (n : Int))) [(0, sV .u64 l n), (1, kL (D.lit (.int .u64 z))), (5, uV k), (9, bV true)] [] 0 zo ?_
    refine cB ?_
    refine AW.seq ?_
    refine AW.block ?_
    by_cases hx2 : ((ka2 l k 0) = z)
    · refine zr [.no, .no, .n k, .d (D.lit (.int .u64 (ka2 l k 0))), .no, .b true] [0, 1, 5, 17] [] ((k8 (k : Int)) ∧ (k < n) ∧ ((kb2 k (dI .u64 l))[0]? = some (D.lit (.int .u64 (ka2 l k 0)))) ∧ (((ka2 l k 0) = z))) [(0, sV .u64 l n), (1, kL (D.lit (.int .u64 z))), (5, uV k), (17, bV true)] [] 0 ⟨rfl, zo, (qV _ _ _ qO), zo⟩ ?_
      refine zt ?_
      refine kI [.no] True [(4, bV true)] [] 0 trivial ?_
      refine AW.ret ?_
      exact kA (.inr rfl) [] (P := ((yZ l z) = true)) zk (by first | exact wR (k := k) zo zo | exact k0f (fun j hj => ha j zo))
    · refine zr [.no, .no, .n k, .d (D.lit (.int .u64 (ka2 l k 0))), .no, .b false] [0, 1, 5, 17] [] ((k8 (k : Int)) ∧ (k < n) ∧ ((kb2 k (dI .u64 l))[0]? = some (D.lit (.int .u64 (ka2 l k 0)))) ∧ (¬ ((ka2 l k 0) = z))) [(0, sV .u64 l n), (1, kL (D.lit (.int .u64 z))), (5, uV k), (17, bV false)] [] 0 ⟨rfl, zo, (qV _ _ _ qO), zo⟩ ?_
      refine uF ?_
      refine bQ [.no, .w, .no] (uU ((k : Int) + 1)) [(0, sV .u64 l n), (1, kL (D.lit (.int .u64 z))), (5, iV (↑k + 1))] [] 0 ⟨by omega, by omega⟩ ?_
      exact kY ⟨((k + 1) : Nat), ⟨qB, (fun j hj => (Nat.lt_succ_iff_lt_or_eq.1 hj).elim (ha j) (fun e9 => by subst e9; omega))⟩⟩ [] (P := (kR (dI .u64 l)) ∧ (kT n) ∧ (k8 z) ∧ (y4 k)) zk ⟨rfl, rfl, rfl, uK⟩ (show n - (k + 1) < n - k from uJ)
  · refine zr [.no, .no, .no, .b false] [0, 1, 5, 9] [] (¬ ((k : Int) < (n : Int))) [(0, sV .u64 l n), (1, kL (D.lit (.int .u64 z))), (5, uV k), (9, bV false)] [] 0 zo ?_
    refine zf ?_
    refine AW.exit ?_
    refine kI [.no] True [(4, bV false)] [] 0 trivial ?_
    refine AW.ret ?_
    exact kA (.inr rfl) [] (P := ((yZ l z) = false)) zk (by first | exact wR (k := k) zo zo | exact k0f (fun j hj => ha j zo))
theorem z2 (l : List Int) (n : Nat) (z : Int) (hn : ka0 l = n) (h1 : n ≤ 1000000) : Fun 52 [.c (.d (D.sl (dI .u64 l) n)), .c (.d (D.lit (.int .u64 z)))] (kC []) 0 (iV (oF l z n)) (kC []) 0 := by
  refine Fun.mk (n := 19) Try.func52 rfl rfl (ka3 rfl) ?_
  intro cx hcx
  refine kI [.no] True [(0, sV .u64 l n), (1, kL (D.lit (.int .u64 z)))] [] 0 trivial ?_
  refine AW.seq ?_
  refine yT [.no, .no, .no] True [(0, sV .u64 l n), (1, kL (D.lit (.int .u64 z))), (7, uV n), (8, iV 0)] trivial ?_
  refine AW.block ?_
  refine kV 0 hcx (fun (x : {x : Nat // match x with | k => (k ≤ n) ∧ (∀ j, j < k → ¬ ka2 l j 0 = z)}) => match x with | ⟨k, _⟩ => (⟨[(0, sV .u64 l n), (1, kL (D.lit (.int .u64 z))), (7, uV n), (8, uV k)], [], 0⟩ : ES)) (fun x => match x with | ⟨k, _⟩ => n - k) ⟨(0 : Nat), ⟨qB, (fun j hj => absurd hj (kd1 j))⟩⟩ [] (P := (kR (dI .u64 l)) ∧ (kT n) ∧ (k8 z) ∧ (k8 (n : Int)) ∧ (k8 0)) zk ⟨rfl, rfl, rfl, rfl, rfl⟩ ?_
  rintro ⟨k, hinv0⟩
  obtain ⟨hk, ha⟩ : (k ≤ n) ∧ (∀ j, j < k → ¬ ka2 l j 0 = z) := hinv0
  refine qW (l := [(0, sV .u64 l n), (1, kL (D.lit (.int .u64 z))), (7, uV n), (8, uV k)]) (g := []) (nx := 0) rfl rfl rfl ?_
  by_cases hx1 : (((k : Nat) : Int) < ((n : Nat) : Int))
  · refine zr [.b true] [0, 1, 7, 8, 9] [] (((k : Int) < (n : Int))) [(0, sV .u64 l n), (1, kL (D.lit (.int .u64 z))), (7, uV n), (8, uV k), (9, bV true)] [] 0 zo ?_
    refine AW.seq ?_
    refine cB ?_
    refine AW.seq ?_
    refine AW.block ?_
    refine kI [.no, .no] True [(0, sV .u64 l n), (1, kL (D.lit (.int .u64 z))), (5, uV k), (7, uV n), (8, uV k)] [] 0 trivial ?_
    by_cases hx2 : (z = (ka2 l k 0))
    · refine zr [.no, .no, .no, .n k, .d (D.lit (.int .u64 (ka2 l k 0))), .b true] [0, 1, 5, 7, 8, 16] [] ((k8 (k : Int)) ∧ (k < n) ∧ ((kb2 k (dI .u64 l))[0]? = some (D.lit (.int .u64 (ka2 l k 0)))) ∧ ((z = (ka2 l k 0)))) [(0, sV .u64 l n), (1, kL (D.lit (.int .u64 z))), (5, uV k), (7, uV n), (8, uV k), (16, bV true)] [] 0 ⟨rfl, zo, (qV _ _ _ qO), zo⟩ ?_
      refine zt ?_
      refine kI [.no, .no] True [(4, uV k)] [] 0 trivial ?_
      refine AW.ret ?_
      exact kA (.inr rfl) [] (P := (((oF l z n) : Int) = (k : Int))) zk (by first | rfl | exact (mF zo ha zo).symm | exact mF zo ha zo | exact (mE zo ha).symm | exact mE zo ha | omega)
    · refine zr [.no, .no, .no, .n k, .d (D.lit (.int .u64 (ka2 l k 0))), .b false] [0, 1, 5, 7, 8, 16] [] ((k8 (k : Int)) ∧ (k < n) ∧ ((kb2 k (dI .u64 l))[0]? = some (D.lit (.int .u64 (ka2 l k 0)))) ∧ (¬ (z = (ka2 l k 0)))) [(0, sV .u64 l n), (1, kL (D.lit (.int .u64 z))), (5, uV k), (7, uV n), (8, uV k), (16, bV false)] [] 0 ⟨rfl, zo, (qV _ _ _ qO), zo⟩ ?_
      refine uF ?_
      refine bQ [.w, .no] (uU ((k : Int) + 1)) [(0, sV .u64 l n), (1, kL (D.lit (.int .u64 z))), (7, uV n), (8, iV (↑k + 1))] [] 0 ⟨by omega, by omega⟩ ?_
      exact kY ⟨((k + 1) : Nat), ⟨qB, (fun j hj => (Nat.lt_succ_iff_lt_or_eq.1 hj).elim (ha j) (fun e9 => by subst e9; omega))⟩⟩ [] (P := (kR (dI .u64 l)) ∧ (kT n) ∧ (k8 z) ∧ (k8 (n : Int)) ∧ (y4 k)) zk ⟨rfl, rfl, rfl, rfl, uK⟩ (show n - (k + 1) < n - k from uJ)
  · refine zr [.b false] [0, 1, 7, 8, 9] [] (¬ ((k : Int) < (n : Int))) [(0, sV .u64 l n), (1, kL (D.lit (.int .u64 z))), (7, uV n), (8, uV k), (9, bV false)] [] 0 zo ?_
    refine AW.seq ?_
    refine zf ?_
    refine AW.exit ?_
    refine kI [.no] True [(4, iV (-1))] [] 0 trivial ?_
    refine AW.ret ?_
    exact kA (.inr rfl) [] (P := (((oF l z n) : Int) = (-1))) zk (by first | rfl | exact (mF zo ha zo).symm | exact mF zo ha zo | exact (mE zo ha).symm | exact mE zo ha | omega)
theorem mX (l : List Int) (n : Nat) (z : Int) (hn : ka0 l = n) (h1 : n ≤ 1000000) : Fun 40 [.c (.d (D.sl (dI .u64 l) n)), .c (.d (D.lit (.int .u64 z)))] (kC []) 0 (kL (D.lit (.bool (yZ l z)))) (kC []) 0 := by
  refine Fun.mk (n := 9) Try.func40 rfl rfl (ka3 rfl) ?_
  intro cx hcx
  refine kI [.no] True [(0, sV .u64 l n), (1, kL (D.lit (.int .u64 z)))] [] 0 trivial ?_
  by_cases hx1 : ((0 : Int) ≤ (oF l z n))
  · refine zr [.no, .no, .call [] (iV (oF l z n)) [] 0 [] none, .b true, .no] [4] [] ((_) ∧ (((0 : Int) ≤ (oF l z n)))) [(4, bV true)] [] 0 ⟨(z2 l n z zo zo), zo⟩ ?_
    refine AW.ret ?_
    exact kA (.inr rfl) [] (P := ((yZ l z) = true)) zk (by first | exact zG hn zo | exact zH hn zo)
  · refine zr [.no, .no, .call [] (iV (oF l z n)) [] 0 [] none, .b false, .no] [4] [] ((_) ∧ (¬ ((0 : Int) ≤ (oF l z n)))) [(4, bV false)] [] 0 ⟨(z2 l n z zo zo), zo⟩ ?_
    refine AW.ret ?_
    exact kA (.inr rfl) [] (P := ((yZ l z) = false)) zk (by first | exact zG hn zo | exact zH hn zo)
theorem uQ {p : Prop} (h : p := by first | exact k2b (by assumption) (by omega) (by assumption) (by assumption) | exact k3q (by assumption) | exact k3t (by assumption) | exact k3r (by assumption) | exact k3s (by omega)) : p := h
theorem gP (r s : List Int) (n : Nat) (d : Int) (hr : Byt r) (hl : ka0 r ≤ 1000000) (hn : ka0 s = n) (h1 : n ≤ 1000000) : Fun 24 [.agg [.d (D.lit (.string (strOfNums r))), .d (D.sl (dI .u64 s) n), .d (D.lit (.int .u64 d))]] (kC []) 0 (kL (D.lit (.bool (uS r s d)))) (kC []) 0 := by
  refine Fun.mk (n := 30) Try.func24 rfl rfl (ka3 rfl) ?_
  intro cx hcx
  refine kI [.no, .no] True [(1, rV 0 0)] [(0, some (29, .ds [D.lit (.string (strOfNums r)), D.sl (dI .u64 s) n, D.lit (.int .u64 d)]))] 1 trivial ?_
  rcases ka6 (qK r) with hx1 | hx1
  · by_cases hx2 : ((1 : Int) ≤ ((n : Nat) : Int))
    · by_cases hx3 : (((n : Nat) : Int) ≤ 8)
      · rcases ka6 (v3 s) with hx4 | hx4
        · rcases ka6 (yZ s d) with hx5 | hx5
          · refine zr (.no :: .no :: .call [] (bV true) [] 0 [] none :: qA 4 (.b true :: qA 5 (.b true :: qA 4 (.call [] (bV true) [] 0 [] none :: qA 6 [.call [] (bV true) [] 0 [] none, .no, .no])))) [2] [] ((Fun 39 [.c (.d (D.lit (.string (strOfNums r))))] (kC []) 0 (bV true) (kC []) 0) ∧ (((1 : Int) ≤ (n : Int))) ∧ (((n : Int) ≤ 8)) ∧ (Fun 33 [.c (.d (D.sl (dI .u64 s) n))] (kC []) 0 (bV true) (kC []) 0) ∧ (Fun 40 [.c (.d (D.sl (dI .u64 s) n)), .c (.d (D.lit (.int .u64 d)))] (kC []) 0 (bV true) (kC []) 0)) [(2, bV true)] [] 1 ⟨(by have h0 := (bO r (kQ : Byt r) zo); rw [hx1] at h0; exact h0), zo, zo, (by have h0 := (jG s n zo zo); rw [hx4] at h0; exact h0), (by have h0 := (mX s n d zo zo); rw [hx5] at h0; exact h0)⟩ ?_
            refine AW.ret ?_
            exact kA (.inr rfl) [] (P := ((uS r s d) = true)) zk uQ
          · refine zr (.no :: .no :: .call [] (bV true) [] 0 [] none :: qA 4 (.b true :: qA 5 (.b true :: qA 4 (.call [] (bV true) [] 0 [] none :: qA 6 [.call [] (bV false) [] 0 [] none, .no, .no])))) [2] [] ((Fun 39 [.c (.d (D.lit (.string (strOfNums r))))] (kC []) 0 (bV true) (kC []) 0) ∧ (((1 : Int) ≤ (n : Int))) ∧ (((n : Int) ≤ 8)) ∧ (Fun 33 [.c (.d (D.sl (dI .u64 s) n))] (kC []) 0 (bV true) (kC []) 0) ∧ (Fun 40 [.c (.d (D.sl (dI .u64 s) n)), .c (.d (D.lit (.int .u64 d)))] (kC []) 0 (bV false) (kC []) 0)) [(2, bV false)] [] 1 ⟨(by have h0 := (bO r (kQ : Byt r) zo); rw [hx1] at h0; exact h0), zo, zo, (by have h0 := (jG s n zo zo); rw [hx4] at h0; exact h0), (by have h0 := (mX s n d zo zo); rw [hx5] at h0; exact h0)⟩ ?_
            refine AW.ret ?_
            exact kA (.inr rfl) [] (P := ((uS r s d) = false)) zk uQ
        · refine zr (.no :: .no :: .call [] (bV true) [] 0 [] none :: qA 4 (.b true :: qA 5 (.b true :: qA 4 (.call [] (bV false) [] 0 [] none :: qA 4 [])))) [2] [] ((Fun 39 [.c (.d (D.lit (.string (strOfNums r))))] (kC []) 0 (bV true) (kC []) 0) ∧ (((1 : Int) ≤ (n : Int))) ∧ (((n : Int) ≤ 8)) ∧ (Fun 33 [.c (.d (D.sl (dI .u64 s) n))] (kC []) 0 (bV false) (kC []) 0)) [(2, bV false)] [] 1 ⟨(by have h0 := (bO r (kQ : Byt r) zo); rw [hx1] at h0; exact h0), zo, zo, (by have h0 := (jG s n zo zo); rw [hx4] at h0; exact h0)⟩ ?_
          refine AW.ret ?_
          exact kA (.inr rfl) [] (P := ((uS r s d) = false)) zk uQ
      · refine zr (.no :: .no :: .call [] (bV true) [] 0 [] none :: qA 4 (.b true :: qA 5 (.b false :: qA 6 []))) [2] [] ((Fun 39 [.c (.d (D.lit (.string (strOfNums r))))] (kC []) 0 (bV true) (kC []) 0) ∧ (((1 : Int) ≤ (n : Int))) ∧ (¬ ((n : Int) ≤ 8))) [(2, bV false)] [] 1 ⟨(by have h0 := (bO r (kQ : Byt r) zo); rw [hx1] at h0; exact h0), zo, zo⟩ ?_
        refine AW.ret ?_
        exact kA (.inr rfl) [] (P := ((uS r s d) = false)) zk uQ
    · refine zr (.no :: .no :: .call [] (bV true) [] 0 [] none :: qA 4 (.b false :: qA 8 [])) [2] [] ((Fun 39 [.c (.d (D.lit (.string (strOfNums r))))] (kC []) 0 (bV true) (kC []) 0) ∧ (¬ ((1 : Int) ≤ (n : Int)))) [(2, bV false)] [] 1 ⟨(by have h0 := (bO r (kQ : Byt r) zo); rw [hx1] at h0; exact h0), zo⟩ ?_
      refine AW.ret ?_
      exact kA (.inr rfl) [] (P := ((uS r s d) = false)) zk uQ
  · refine zr (.no :: .no :: .call [] (bV false) [] 0 [] none :: qA 9 []) [2] [] (Fun 39 [.c (.d (D.lit (.string (strOfNums r))))] (kC []) 0 (bV false) (kC []) 0) [(2, bV false)] [] 1 (by have h0 := (bO r (kQ : Byt r) zo); rw [hx1] at h0; exact h0) ?_
    refine AW.ret ?_
    exact kA (.inr rfl) [] (P := ((uS r s d) = false)) zk uQ
theorem b9 (r s : List Int) (n : Nat) (d : Int) (hr : Byt r) (hl : ka0 r ≤ 1000000) (hn : ka0 s = n) (h1 : n ≤ 1000000) : Fun 26 [.agg [.d (D.lit (.string (strOfNums r))), .d (D.sl (dI .u64 s) n), .d (D.lit (.int .u64 d))]] (kC []) 0 (kL (D.lit (.bool (uS r s d)))) (kC []) 0 := by
  refine Fun.mk (n := 30) Try.func26 rfl rfl (ka3 rfl) ?_
  intro cx hcx
  refine kI [.no, .no] True [(1, rV 0 0)] [(0, some (29, .ds [D.lit (.string (strOfNums r)), D.sl (dI .u64 s) n, D.lit (.int .u64 d)]))] 1 trivial ?_
  rcases ka6 (qK r) with hx1 | hx1
  · by_cases hx2 : ((1 : Int) ≤ ((n : Nat) : Int))
    · by_cases hx3 : (((n : Nat) : Int) ≤ 8)
      · rcases ka6 (v3 s) with hx4 | hx4
        · rcases ka6 (yZ s d) with hx5 | hx5
          · refine zr (.no :: .no :: .call [] (bV true) [] 0 [] none :: qA 4 (.b true :: qA 5 (.b true :: qA 4 (.call [] (bV true) [] 0 [] none :: qA 6 [.call [] (bV true) [] 0 [] none, .no, .no])))) [2] [] ((Fun 42 [.c (.d (D.lit (.string (strOfNums r))))] (kC []) 0 (bV true) (kC []) 0) ∧ (((1 : Int) ≤ (n : Int))) ∧ (((n : Int) ≤ 8)) ∧ (Fun 43 [.c (.d (D.sl (dI .u64 s) n))] (kC []) 0 (bV true) (kC []) 0) ∧ (Fun 19 [.c (.d (D.sl (dI .u64 s) n)), .c (.d (D.lit (.int .u64 d)))] (kC []) 0 (bV true) (kC []) 0)) [(2, bV true)] [] 1 ⟨(by have h0 := (v5 r (kQ : Byt r) zo); rw [hx1] at h0; exact h0), zo, zo, (by have h0 := (lR s n zo zo); rw [hx4] at h0; exact h0), (by have h0 := (bN s n d zo zo); rw [hx5] at h0; exact h0)⟩ ?_
            refine AW.ret ?_
            exact kA (.inr rfl) [] (P := ((uS r s d) = true)) zk uQ
          · refine zr (.no :: .no :: .call [] (bV true) [] 0 [] none :: qA 4 (.b true :: qA 5 (.b true :: qA 4 (.call [] (bV true) [] 0 [] none :: qA 6 [.call [] (bV false) [] 0 [] none, .no, .no])))) [2] [] ((Fun 42 [.c (.d (D.lit (.string (strOfNums r))))] (kC []) 0 (bV true) (kC []) 0) ∧ (((1 : Int) ≤ (n : Int))) ∧ (((n : Int) ≤ 8)) ∧ (Fun 43 [.c (.d (D.sl (dI .u64 s) n))] (kC []) 0 (bV true) (kC []) 0) ∧ (Fun 19 [.c (.d (D.sl (dI .u64 s) n)), .c (.d (D.lit (.int .u64 d)))] (kC []) 0 (bV false) (kC []) 0)) [(2, bV false)] [] 1 ⟨(by have h0 := (v5 r (kQ : Byt r) zo); rw [hx1] at h0; exact h0), zo, zo, (by have h0 := (lR s n zo zo); rw [hx4] at h0; exact h0), (by have h0 := (bN s n d zo zo); rw [hx5] at h0; exact h0)⟩ ?_
            refine AW.ret ?_
            exact kA (.inr rfl) [] (P := ((uS r s d) = false)) zk uQ
        · refine zr (.no :: .no :: .call [] (bV true) [] 0 [] none :: qA 4 (.b true :: qA 5 (.b true :: qA 4 (.call [] (bV false) [] 0 [] none :: qA 4 [])))) [2] [] ((Fun 42 [.c (.d (D.lit (.string (strOfNums r))))] (kC []) 0 (bV true) (kC []) 0) ∧ (((1 : Int) ≤ (n : Int))) ∧ (((n : Int) ≤ 8)) ∧ (Fun 43 [.c (.d (D.sl (dI .u64 s) n))] (kC []) 0 (bV false) (kC []) 0)) [(2, bV false)] [] 1 ⟨(by have h0 := (v5 r (kQ : Byt r) zo); rw [hx1] at h0; exact h0), zo, zo, (by have h0 := (lR s n zo zo); rw [hx4] at h0; exact h0)⟩ ?_
          refine AW.ret ?_
          exact kA (.inr rfl) [] (P := ((uS r s d) = false)) zk uQ
      · refine zr (.no :: .no :: .call [] (bV true) [] 0 [] none :: qA 4 (.b true :: qA 5 (.b false :: qA 6 []))) [2] [] ((Fun 42 [.c (.d (D.lit (.string (strOfNums r))))] (kC []) 0 (bV true) (kC []) 0) ∧ (((1 : Int) ≤ (n : Int))) ∧ (¬ ((n : Int) ≤ 8))) [(2, bV false)] [] 1 ⟨(by have h0 := (v5 r (kQ : Byt r) zo); rw [hx1] at h0; exact h0), zo, zo⟩ ?_
        refine AW.ret ?_
        exact kA (.inr rfl) [] (P := ((uS r s d) = false)) zk uQ
    · refine zr (.no :: .no :: .call [] (bV true) [] 0 [] none :: qA 4 (.b false :: qA 8 [])) [2] [] ((Fun 42 [.c (.d (D.lit (.string (strOfNums r))))] (kC []) 0 (bV true) (kC []) 0) ∧ (¬ ((1 : Int) ≤ (n : Int)))) [(2, bV false)] [] 1 ⟨(by have h0 := (v5 r (kQ : Byt r) zo); rw [hx1] at h0; exact h0), zo⟩ ?_
      refine AW.ret ?_
      exact kA (.inr rfl) [] (P := ((uS r s d) = false)) zk uQ
  · refine zr (.no :: .no :: .call [] (bV false) [] 0 [] none :: qA 9 []) [2] [] (Fun 42 [.c (.d (D.lit (.string (strOfNums r))))] (kC []) 0 (bV false) (kC []) 0) [(2, bV false)] [] 1 (by have h0 := (v5 r (kQ : Byt r) zo); rw [hx1] at h0; exact h0) ?_
    refine AW.ret ?_
    exact kA (.inr rfl) [] (P := ((uS r s d) = false)) zk uQ
theorem z4 (a b : List Int) (n m : Nat) (hn : ka0 a = n) (hm : ka0 b = m) (h1 : n ≤ 1000000) (h2 : m ≤ 1000000) : Fun 38 [.c (.d (D.sl (dI .u64 a) n)), .c (.d (D.sl (dI .u64 b) m))] (kC []) 0 (kL (D.lit (.bool (nU a b)))) (kC []) 0 := by
  refine Fun.mk (n := 26) Try.func38 rfl rfl (ka3 rfl) ?_
  intro cx hcx
  refine kI [.no] True [(0, sV .u64 a n), (1, sV .u64 b m)] [] 0 trivial ?_
  refine AW.seq ?_
  by_cases hx1 : (((n : Nat) : Int) ≠ ((m : Nat) : Int))
  · refine zr (qA 4 [.b true]) [0, 1, 10] [] (((n : Int) ≠ (m : Int))) [(0, sV .u64 a n), (1, sV .u64 b m), (10, bV true)] [] 0 zo ?_
    refine zt ?_
    refine kI [.no] True [(4, bV false)] [] 0 trivial ?_
    refine AW.ret ?_
    exact kA (.inr rfl) [] (P := ((nU a b) = false)) zk (by first | exact k19 zo | exact k18 zo (fun j hj => ha j zo) | exact k1a (k := k) zo)
  · refine zr (qA 4 [.b false]) [0, 1, 10] [] (¬ ((n : Int) ≠ (m : Int))) [(0, sV .u64 a n), (1, sV .u64 b m), (10, bV false)] [] 0 zo ?_
    refine uF ?_
    refine AW.seq ?_
    refine kI [.no, .no, .no] True [(0, sV .u64 a n), (1, sV .u64 b m), (12, uV n), (13, iV 0)] [] 0 trivial ?_
    refine AW.block ?_
    refine kV 0 hcx (fun (x : {x : Nat // match x with | k => (k ≤ n) ∧ (∀ j, j < k → ka2 a j 0 = ka2 b j 0)}) => match x with | ⟨k, _⟩ => (⟨[(0, sV .u64 a n), (1, sV .u64 b m), (12, uV n), (13, uV k)], [], 0⟩ : ES)) (fun x => match x with | ⟨k, _⟩ => n - k) ⟨(0 : Nat), ⟨qB, (fun j hj => absurd hj (kd1 j))⟩⟩ [] (P := (kR (dI .u64 a)) ∧ (kT n) ∧ (kR (dI .u64 b)) ∧ (kT m) ∧ (k8 (n : Int)) ∧ (k8 0)) zk ⟨rfl, rfl, rfl, rfl, rfl, rfl⟩ ?_
    rintro ⟨k, hinv0⟩
    obtain ⟨hk, ha⟩ : (k ≤ n) ∧ (∀ j, j < k → ka2 a j 0 = ka2 b j 0) := hinv0
    refine qW (l := [(0, sV .u64 a n), (1, sV .u64 b m), (12, uV n), (13, uV k)]) (g := []) (nx := 0) rfl rfl rfl ?_
    by_cases hx2 : (((k : Nat) : Int) < ((n : Nat) : Int))
    · refine zr [.b true] [0, 1, 12, 13, 14] [] (((k : Int) < (n : Int))) [(0, sV .u64 a n), (1, sV .u64 b m), (12, uV n), (13, uV k), (14, bV true)] [] 0 zo ?_
      refine AW.seq ?_
      refine cB ?_
      refine AW.seq ?_
      refine AW.block ?_
      refine kI [.no, .no] True [(0, sV .u64 a n), (1, sV .u64 b m), (5, uV k), (12, uV n), (13, uV k)] [] 0 trivial ?_
      by_cases hx3 : ((ka2 a k 0) ≠ (ka2 b k 0))
      · refine zr [.no, .no, .n k, .d (D.lit (.int .u64 (ka2 a k 0))), .no, .no, .n k, .d (D.lit (.int .u64 (ka2 b k 0))), .b true] [0, 1, 12, 13, 24] [] ((k8 (k : Int)) ∧ (k < n) ∧ ((kb2 k (dI .u64 a))[0]? = some (D.lit (.int .u64 (ka2 a k 0)))) ∧ (k8 (k : Int)) ∧ (k < m) ∧ ((kb2 k (dI .u64 b))[0]? = some (D.lit (.int .u64 (ka2 b k 0)))) ∧ (((ka2 a k 0) ≠ (ka2 b k 0)))) [(0, sV .u64 a n), (1, sV .u64 b m), (12, uV n), (13, uV k), (24, bV true)] [] 0 ⟨rfl, zo, (qV _ _ _ qO), rfl, zo, (qV _ _ _ qO), zo⟩ ?_
        refine zt ?_
        refine kI [.no] True [(4, bV false)] [] 0 trivial ?_
        refine AW.ret ?_
        exact kA (.inr rfl) [] (P := ((nU a b) = false)) zk (by first | exact k19 zo | exact k18 zo (fun j hj => ha j zo) | exact k1a (k := k) zo)
      · refine zr [.no, .no, .n k, .d (D.lit (.int .u64 (ka2 a k 0))), .no, .no, .n k, .d (D.lit (.int .u64 (ka2 b k 0))), .b false] [0, 1, 12, 13, 24] [] ((k8 (k : Int)) ∧ (k < n) ∧ ((kb2 k (dI .u64 a))[0]? = some (D.lit (.int .u64 (ka2 a k 0)))) ∧ (k8 (k : Int)) ∧ (k < m) ∧ ((kb2 k (dI .u64 b))[0]? = some (D.lit (.int .u64 (ka2 b k 0)))) ∧ (¬ ((ka2 a k 0) ≠ (ka2 b k 0)))) [(0, sV .u64 a n), (1, sV .u64 b m), (12, uV n), (13, uV k), (24, bV false)] [] 0 ⟨rfl, zo, (qV _ _ _ qO), rfl, zo, (qV _ _ _ qO), zo⟩ ?_
        refine uF ?_
        refine bQ [.w, .no] (uU ((k : Int) + 1)) [(0, sV .u64 a n), (1, sV .u64 b m), (12, uV n), (13, iV (↑k + 1))] [] 0 ⟨by omega, by omega⟩ ?_
        exact kY ⟨((k + 1) : Nat), ⟨qB, (fun j hj => (Nat.lt_succ_iff_lt_or_eq.1 hj).elim (ha j) (fun e9 => by subst e9; omega))⟩⟩ [] (P := (kR (dI .u64 a)) ∧ (kT n) ∧ (kR (dI .u64 b)) ∧ (kT m) ∧ (k8 (n : Int)) ∧ (y4 k)) zk ⟨rfl, rfl, rfl, rfl, rfl, uK⟩ (show n - (k + 1) < n - k from uJ)
    · refine zr [.b false] [0, 1, 12, 13, 14] [] (¬ ((k : Int) < (n : Int))) [(0, sV .u64 a n), (1, sV .u64 b m), (12, uV n), (13, uV k), (14, bV false)] [] 0 zo ?_
      refine AW.seq ?_
      refine zf ?_
      refine AW.exit ?_
      refine kI [.no] True [(4, bV true)] [] 0 trivial ?_
      refine AW.ret ?_
      exact kA (.inr rfl) [] (P := ((nU a b) = true)) zk (by first | exact k19 zo | exact k18 zo (fun j hj => ha j zo) | exact k1a (k := k) zo)
theorem tY (a b : List Int) (n m : Nat) (hn : ka0 a = n) (hm : ka0 b = m) (h1 : n ≤ 1000000) (h2 : m ≤ 1000000) : Fun 44 [.c (.d (D.sl (dI .u64 a) n)), .c (.d (D.sl (dI .u64 b) m))] (kC []) 0 (kL (D.lit (.bool (vT a b)))) (kC []) 0 := by
  refine Fun.mk (n := 19) Try.func44 rfl rfl (ka3 rfl) ?_
  intro cx hcx
  refine kI [.no] True [(0, sV .u64 a n), (1, sV .u64 b m)] [] 0 trivial ?_
  refine AW.seq ?_
  refine yT [.no] True [(0, sV .u64 a n), (1, sV .u64 b m), (5, iV 0)] trivial ?_
  refine AW.block ?_
  refine kV 0 hcx (fun (x : {x : Nat // match x with | k => (k ≤ n) ∧ (∀ j, j < k → yZ b (ka2 a j 0) = true)}) => match x with | ⟨k, _⟩ => (⟨[(0, sV .u64 a n), (1, sV .u64 b m), (5, uV k)], [], 0⟩ : ES)) (fun x => match x with | ⟨k, _⟩ => n - k) ⟨(0 : Nat), ⟨qB, (fun j hj => absurd hj (kd1 j))⟩⟩ [] (P := (kR (dI .u64 a)) ∧ (kT n) ∧ (kR (dI .u64 b)) ∧ (kT m) ∧ (k8 0)) zk ⟨rfl, rfl, rfl, rfl, rfl⟩ ?_
  rintro ⟨k, hinv0⟩
  obtain ⟨hk, ha⟩ : (k ≤ n) ∧ (∀ j, j < k → yZ b (ka2 a j 0) = true) := hinv0
  refine qW (l := [(0, sV .u64 a n), (1, sV .u64 b m), (5, uV k)]) (g := []) (nx := 0) rfl rfl rfl ?_
  refine AW.seq ?_
  by_cases hx1 : (((k : Nat) : Int) < ((n : Nat) : Int))
  · refine zr [.no, .no, .no, .b true] [0, 1, 5, 9] [] (((k : Int) < (n : Int))) [(0, sV .u64 a n), (1, sV .u64 b m), (5, uV k), (9, bV true)] [] 0 zo ?_
    refine cB ?_
    refine AW.seq ?_
    refine AW.block ?_
    rcases ka6 (yZ b (ka2 a k 0)) with hx2 | hx2
    · refine zr [.no, .no, .no, .n k, .d (D.lit (.int .u64 (ka2 a k 0))), .call [] (bV true) [] 0 [] none, .no] [0, 1, 5, 18] [] ((k8 (k : Int)) ∧ (k < n) ∧ ((kb2 k (dI .u64 a))[0]? = some (D.lit (.int .u64 (ka2 a k 0)))) ∧ (Fun 19 [.c (.d (D.sl (dI .u64 b) m)), .c (.d (D.lit (.int .u64 (ka2 a k 0))))] (kC []) 0 (bV true) (kC []) 0)) [(0, sV .u64 a n), (1, sV .u64 b m), (5, uV k), (18, bV false)] [] 0 ⟨rfl, zo, (qV _ _ _ qO), (by have h0 := (bN b m (ka2 a k 0) zo zo); rw [hx2] at h0; exact h0)⟩ ?_
      refine uF ?_
      refine bQ [.no, .w, .no] (uU ((k : Int) + 1)) [(0, sV .u64 a n), (1, sV .u64 b m), (5, iV (↑k + 1))] [] 0 ⟨by omega, by omega⟩ ?_
      exact kY ⟨((k + 1) : Nat), ⟨qB, (fun j hj => (Nat.lt_succ_iff_lt_or_eq.1 hj).elim (ha j) (fun e9 => by subst e9; assumption))⟩⟩ [] (P := (kR (dI .u64 a)) ∧ (kT n) ∧ (kR (dI .u64 b)) ∧ (kT m) ∧ (y4 k)) zk ⟨rfl, rfl, rfl, rfl, uK⟩ (show n - (k + 1) < n - k from uJ)
    · refine zr [.no, .no, .no, .n k, .d (D.lit (.int .u64 (ka2 a k 0))), .call [] (bV false) [] 0 [] none, .no] [0, 1, 5, 18] [] ((k8 (k : Int)) ∧ (k < n) ∧ ((kb2 k (dI .u64 a))[0]? = some (D.lit (.int .u64 (ka2 a k 0)))) ∧ (Fun 19 [.c (.d (D.sl (dI .u64 b) m)), .c (.d (D.lit (.int .u64 (ka2 a k 0))))] (kC []) 0 (bV false) (kC []) 0)) [(0, sV .u64 a n), (1, sV .u64 b m), (5, uV k), (18, bV true)] [] 0 ⟨rfl, zo, (qV _ _ _ qO), (by have h0 := (bN b m (ka2 a k 0) zo zo); rw [hx2] at h0; exact h0)⟩ ?_
      refine zt ?_
      refine kI [.no] True [(4, bV false)] [] 0 trivial ?_
      refine AW.ret ?_
      exact kA (.inr rfl) [] (P := ((vT a b) = false)) zk (by first | exact k05 (fun j hj => ha j zo) | exact k06 (k := k) zo (by assumption))
  · refine zr [.no, .no, .no, .b false] [0, 1, 5, 9] [] (¬ ((k : Int) < (n : Int))) [(0, sV .u64 a n), (1, sV .u64 b m), (5, uV k), (9, bV false)] [] 0 zo ?_
    refine zf ?_
    refine AW.exit ?_
    refine kI [.no] True [(4, bV true)] [] 0 trivial ?_
    refine AW.ret ?_
    exact kA (.inr rfl) [] (P := ((vT a b) = true)) zk (by first | exact k05 (fun j hj => ha j zo) | exact k06 (k := k) zo (by assumption))
theorem jM {p : Prop} (h : p := by first | exact k1t (by assumption) (by assumption) | exact k1v (by assumption) | exact k1u (by assumption)) : p := h
theorem tX (r s : List Int) (n : Nat) (d : Int) (r2 s2 : List Int) (n2 : Nat) (d2 : Int) (hr : Byt r) (hl : ka0 r ≤ 1000000) (hn : ka0 s = n) (h1 : n ≤ 1000000) (hr2 : Byt r2) (hl2 : ka0 r2 ≤ 1000000) (hn2 : ka0 s2 = n2) (h2 : n2 ≤ 1000000) : Fun 23 [.agg [.d (D.lit (.string (strOfNums r))), .d (D.sl (dI .u64 s) n), .d (D.lit (.int .u64 d))], .agg [.d (D.lit (.string (strOfNums r2))), .d (D.sl (dI .u64 s2) n2), .d (D.lit (.int .u64 d2))]] (kC []) 0 (kL (D.lit (.bool (uM r s r2 s2)))) (kC []) 0 := by
  refine Fun.mk (n := 17) Try.func23 rfl rfl (ka3 rfl) ?_
  intro cx hcx
  refine kI [.no, .no, .no] True [(2, rV 0 0), (3, rV 1 0)] [(0, some (29, .ds [D.lit (.string (strOfNums r)), D.sl (dI .u64 s) n, D.lit (.int .u64 d)])), (1, some (29, .ds [D.lit (.string (strOfNums r2)), D.sl (dI .u64 s2) n2, D.lit (.int .u64 d2)]))] 2 trivial ?_
  by_cases hx1 : (r = r2)
  · rcases ka6 (nU s s2) with hx2 | hx2
    · refine zr (qA 4 (.b true :: qA 5 [.call [] (bV true) [] 0 [] none, .no, .no])) [4] [] (((ByteArray.toList (strOfNums r) == ByteArray.toList (strOfNums r2)) = true) ∧ (Fun 38 [.c (.d (D.sl (dI .u64 s) n)), .c (.d (D.sl (dI .u64 s2) n2))] (kC []) 0 (bV true) (kC []) 0)) [(4, bV true)] [] 2 ⟨(v8 (by first | assumption | rfl)), (by have h0 := (z4 s s2 n n2 zo zo zo zo); rw [hx2] at h0; exact h0)⟩ ?_
      refine AW.ret ?_
      exact kA (.inr rfl) [] (P := ((uM r s r2 s2) = true)) zk jM
    · refine zr (qA 4 (.b true :: qA 5 [.call [] (bV false) [] 0 [] none, .no, .no])) [4] [] (((ByteArray.toList (strOfNums r) == ByteArray.toList (strOfNums r2)) = true) ∧ (Fun 38 [.c (.d (D.sl (dI .u64 s) n)), .c (.d (D.sl (dI .u64 s2) n2))] (kC []) 0 (bV false) (kC []) 0)) [(4, bV false)] [] 2 ⟨(v8 (by first | assumption | rfl)), (by have h0 := (z4 s s2 n n2 zo zo zo zo); rw [hx2] at h0; exact h0)⟩ ?_
      refine AW.ret ?_
      exact kA (.inr rfl) [] (P := ((uM r s r2 s2) = false)) zk jM
  · refine zr (qA 4 [.b false, .no, .no, .no]) [4] [] ((ByteArray.toList (strOfNums r) == ByteArray.toList (strOfNums r2)) = false) [(4, bV false)] [] 2 (g7 (kQ : Byt r) (kQ : Byt r2) (by assumption)) ?_
    refine AW.ret ?_
    exact kA (.inr rfl) [] (P := ((uM r s r2 s2) = false)) zk jM
theorem fA {p : Prop} (h : p := by first | exact k36 (by assumption) (by omega) (by assumption) | exact k37 (by assumption) | exact k39 (by omega) | exact k38 (by assumption)) : p := h
theorem cA (r s : List Int) (n : Nat) (d : Int) (r2 s2 : List Int) (n2 : Nat) (d2 : Int) (hr : Byt r) (hl : ka0 r ≤ 1000000) (hn : ka0 s = n) (h1 : n ≤ 1000000) (hr2 : Byt r2) (hl2 : ka0 r2 ≤ 1000000) (hn2 : ka0 s2 = n2) (h2 : n2 ≤ 1000000) : Fun 27 [.agg [.d (D.lit (.string (strOfNums r))), .d (D.sl (dI .u64 s) n), .d (D.lit (.int .u64 d))], .agg [.d (D.lit (.string (strOfNums r2))), .d (D.sl (dI .u64 s2) n2), .d (D.lit (.int .u64 d2))]] (kC []) 0 (kL (D.lit (.bool (dQ r s r2 s2)))) (kC []) 0 := by
  refine Fun.mk (n := 26) Try.func27 rfl rfl (ka3 rfl) ?_
  intro cx hcx
  refine kI [.no, .no, .no] True [(2, rV 0 0), (3, rV 1 0)] [(0, some (29, .ds [D.lit (.string (strOfNums r)), D.sl (dI .u64 s) n, D.lit (.int .u64 d)])), (1, some (29, .ds [D.lit (.string (strOfNums r2)), D.sl (dI .u64 s2) n2, D.lit (.int .u64 d2)]))] 2 trivial ?_
  by_cases hx1 : (r = r2)
  · by_cases hx2 : (((n : Nat) : Int) = ((n2 : Nat) : Int))
    · rcases ka6 (vT s s2) with hx3 | hx3
      · refine zr (qA 4 (.b true :: qA 7 (.b true :: qA 6 [.call [] (bV true) [] 0 [] none, .no, .no]))) [4] [] (((ByteArray.toList (strOfNums r) == ByteArray.toList (strOfNums r2)) = true) ∧ (((n : Int) = (n2 : Int))) ∧ (Fun 44 [.c (.d (D.sl (dI .u64 s) n)), .c (.d (D.sl (dI .u64 s2) n2))] (kC []) 0 (bV true) (kC []) 0)) [(4, bV true)] [] 2 ⟨(v8 (by first | assumption | rfl)), zo, (by have h0 := (tY s s2 n n2 zo zo zo zo); rw [hx3] at h0; exact h0)⟩ ?_
        refine AW.ret ?_
        exact kA (.inr rfl) [] (P := ((dQ r s r2 s2) = true)) zk fA
      · refine zr (qA 4 (.b true :: qA 7 (.b true :: qA 6 [.call [] (bV false) [] 0 [] none, .no, .no]))) [4] [] (((ByteArray.toList (strOfNums r) == ByteArray.toList (strOfNums r2)) = true) ∧ (((n : Int) = (n2 : Int))) ∧ (Fun 44 [.c (.d (D.sl (dI .u64 s) n)), .c (.d (D.sl (dI .u64 s2) n2))] (kC []) 0 (bV false) (kC []) 0)) [(4, bV false)] [] 2 ⟨(v8 (by first | assumption | rfl)), zo, (by have h0 := (tY s s2 n n2 zo zo zo zo); rw [hx3] at h0; exact h0)⟩ ?_
        refine AW.ret ?_
        exact kA (.inr rfl) [] (P := ((dQ r s r2 s2) = false)) zk fA
    · refine zr (qA 4 (.b true :: qA 7 (.b false :: qA 4 []))) [4] [] (((ByteArray.toList (strOfNums r) == ByteArray.toList (strOfNums r2)) = true) ∧ (¬ ((n : Int) = (n2 : Int)))) [(4, bV false)] [] 2 ⟨(v8 (by first | assumption | rfl)), zo⟩ ?_
      refine AW.ret ?_
      exact kA (.inr rfl) [] (P := ((dQ r s r2 s2) = false)) zk fA
  · refine zr (qA 4 (.b false :: qA 5 [])) [4] [] ((ByteArray.toList (strOfNums r) == ByteArray.toList (strOfNums r2)) = false) [(4, bV false)] [] 2 (g7 (kQ : Byt r) (kQ : Byt r2) (by assumption)) ?_
    refine AW.ret ?_
    exact kA (.inr rfl) [] (P := ((dQ r s r2 s2) = false)) zk fA
end Go.Proofs.Ytkjmlililpgamaa
