/- Names, sets of devices, choices as data. No statement is proved here. -/
import Derived.Test.YtkjmlililpgamaaZLBy
namespace Go.Proofs.Ytkjmlililpgamaa
open Go.ChangeShapes Go.WideShapes Go.ChangeAt Go.RowKit
open Bool renaming and_false → kd6, eq_false_or_eq_true → ka7, false_and → kl5
open List renaming drop → kb4, getD → ka2, getD_eq_getElem?_getD → kb0, getElem?_eq_getElem → kb5, getElem_mem → ki3, length → ka0, length_append → ka5, length_cons → kb7, length_drop → kc0, length_map → kd1, length_nil → kb8, length_replicate → kc5, length_set → ka8, length_take → kb9, take → ka6
open Nat renaming le_of_ble_eq_true → ka3, lt_succ_self → kk9, not_lt_zero → kd3
set_option linter.unusedVariables false
set_option linter.unusedSimpArgs false
set_option maxHeartbeats 4000000
set_option maxRecDepth 100000
theorem bM {l : List Int} (h : ∀ j, j < l.length → 0 ≤ ka2 l j 0 ∧ ka2 l j 0 ≤ 255) {k : Nat} (hk : k < l.length) : vN (strOfNums l) (k : Int) = some (ka2 l k 0) := by
  have h9 := h k hk
  unfold vN
  rw [if_pos (by omega), strOfNums_data, Int.toNat_natCast, List.getElem?_map, kb5 hk]
  rw [kb0, kb5 hk, Option.getD_some] at *
  simp only [Option.map_some, UInt8.toNat_ofNat', Option.some.injEq]
  omega
theorem k07 {l : List Int} (h : l.length = 0) : (ByteArray.toList (strOfNums l) == ByteArray.toList (ByteArray.mk #[])) = true := by
  have : l = [] := List.length_eq_zero_iff.1 h
  subst this; rw [ByteArray.toList_eq, ByteArray.toList_eq]; rfl
theorem c6 {l : List Int} (h : ¬ l.length = 0) : (ByteArray.toList (strOfNums l) == ByteArray.toList (ByteArray.mk #[])) = false := by
  rw [beq_eq_false_iff_ne]
  intro e
  have e2 := congrArg ka0 e
  rw [ByteArray.toList_eq, ByteArray.toList_eq, strOfNums_data, kd1] at e2
  exact h (by rw [e2]; rfl)
/-! names -/
theorem wX {l : List Int} {p : Int → Bool} (h : ∀ j, j < l.length → p (ka2 l j 0) = true) : l.all p = true := by
  rw [List.all_eq_true]
  intro x hx
  obtain ⟨j, hj, e⟩ := List.mem_iff_getElem.1 hx
  have h1 := h j hj
  rw [kb0, kb5 hj] at h1
  rw [← e]; exact h1
theorem wY {l : List Int} {p : Int → Bool} (h : l.all p = true) (j : Nat) (hj : j < l.length) : p (ka2 l j 0) = true := by
  rw [kb0, kb5 hj]
  exact List.all_eq_true.1 h _ (ki3 hj)
def d9 (x : Int) : Bool := decide ((97 ≤ x ∧ x ≤ 122) ∨ (65 ≤ x ∧ x ≤ 90))
def fG (x : Int) : Bool := decide (((97 ≤ x ∧ x ≤ 122) ∨ (65 ≤ x ∧ x ≤ 90)) ∨ (48 ≤ x ∧ x ≤ 57) ∨ x = 45 ∨ x = 46 ∨ x = 95)
theorem dN {x : Int} (h : d9 x = true) : fG x = true := decide_eq_true (.inl (of_decide_eq_true h))
theorem l0 {x : Int} (h : (48 ≤ x ∧ x ≤ 57) ∨ x = 45 ∨ x = 46 ∨ x = 95) : fG x = true := decide_eq_true (.inr h)
theorem l1 {x : Int} (h : d9 x = false) (h2 : ¬ ((48 ≤ x ∧ x ≤ 57) ∨ x = 45 ∨ x = 46 ∨ x = 95)) : fG x = false := decide_eq_false (fun h9 => h9.elim (of_decide_eq_false h) h2)
def qM (l : List Int) : Bool := decide (1 ≤ l.length ∧ l.length ≤ 64) && d9 (ka2 l 0 0) && l.all fG
theorem yD {l : List Int} (h : 1 ≤ l.length ∧ l.length ≤ 64) (h1 : d9 (ka2 l 0 0) = true) (h2 : ∀ j, j < l.length → fG (ka2 l j 0) = true) : qM l = true := by unfold qM; rw [decide_eq_true h, h1, wX h2]; rfl
theorem yE {l : List Int} (h : ¬ (1 ≤ l.length ∧ l.length ≤ 64)) : qM l = false := by unfold qM; rw [decide_eq_false h]; rfl
theorem yG {l : List Int} (h : d9 (ka2 l 0 0) = false) : qM l = false := by unfold qM; rw [h, kd6]; rfl
theorem yF {l : List Int} {k : Nat} (hk : k < l.length) (h : fG (ka2 l k 0) = false) : qM l = false := by
  unfold qM
  rw [Bool.and_eq_false_iff]
  right
  cases e : l.all fG with
  | false => rfl
  | true => have := wY e k hk; rw [h] at this; cases this
/-! chapter 30: choices as data -/
structure Ch where
  r : List Int
  s : List Int
  d : Int
def ch0 : Ch := ⟨[], [], 0⟩
def k9 (r s : List Int) (d : Int) : Ch := ⟨r, s, d⟩
def xH (c : Ch) : List D := [D.lit (.string (strOfNums c.r)), D.sl (dI .u64 c.s) c.s.length, D.lit (.int .u64 c.d)]
def kB : List Ch → List D
  | [] => []
  | c :: r => xH c ++ kB r
theorem kJ : ∀ xs : List Ch, ka0 (kB xs) = ka0 xs * 3
  | [] => rfl
  | c :: r => by show ka0 (xH c ++ kB r) = (ka0 r + 1) * 3; rw [ka5, kJ r]; show 3 + _ = _; omega
theorem nT : ∀ a b : List Ch, kB (a ++ b) = kB a ++ kB b
  | [], _ => rfl
  | l :: r, b => by show xH l ++ kB (r ++ b) = xH l ++ kB r ++ kB b; rw [nT r b, List.append_assoc]
theorem bL : ∀ (i : Nat) (xs : List Ch), kb4 (i * 3) (kB xs) = kB (kb4 i xs)
  | 0, _ => rfl
  | i + 1, [] => by simp [kB]
  | i + 1, l :: r => by
    show kb4 ((i + 1) * 3) (xH l ++ kB r) = kB (kb4 i r)
    rw [show (i + 1) * 3 = 3 + i * 3 by omega, ← List.drop_drop, ← bL i r]; rfl
theorem y4 : ∀ (i : Nat) (xs : List Ch), ka6 (i * 3) (kB xs) = kB (ka6 i xs)
  | 0, _ => rfl
  | i + 1, [] => by simp [kB]
  | i + 1, l :: r => by
    show ka6 ((i + 1) * 3) (xH l ++ kB r) = xH l ++ kB (ka6 i r)
    rw [← y4 i r, show (i + 1) * 3 = ka0 (xH l) + i * 3 by show _ = 3 + _; omega, List.take_length_add_append]
def yN (xs : List Ch) (i : Nat) : Ch := ka2 xs i ch0
def kH (xs : List Ch) (i : Nat) : List Int := (yN xs i).r
def kD (xs : List Ch) (i : Nat) : List Int := (yN xs i).s
def kN (xs : List Ch) (i : Nat) : Int := (yN xs i).d
theorem k02 {xs : List Ch} {i : Nat} (h : i < ka0 xs) : kB (kb4 i xs) = xH (yN xs i) ++ kB (kb4 (i + 1) xs) := by
  have e : yN xs i = xs[i] := by unfold yN; rw [kb0, kb5 h]; rfl
  rw [List.drop_eq_getElem_cons h, e]; rfl
theorem q8 {xs : List Ch} {i : Nat} (h : i < ka0 xs) : ka6 3 (kb4 (i * 3) (kB xs)) = [D.lit (.string (strOfNums (kH xs i))), D.sl (dI .u64 (kD xs i)) (ka0 (kD xs i)), D.lit (.int .u64 (kN xs i))] := by
  rw [bL, k02 h]; rfl
theorem iB (xs : List Ch) (r s : List Int) (n : Nat) (d : Int) (h : s.length = n) : kB xs ++ [D.lit (.string (strOfNums r)), D.sl (dI .u64 s) n, D.lit (.int .u64 d)] = kB (xs ++ [k9 r s d]) := by
  subst h; rw [nT]; rfl
def ChW (c : Ch) : Prop := Byt c.r ∧ ka0 c.r ≤ 1000000 ∧ ka0 c.s ≤ 1000000
def CsW (xs : List Ch) : Prop := ∀ c ∈ xs, ChW c
theorem k45 : ChW ch0 := ⟨Byt.nil, Nat.zero_le _, Nat.zero_le _⟩
theorem CsW.get {xs : List Ch} (h : CsW xs) (i : Nat) : ChW (yN xs i) := by
  unfold yN
  rw [kb0]
  cases e : xs[i]? with
  | none => exact k45
  | some l => exact h l (List.mem_of_getElem? e)
theorem CsW.at {xs : List Ch} (h : CsW xs) (i : Nat) : Byt (kH xs i) ∧ ka0 (kH xs i) ≤ 1000000 ∧ ka0 (kD xs i) ≤ 1000000 := h.get i
theorem CsW.take {xs : List Ch} (h : CsW xs) (n : Nat) : CsW (ka6 n xs) := fun m hm => h m (List.mem_of_mem_take hm)
theorem CsW.drop {xs : List Ch} (h : CsW xs) (n : Nat) : CsW (kb4 n xs) := fun m hm => h m (List.mem_of_mem_drop hm)
theorem CsW.app {xs ys : List Ch} (h : CsW xs) (h2 : CsW ys) : CsW (xs ++ ys) := fun m hm => (List.mem_append.1 hm).elim (h m) (h2 m)
theorem CsW.nil : CsW [] := fun l h => by cases h
theorem CsW.one {c : Ch} (h : ChW c) : CsW [c] := fun m hm => by rw [List.mem_singleton.1 hm]; exact h
theorem nU : ∀ n : Nat, (List.replicate n [D.lit (.string (ByteArray.mk #[])), D.lit (.slice none 0 0), D.lit (.int .u64 0)]).flatten.length = n * 3
  | 0 => rfl
  | n + 1 => by rw [List.replicate_succ, List.flatten_cons, ka5, nU n]; show 3 + _ = _; omega
def iG (l : List Int) (i : Nat) : Bool := decide (1 ≤ ka2 l i 0 ∧ (i = 0 ∨ ka2 l (i - 1) 0 < ka2 l i 0))
def v8 (l : List Int) : Bool := (List.range l.length).all (iG l)
theorem pF {l : List Int} (h : ∀ i, i < l.length → iG l i = true) : v8 l = true := List.all_eq_true.2 fun i hi => h i (List.mem_range.1 hi)
theorem w4 {l : List Int} {k : Nat} (hk : k < l.length) (h : iG l k = false) : v8 l = false := by
  cases e : v8 l with
  | false => rfl
  | true => have := List.all_eq_true.1 e k (List.mem_range.2 hk); rw [h] at this; cases this
def y6 (l : List Int) (x : Int) : Bool := decide (x ∈ l)
theorem x5 {l : List Int} {x : Int} {k : Nat} (hk : k < l.length) (h : ka2 l k 0 = x) : y6 l x = true := decide_eq_true (by
  rw [← h, kb0, kb5 hk]; exact ki3 hk)
theorem k1f {l : List Int} {x : Int} (h : ∀ j, j < l.length → ¬ ka2 l j 0 = x) : y6 l x = false := decide_eq_false fun hm => by
  obtain ⟨j, hj, e⟩ := List.mem_iff_getElem.1 hm
  exact h j hj (by rw [kb0, kb5 hj]; exact e)
def uW (r s : List Int) (d : Int) : Bool := qM r && (decide (1 ≤ s.length ∧ s.length ≤ 8) && (v8 s && y6 s d))
def cH (p : Nat → Bool) : Nat → Int
  | 0 => -1
  | k + 1 => if 0 ≤ cH p k then cH p k else if p k = true then (k : Int) else -1
theorem bE {p : Nat → Bool} {k : Nat} (h : cH p k = -1) (h2 : p k = false) : cH p (k + 1) = -1 := by
  show (if 0 ≤ cH p k then _ else _) = _
  rw [if_neg (by omega), if_neg (by rw [h2]; decide)]
theorem aS {p : Nat → Bool} {k : Nat} (h : cH p k = -1) (h2 : p k = true) : ∀ n, k < n → cH p n = (k : Int)
  | 0, h3 => absurd h3 (kd3 k)
  | n + 1, h3 => by
    show (if 0 ≤ cH p n then _ else _) = _
    by_cases e : k = n
    · subst e; rw [if_neg (by omega), if_pos h2]
    · have h4 := aS h h2 n (by omega)
      rw [if_pos (by omega), h4]
theorem v5 (p : Nat → Bool) : ∀ n, (cH p n = -1 ∧ ∀ j, j < n → p j = false) ∨ ∃ k, k < n ∧ cH p n = (k : Int) ∧ p k = true
  | 0 => .inl ⟨rfl, fun j h => absurd h (kd3 j)⟩
  | n + 1 => by
    rcases v5 p n with ⟨h1, h2⟩ | ⟨k, hk, h1, h2⟩
    · cases e : p n with
      | false => exact .inl ⟨bE h1 e, fun j hj => (Nat.lt_succ_iff_lt_or_eq.1 hj).elim (h2 j) fun e9 => e9 ▸ e⟩
      | true => exact .inr ⟨n, kk9 n, aS h1 e _ (kk9 n), e⟩
    · refine .inr ⟨k, by omega, ?_, h2⟩
      show (if 0 ≤ cH p n then _ else _) = _
      rw [if_pos (by omega)]; exact h1
theorem hC (p : Nat → Bool) (n : Nat) : -1 ≤ cH p n ∧ cH p n < (n : Int) ∨ n = 0 ∧ cH p n = -1 := by
  rcases v5 p n with ⟨h1, _⟩ | ⟨k, hk, h1, _⟩ <;> omega
theorem k0i {p : Nat → Bool} {n : Nat} (h : 0 ≤ cH p n) : ∃ k, k < n ∧ p k = true := by
  rcases v5 p n with ⟨h1, _⟩ | ⟨k, hk, _, h2⟩
  · omega
  · exact ⟨k, hk, h2⟩
theorem dW {p : Nat → Bool} {n : Nat} (h : ¬ 0 ≤ cH p n) : ∀ j, j < n → p j = false := by
  rcases v5 p n with ⟨_, h2⟩ | ⟨k, hk, h1, _⟩
  · exact h2
  · omega
theorem cM {p : Nat → Bool} : ∀ k, (∀ j, j < k → p j = false) → cH p k = -1
  | 0, _ => rfl
  | k + 1, h => bE (cM k fun j hj => h j (by omega)) (h k (by omega))
theorem k52 {l : List Int} {k : Nat} {y : Int} (h : y = if k = 0 then 0 else ka2 l (k - 1) 0) (h0 : 0 ≤ y) (h1 : y < ka2 l k 0) : iG l k = true := by
  refine decide_eq_true ?_
  by_cases e : k = 0
  · exact ⟨by omega, .inl e⟩
  · rw [if_neg e] at h; exact ⟨by omega, .inr (by omega)⟩
theorem k48 {l : List Int} {k : Nat} {y : Int} (h : y = if k = 0 then 0 else ka2 l (k - 1) 0) (h1 : ka2 l k 0 ≤ y) : iG l k = false := by
  refine decide_eq_false fun e => ?_
  by_cases e2 : k = 0
  · rw [if_pos e2] at h; omega
  · rw [if_neg e2] at h
    rcases e.2 with e3 | e3
    · exact e2 e3
    · omega
def pI (l : List Int) (x : Int) : Nat → Int := cH fun j => decide (ka2 l j 0 = x)
theorem nH {l : List Int} {x : Int} {k n : Nat} (hk : k < n) (ha : ∀ j, j < k → ¬ ka2 l j 0 = x) (h : ka2 l k 0 = x) : pI l x n = (k : Int) :=
  aS (cM k fun j hj => decide_eq_false (ha j hj)) (decide_eq_true h) n hk
theorem nG {l : List Int} {x : Int} {k n : Nat} (hk : k = n) (ha : ∀ j, j < k → ¬ ka2 l j 0 = x) : pI l x n = -1 := by
  subst hk; exact cM _ fun j hj => decide_eq_false (ha j hj)
theorem k0f {l : List Int} {x : Int} {n : Nat} (hn : l.length = n) (h : 0 ≤ pI l x n) : y6 l x = true := by
  obtain ⟨k, hk, h1⟩ := k0i h
  exact x5 (k := k) (by omega) (of_decide_eq_true h1)
theorem k0g {l : List Int} {x : Int} {n : Nat} (hn : l.length = n) (h : ¬ 0 ≤ pI l x n) : y6 l x = false :=
  k1f fun j hj => of_decide_eq_false (dW h j (by omega))
theorem k3f {r s : List Int} {d : Int} (h : qM r = true) (h1 : 1 ≤ s.length ∧ s.length ≤ 8) (h2 : v8 s = true) (h3 : y6 s d = true) : uW r s d = true := by unfold uW; rw [h, decide_eq_true h1, h2, h3]; rfl
theorem k4t {r s : List Int} {d : Int} (h : qM r = false) : uW r s d = false := by unfold uW; rw [h]; rfl
theorem k4v {r s : List Int} {d : Int} (h : ¬ (1 ≤ s.length ∧ s.length ≤ 8)) : uW r s d = false := by unfold uW; rw [decide_eq_false h, kl5, kd6]
theorem k4w {r s : List Int} {d : Int} (h : v8 s = false) : uW r s d = false := by unfold uW; rw [h, kl5, kd6, kd6]
theorem k4u {r s : List Int} {d : Int} (h : y6 s d = false) : uW r s d = false := by unfold uW; rw [h, kd6, kd6, kd6]
def o2 (a b : List Int) : Bool := decide (a = b)
theorem k2b {a b : List Int} (h : ¬ a.length = b.length) : o2 a b = false := decide_eq_false fun e => h (by rw [e])
theorem k2c {a b : List Int} {k : Nat} (h : ¬ ka2 a k 0 = ka2 b k 0) : o2 a b = false := decide_eq_false fun e => h (by rw [e])
theorem k2a {a b : List Int} (h : a.length = b.length) (h2 : ∀ j, j < a.length → ka2 a j 0 = ka2 b j 0) : o2 a b = true := by
  refine decide_eq_true (List.ext_getElem h fun j h3 h4 => ?_)
  have := h2 j h3
  rw [kb0, kb5 h3, kb0, kb5 h4] at this
  exact this
def uQ (r s r2 s2 : List Int) : Bool := decide (r = r2) && o2 s s2
theorem k2w {r s r2 s2 : List Int} (h : r = r2) (h2 : o2 s s2 = true) : uQ r s r2 s2 = true := by unfold uQ; rw [decide_eq_true h, h2]; rfl
theorem k2y {r s r2 s2 : List Int} (h : ¬ r = r2) : uQ r s r2 s2 = false := by unfold uQ; rw [decide_eq_false h]; rfl
theorem k2x {r s r2 s2 : List Int} (h : o2 s s2 = false) : uQ r s r2 s2 = false := by unfold uQ; rw [h, kd6]
def vZ (a b : List Int) : Bool := a.all (y6 b)
theorem k14 {a b : List Int} (h : ∀ j, j < a.length → y6 b (ka2 a j 0) = true) : vZ a b = true := wX h
theorem k15 {a b : List Int} {k : Nat} (hk : k < a.length) (h : y6 b (ka2 a k 0) = false) : vZ a b = false := by
  cases e : vZ a b with
  | false => rfl
  | true => have := wY e k hk; rw [h] at this; cases this
def eA (r s r2 s2 : List Int) : Bool := decide (r = r2 ∧ s.length = s2.length) && vZ s s2
theorem k49 {r s r2 s2 : List Int} (h : r = r2) (h1 : s.length = s2.length) (h2 : vZ s s2 = true) : eA r s r2 s2 = true := by unfold eA; rw [decide_eq_true ⟨h, h1⟩, h2]; rfl
theorem k4a {r s r2 s2 : List Int} (h : ¬ r = r2) : eA r s r2 s2 = false := by unfold eA; rw [decide_eq_false fun e => h e.1]; rfl
theorem k4c {r s r2 s2 : List Int} (h : ¬ s.length = s2.length) : eA r s r2 s2 = false := by unfold eA; rw [decide_eq_false fun e => h e.2]; rfl
theorem k4b {r s r2 s2 : List Int} (h : vZ s s2 = false) : eA r s r2 s2 = false := by unfold eA; rw [h, kd6]
theorem yS {p : Prop} (h : p := by first | exact decide_eq_true (by omega) | exact decide_eq_false (by omega)) : p := h
theorem bQ (x : Int) (hx : 0 ≤ x ∧ x ≤ 255) : Fun 50 [.c (.d (D.lit (.int .u8 x)))] (kC []) 0 (kM (D.lit (.bool (d9 x)))) (kC []) 0 := by
  refine Fun.mk (n := 17) Try.func50 rfl rfl (ka3 rfl) ?_
  intro cx hcx
  refine kK [.no] True [(0, kM (D.lit (.int .u8 x)))] [] 0 trivial ?_
  by_cases hx1 : ((97 : Int) ≤ x)
  · by_cases hx2 : (x ≤ 122)
    · refine zr [.no, .b true, .no, .no, .b true, .no, .no, .no, .no] [2] [] ((((97 : Int) ≤ x)) ∧ ((x ≤ 122))) [(2, bV true)] [] 0 ⟨zo, zo⟩ ?_
      refine AW.ret ?_
      exact kA (.inr rfl) [] (P := ((d9 x) = true)) zk yS
    · refine zr [.no, .b true, .no, .no, .b false, .no, .no, .no, .b true, .no, .no, .b false, .no, .no, .no] [2] [] ((((97 : Int) ≤ x)) ∧ (¬ (x ≤ 122)) ∧ (((65 : Int) ≤ x)) ∧ (¬ (x ≤ 90))) [(2, bV false)] [] 0 ⟨zo, zo, zo, zo⟩ ?_
      refine AW.ret ?_
      exact kA (.inr rfl) [] (P := ((d9 x) = false)) zk yS
  · by_cases hx3 : ((65 : Int) ≤ x)
    · by_cases hx4 : (x ≤ 90)
      · refine zr (.no :: .b false :: qC 4 [.b true, .no, .no, .b true, .no, .no, .no]) [2] [] ((¬ ((97 : Int) ≤ x)) ∧ (((65 : Int) ≤ x)) ∧ ((x ≤ 90))) [(2, bV true)] [] 0 ⟨zo, zo, zo⟩ ?_
        refine AW.ret ?_
        exact kA (.inr rfl) [] (P := ((d9 x) = true)) zk yS
      · refine zr (.no :: .b false :: qC 4 [.b true, .no, .no, .b false, .no, .no, .no]) [2] [] ((¬ ((97 : Int) ≤ x)) ∧ (((65 : Int) ≤ x)) ∧ (¬ (x ≤ 90))) [(2, bV false)] [] 0 ⟨zo, zo, zo⟩ ?_
        refine AW.ret ?_
        exact kA (.inr rfl) [] (P := ((d9 x) = false)) zk yS
    · refine zr (.no :: .b false :: qC 4 (.b false :: qC 4 [])) [2] [] ((¬ ((97 : Int) ≤ x)) ∧ (¬ ((65 : Int) ≤ x))) [(2, bV false)] [] 0 ⟨zo, zo⟩ ?_
      refine AW.ret ?_
      exact kA (.inr rfl) [] (P := ((d9 x) = false)) zk yS
theorem vW (x : Int) (hx : 0 ≤ x ∧ x ≤ 255) : Fun 53 [.c (.d (D.lit (.int .u8 x)))] (kC []) 0 (kM (D.lit (.bool (d9 x)))) (kC []) 0 := by
  refine Fun.mk (n := 17) Try.func53 rfl rfl (ka3 rfl) ?_
  intro cx hcx
  refine kK [.no] True [(0, kM (D.lit (.int .u8 x)))] [] 0 trivial ?_
  by_cases hx1 : ((97 : Int) ≤ x)
  · by_cases hx2 : (x ≤ 122)
    · refine zr [.no, .b true, .no, .no, .b true, .no, .no, .no, .no] [2] [] ((((97 : Int) ≤ x)) ∧ ((x ≤ 122))) [(2, bV true)] [] 0 ⟨zo, zo⟩ ?_
      refine AW.ret ?_
      exact kA (.inr rfl) [] (P := ((d9 x) = true)) zk yS
    · refine zr [.no, .b true, .no, .no, .b false, .no, .no, .no, .b true, .no, .no, .b false, .no, .no, .no] [2] [] ((((97 : Int) ≤ x)) ∧ (¬ (x ≤ 122)) ∧ (((65 : Int) ≤ x)) ∧ (¬ (x ≤ 90))) [(2, bV false)] [] 0 ⟨zo, zo, zo, zo⟩ ?_
      refine AW.ret ?_
      exact kA (.inr rfl) [] (P := ((d9 x) = false)) zk yS
  · by_cases hx3 : ((65 : Int) ≤ x)
    · by_cases hx4 : (x ≤ 90)
      · refine zr (.no :: .b false :: qC 4 [.b true, .no, .no, .b true, .no, .no, .no]) [2] [] ((¬ ((97 : Int) ≤ x)) ∧ (((65 : Int) ≤ x)) ∧ ((x ≤ 90))) [(2, bV true)] [] 0 ⟨zo, zo, zo⟩ ?_
        refine AW.ret ?_
        exact kA (.inr rfl) [] (P := ((d9 x) = true)) zk yS
      · refine zr (.no :: .b false :: qC 4 [.b true, .no, .no, .b false, .no, .no, .no]) [2] [] ((¬ ((97 : Int) ≤ x)) ∧ (((65 : Int) ≤ x)) ∧ (¬ (x ≤ 90))) [(2, bV false)] [] 0 ⟨zo, zo, zo⟩ ?_
        refine AW.ret ?_
        exact kA (.inr rfl) [] (P := ((d9 x) = false)) zk yS
    · refine zr (.no :: .b false :: qC 4 (.b false :: qC 4 [])) [2] [] ((¬ ((97 : Int) ≤ x)) ∧ (¬ ((65 : Int) ≤ x))) [(2, bV false)] [] 0 ⟨zo, zo⟩ ?_
      refine AW.ret ?_
      exact kA (.inr rfl) [] (P := ((d9 x) = false)) zk yS
theorem aN {p : Prop} (h : p := by first | exact dN (by assumption) | exact l0 (by omega) | exact l1 (by assumption) (by omega)) : p := h
theorem k0q (x : Int) (hx : 0 ≤ x ∧ x ≤ 255) : Fun 51 [.c (.d (D.lit (.int .u8 x)))] (kC []) 0 (kM (D.lit (.bool (fG x)))) (kC []) 0 := by
  refine Fun.mk (n := 25) Try.func51 rfl rfl (ka3 rfl) ?_
  intro cx hcx
  refine kK [.no] True [(0, kM (D.lit (.int .u8 x)))] [] 0 trivial ?_
  rcases ka7 (d9 x) with hx1 | hx1
  · refine zr (.no :: .call [] (bV true) [] 0 [] none :: qC 9 []) [2] [] (Fun 50 [.c (.d (D.lit (.int .u8 x)))] (kC []) 0 (bV true) (kC []) 0) [(2, bV true)] [] 0 (by have h0 := (bQ x zo); rw [hx1] at h0; exact h0) ?_
    refine AW.ret ?_
    exact kA (.inr rfl) [] (P := ((fG x) = true)) zk aN
  · by_cases hx2 : ((48 : Int) ≤ x)
    · by_cases hx3 : (x ≤ 57)
      · refine zr (.no :: .call [] (bV false) [] 0 [] none :: .no :: .no :: .b true :: .no :: .no :: .b true :: qC 9 []) [2] [] ((Fun 50 [.c (.d (D.lit (.int .u8 x)))] (kC []) 0 (bV false) (kC []) 0) ∧ (((48 : Int) ≤ x)) ∧ ((x ≤ 57))) [(2, bV true)] [] 0 ⟨(by have h0 := (bQ x zo); rw [hx1] at h0; exact h0), zo, zo⟩ ?_
        refine AW.ret ?_
        exact kA (.inr rfl) [] (P := ((fG x) = true)) zk aN
      · by_cases hx4 : (x = 95)
        · refine zr [.no, .call [] (bV false) [] 0 [] none, .no, .no, .b true, .no, .no, .b false, .no, .no, .no, .no, .b false, .no, .no, .no, .b false, .no, .no, .no, .b true, .no, .no] [2] [] ((Fun 50 [.c (.d (D.lit (.int .u8 x)))] (kC []) 0 (bV false) (kC []) 0) ∧ (((48 : Int) ≤ x)) ∧ (¬ (x ≤ 57)) ∧ (¬ (x = 45)) ∧ (¬ (x = 46)) ∧ ((x = 95))) [(2, bV true)] [] 0 ⟨(by have h0 := (bQ x zo); rw [hx1] at h0; exact h0), zo, zo, zo, zo, zo⟩ ?_
          refine AW.ret ?_
          exact kA (.inr rfl) [] (P := ((fG x) = true)) zk aN
        · refine zr [.no, .call [] (bV false) [] 0 [] none, .no, .no, .b true, .no, .no, .b false, .no, .no, .no, .no, .b false, .no, .no, .no, .b false, .no, .no, .no, .b false, .no, .no] [2] [] ((Fun 50 [.c (.d (D.lit (.int .u8 x)))] (kC []) 0 (bV false) (kC []) 0) ∧ (((48 : Int) ≤ x)) ∧ (¬ (x ≤ 57)) ∧ (¬ (x = 45)) ∧ (¬ (x = 46)) ∧ (¬ (x = 95))) [(2, bV false)] [] 0 ⟨(by have h0 := (bQ x zo); rw [hx1] at h0; exact h0), zo, zo, zo, zo, zo⟩ ?_
          refine AW.ret ?_
          exact kA (.inr rfl) [] (P := ((fG x) = false)) zk aN
    · by_cases hx5 : (x = 45)
      · refine zr (.no :: .call [] (bV false) [] 0 [] none :: .no :: .no :: .b false :: qC 5 (.b true :: qC 6 [])) [2] [] ((Fun 50 [.c (.d (D.lit (.int .u8 x)))] (kC []) 0 (bV false) (kC []) 0) ∧ (¬ ((48 : Int) ≤ x)) ∧ ((x = 45))) [(2, bV true)] [] 0 ⟨(by have h0 := (bQ x zo); rw [hx1] at h0; exact h0), zo, zo⟩ ?_
        refine AW.ret ?_
        exact kA (.inr rfl) [] (P := ((fG x) = true)) zk aN
      · by_cases hx6 : (x = 46)
        · refine zr (.no :: .call [] (bV false) [] 0 [] none :: .no :: .no :: .b false :: qC 5 (.b false :: .no :: .no :: .no :: .b true :: qC 4 [])) [2] [] ((Fun 50 [.c (.d (D.lit (.int .u8 x)))] (kC []) 0 (bV false) (kC []) 0) ∧ (¬ ((48 : Int) ≤ x)) ∧ (¬ (x = 45)) ∧ ((x = 46))) [(2, bV true)] [] 0 ⟨(by have h0 := (bQ x zo); rw [hx1] at h0; exact h0), zo, zo, zo⟩ ?_
          refine AW.ret ?_
          exact kA (.inr rfl) [] (P := ((fG x) = true)) zk aN
        · refine zr (.no :: .call [] (bV false) [] 0 [] none :: .no :: .no :: .b false :: qC 5 [.b false, .no, .no, .no, .b false, .no, .no, .no, .b false, .no, .no]) [2] [] ((Fun 50 [.c (.d (D.lit (.int .u8 x)))] (kC []) 0 (bV false) (kC []) 0) ∧ (¬ ((48 : Int) ≤ x)) ∧ (¬ (x = 45)) ∧ (¬ (x = 46)) ∧ (¬ (x = 95))) [(2, bV false)] [] 0 ⟨(by have h0 := (bQ x zo); rw [hx1] at h0; exact h0), zo, zo, zo, zo⟩ ?_
          refine AW.ret ?_
          exact kA (.inr rfl) [] (P := ((fG x) = false)) zk aN
theorem yR {p : Prop} (h : p := by first | omega | (simp only [kc0, kb9]; omega)) : p := h
theorem uU {p : Prop} (h : p := by first | omega | with_reducible assumption | (simp only [kL, kJ, ka5, kb7, kb8, kb9, kc0, kc5, ka8] <;> omega) | rfl | assumption) : p := h
theorem qD {p : Prop} (h : p := by first | omega | assumption | simp) : p := h
theorem uN {p : Prop} (h : p := by first | rfl | omega | assumption | (simp; done) | (simp; omega)) : p := h
theorem uM {p : Prop} (h : p := by first | omega | (show _ < _; simp; omega)) : p := h
@[reducible] def vA (k : Nat) : Prop := (((((k + 1) : Nat) : Int) : Int) = ((k : Int) + 1))
theorem b7 (l : List Int) (hy : Byt l) (hb : ka0 l ≤ 9223372036854775807) : Fun 39 [.c (.d (D.lit (.string (strOfNums l))))] (kC []) 0 (kM (D.lit (.bool (qM l)))) (kC []) 0 := by
  refine Fun.mk (n := 28) Try.func39 rfl rfl (ka3 rfl) ?_
  intro cx hcx
  refine kK [.no] True [(0, kM (D.lit (.string (strOfNums l))))] [] 0 trivial ?_
  refine AW.seq ?_
  by_cases hx1 : ((ka0 l) = 0)
  · refine zr (.no :: .b true :: qC 4 []) [0, 16] [] ((ByteArray.toList (strOfNums l) == ByteArray.toList (ByteArray.mk #[])) = true) [(0, kM (D.lit (.string (strOfNums l)))), (16, bV true)] [] 0 (k07 zo) ?_
    refine zt ?_
    refine kK [.no] True [(2, bV false)] [] 0 trivial ?_
    refine AW.ret ?_
    exact kA (.inr rfl) [] (P := ((qM l) = false)) zk (by first | exact yE zo | exact yG (by assumption) | exact yF (k := k) zo (by assumption) | exact yD zo (by assumption) (fun j hj => ha j zo))
  · by_cases hx2 : ((64 : Int) < (((ka0 l) : Nat) : Int))
    · refine zr [.no, .b false, .no, .no, .i (ka0 l : Int), .b true, .no, .no, .no] [0, 16] [] (((ByteArray.toList (strOfNums l) == ByteArray.toList (ByteArray.mk #[])) = false) ∧ ((ByteArray.size (strOfNums l) : Int) = ((ka0 l : Int) : Int)) ∧ (((64 : Int) < (ka0 l : Int)))) [(0, kM (D.lit (.string (strOfNums l)))), (16, bV true)] [] 0 ⟨(c6 zo), (by rw [strOfNums_size]), zo⟩ ?_
      refine zt ?_
      refine kK [.no] True [(2, bV false)] [] 0 trivial ?_
      refine AW.ret ?_
      exact kA (.inr rfl) [] (P := ((qM l) = false)) zk (by first | exact yE zo | exact yG (by assumption) | exact yF (k := k) zo (by assumption) | exact yD zo (by assumption) (fun j hj => ha j zo))
    · rcases ka7 (d9 (ka2 l 0 0)) with hx4 | hx4
      · have hx5 : 0 ≤ (ka2 l 0 0) ∧ (ka2 l 0 0) ≤ 255 := Byt.at (kR : Byt l) _ yR
        refine kK [.no, .b false, .no, .no, .i (ka0 l : Int), .b false, .no, .no, .no, .i (ka2 l 0 0), .call [] (bV true) [] 0 [] none, .no, .no] (((ByteArray.toList (strOfNums l) == ByteArray.toList (ByteArray.mk #[])) = false) ∧ ((ByteArray.size (strOfNums l) : Int) = ((ka0 l : Int) : Int)) ∧ (¬ ((64 : Int) < (ka0 l : Int))) ∧ (vN (strOfNums l) (0 : Int) = some ((ka2 l 0 0) : Int)) ∧ (Fun 50 [.c (.d (D.lit (.int .u8 (ka2 l 0 0))))] (kC []) 0 (bV true) (kC []) 0)) [(0, kM (D.lit (.string (strOfNums l)))), (16, bV false)] [] 0 ⟨(c6 zo), (by rw [strOfNums_size]), zo, (by have h9 := bM (l := l) (Byt.at (kR : Byt l)) (k := 0) yR; exact h9), (by have h0 := (bQ (ka2 l 0 0) uU); rw [hx4] at h0; exact h0)⟩ ?_
        refine uI ?_
        refine AW.seq ?_
        refine yZ [.no, .i (ka0 l : Int), .no] ((ByteArray.size (strOfNums l) : Int) = ((ka0 l : Int) : Int)) [(0, kM (D.lit (.string (strOfNums l)))), (18, uV (ka0 l)), (19, iV 0)] (by rw [strOfNums_size]) ?_
        refine AW.block ?_
        refine kW 0 hcx (fun (x : {x : Nat // match x with | k => (k ≤ ka0 l) ∧ (∀ j, j < k → fG (ka2 l j 0) = true)}) => match x with | ⟨k, _⟩ => (⟨[(0, kM (D.lit (.string (strOfNums l)))), (18, uV (ka0 l)), (19, uV k)], [], 0⟩ : ES)) (fun x => match x with | ⟨k, _⟩ => ka0 l - k) ⟨(0 : Nat), ⟨qD, (fun j hj => absurd hj (kd3 j))⟩⟩ [] (P := ((.string (strOfNums l) : Value) = .string (strOfNums l)) ∧ (qA (ka0 l : Int)) ∧ (qA 0)) zk ⟨rfl, rfl, rfl⟩ ?_
        rintro ⟨k, hinv0⟩
        obtain ⟨hk, ha⟩ : (k ≤ ka0 l) ∧ (∀ j, j < k → fG (ka2 l j 0) = true) := hinv0
        refine qX (l := [(0, kM (D.lit (.string (strOfNums l)))), (18, uV (ka0 l)), (19, uV k)]) (g := []) (nx := 0) rfl rfl rfl ?_
        by_cases hx6 : (((k : Nat) : Int) < (((ka0 l) : Nat) : Int))
        · refine zr [.b true] [0, 18, 19, 20] [] (((k : Int) < (ka0 l : Int))) [(0, kM (D.lit (.string (strOfNums l)))), (18, uV (ka0 l)), (19, uV k), (20, bV true)] [] 0 zo ?_
          refine AW.seq ?_
          refine cQ ?_
          refine AW.seq ?_
          refine AW.block ?_
          refine kK [.no, .no] True [(0, kM (D.lit (.string (strOfNums l)))), (3, uV k), (18, uV (ka0 l)), (19, uV k)] [] 0 trivial ?_
          rcases ka7 (fG (ka2 l k 0)) with hx8 | hx8
          · have hx9 : 0 ≤ (ka2 l k 0) ∧ (ka2 l k 0) ≤ 255 := Byt.at (kR : Byt l) _ yR
            refine kK [.no, .no, .i (ka2 l k 0), .call [] (bV true) [] 0 [] none, .no] ((vN (strOfNums l) ((k : Int) : Int) = some ((ka2 l k 0) : Int)) ∧ (Fun 51 [.c (.d (D.lit (.int .u8 (ka2 l k 0))))] (kC []) 0 (bV true) (kC []) 0)) [(0, kM (D.lit (.string (strOfNums l)))), (18, uV (ka0 l)), (19, uV k), (26, bV false)] [] 0 ⟨(by have h9 := bM (l := l) (Byt.at (kR : Byt l)) (k := k) yR; exact h9), (by have h0 := (k0q (ka2 l k 0) uU); rw [hx8] at h0; exact h0)⟩ ?_
            refine uI ?_
            refine cW [.w, .no] (uY ((k : Int) + 1)) [(0, kM (D.lit (.string (strOfNums l)))), (18, uV (ka0 l)), (19, iV (↑k + 1))] ⟨by omega, by omega⟩ ?_
            exact k8 ⟨((k + 1) : Nat), ⟨qD, (fun j hj => (Nat.lt_succ_iff_lt_or_eq.1 hj).elim (ha j) (fun e9 => by subst e9; first | assumption | exact dN (by assumption) | exact l0 zo))⟩⟩ [] (P := ((.string (strOfNums l) : Value) = .string (strOfNums l)) ∧ (qA (ka0 l : Int)) ∧ (vA k)) zk ⟨rfl, rfl, uN⟩ (show ka0 l - (k + 1) < ka0 l - k from uM)
          · have hx10 : 0 ≤ (ka2 l k 0) ∧ (ka2 l k 0) ≤ 255 := Byt.at (kR : Byt l) _ yR
            refine kK [.no, .no, .i (ka2 l k 0), .call [] (bV false) [] 0 [] none, .no] ((vN (strOfNums l) ((k : Int) : Int) = some ((ka2 l k 0) : Int)) ∧ (Fun 51 [.c (.d (D.lit (.int .u8 (ka2 l k 0))))] (kC []) 0 (bV false) (kC []) 0)) [(0, kM (D.lit (.string (strOfNums l)))), (18, uV (ka0 l)), (19, uV k), (26, bV true)] [] 0 ⟨(by have h9 := bM (l := l) (Byt.at (kR : Byt l)) (k := k) yR; exact h9), (by have h0 := (k0q (ka2 l k 0) uU); rw [hx8] at h0; exact h0)⟩ ?_
            refine zt ?_
            refine yZ [.no] True [(2, bV false)] trivial ?_
            refine AW.ret ?_
            exact kA (.inr rfl) [] (P := ((qM l) = false)) zk (by first | exact yE zo | exact yG (by assumption) | exact yF (k := k) zo (by assumption) | exact yD zo (by assumption) (fun j hj => ha j zo))
        · refine zr [.b false] [0, 18, 19, 20] [] (¬ ((k : Int) < (ka0 l : Int))) [(0, kM (D.lit (.string (strOfNums l)))), (18, uV (ka0 l)), (19, uV k), (20, bV false)] [] 0 zo ?_
          refine AW.seq ?_
          refine zf ?_
          refine AW.exit ?_
          refine kK [.no] True [(2, bV true)] [] 0 trivial ?_
          refine AW.ret ?_
          exact kA (.inr rfl) [] (P := ((qM l) = true)) zk (by first | exact yE zo | exact yG (by assumption) | exact yF (k := k) zo (by assumption) | exact yD zo (by assumption) (fun j hj => ha j zo))
      · have hx11 : 0 ≤ (ka2 l 0 0) ∧ (ka2 l 0 0) ≤ 255 := Byt.at (kR : Byt l) _ yR
        refine kK [.no, .b false, .no, .no, .i (ka0 l : Int), .b false, .no, .no, .no, .i (ka2 l 0 0), .call [] (bV false) [] 0 [] none, .no, .no] (((ByteArray.toList (strOfNums l) == ByteArray.toList (ByteArray.mk #[])) = false) ∧ ((ByteArray.size (strOfNums l) : Int) = ((ka0 l : Int) : Int)) ∧ (¬ ((64 : Int) < (ka0 l : Int))) ∧ (vN (strOfNums l) (0 : Int) = some ((ka2 l 0 0) : Int)) ∧ (Fun 50 [.c (.d (D.lit (.int .u8 (ka2 l 0 0))))] (kC []) 0 (bV false) (kC []) 0)) [(0, kM (D.lit (.string (strOfNums l)))), (16, bV true)] [] 0 ⟨(c6 zo), (by rw [strOfNums_size]), zo, (by have h9 := bM (l := l) (Byt.at (kR : Byt l)) (k := 0) yR; exact h9), (by have h0 := (bQ (ka2 l 0 0) uU); rw [hx4] at h0; exact h0)⟩ ?_
        refine zt ?_
        refine yZ [.no] True [(2, bV false)] trivial ?_
        refine AW.ret ?_
        exact kA (.inr rfl) [] (P := ((qM l) = false)) zk (by first | exact yE zo | exact yG (by assumption) | exact yF (k := k) zo (by assumption) | exact yD zo (by assumption) (fun j hj => ha j zo))
theorem aA (l : List Int) (hy : Byt l) (hb : ka0 l ≤ 9223372036854775807) : Fun 42 [.c (.d (D.lit (.string (strOfNums l))))] (kC []) 0 (kM (D.lit (.bool (qM l)))) (kC []) 0 := by
  refine Fun.mk (n := 48) Try.func42 rfl rfl (ka3 rfl) ?_
  intro cx hcx
  refine kK [.no] True [(0, kM (D.lit (.string (strOfNums l))))] [] 0 trivial ?_
  refine AW.seq ?_
  refine yZ [.no] True [(0, kM (D.lit (.string (strOfNums l)))), (3, iV 0)] trivial ?_
  refine AW.block ?_
  refine kW 0 hcx (fun (x : {x : Nat // match x with | k => (k ≤ ka0 l) ∧ (∀ j, j < k → (fG (ka2 l j 0) = true ∧ (j = 0 → d9 (ka2 l 0 0) = true)))}) => match x with | ⟨k, _⟩ => (⟨[(0, kM (D.lit (.string (strOfNums l)))), (3, uV k)], [], 0⟩ : ES)) (fun x => match x with | ⟨k, _⟩ => ka0 l - k) ⟨(0 : Nat), ⟨qD, (fun j hj => absurd hj (kd3 j))⟩⟩ [] (P := ((.string (strOfNums l) : Value) = .string (strOfNums l)) ∧ (qA 0)) zk ⟨rfl, rfl⟩ ?_
  rintro ⟨k, hinv0⟩
  obtain ⟨hk, ha⟩ : (k ≤ ka0 l) ∧ (∀ j, j < k → (fG (ka2 l j 0) = true ∧ (j = 0 → d9 (ka2 l 0 0) = true))) := hinv0
  refine qX (l := [(0, kM (D.lit (.string (strOfNums l)))), (3, uV k)]) (g := []) (nx := 0) rfl rfl rfl ?_
  refine AW.seq ?_
  by_cases hx1 : (((k : Nat) : Int) < (((ka0 l) : Nat) : Int))
  · refine zr [.no, .no, .i (ka0 l : Int), .b true] [0, 3, 8] [] (((ByteArray.size (strOfNums l) : Int) = ((ka0 l : Int) : Int)) ∧ (((k : Int) < (ka0 l : Int)))) [(0, kM (D.lit (.string (strOfNums l)))), (3, uV k), (8, bV true)] [] 0 ⟨(by rw [strOfNums_size]), zo⟩ ?_
    refine cQ ?_
    refine AW.seq ?_
    refine AW.block ?_
    have hx2 : 0 ≤ (ka2 l k 0) ∧ (ka2 l k 0) ≤ 255 := Byt.at (kR : Byt l) _ yR
    refine kK [.no, .no, .i (ka2 l k 0), .no] (vN (strOfNums l) ((k : Int) : Int) = some ((ka2 l k 0) : Int)) [(0, kM (D.lit (.string (strOfNums l)))), (3, uV k), (4, kM (D.lit (.int .u8 (ka2 l k 0))))] [] 0 (by have h9 := bM (l := l) (Byt.at (kR : Byt l)) (k := k) yR; exact h9) ?_
    rcases ka7 (d9 (ka2 l k 0)) with hx3 | hx3
    · refine zr [.no, .call [] (bV true) [] 0 [] none, .no, .no, .no] [0, 3, 40] [] (Fun 53 [.c (.d (D.lit (.int .u8 (ka2 l k 0))))] (kC []) 0 (bV true) (kC []) 0) [(0, kM (D.lit (.string (strOfNums l)))), (3, uV k), (40, bV false)] [] 0 (by have h0 := (vW (ka2 l k 0) uU); rw [hx3] at h0; exact h0) ?_
      refine uI ?_
      refine b9 [.no, .w, .no] (uY ((k : Int) + 1)) [(0, kM (D.lit (.string (strOfNums l)))), (3, iV (↑k + 1))] [] 0 ⟨by omega, by omega⟩ ?_
      exact k8 ⟨((k + 1) : Nat), ⟨qD, (fun j hj => (Nat.lt_succ_iff_lt_or_eq.1 hj).elim (ha j) (fun e9 => by subst e9; first | exact ⟨dN (by assumption), fun h0 => by subst h0; assumption⟩ | exact ⟨l0 zo, fun h0 => by omega⟩))⟩⟩ [] (P := ((.string (strOfNums l) : Value) = .string (strOfNums l)) ∧ (vA k)) zk ⟨rfl, uN⟩ (show ka0 l - (k + 1) < ka0 l - k from uM)
    · by_cases hx4 : (((k : Nat) : Int) = 0)
      · refine zr [.no, .call [] (bV false) [] 0 [] none, .no, .no, .no, .b true, .no, .no, .no] [0, 3, 40] [] ((Fun 53 [.c (.d (D.lit (.int .u8 (ka2 l k 0))))] (kC []) 0 (bV false) (kC []) 0) ∧ (((k : Int) = 0))) [(0, kM (D.lit (.string (strOfNums l)))), (3, uV k), (40, bV true)] [] 0 ⟨(by have h0 := (vW (ka2 l k 0) uU); rw [hx3] at h0; exact h0), zo⟩ ?_
        refine zt ?_
        refine kK [.no] True [(2, bV false)] [] 0 trivial ?_
        refine AW.ret ?_
        exact kA (.inr rfl) [] (P := ((qM l) = false)) zk (by first | exact yE zo | exact yF (k := k) zo (l1 (by assumption) zo) | (obtain rfl : k = 0 := zo; exact yG (by assumption)) | exact yD zo ((ha 0 zo).2 rfl) (fun j hj => (ha j zo).1))
      · by_cases hx5 : ((ka2 l k 0) < 48)
        · by_cases hx6 : ((ka2 l k 0) ≠ 45)
          · by_cases hx7 : ((ka2 l k 0) ≠ 46)
            · refine zr [.no, .call [] (bV false) [] 0 [] none, .no, .no, .no, .b false, .no, .no, .b true, .no, .no, .no, .no, .b true, .no, .no, .no, .b true, .no, .no, .no, .b true, .no, .no, .no] [0, 3, 40] [] ((Fun 53 [.c (.d (D.lit (.int .u8 (ka2 l k 0))))] (kC []) 0 (bV false) (kC []) 0) ∧ (¬ ((k : Int) = 0)) ∧ (((ka2 l k 0) < 48)) ∧ (((ka2 l k 0) ≠ 45)) ∧ (((ka2 l k 0) ≠ 46)) ∧ (((ka2 l k 0) ≠ 95))) [(0, kM (D.lit (.string (strOfNums l)))), (3, uV k), (40, bV true)] [] 0 ⟨(by have h0 := (vW (ka2 l k 0) uU); rw [hx3] at h0; exact h0), zo, zo, zo, zo, zo⟩ ?_
              refine zt ?_
              refine kK [.no] True [(2, bV false)] [] 0 trivial ?_
              refine AW.ret ?_
              exact kA (.inr rfl) [] (P := ((qM l) = false)) zk (by first | exact yE zo | exact yF (k := k) zo (l1 (by assumption) zo) | (obtain rfl : k = 0 := zo; exact yG (by assumption)) | exact yD zo ((ha 0 zo).2 rfl) (fun j hj => (ha j zo).1))
            · refine zr [.no, .call [] (bV false) [] 0 [] none, .no, .no, .no, .b false, .no, .no, .b true, .no, .no, .no, .no, .b true, .no, .no, .no, .b false, .no, .no, .no, .no, .no] [0, 3, 40] [] ((Fun 53 [.c (.d (D.lit (.int .u8 (ka2 l k 0))))] (kC []) 0 (bV false) (kC []) 0) ∧ (¬ ((k : Int) = 0)) ∧ (((ka2 l k 0) < 48)) ∧ (((ka2 l k 0) ≠ 45)) ∧ (¬ ((ka2 l k 0) ≠ 46))) [(0, kM (D.lit (.string (strOfNums l)))), (3, uV k), (40, bV false)] [] 0 ⟨(by have h0 := (vW (ka2 l k 0) uU); rw [hx3] at h0; exact h0), zo, zo, zo, zo⟩ ?_
              refine uI ?_
              refine b9 [.no, .w, .no] (uY ((k : Int) + 1)) [(0, kM (D.lit (.string (strOfNums l)))), (3, iV (↑k + 1))] [] 0 ⟨by omega, by omega⟩ ?_
              exact k8 ⟨((k + 1) : Nat), ⟨qD, (fun j hj => (Nat.lt_succ_iff_lt_or_eq.1 hj).elim (ha j) (fun e9 => by subst e9; first | exact ⟨dN (by assumption), fun h0 => by subst h0; assumption⟩ | exact ⟨l0 zo, fun h0 => by omega⟩))⟩⟩ [] (P := ((.string (strOfNums l) : Value) = .string (strOfNums l)) ∧ (vA k)) zk ⟨rfl, uN⟩ (show ka0 l - (k + 1) < ka0 l - k from uM)
          · refine zr (.no :: .call [] (bV false) [] 0 [] none :: .no :: .no :: .no :: .b false :: .no :: .no :: .b true :: qC 4 (.b false :: qC 7 [])) [0, 3, 40] [] ((Fun 53 [.c (.d (D.lit (.int .u8 (ka2 l k 0))))] (kC []) 0 (bV false) (kC []) 0) ∧ (¬ ((k : Int) = 0)) ∧ (((ka2 l k 0) < 48)) ∧ (¬ ((ka2 l k 0) ≠ 45))) [(0, kM (D.lit (.string (strOfNums l)))), (3, uV k), (40, bV false)] [] 0 ⟨(by have h0 := (vW (ka2 l k 0) uU); rw [hx3] at h0; exact h0), zo, zo, zo⟩ ?_
            refine uI ?_
            refine b9 [.no, .w, .no] (uY ((k : Int) + 1)) [(0, kM (D.lit (.string (strOfNums l)))), (3, iV (↑k + 1))] [] 0 ⟨by omega, by omega⟩ ?_
            exact k8 ⟨((k + 1) : Nat), ⟨qD, (fun j hj => (Nat.lt_succ_iff_lt_or_eq.1 hj).elim (ha j) (fun e9 => by subst e9; first | exact ⟨dN (by assumption), fun h0 => by subst h0; assumption⟩ | exact ⟨l0 zo, fun h0 => by omega⟩))⟩⟩ [] (P := ((.string (strOfNums l) : Value) = .string (strOfNums l)) ∧ (vA k)) zk ⟨rfl, uN⟩ (show ka0 l - (k + 1) < ka0 l - k from uM)
        · by_cases hx8 : ((57 : Int) < (ka2 l k 0))
          · by_cases hx9 : ((ka2 l k 0) ≠ 95)
            · refine zr [.no, .call [] (bV false) [] 0 [] none, .no, .no, .no, .b false, .no, .no, .b false, .no, .no, .b true, .no, .no, .no, .b true, .no, .no, .no, .b true, .no, .no, .no, .b true, .no, .no, .no] [0, 3, 40] [] ((Fun 53 [.c (.d (D.lit (.int .u8 (ka2 l k 0))))] (kC []) 0 (bV false) (kC []) 0) ∧ (¬ ((k : Int) = 0)) ∧ (¬ ((ka2 l k 0) < 48)) ∧ (((57 : Int) < (ka2 l k 0))) ∧ (((ka2 l k 0) ≠ 45)) ∧ (((ka2 l k 0) ≠ 46)) ∧ (((ka2 l k 0) ≠ 95))) [(0, kM (D.lit (.string (strOfNums l)))), (3, uV k), (40, bV true)] [] 0 ⟨(by have h0 := (vW (ka2 l k 0) uU); rw [hx3] at h0; exact h0), zo, zo, zo, zo, zo, zo⟩ ?_
              refine zt ?_
              refine kK [.no] True [(2, bV false)] [] 0 trivial ?_
              refine AW.ret ?_
              exact kA (.inr rfl) [] (P := ((qM l) = false)) zk (by first | exact yE zo | exact yF (k := k) zo (l1 (by assumption) zo) | (obtain rfl : k = 0 := zo; exact yG (by assumption)) | exact yD zo ((ha 0 zo).2 rfl) (fun j hj => (ha j zo).1))
            · refine zr [.no, .call [] (bV false) [] 0 [] none, .no, .no, .no, .b false, .no, .no, .b false, .no, .no, .b true, .no, .no, .no, .b true, .no, .no, .no, .b true, .no, .no, .no, .b false, .no, .no, .no] [0, 3, 40] [] ((Fun 53 [.c (.d (D.lit (.int .u8 (ka2 l k 0))))] (kC []) 0 (bV false) (kC []) 0) ∧ (¬ ((k : Int) = 0)) ∧ (¬ ((ka2 l k 0) < 48)) ∧ (((57 : Int) < (ka2 l k 0))) ∧ (((ka2 l k 0) ≠ 45)) ∧ (((ka2 l k 0) ≠ 46)) ∧ (¬ ((ka2 l k 0) ≠ 95))) [(0, kM (D.lit (.string (strOfNums l)))), (3, uV k), (40, bV false)] [] 0 ⟨(by have h0 := (vW (ka2 l k 0) uU); rw [hx3] at h0; exact h0), zo, zo, zo, zo, zo, zo⟩ ?_
              refine uI ?_
              refine b9 [.no, .w, .no] (uY ((k : Int) + 1)) [(0, kM (D.lit (.string (strOfNums l)))), (3, iV (↑k + 1))] [] 0 ⟨by omega, by omega⟩ ?_
              exact k8 ⟨((k + 1) : Nat), ⟨qD, (fun j hj => (Nat.lt_succ_iff_lt_or_eq.1 hj).elim (ha j) (fun e9 => by subst e9; first | exact ⟨dN (by assumption), fun h0 => by subst h0; assumption⟩ | exact ⟨l0 zo, fun h0 => by omega⟩))⟩⟩ [] (P := ((.string (strOfNums l) : Value) = .string (strOfNums l)) ∧ (vA k)) zk ⟨rfl, uN⟩ (show ka0 l - (k + 1) < ka0 l - k from uM)
          · refine zr (.no :: .call [] (bV false) [] 0 [] none :: .no :: .no :: .no :: .b false :: .no :: .no :: .b false :: .no :: .no :: .b false :: qC 9 []) [0, 3, 40] [] ((Fun 53 [.c (.d (D.lit (.int .u8 (ka2 l k 0))))] (kC []) 0 (bV false) (kC []) 0) ∧ (¬ ((k : Int) = 0)) ∧ (¬ ((ka2 l k 0) < 48)) ∧ (¬ ((57 : Int) < (ka2 l k 0)))) [(0, kM (D.lit (.string (strOfNums l)))), (3, uV k), (40, bV false)] [] 0 ⟨(by have h0 := (vW (ka2 l k 0) uU); rw [hx3] at h0; exact h0), zo, zo, zo⟩ ?_
            refine uI ?_
            refine b9 [.no, .w, .no] (uY ((k : Int) + 1)) [(0, kM (D.lit (.string (strOfNums l)))), (3, iV (↑k + 1))] [] 0 ⟨by omega, by omega⟩ ?_
            exact k8 ⟨((k + 1) : Nat), ⟨qD, (fun j hj => (Nat.lt_succ_iff_lt_or_eq.1 hj).elim (ha j) (fun e9 => by subst e9; first | exact ⟨dN (by assumption), fun h0 => by subst h0; assumption⟩ | exact ⟨l0 zo, fun h0 => by omega⟩))⟩⟩ [] (P := ((.string (strOfNums l) : Value) = .string (strOfNums l)) ∧ (vA k)) zk ⟨rfl, uN⟩ (show ka0 l - (k + 1) < ka0 l - k from uM)
  · refine zr [.no, .no, .i (ka0 l : Int), .b false] [0, 3, 8] [] (((ByteArray.size (strOfNums l) : Int) = ((ka0 l : Int) : Int)) ∧ (¬ ((k : Int) < (ka0 l : Int)))) [(0, kM (D.lit (.string (strOfNums l)))), (3, uV k), (8, bV false)] [] 0 ⟨(by rw [strOfNums_size]), zo⟩ ?_
    refine zf ?_
    refine AW.exit ?_
    by_cases hx10 : ((ka0 l) = 0)
    · refine zr [.no, .b false, .no, .no, .no] [2] [] ((!(ByteArray.toList (strOfNums l) == ByteArray.toList (ByteArray.mk #[]))) = false) [(2, bV false)] [] 0 (by rw [show (ByteArray.toList (strOfNums l) == ByteArray.toList (ByteArray.mk #[])) = true from (k07 (by omega))]; rfl) ?_
      refine AW.ret ?_
      exact kA (.inr rfl) [] (P := ((qM l) = false)) zk (by first | exact yE zo | exact yF (k := k) zo (l1 (by assumption) zo) | (obtain rfl : k = 0 := zo; exact yG (by assumption)) | exact yD zo ((ha 0 zo).2 rfl) (fun j hj => (ha j zo).1))
    · by_cases hx11 : ((((ka0 l) : Nat) : Int) ≤ 64)
      · refine zr [.no, .b true, .no, .no, .i (ka0 l : Int), .b true, .no, .no] [2] [] (((!(ByteArray.toList (strOfNums l) == ByteArray.toList (ByteArray.mk #[]))) = true) ∧ ((ByteArray.size (strOfNums l) : Int) = ((ka0 l : Int) : Int)) ∧ (((ka0 l : Int) ≤ 64))) [(2, bV true)] [] 0 ⟨(by rw [show (ByteArray.toList (strOfNums l) == ByteArray.toList (ByteArray.mk #[])) = false from (c6 (by omega))]; rfl), (by rw [strOfNums_size]), zo⟩ ?_
        refine AW.ret ?_
        exact kA (.inr rfl) [] (P := ((qM l) = true)) zk (by first | exact yE zo | exact yF (k := k) zo (l1 (by assumption) zo) | (obtain rfl : k = 0 := zo; exact yG (by assumption)) | exact yD zo ((ha 0 zo).2 rfl) (fun j hj => (ha j zo).1))
      · refine zr [.no, .b true, .no, .no, .i (ka0 l : Int), .b false, .no, .no] [2] [] (((!(ByteArray.toList (strOfNums l) == ByteArray.toList (ByteArray.mk #[]))) = true) ∧ ((ByteArray.size (strOfNums l) : Int) = ((ka0 l : Int) : Int)) ∧ (¬ ((ka0 l : Int) ≤ 64))) [(2, bV false)] [] 0 ⟨(by rw [show (ByteArray.toList (strOfNums l) == ByteArray.toList (ByteArray.mk #[])) = false from (c6 (by omega))]; rfl), (by rw [strOfNums_size]), zo⟩ ?_
        refine AW.ret ?_
        exact kA (.inr rfl) [] (P := ((qM l) = false)) zk (by first | exact yE zo | exact yF (k := k) zo (l1 (by assumption) zo) | (obtain rfl : k = 0 := zo; exact yG (by assumption)) | exact yD zo ((ha 0 zo).2 rfl) (fun j hj => (ha j zo).1))
theorem qP {p : Prop} (h : p := by first | omega | (simp only [kL, kJ, uO, ka5, kb7, kb8, kb9, kc0, kc5, ka8, kd1, List.length_reverse, Nat.mul_one] <;> omega) | rfl) : p := h
theorem lA (l : List Int) (n : Nat) (hn : ka0 l = n) (h1 : n ≤ 1000000) : Fun 33 [.c (.d (D.sl (dI .u64 l) n))] (kC []) 0 (kM (D.lit (.bool (v8 l)))) (kC []) 0 := by
  refine Fun.mk (n := 17) Try.func33 rfl rfl (ka3 rfl) ?_
  intro cx hcx
  refine kK [.no] True [(0, sV .u64 l n)] [] 0 trivial ?_
  refine yZ [.no] True [(0, sV .u64 l n), (3, kM (D.lit (.int .u64 0)))] trivial ?_
  refine AW.seq ?_
  refine yZ [.no, .no, .no] True [(3, kM (D.lit (.int .u64 0))), (6, sV .u64 l n), (7, uV n), (8, iV 0)] trivial ?_
  refine AW.block ?_
  refine kW 0 hcx (fun (x : {x : Nat × Int // match x with | (k, y) => (k ≤ n) ∧ (y = if k = 0 then 0 else ka2 l (k - 1) 0) ∧ (0 ≤ y) ∧ (∀ j, j < k → iG l j = true)}) => match x with | ⟨(k, y), _⟩ => (⟨[(3, kM (D.lit (.int .u64 y))), (6, sV .u64 l n), (7, uV n), (8, uV k)], [], 0⟩ : ES)) (fun x => match x with | ⟨(k, y), _⟩ => n - k) ⟨((0 : Nat), (0 : Int)), ⟨qD, rfl, zo, (fun j hj => absurd hj (kd3 j))⟩⟩ [] (P := (qA 0) ∧ (kS (dI .u64 l)) ∧ (kU n) ∧ (qA (n : Int)) ∧ (qA 0)) zk ⟨rfl, rfl, rfl, rfl, rfl⟩ ?_
  rintro ⟨⟨k, y⟩, hinv0⟩
  obtain ⟨hk, hl, hy0, ha⟩ : (k ≤ n) ∧ (y = if k = 0 then 0 else ka2 l (k - 1) 0) ∧ (0 ≤ y) ∧ (∀ j, j < k → iG l j = true) := hinv0
  refine qX (l := [(3, kM (D.lit (.int .u64 y))), (6, sV .u64 l n), (7, uV n), (8, uV k)]) (g := []) (nx := 0) rfl rfl rfl ?_
  by_cases hx1 : (((k : Nat) : Int) < ((n : Nat) : Int))
  · refine zr [.b true] [3, 6, 7, 8, 9] [] (((k : Int) < (n : Int))) [(3, kM (D.lit (.int .u64 y))), (6, sV .u64 l n), (7, uV n), (8, uV k), (9, bV true)] [] 0 zo ?_
    refine AW.seq ?_
    refine cQ ?_
    refine AW.seq ?_
    refine AW.block ?_
    refine kK [.n k, .d (D.lit (.int .u64 (ka2 l k 0))), .no] ((qA (k : Int)) ∧ (k < n) ∧ ((kb4 k (dI .u64 l))[0]? = some (D.lit (.int .u64 (ka2 l k 0))))) [(3, kM (D.lit (.int .u64 y))), (5, kM (D.lit (.int .u64 (ka2 l k 0)))), (6, sV .u64 l n), (7, uV n), (8, uV k)] [] 0 ⟨rfl, zo, (qW _ _ _ qP)⟩ ?_
    refine AW.seq ?_
    by_cases hx2 : ((ka2 l k 0) ≤ y)
    · refine zr [.no, .no, .b true] [5, 6, 7, 8, 14] [] (((ka2 l k 0) ≤ y)) [(5, kM (D.lit (.int .u64 (ka2 l k 0)))), (6, sV .u64 l n), (7, uV n), (8, uV k), (14, bV true)] [] 0 zo ?_
      refine zt ?_
      refine kK [.no] True [(2, bV false)] [] 0 trivial ?_
      refine AW.ret ?_
      exact kA (.inr rfl) [] (P := ((v8 l) = false)) zk (by first | exact pF (fun i hi => ha i zo) | exact w4 (k := k) zo (k48 hl zo))
    · refine zr [.no, .no, .b false] [5, 6, 7, 8, 14] [] (¬ ((ka2 l k 0) ≤ y)) [(5, kM (D.lit (.int .u64 (ka2 l k 0)))), (6, sV .u64 l n), (7, uV n), (8, uV k), (14, bV false)] [] 0 zo ?_
      refine uI ?_
      refine b9 [.no, .no] True [(3, kM (D.lit (.int .u64 (ka2 l k 0)))), (6, sV .u64 l n), (7, uV n), (8, uV k)] [] 0 trivial ?_
      refine cW [.w, .no] (uY ((k : Int) + 1)) [(3, kM (D.lit (.int .u64 (ka2 l k 0)))), (6, sV .u64 l n), (7, uV n), (8, iV (↑k + 1))] ⟨by omega, by omega⟩ ?_
      exact k8 ⟨(((k + 1) : Nat), ((ka2 l k 0) : Int)), ⟨qD, (if_neg (Nat.succ_ne_zero _)).symm, zo, (fun j hj => (Nat.lt_succ_iff_lt_or_eq.1 hj).elim (ha j) (fun e9 => by subst e9; exact k52 hl hy0 zo))⟩⟩ [] (P := (qA (ka2 l k 0)) ∧ (kS (dI .u64 l)) ∧ (kU n) ∧ (qA (n : Int)) ∧ (vA k)) zk ⟨rfl, rfl, rfl, rfl, uN⟩ (show n - (k + 1) < n - k from uM)
  · refine zr [.b false] [3, 6, 7, 8, 9] [] (¬ ((k : Int) < (n : Int))) [(3, kM (D.lit (.int .u64 y))), (6, sV .u64 l n), (7, uV n), (8, uV k), (9, bV false)] [] 0 zo ?_
    refine AW.seq ?_
    refine zf ?_
    refine AW.exit ?_
    refine kK [.no] True [(2, bV true)] [] 0 trivial ?_
    refine AW.ret ?_
    exact kA (.inr rfl) [] (P := ((v8 l) = true)) zk (by first | exact pF (fun i hi => ha i zo) | exact w4 (k := k) zo (k48 hl zo))
theorem mN (l : List Int) (n : Nat) (hn : ka0 l = n) (h1 : n ≤ 1000000) : Fun 43 [.c (.d (D.sl (dI .u64 l) n))] (kC []) 0 (kM (D.lit (.bool (v8 l)))) (kC []) 0 := by
  refine Fun.mk (n := 31) Try.func43 rfl rfl (ka3 rfl) ?_
  intro cx hcx
  refine kK [.no] True [(0, sV .u64 l n)] [] 0 trivial ?_
  refine AW.seq ?_
  refine yZ [.no] True [(0, sV .u64 l n), (3, iV 0)] trivial ?_
  refine AW.block ?_
  refine kW 0 hcx (fun (x : {x : Nat // match x with | k => (k ≤ n) ∧ (∀ j, j < k → iG l j = true)}) => match x with | ⟨k, _⟩ => (⟨[(0, sV .u64 l n), (3, uV k)], [], 0⟩ : ES)) (fun x => match x with | ⟨k, _⟩ => n - k) ⟨(0 : Nat), ⟨qD, (fun j hj => absurd hj (kd3 j))⟩⟩ [] (P := (kS (dI .u64 l)) ∧ (kU n) ∧ (qA 0)) zk ⟨rfl, rfl, rfl⟩ ?_
  rintro ⟨k, hinv0⟩
  obtain ⟨hk, ha⟩ : (k ≤ n) ∧ (∀ j, j < k → iG l j = true) := hinv0
  refine qX (l := [(0, sV .u64 l n), (3, uV k)]) (g := []) (nx := 0) rfl rfl rfl ?_
  refine AW.seq ?_
  by_cases hx1 : (((k : Nat) : Int) < ((n : Nat) : Int))
  · refine zr [.no, .no, .no, .b true] [0, 3, 7] [] (((k : Int) < (n : Int))) [(0, sV .u64 l n), (3, uV k), (7, bV true)] [] 0 zo ?_
    refine cQ ?_
    refine AW.seq ?_
    refine AW.block ?_
    by_cases hx2 : ((ka2 l k 0) < 1)
    · refine zr [.no, .no, .n k, .d (D.lit (.int .u64 (ka2 l k 0))), .b true, .no, .no] [0, 3, 30] [] ((qA (k : Int)) ∧ (k < n) ∧ ((kb4 k (dI .u64 l))[0]? = some (D.lit (.int .u64 (ka2 l k 0)))) ∧ (((ka2 l k 0) < 1))) [(0, sV .u64 l n), (3, uV k), (30, bV true)] [] 0 ⟨rfl, zo, (qW _ _ _ qP), zo⟩ ?_
      refine zt ?_
      refine kK [.no] True [(2, bV false)] [] 0 trivial ?_
      refine AW.ret ?_
      exact kA (.inr rfl) [] (P := ((v8 l) = false)) zk (by first | exact pF (fun i hi => ha i zo) | exact w4 (k := k) zo (decide_eq_false zo))
    · by_cases hx3 : ((0 : Int) < ((k : Nat) : Int))
      · by_cases hx4 : ((ka2 l k 0) ≤ (ka2 l (k - 1) 0))
        · refine zr [.no, .no, .n k, .d (D.lit (.int .u64 (ka2 l k 0))), .b false, .no, .no, .b true, .no, .no, .no, .n k, .d (D.lit (.int .u64 (ka2 l k 0))), .no, .no, .w, .n (k - 1), .d (D.lit (.int .u64 (ka2 l (k - 1) 0))), .b true, .no, .no] [0, 3, 30] [] ((qA (k : Int)) ∧ (k < n) ∧ ((kb4 k (dI .u64 l))[0]? = some (D.lit (.int .u64 (ka2 l k 0)))) ∧ (¬ ((ka2 l k 0) < 1)) ∧ (((0 : Int) < (k : Int))) ∧ (qA (k : Int)) ∧ (k < n) ∧ ((kb4 k (dI .u64 l))[0]? = some (D.lit (.int .u64 (ka2 l k 0)))) ∧ (uY ((k : Int) - 1)) ∧ ((((k : Int) - 1) : Int) = (((k - 1) : Nat) : Int)) ∧ ((k - 1) < n) ∧ ((kb4 (k - 1) (dI .u64 l))[0]? = some (D.lit (.int .u64 (ka2 l (k - 1) 0)))) ∧ (((ka2 l k 0) ≤ (ka2 l (k - 1) 0)))) [(0, sV .u64 l n), (3, uV k), (30, bV true)] [] 0 ⟨rfl, zo, (qW _ _ _ qP), zo, zo, rfl, zo, (qW _ _ _ qP), ⟨by omega, by omega⟩, (by first | rfl | omega), zo, (qW _ _ _ qP), zo⟩ ?_
          refine zt ?_
          refine kK [.no] True [(2, bV false)] [] 0 trivial ?_
          refine AW.ret ?_
          exact kA (.inr rfl) [] (P := ((v8 l) = false)) zk (by first | exact pF (fun i hi => ha i zo) | exact w4 (k := k) zo (decide_eq_false zo))
        · refine zr [.no, .no, .n k, .d (D.lit (.int .u64 (ka2 l k 0))), .b false, .no, .no, .b true, .no, .no, .no, .n k, .d (D.lit (.int .u64 (ka2 l k 0))), .no, .no, .w, .n (k - 1), .d (D.lit (.int .u64 (ka2 l (k - 1) 0))), .b false, .no, .no] [0, 3, 30] [] ((qA (k : Int)) ∧ (k < n) ∧ ((kb4 k (dI .u64 l))[0]? = some (D.lit (.int .u64 (ka2 l k 0)))) ∧ (¬ ((ka2 l k 0) < 1)) ∧ (((0 : Int) < (k : Int))) ∧ (qA (k : Int)) ∧ (k < n) ∧ ((kb4 k (dI .u64 l))[0]? = some (D.lit (.int .u64 (ka2 l k 0)))) ∧ (uY ((k : Int) - 1)) ∧ ((((k : Int) - 1) : Int) = (((k - 1) : Nat) : Int)) ∧ ((k - 1) < n) ∧ ((kb4 (k - 1) (dI .u64 l))[0]? = some (D.lit (.int .u64 (ka2 l (k - 1) 0)))) ∧ (¬ ((ka2 l k 0) ≤ (ka2 l (k - 1) 0)))) [(0, sV .u64 l n), (3, uV k), (30, bV false)] [] 0 ⟨rfl, zo, (qW _ _ _ qP), zo, zo, rfl, zo, (qW _ _ _ qP), ⟨by omega, by omega⟩, (by first | rfl | omega), zo, (qW _ _ _ qP), zo⟩ ?_
          refine uI ?_
          refine b9 [.no, .w, .no] (uY ((k : Int) + 1)) [(0, sV .u64 l n), (3, iV (↑k + 1))] [] 0 ⟨by omega, by omega⟩ ?_
          exact k8 ⟨((k + 1) : Nat), ⟨qD, (fun j hj => (Nat.lt_succ_iff_lt_or_eq.1 hj).elim (ha j) (fun e9 => by subst e9; exact decide_eq_true zo))⟩⟩ [] (P := (kS (dI .u64 l)) ∧ (kU n) ∧ (vA k)) zk ⟨rfl, rfl, uN⟩ (show n - (k + 1) < n - k from uM)
      · refine zr [.no, .no, .n k, .d (D.lit (.int .u64 (ka2 l k 0))), .b false, .no, .no, .b false, .no, .no, .no] [0, 3, 30] [] ((qA (k : Int)) ∧ (k < n) ∧ ((kb4 k (dI .u64 l))[0]? = some (D.lit (.int .u64 (ka2 l k 0)))) ∧ (¬ ((ka2 l k 0) < 1)) ∧ (¬ ((0 : Int) < (k : Int)))) [(0, sV .u64 l n), (3, uV k), (30, bV false)] [] 0 ⟨rfl, zo, (qW _ _ _ qP), zo, zo⟩ ?_
        refine uI ?_
        refine b9 [.no, .w, .no] (uY ((k : Int) + 1)) [(0, sV .u64 l n), (3, iV (↑k + 1))] [] 0 ⟨by omega, by omega⟩ ?_
        exact k8 ⟨((k + 1) : Nat), ⟨qD, (fun j hj => (Nat.lt_succ_iff_lt_or_eq.1 hj).elim (ha j) (fun e9 => by subst e9; exact decide_eq_true zo))⟩⟩ [] (P := (kS (dI .u64 l)) ∧ (kU n) ∧ (vA k)) zk ⟨rfl, rfl, uN⟩ (show n - (k + 1) < n - k from uM)
  · refine zr [.no, .no, .no, .b false] [0, 3, 7] [] (¬ ((k : Int) < (n : Int))) [(0, sV .u64 l n), (3, uV k), (7, bV false)] [] 0 zo ?_
    refine zf ?_
    refine AW.exit ?_
    refine kK [.no] True [(2, bV true)] [] 0 trivial ?_
    refine AW.ret ?_
    exact kA (.inr rfl) [] (P := ((v8 l) = true)) zk (by first | exact pF (fun i hi => ha i zo) | exact w4 (k := k) zo (decide_eq_false zo))
theorem b6 (l : List Int) (n : Nat) (z : Int) (hn : ka0 l = n) (h1 : n ≤ 1000000) : Fun 19 [.c (.d (D.sl (dI .u64 l) n)), .c (.d (D.lit (.int .u64 z)))] (kC []) 0 (kM (D.lit (.bool (y6 l z)))) (kC []) 0 := by
  refine Fun.mk (n := 18) Try.func19 rfl rfl (ka3 rfl) ?_
  intro cx hcx
  refine kK [.no] True [(0, sV .u64 l n), (1, kM (D.lit (.int .u64 z)))] [] 0 trivial ?_
  refine AW.seq ?_
  refine yZ [.no] True [(0, sV .u64 l n), (1, kM (D.lit (.int .u64 z))), (5, iV 0)] trivial ?_
  refine AW.block ?_
  refine kW 0 hcx (fun (x : {x : Nat // match x with | k => (k ≤ n) ∧ (∀ j, j < k → ¬ ka2 l j 0 = z)}) => match x with | ⟨k, _⟩ => (⟨[(0, sV .u64 l n), (1, kM (D.lit (.int .u64 z))), (5, uV k)], [], 0⟩ : ES)) (fun x => match x with | ⟨k, _⟩ => n - k) ⟨(0 : Nat), ⟨qD, (fun j hj => absurd hj (kd3 j))⟩⟩ [] (P := (kS (dI .u64 l)) ∧ (kU n) ∧ (qA z) ∧ (qA 0)) zk ⟨rfl, rfl, rfl, rfl⟩ ?_
  rintro ⟨k, hinv0⟩
  obtain ⟨hk, ha⟩ : (k ≤ n) ∧ (∀ j, j < k → ¬ ka2 l j 0 = z) := hinv0
  refine qX (l := [(0, sV .u64 l n), (1, kM (D.lit (.int .u64 z))), (5, uV k)]) (g := []) (nx := 0) rfl rfl rfl ?_
  refine AW.seq ?_
  by_cases hx1 : (((k : Nat) : Int) < ((n : Nat) : Int))
  · refine zr [.no, .no, .no, .b true] [0, 1, 5, 9] [] (((k : Int) < (n : Int))) [(0, sV .u64 l n), (1, kM (D.lit (.int .u64 z))), (5, uV k), (9, bV true)] [] 0 zo ?_
    refine cQ ?_
    refine AW.seq ?_
    refine AW.block ?_
    by_cases hx2 : ((ka2 l k 0) = z)
    · refine zr [.no, .no, .n k, .d (D.lit (.int .u64 (ka2 l k 0))), .no, .b true] [0, 1, 5, 17] [] ((qA (k : Int)) ∧ (k < n) ∧ ((kb4 k (dI .u64 l))[0]? = some (D.lit (.int .u64 (ka2 l k 0)))) ∧ (((ka2 l k 0) = z))) [(0, sV .u64 l n), (1, kM (D.lit (.int .u64 z))), (5, uV k), (17, bV true)] [] 0 ⟨rfl, zo, (qW _ _ _ qP), zo⟩ ?_
      refine zt ?_
      refine kK [.no] True [(4, bV true)] [] 0 trivial ?_
      refine AW.ret ?_
      exact kA (.inr rfl) [] (P := ((y6 l z) = true)) zk (by first | exact x5 (k := k) zo zo | exact k1f (fun j hj => ha j zo))
    · refine zr [.no, .no, .n k, .d (D.lit (.int .u64 (ka2 l k 0))), .no, .b false] [0, 1, 5, 17] [] ((qA (k : Int)) ∧ (k < n) ∧ ((kb4 k (dI .u64 l))[0]? = some (D.lit (.int .u64 (ka2 l k 0)))) ∧ (¬ ((ka2 l k 0) = z))) [(0, sV .u64 l n), (1, kM (D.lit (.int .u64 z))), (5, uV k), (17, bV false)] [] 0 ⟨rfl, zo, (qW _ _ _ qP), zo⟩ ?_
      refine uI ?_
      refine b9 [.no, .w, .no] (uY ((k : Int) + 1)) [(0, sV .u64 l n), (1, kM (D.lit (.int .u64 z))), (5, iV (↑k + 1))] [] 0 ⟨by omega, by omega⟩ ?_
      exact k8 ⟨((k + 1) : Nat), ⟨qD, (fun j hj => (Nat.lt_succ_iff_lt_or_eq.1 hj).elim (ha j) (fun e9 => by subst e9; omega))⟩⟩ [] (P := (kS (dI .u64 l)) ∧ (kU n) ∧ (qA z) ∧ (vA k)) zk ⟨rfl, rfl, rfl, uN⟩ (show n - (k + 1) < n - k from uM)
  · refine zr [.no, .no, .no, .b false] [0, 1, 5, 9] [] (¬ ((k : Int) < (n : Int))) [(0, sV .u64 l n), (1, kM (D.lit (.int .u64 z))), (5, uV k), (9, bV false)] [] 0 zo ?_
    refine zf ?_
    refine AW.exit ?_
    refine kK [.no] True [(4, bV false)] [] 0 trivial ?_
    refine AW.ret ?_
    exact kA (.inr rfl) [] (P := ((y6 l z) = false)) zk (by first | exact x5 (k := k) zo zo | exact k1f (fun j hj => ha j zo))
theorem k0r (l : List Int) (n : Nat) (z : Int) (hn : ka0 l = n) (h1 : n ≤ 1000000) : Fun 52 [.c (.d (D.sl (dI .u64 l) n)), .c (.d (D.lit (.int .u64 z)))] (kC []) 0 (iV (pI l z n)) (kC []) 0 := by
  refine Fun.mk (n := 19) Try.func52 rfl rfl (ka3 rfl) ?_
  intro cx hcx
  refine kK [.no] True [(0, sV .u64 l n), (1, kM (D.lit (.int .u64 z)))] [] 0 trivial ?_
  refine AW.seq ?_
  refine yZ [.no, .no, .no] True [(0, sV .u64 l n), (1, kM (D.lit (.int .u64 z))), (7, uV n), (8, iV 0)] trivial ?_
  refine AW.block ?_
  refine kW 0 hcx (fun (x : {x : Nat // match x with | k => (k ≤ n) ∧ (∀ j, j < k → ¬ ka2 l j 0 = z)}) => match x with | ⟨k, _⟩ => (⟨[(0, sV .u64 l n), (1, kM (D.lit (.int .u64 z))), (7, uV n), (8, uV k)], [], 0⟩ : ES)) (fun x => match x with | ⟨k, _⟩ => n - k) ⟨(0 : Nat), ⟨qD, (fun j hj => absurd hj (kd3 j))⟩⟩ [] (P := (kS (dI .u64 l)) ∧ (kU n) ∧ (qA z) ∧ (qA (n : Int)) ∧ (qA 0)) zk ⟨rfl, rfl, rfl, rfl, rfl⟩ ?_
  rintro ⟨k, hinv0⟩
  obtain ⟨hk, ha⟩ : (k ≤ n) ∧ (∀ j, j < k → ¬ ka2 l j 0 = z) := hinv0
  refine qX (l := [(0, sV .u64 l n), (1, kM (D.lit (.int .u64 z))), (7, uV n), (8, uV k)]) (g := []) (nx := 0) rfl rfl rfl ?_
  by_cases hx1 : (((k : Nat) : Int) < ((n : Nat) : Int))
  · refine zr [.b true] [0, 1, 7, 8, 9] [] (((k : Int) < (n : Int))) [(0, sV .u64 l n), (1, kM (D.lit (.int .u64 z))), (7, uV n), (8, uV k), (9, bV true)] [] 0 zo ?_
    refine AW.seq ?_
    refine cQ ?_
    refine AW.seq ?_
    refine AW.block ?_
    refine kK [.no, .no] True [(0, sV .u64 l n), (1, kM (D.lit (.int .u64 z))), (5, uV k), (7, uV n), (8, uV k)] [] 0 trivial ?_
    by_cases hx2 : (z = (ka2 l k 0))
    · refine zr [.no, .no, .no, .n k, .d (D.lit (.int .u64 (ka2 l k 0))), .b true] [0, 1, 5, 7, 8, 16] [] ((qA (k : Int)) ∧ (k < n) ∧ ((kb4 k (dI .u64 l))[0]? = some (D.lit (.int .u64 (ka2 l k 0)))) ∧ ((z = (ka2 l k 0)))) [(0, sV .u64 l n), (1, kM (D.lit (.int .u64 z))), (5, uV k), (7, uV n), (8, uV k), (16, bV true)] [] 0 ⟨rfl, zo, (qW _ _ _ qP), zo⟩ ?_
      refine zt ?_
      refine kK [.no, .no] True [(4, uV k)] [] 0 trivial ?_
      refine AW.ret ?_
      exact kA (.inr rfl) [] (P := (((pI l z n) : Int) = (k : Int))) zk (by first | rfl | exact (nH zo ha zo).symm | exact nH zo ha zo | exact (nG zo ha).symm | exact nG zo ha | omega)
    · refine zr [.no, .no, .no, .n k, .d (D.lit (.int .u64 (ka2 l k 0))), .b false] [0, 1, 5, 7, 8, 16] [] ((qA (k : Int)) ∧ (k < n) ∧ ((kb4 k (dI .u64 l))[0]? = some (D.lit (.int .u64 (ka2 l k 0)))) ∧ (¬ (z = (ka2 l k 0)))) [(0, sV .u64 l n), (1, kM (D.lit (.int .u64 z))), (5, uV k), (7, uV n), (8, uV k), (16, bV false)] [] 0 ⟨rfl, zo, (qW _ _ _ qP), zo⟩ ?_
      refine uI ?_
      refine b9 [.w, .no] (uY ((k : Int) + 1)) [(0, sV .u64 l n), (1, kM (D.lit (.int .u64 z))), (7, uV n), (8, iV (↑k + 1))] [] 0 ⟨by omega, by omega⟩ ?_
      exact k8 ⟨((k + 1) : Nat), ⟨qD, (fun j hj => (Nat.lt_succ_iff_lt_or_eq.1 hj).elim (ha j) (fun e9 => by subst e9; omega))⟩⟩ [] (P := (kS (dI .u64 l)) ∧ (kU n) ∧ (qA z) ∧ (qA (n : Int)) ∧ (vA k)) zk ⟨rfl, rfl, rfl, rfl, uN⟩ (show n - (k + 1) < n - k from uM)
  · refine zr [.b false] [0, 1, 7, 8, 9] [] (¬ ((k : Int) < (n : Int))) [(0, sV .u64 l n), (1, kM (D.lit (.int .u64 z))), (7, uV n), (8, uV k), (9, bV false)] [] 0 zo ?_
    refine AW.seq ?_
    refine zf ?_
    refine AW.exit ?_
    refine kK [.no] True [(4, iV (-1))] [] 0 trivial ?_
    refine AW.ret ?_
    exact kA (.inr rfl) [] (P := (((pI l z n) : Int) = (-1))) zk (by first | rfl | exact (nH zo ha zo).symm | exact nH zo ha zo | exact (nG zo ha).symm | exact nG zo ha | omega)
theorem n4 (l : List Int) (n : Nat) (z : Int) (hn : ka0 l = n) (h1 : n ≤ 1000000) : Fun 40 [.c (.d (D.sl (dI .u64 l) n)), .c (.d (D.lit (.int .u64 z)))] (kC []) 0 (kM (D.lit (.bool (y6 l z)))) (kC []) 0 := by
  refine Fun.mk (n := 9) Try.func40 rfl rfl (ka3 rfl) ?_
  intro cx hcx
  refine kK [.no] True [(0, sV .u64 l n), (1, kM (D.lit (.int .u64 z)))] [] 0 trivial ?_
  by_cases hx1 : ((0 : Int) ≤ (pI l z n))
  · refine zr [.no, .no, .call [] (iV (pI l z n)) [] 0 [] none, .b true, .no] [4] [] ((_) ∧ (((0 : Int) ≤ (pI l z n)))) [(4, bV true)] [] 0 ⟨(k0r l n z zo zo), zo⟩ ?_
    refine AW.ret ?_
    exact kA (.inr rfl) [] (P := ((y6 l z) = true)) zk (by first | exact k0f hn zo | exact k0g hn zo)
  · refine zr [.no, .no, .call [] (iV (pI l z n)) [] 0 [] none, .b false, .no] [4] [] ((_) ∧ (¬ ((0 : Int) ≤ (pI l z n)))) [(4, bV false)] [] 0 ⟨(k0r l n z zo zo), zo⟩ ?_
    refine AW.ret ?_
    exact kA (.inr rfl) [] (P := ((y6 l z) = false)) zk (by first | exact k0f hn zo | exact k0g hn zo)
theorem uT {p : Prop} (h : p := by first | exact k3f (by assumption) (by omega) (by assumption) (by assumption) | exact k4t (by assumption) | exact k4w (by assumption) | exact k4u (by assumption) | exact k4v (by omega)) : p := h
theorem iI (r s : List Int) (n : Nat) (d : Int) (hr : Byt r) (hl : ka0 r ≤ 1000000) (hn : ka0 s = n) (h1 : n ≤ 1000000) : Fun 24 [.agg [.d (D.lit (.string (strOfNums r))), .d (D.sl (dI .u64 s) n), .d (D.lit (.int .u64 d))]] (kC []) 0 (kM (D.lit (.bool (uW r s d)))) (kC []) 0 := by
  refine Fun.mk (n := 30) Try.func24 rfl rfl (ka3 rfl) ?_
  intro cx hcx
  refine kK [.no, .no] True [(1, rV 0 0)] [(0, some (29, .ds [D.lit (.string (strOfNums r)), D.sl (dI .u64 s) n, D.lit (.int .u64 d)]))] 1 trivial ?_
  rcases ka7 (qM r) with hx1 | hx1
  · by_cases hx2 : ((1 : Int) ≤ ((n : Nat) : Int))
    · by_cases hx3 : (((n : Nat) : Int) ≤ 8)
      · rcases ka7 (v8 s) with hx4 | hx4
        · rcases ka7 (y6 s d) with hx5 | hx5
          · refine zr (.no :: .no :: .call [] (bV true) [] 0 [] none :: qC 4 (.b true :: qC 5 (.b true :: qC 4 (.call [] (bV true) [] 0 [] none :: qC 6 [.call [] (bV true) [] 0 [] none, .no, .no])))) [2] [] ((Fun 39 [.c (.d (D.lit (.string (strOfNums r))))] (kC []) 0 (bV true) (kC []) 0) ∧ (((1 : Int) ≤ (n : Int))) ∧ (((n : Int) ≤ 8)) ∧ (Fun 33 [.c (.d (D.sl (dI .u64 s) n))] (kC []) 0 (bV true) (kC []) 0) ∧ (Fun 40 [.c (.d (D.sl (dI .u64 s) n)), .c (.d (D.lit (.int .u64 d)))] (kC []) 0 (bV true) (kC []) 0)) [(2, bV true)] [] 1 ⟨(by have h0 := (b7 r (kR : Byt r) zo); rw [hx1] at h0; exact h0), zo, zo, (by have h0 := (lA s n zo zo); rw [hx4] at h0; exact h0), (by have h0 := (n4 s n d zo zo); rw [hx5] at h0; exact h0)⟩ ?_
            refine AW.ret ?_
            exact kA (.inr rfl) [] (P := ((uW r s d) = true)) zk uT
          · refine zr (.no :: .no :: .call [] (bV true) [] 0 [] none :: qC 4 (.b true :: qC 5 (.b true :: qC 4 (.call [] (bV true) [] 0 [] none :: qC 6 [.call [] (bV false) [] 0 [] none, .no, .no])))) [2] [] ((Fun 39 [.c (.d (D.lit (.string (strOfNums r))))] (kC []) 0 (bV true) (kC []) 0) ∧ (((1 : Int) ≤ (n : Int))) ∧ (((n : Int) ≤ 8)) ∧ (Fun 33 [.c (.d (D.sl (dI .u64 s) n))] (kC []) 0 (bV true) (kC []) 0) ∧ (Fun 40 [.c (.d (D.sl (dI .u64 s) n)), .c (.d (D.lit (.int .u64 d)))] (kC []) 0 (bV false) (kC []) 0)) [(2, bV false)] [] 1 ⟨(by have h0 := (b7 r (kR : Byt r) zo); rw [hx1] at h0; exact h0), zo, zo, (by have h0 := (lA s n zo zo); rw [hx4] at h0; exact h0), (by have h0 := (n4 s n d zo zo); rw [hx5] at h0; exact h0)⟩ ?_
            refine AW.ret ?_
            exact kA (.inr rfl) [] (P := ((uW r s d) = false)) zk uT
        · refine zr (.no :: .no :: .call [] (bV true) [] 0 [] none :: qC 4 (.b true :: qC 5 (.b true :: qC 4 (.call [] (bV false) [] 0 [] none :: qC 4 [])))) [2] [] ((Fun 39 [.c (.d (D.lit (.string (strOfNums r))))] (kC []) 0 (bV true) (kC []) 0) ∧ (((1 : Int) ≤ (n : Int))) ∧ (((n : Int) ≤ 8)) ∧ (Fun 33 [.c (.d (D.sl (dI .u64 s) n))] (kC []) 0 (bV false) (kC []) 0)) [(2, bV false)] [] 1 ⟨(by have h0 := (b7 r (kR : Byt r) zo); rw [hx1] at h0; exact h0), zo, zo, (by have h0 := (lA s n zo zo); rw [hx4] at h0; exact h0)⟩ ?_
          refine AW.ret ?_
          exact kA (.inr rfl) [] (P := ((uW r s d) = false)) zk uT
      · refine zr (.no :: .no :: .call [] (bV true) [] 0 [] none :: qC 4 (.b true :: qC 5 (.b false :: qC 6 []))) [2] [] ((Fun 39 [.c (.d (D.lit (.string (strOfNums r))))] (kC []) 0 (bV true) (kC []) 0) ∧ (((1 : Int) ≤ (n : Int))) ∧ (¬ ((n : Int) ≤ 8))) [(2, bV false)] [] 1 ⟨(by have h0 := (b7 r (kR : Byt r) zo); rw [hx1] at h0; exact h0), zo, zo⟩ ?_
        refine AW.ret ?_
        exact kA (.inr rfl) [] (P := ((uW r s d) = false)) zk uT
    · refine zr (.no :: .no :: .call [] (bV true) [] 0 [] none :: qC 4 (.b false :: qC 8 [])) [2] [] ((Fun 39 [.c (.d (D.lit (.string (strOfNums r))))] (kC []) 0 (bV true) (kC []) 0) ∧ (¬ ((1 : Int) ≤ (n : Int)))) [(2, bV false)] [] 1 ⟨(by have h0 := (b7 r (kR : Byt r) zo); rw [hx1] at h0; exact h0), zo⟩ ?_
      refine AW.ret ?_
      exact kA (.inr rfl) [] (P := ((uW r s d) = false)) zk uT
  · refine zr (.no :: .no :: .call [] (bV false) [] 0 [] none :: qC 9 []) [2] [] (Fun 39 [.c (.d (D.lit (.string (strOfNums r))))] (kC []) 0 (bV false) (kC []) 0) [(2, bV false)] [] 1 (by have h0 := (b7 r (kR : Byt r) zo); rw [hx1] at h0; exact h0) ?_
    refine AW.ret ?_
    exact kA (.inr rfl) [] (P := ((uW r s d) = false)) zk uT
theorem cO (r s : List Int) (n : Nat) (d : Int) (hr : Byt r) (hl : ka0 r ≤ 1000000) (hn : ka0 s = n) (h1 : n ≤ 1000000) : Fun 26 [.agg [.d (D.lit (.string (strOfNums r))), .d (D.sl (dI .u64 s) n), .d (D.lit (.int .u64 d))]] (kC []) 0 (kM (D.lit (.bool (uW r s d)))) (kC []) 0 := by
  refine Fun.mk (n := 30) Try.func26 rfl rfl (ka3 rfl) ?_
  intro cx hcx
  refine kK [.no, .no] True [(1, rV 0 0)] [(0, some (29, .ds [D.lit (.string (strOfNums r)), D.sl (dI .u64 s) n, D.lit (.int .u64 d)]))] 1 trivial ?_
  rcases ka7 (qM r) with hx1 | hx1
  · by_cases hx2 : ((1 : Int) ≤ ((n : Nat) : Int))
    · by_cases hx3 : (((n : Nat) : Int) ≤ 8)
      · rcases ka7 (v8 s) with hx4 | hx4
        · rcases ka7 (y6 s d) with hx5 | hx5
          · refine zr (.no :: .no :: .call [] (bV true) [] 0 [] none :: qC 4 (.b true :: qC 5 (.b true :: qC 4 (.call [] (bV true) [] 0 [] none :: qC 6 [.call [] (bV true) [] 0 [] none, .no, .no])))) [2] [] ((Fun 42 [.c (.d (D.lit (.string (strOfNums r))))] (kC []) 0 (bV true) (kC []) 0) ∧ (((1 : Int) ≤ (n : Int))) ∧ (((n : Int) ≤ 8)) ∧ (Fun 43 [.c (.d (D.sl (dI .u64 s) n))] (kC []) 0 (bV true) (kC []) 0) ∧ (Fun 19 [.c (.d (D.sl (dI .u64 s) n)), .c (.d (D.lit (.int .u64 d)))] (kC []) 0 (bV true) (kC []) 0)) [(2, bV true)] [] 1 ⟨(by have h0 := (aA r (kR : Byt r) zo); rw [hx1] at h0; exact h0), zo, zo, (by have h0 := (mN s n zo zo); rw [hx4] at h0; exact h0), (by have h0 := (b6 s n d zo zo); rw [hx5] at h0; exact h0)⟩ ?_
            refine AW.ret ?_
            exact kA (.inr rfl) [] (P := ((uW r s d) = true)) zk uT
          · refine zr (.no :: .no :: .call [] (bV true) [] 0 [] none :: qC 4 (.b true :: qC 5 (.b true :: qC 4 (.call [] (bV true) [] 0 [] none :: qC 6 [.call [] (bV false) [] 0 [] none, .no, .no])))) [2] [] ((Fun 42 [.c (.d (D.lit (.string (strOfNums r))))] (kC []) 0 (bV true) (kC []) 0) ∧ (((1 : Int) ≤ (n : Int))) ∧ (((n : Int) ≤ 8)) ∧ (Fun 43 [.c (.d (D.sl (dI .u64 s) n))] (kC []) 0 (bV true) (kC []) 0) ∧ (Fun 19 [.c (.d (D.sl (dI .u64 s) n)), .c (.d (D.lit (.int .u64 d)))] (kC []) 0 (bV false) (kC []) 0)) [(2, bV false)] [] 1 ⟨(by have h0 := (aA r (kR : Byt r) zo); rw [hx1] at h0; exact h0), zo, zo, (by have h0 := (mN s n zo zo); rw [hx4] at h0; exact h0), (by have h0 := (b6 s n d zo zo); rw [hx5] at h0; exact h0)⟩ ?_
            refine AW.ret ?_
            exact kA (.inr rfl) [] (P := ((uW r s d) = false)) zk uT
        · refine zr (.no :: .no :: .call [] (bV true) [] 0 [] none :: qC 4 (.b true :: qC 5 (.b true :: qC 4 (.call [] (bV false) [] 0 [] none :: qC 4 [])))) [2] [] ((Fun 42 [.c (.d (D.lit (.string (strOfNums r))))] (kC []) 0 (bV true) (kC []) 0) ∧ (((1 : Int) ≤ (n : Int))) ∧ (((n : Int) ≤ 8)) ∧ (Fun 43 [.c (.d (D.sl (dI .u64 s) n))] (kC []) 0 (bV false) (kC []) 0)) [(2, bV false)] [] 1 ⟨(by have h0 := (aA r (kR : Byt r) zo); rw [hx1] at h0; exact h0), zo, zo, (by have h0 := (mN s n zo zo); rw [hx4] at h0; exact h0)⟩ ?_
          refine AW.ret ?_
          exact kA (.inr rfl) [] (P := ((uW r s d) = false)) zk uT
      · refine zr (.no :: .no :: .call [] (bV true) [] 0 [] none :: qC 4 (.b true :: qC 5 (.b false :: qC 6 []))) [2] [] ((Fun 42 [.c (.d (D.lit (.string (strOfNums r))))] (kC []) 0 (bV true) (kC []) 0) ∧ (((1 : Int) ≤ (n : Int))) ∧ (¬ ((n : Int) ≤ 8))) [(2, bV false)] [] 1 ⟨(by have h0 := (aA r (kR : Byt r) zo); rw [hx1] at h0; exact h0), zo, zo⟩ ?_
        refine AW.ret ?_
        exact kA (.inr rfl) [] (P := ((uW r s d) = false)) zk uT
    · refine zr (.no :: .no :: .call [] (bV true) [] 0 [] none :: qC 4 (.b false :: qC 8 [])) [2] [] ((Fun 42 [.c (.d (D.lit (.string (strOfNums r))))] (kC []) 0 (bV true) (kC []) 0) ∧ (¬ ((1 : Int) ≤ (n : Int)))) [(2, bV false)] [] 1 ⟨(by have h0 := (aA r (kR : Byt r) zo); rw [hx1] at h0; exact h0), zo⟩ ?_
      refine AW.ret ?_
      exact kA (.inr rfl) [] (P := ((uW r s d) = false)) zk uT
  · refine zr (.no :: .no :: .call [] (bV false) [] 0 [] none :: qC 9 []) [2] [] (Fun 42 [.c (.d (D.lit (.string (strOfNums r))))] (kC []) 0 (bV false) (kC []) 0) [(2, bV false)] [] 1 (by have h0 := (aA r (kR : Byt r) zo); rw [hx1] at h0; exact h0) ?_
    refine AW.ret ?_
    exact kA (.inr rfl) [] (P := ((uW r s d) = false)) zk uT
theorem k0t (a b : List Int) (n m : Nat) (hn : ka0 a = n) (hm : ka0 b = m) (h1 : n ≤ 1000000) (h2 : m ≤ 1000000) : Fun 38 [.c (.d (D.sl (dI .u64 a) n)), .c (.d (D.sl (dI .u64 b) m))] (kC []) 0 (kM (D.lit (.bool (o2 a b)))) (kC []) 0 := by
  refine Fun.mk (n := 26) Try.func38 rfl rfl (ka3 rfl) ?_
  intro cx hcx
  refine kK [.no] True [(0, sV .u64 a n), (1, sV .u64 b m)] [] 0 trivial ?_
  refine AW.seq ?_
  by_cases hx1 : (((n : Nat) : Int) ≠ ((m : Nat) : Int))
  · refine zr (qC 4 [.b true]) [0, 1, 10] [] (((n : Int) ≠ (m : Int))) [(0, sV .u64 a n), (1, sV .u64 b m), (10, bV true)] [] 0 zo ?_
    refine zt ?_
    refine kK [.no] True [(4, bV false)] [] 0 trivial ?_
    refine AW.ret ?_
    exact kA (.inr rfl) [] (P := ((o2 a b) = false)) zk (by first | exact k2b zo | exact k2a zo (fun j hj => ha j zo) | exact k2c (k := k) zo)
  · refine zr (qC 4 [.b false]) [0, 1, 10] [] (¬ ((n : Int) ≠ (m : Int))) [(0, sV .u64 a n), (1, sV .u64 b m), (10, bV false)] [] 0 zo ?_
    refine uI ?_
    refine AW.seq ?_
    refine kK [.no, .no, .no] True [(0, sV .u64 a n), (1, sV .u64 b m), (12, uV n), (13, iV 0)] [] 0 trivial ?_
    refine AW.block ?_
    refine kW 0 hcx (fun (x : {x : Nat // match x with | k => (k ≤ n) ∧ (∀ j, j < k → ka2 a j 0 = ka2 b j 0)}) => match x with | ⟨k, _⟩ => (⟨[(0, sV .u64 a n), (1, sV .u64 b m), (12, uV n), (13, uV k)], [], 0⟩ : ES)) (fun x => match x with | ⟨k, _⟩ => n - k) ⟨(0 : Nat), ⟨qD, (fun j hj => absurd hj (kd3 j))⟩⟩ [] (P := (kS (dI .u64 a)) ∧ (kU n) ∧ (kS (dI .u64 b)) ∧ (kU m) ∧ (qA (n : Int)) ∧ (qA 0)) zk ⟨rfl, rfl, rfl, rfl, rfl, rfl⟩ ?_
    rintro ⟨k, hinv0⟩
    obtain ⟨hk, ha⟩ : (k ≤ n) ∧ (∀ j, j < k → ka2 a j 0 = ka2 b j 0) := hinv0
    refine qX (l := [(0, sV .u64 a n), (1, sV .u64 b m), (12, uV n), (13, uV k)]) (g := []) (nx := 0) rfl rfl rfl ?_
    by_cases hx2 : (((k : Nat) : Int) < ((n : Nat) : Int))
    · refine zr [.b true] [0, 1, 12, 13, 14] [] (((k : Int) < (n : Int))) [(0, sV .u64 a n), (1, sV .u64 b m), (12, uV n), (13, uV k), (14, bV true)] [] 0 zo ?_
      refine AW.seq ?_
      refine cQ ?_
      refine AW.seq ?_
      refine AW.block ?_
      refine kK [.no, .no] True [(0, sV .u64 a n), (1, sV .u64 b m), (5, uV k), (12, uV n), (13, uV k)] [] 0 trivial ?_
      by_cases hx3 : ((ka2 a k 0) ≠ (ka2 b k 0))
      · refine zr [.no, .no, .n k, .d (D.lit (.int .u64 (ka2 a k 0))), .no, .no, .n k, .d (D.lit (.int .u64 (ka2 b k 0))), .b true] [0, 1, 12, 13, 24] [] ((qA (k : Int)) ∧ (k < n) ∧ ((kb4 k (dI .u64 a))[0]? = some (D.lit (.int .u64 (ka2 a k 0)))) ∧ (qA (k : Int)) ∧ (k < m) ∧ ((kb4 k (dI .u64 b))[0]? = some (D.lit (.int .u64 (ka2 b k 0)))) ∧ (((ka2 a k 0) ≠ (ka2 b k 0)))) [(0, sV .u64 a n), (1, sV .u64 b m), (12, uV n), (13, uV k), (24, bV true)] [] 0 ⟨rfl, zo, (qW _ _ _ qP), rfl, zo, (qW _ _ _ qP), zo⟩ ?_
        refine zt ?_
        refine kK [.no] True [(4, bV false)] [] 0 trivial ?_
        refine AW.ret ?_
        exact kA (.inr rfl) [] (P := ((o2 a b) = false)) zk (by first | exact k2b zo | exact k2a zo (fun j hj => ha j zo) | exact k2c (k := k) zo)
      · refine zr [.no, .no, .n k, .d (D.lit (.int .u64 (ka2 a k 0))), .no, .no, .n k, .d (D.lit (.int .u64 (ka2 b k 0))), .b false] [0, 1, 12, 13, 24] [] ((qA (k : Int)) ∧ (k < n) ∧ ((kb4 k (dI .u64 a))[0]? = some (D.lit (.int .u64 (ka2 a k 0)))) ∧ (qA (k : Int)) ∧ (k < m) ∧ ((kb4 k (dI .u64 b))[0]? = some (D.lit (.int .u64 (ka2 b k 0)))) ∧ (¬ ((ka2 a k 0) ≠ (ka2 b k 0)))) [(0, sV .u64 a n), (1, sV .u64 b m), (12, uV n), (13, uV k), (24, bV false)] [] 0 ⟨rfl, zo, (qW _ _ _ qP), rfl, zo, (qW _ _ _ qP), zo⟩ ?_
        refine uI ?_
        refine b9 [.w, .no] (uY ((k : Int) + 1)) [(0, sV .u64 a n), (1, sV .u64 b m), (12, uV n), (13, iV (↑k + 1))] [] 0 ⟨by omega, by omega⟩ ?_
        exact k8 ⟨((k + 1) : Nat), ⟨qD, (fun j hj => (Nat.lt_succ_iff_lt_or_eq.1 hj).elim (ha j) (fun e9 => by subst e9; omega))⟩⟩ [] (P := (kS (dI .u64 a)) ∧ (kU n) ∧ (kS (dI .u64 b)) ∧ (kU m) ∧ (qA (n : Int)) ∧ (vA k)) zk ⟨rfl, rfl, rfl, rfl, rfl, uN⟩ (show n - (k + 1) < n - k from uM)
    · refine zr [.b false] [0, 1, 12, 13, 14] [] (¬ ((k : Int) < (n : Int))) [(0, sV .u64 a n), (1, sV .u64 b m), (12, uV n), (13, uV k), (14, bV false)] [] 0 zo ?_
      refine AW.seq ?_
      refine zf ?_
      refine AW.exit ?_
      refine kK [.no] True [(4, bV true)] [] 0 trivial ?_
      refine AW.ret ?_
      exact kA (.inr rfl) [] (P := ((o2 a b) = true)) zk (by first | exact k2b zo | exact k2a zo (fun j hj => ha j zo) | exact k2c (k := k) zo)
theorem xB (a b : List Int) (n m : Nat) (hn : ka0 a = n) (hm : ka0 b = m) (h1 : n ≤ 1000000) (h2 : m ≤ 1000000) : Fun 44 [.c (.d (D.sl (dI .u64 a) n)), .c (.d (D.sl (dI .u64 b) m))] (kC []) 0 (kM (D.lit (.bool (vZ a b)))) (kC []) 0 := by
  refine Fun.mk (n := 19) Try.func44 rfl rfl (ka3 rfl) ?_
  intro cx hcx
  refine kK [.no] True [(0, sV .u64 a n), (1, sV .u64 b m)] [] 0 trivial ?_
  refine AW.seq ?_
  refine yZ [.no] True [(0, sV .u64 a n), (1, sV .u64 b m), (5, iV 0)] trivial ?_
  refine AW.block ?_
  refine kW 0 hcx (fun (x : {x : Nat // match x with | k => (k ≤ n) ∧ (∀ j, j < k → y6 b (ka2 a j 0) = true)}) => match x with | ⟨k, _⟩ => (⟨[(0, sV .u64 a n), (1, sV .u64 b m), (5, uV k)], [], 0⟩ : ES)) (fun x => match x with | ⟨k, _⟩ => n - k) ⟨(0 : Nat), ⟨qD, (fun j hj => absurd hj (kd3 j))⟩⟩ [] (P := (kS (dI .u64 a)) ∧ (kU n) ∧ (kS (dI .u64 b)) ∧ (kU m) ∧ (qA 0)) zk ⟨rfl, rfl, rfl, rfl, rfl⟩ ?_
  rintro ⟨k, hinv0⟩
  obtain ⟨hk, ha⟩ : (k ≤ n) ∧ (∀ j, j < k → y6 b (ka2 a j 0) = true) := hinv0
  refine qX (l := [(0, sV .u64 a n), (1, sV .u64 b m), (5, uV k)]) (g := []) (nx := 0) rfl rfl rfl ?_
  refine AW.seq ?_
  by_cases hx1 : (((k : Nat) : Int) < ((n : Nat) : Int))
  · refine zr [.no, .no, .no, .b true] [0, 1, 5, 9] [] (((k : Int) < (n : Int))) [(0, sV .u64 a n), (1, sV .u64 b m), (5, uV k), (9, bV true)] [] 0 zo ?_
    refine cQ ?_
    refine AW.seq ?_
    refine AW.block ?_
    rcases ka7 (y6 b (ka2 a k 0)) with hx2 | hx2
    · refine zr [.no, .no, .no, .n k, .d (D.lit (.int .u64 (ka2 a k 0))), .call [] (bV true) [] 0 [] none, .no] [0, 1, 5, 18] [] ((qA (k : Int)) ∧ (k < n) ∧ ((kb4 k (dI .u64 a))[0]? = some (D.lit (.int .u64 (ka2 a k 0)))) ∧ (Fun 19 [.c (.d (D.sl (dI .u64 b) m)), .c (.d (D.lit (.int .u64 (ka2 a k 0))))] (kC []) 0 (bV true) (kC []) 0)) [(0, sV .u64 a n), (1, sV .u64 b m), (5, uV k), (18, bV false)] [] 0 ⟨rfl, zo, (qW _ _ _ qP), (by have h0 := (b6 b m (ka2 a k 0) zo zo); rw [hx2] at h0; exact h0)⟩ ?_
      refine uI ?_
      refine b9 [.no, .w, .no] (uY ((k : Int) + 1)) [(0, sV .u64 a n), (1, sV .u64 b m), (5, iV (↑k + 1))] [] 0 ⟨by omega, by omega⟩ ?_
      exact k8 ⟨((k + 1) : Nat), ⟨qD, (fun j hj => (Nat.lt_succ_iff_lt_or_eq.1 hj).elim (ha j) (fun e9 => by subst e9; assumption))⟩⟩ [] (P := (kS (dI .u64 a)) ∧ (kU n) ∧ (kS (dI .u64 b)) ∧ (kU m) ∧ (vA k)) zk ⟨rfl, rfl, rfl, rfl, uN⟩ (show n - (k + 1) < n - k from uM)
    · refine zr [.no, .no, .no, .n k, .d (D.lit (.int .u64 (ka2 a k 0))), .call [] (bV false) [] 0 [] none, .no] [0, 1, 5, 18] [] ((qA (k : Int)) ∧ (k < n) ∧ ((kb4 k (dI .u64 a))[0]? = some (D.lit (.int .u64 (ka2 a k 0)))) ∧ (Fun 19 [.c (.d (D.sl (dI .u64 b) m)), .c (.d (D.lit (.int .u64 (ka2 a k 0))))] (kC []) 0 (bV false) (kC []) 0)) [(0, sV .u64 a n), (1, sV .u64 b m), (5, uV k), (18, bV true)] [] 0 ⟨rfl, zo, (qW _ _ _ qP), (by have h0 := (b6 b m (ka2 a k 0) zo zo); rw [hx2] at h0; exact h0)⟩ ?_
      refine zt ?_
      refine kK [.no] True [(4, bV false)] [] 0 trivial ?_
      refine AW.ret ?_
      exact kA (.inr rfl) [] (P := ((vZ a b) = false)) zk (by first | exact k14 (fun j hj => ha j zo) | exact k15 (k := k) zo (by assumption))
  · refine zr [.no, .no, .no, .b false] [0, 1, 5, 9] [] (¬ ((k : Int) < (n : Int))) [(0, sV .u64 a n), (1, sV .u64 b m), (5, uV k), (9, bV false)] [] 0 zo ?_
    refine zf ?_
    refine AW.exit ?_
    refine kK [.no] True [(4, bV true)] [] 0 trivial ?_
    refine AW.ret ?_
    exact kA (.inr rfl) [] (P := ((vZ a b) = true)) zk (by first | exact k14 (fun j hj => ha j zo) | exact k15 (k := k) zo (by assumption))
theorem lG {p : Prop} (h : p := by first | exact k2w (by assumption) (by assumption) | exact k2y (by assumption) | exact k2x (by assumption)) : p := h
theorem xA (r s : List Int) (n : Nat) (d : Int) (r2 s2 : List Int) (n2 : Nat) (d2 : Int) (hr : Byt r) (hl : ka0 r ≤ 1000000) (hn : ka0 s = n) (h1 : n ≤ 1000000) (hr2 : Byt r2) (hl2 : ka0 r2 ≤ 1000000) (hn2 : ka0 s2 = n2) (h2 : n2 ≤ 1000000) : Fun 23 [.agg [.d (D.lit (.string (strOfNums r))), .d (D.sl (dI .u64 s) n), .d (D.lit (.int .u64 d))], .agg [.d (D.lit (.string (strOfNums r2))), .d (D.sl (dI .u64 s2) n2), .d (D.lit (.int .u64 d2))]] (kC []) 0 (kM (D.lit (.bool (uQ r s r2 s2)))) (kC []) 0 := by
  refine Fun.mk (n := 17) Try.func23 rfl rfl (ka3 rfl) ?_
  intro cx hcx
  refine kK [.no, .no, .no] True [(2, rV 0 0), (3, rV 1 0)] [(0, some (29, .ds [D.lit (.string (strOfNums r)), D.sl (dI .u64 s) n, D.lit (.int .u64 d)])), (1, some (29, .ds [D.lit (.string (strOfNums r2)), D.sl (dI .u64 s2) n2, D.lit (.int .u64 d2)]))] 2 trivial ?_
  by_cases hx1 : (r = r2)
  · rcases ka7 (o2 s s2) with hx2 | hx2
    · refine zr (qC 4 (.b true :: qC 5 [.call [] (bV true) [] 0 [] none, .no, .no])) [4] [] (((ByteArray.toList (strOfNums r) == ByteArray.toList (strOfNums r2)) = true) ∧ (Fun 38 [.c (.d (D.sl (dI .u64 s) n)), .c (.d (D.sl (dI .u64 s2) n2))] (kC []) 0 (bV true) (kC []) 0)) [(4, bV true)] [] 2 ⟨(aC (by first | assumption | rfl)), (by have h0 := (k0t s s2 n n2 zo zo zo zo); rw [hx2] at h0; exact h0)⟩ ?_
      refine AW.ret ?_
      exact kA (.inr rfl) [] (P := ((uQ r s r2 s2) = true)) zk lG
    · refine zr (qC 4 (.b true :: qC 5 [.call [] (bV false) [] 0 [] none, .no, .no])) [4] [] (((ByteArray.toList (strOfNums r) == ByteArray.toList (strOfNums r2)) = true) ∧ (Fun 38 [.c (.d (D.sl (dI .u64 s) n)), .c (.d (D.sl (dI .u64 s2) n2))] (kC []) 0 (bV false) (kC []) 0)) [(4, bV false)] [] 2 ⟨(aC (by first | assumption | rfl)), (by have h0 := (k0t s s2 n n2 zo zo zo zo); rw [hx2] at h0; exact h0)⟩ ?_
      refine AW.ret ?_
      exact kA (.inr rfl) [] (P := ((uQ r s r2 s2) = false)) zk lG
  · refine zr (qC 4 [.b false, .no, .no, .no]) [4] [] ((ByteArray.toList (strOfNums r) == ByteArray.toList (strOfNums r2)) = false) [(4, bV false)] [] 2 (iW (kR : Byt r) (kR : Byt r2) (by assumption)) ?_
    refine AW.ret ?_
    exact kA (.inr rfl) [] (P := ((uQ r s r2 s2) = false)) zk lG
theorem fY {p : Prop} (h : p := by first | exact k49 (by assumption) (by omega) (by assumption) | exact k4a (by assumption) | exact k4c (by omega) | exact k4b (by assumption)) : p := h
theorem cP (r s : List Int) (n : Nat) (d : Int) (r2 s2 : List Int) (n2 : Nat) (d2 : Int) (hr : Byt r) (hl : ka0 r ≤ 1000000) (hn : ka0 s = n) (h1 : n ≤ 1000000) (hr2 : Byt r2) (hl2 : ka0 r2 ≤ 1000000) (hn2 : ka0 s2 = n2) (h2 : n2 ≤ 1000000) : Fun 27 [.agg [.d (D.lit (.string (strOfNums r))), .d (D.sl (dI .u64 s) n), .d (D.lit (.int .u64 d))], .agg [.d (D.lit (.string (strOfNums r2))), .d (D.sl (dI .u64 s2) n2), .d (D.lit (.int .u64 d2))]] (kC []) 0 (kM (D.lit (.bool (eA r s r2 s2)))) (kC []) 0 := by
  refine Fun.mk (n := 26) Try.func27 rfl rfl (ka3 rfl) ?_
  intro cx hcx
  refine kK [.no, .no, .no] True [(2, rV 0 0), (3, rV 1 0)] [(0, some (29, .ds [D.lit (.string (strOfNums r)), D.sl (dI .u64 s) n, D.lit (.int .u64 d)])), (1, some (29, .ds [D.lit (.string (strOfNums r2)), D.sl (dI .u64 s2) n2, D.lit (.int .u64 d2)]))] 2 trivial ?_
  by_cases hx1 : (r = r2)
  · by_cases hx2 : (((n : Nat) : Int) = ((n2 : Nat) : Int))
    · rcases ka7 (vZ s s2) with hx3 | hx3
      · refine zr (qC 4 (.b true :: qC 7 (.b true :: qC 6 [.call [] (bV true) [] 0 [] none, .no, .no]))) [4] [] (((ByteArray.toList (strOfNums r) == ByteArray.toList (strOfNums r2)) = true) ∧ (((n : Int) = (n2 : Int))) ∧ (Fun 44 [.c (.d (D.sl (dI .u64 s) n)), .c (.d (D.sl (dI .u64 s2) n2))] (kC []) 0 (bV true) (kC []) 0)) [(4, bV true)] [] 2 ⟨(aC (by first | assumption | rfl)), zo, (by have h0 := (xB s s2 n n2 zo zo zo zo); rw [hx3] at h0; exact h0)⟩ ?_
        refine AW.ret ?_
        exact kA (.inr rfl) [] (P := ((eA r s r2 s2) = true)) zk fY
      · refine zr (qC 4 (.b true :: qC 7 (.b true :: qC 6 [.call [] (bV false) [] 0 [] none, .no, .no]))) [4] [] (((ByteArray.toList (strOfNums r) == ByteArray.toList (strOfNums r2)) = true) ∧ (((n : Int) = (n2 : Int))) ∧ (Fun 44 [.c (.d (D.sl (dI .u64 s) n)), .c (.d (D.sl (dI .u64 s2) n2))] (kC []) 0 (bV false) (kC []) 0)) [(4, bV false)] [] 2 ⟨(aC (by first | assumption | rfl)), zo, (by have h0 := (xB s s2 n n2 zo zo zo zo); rw [hx3] at h0; exact h0)⟩ ?_
        refine AW.ret ?_
        exact kA (.inr rfl) [] (P := ((eA r s r2 s2) = false)) zk fY
    · refine zr (qC 4 (.b true :: qC 7 (.b false :: qC 4 []))) [4] [] (((ByteArray.toList (strOfNums r) == ByteArray.toList (strOfNums r2)) = true) ∧ (¬ ((n : Int) = (n2 : Int)))) [(4, bV false)] [] 2 ⟨(aC (by first | assumption | rfl)), zo⟩ ?_
      refine AW.ret ?_
      exact kA (.inr rfl) [] (P := ((eA r s r2 s2) = false)) zk fY
  · refine zr (qC 4 (.b false :: qC 5 [])) [4] [] ((ByteArray.toList (strOfNums r) == ByteArray.toList (strOfNums r2)) = false) [(4, bV false)] [] 2 (iW (kR : Byt r) (kR : Byt r2) (by assumption)) ?_
    refine AW.ret ?_
    exact kA (.inr rfl) [] (P := ((eA r s r2 s2) = false)) zk fY
end Go.Proofs.Ytkjmlililpgamaa
