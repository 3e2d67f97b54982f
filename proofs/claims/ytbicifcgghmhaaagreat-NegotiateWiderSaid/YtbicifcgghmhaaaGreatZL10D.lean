/- Merged texts. -/
import Derived.Test.YtbicifcgghmhaaaGreatZL10A
import Derived.Test.YtbicifcgghmhaaaGreatZL09C
namespace Go.Proofs.YtbicifcgghmhaaaGreat
open Go.ChangeShapes Go.WideShapes Go.ChangeAt Go.RowKit
set_option linter.unusedVariables false
set_option linter.unusedSimpArgs false
/-! chapter 10: maps and boxes as data -/
set_option maxHeartbeats 4000000
set_option maxRecDepth 100000
def kI (xs : List (List Int)) : List D := xs.map fun l => D.sl (dI .i64 l) l.length
theorem qB (xs : List (List Int)) : List.length (kI xs) = List.length xs := by unfold kI; simp
theorem sA (xs : List (List Int)) (l : List Int) (n : Nat) (h : l.length = n) : kI xs ++ [D.sl (dI .i64 l) n] = kI (xs ++ [l]) := by subst h; unfold kI; simp
theorem bE (xs : List (List Int)) (i : Nat) (h : i < xs.length) : (List.drop i (kI xs))[0]? = some (D.sl (dI .i64 (List.getD xs i [])) (List.getD xs i []).length) := by
 unfold kI
 rw [List.getElem?_drop, Nat.add_zero, List.getElem?_map, List.getElem?_eq_getElem h, List.getD_eq_getElem?_getD, List.getElem?_eq_getElem h]; rfl
theorem wT (xs : List (List Int)) (n : Nat) : List.take (n * 1) (List.drop (0 * 1) (kI xs)) = kI (List.take n xs) := by unfold kI; simp [List.map_take]
def MsW (xs : List (List Int)) : Prop := ∀ l ∈ xs, List.length l ≤ 1000000
theorem MsW.at {xs : List (List Int)} (h : MsW xs) (i : Nat) : List.length (List.getD xs i []) ≤ 1000000 := by
 rw [List.getD_eq_getElem?_getD]
 cases e : xs[i]? with
 | none => exact Nat.zero_le _
 | some l => exact h l (List.mem_of_getElem? e)
theorem MsW.nil : MsW [] := fun l h => by cases h
theorem MsW.snoc {xs : List (List Int)} {l : List Int} (h : MsW xs) (hl : List.length l ≤ 1000000) : MsW (xs ++ [l]) := fun m hm => (List.mem_append.1 hm).elim (h m) fun hm => by
 rw [List.mem_singleton.1 hm]; exact hl
theorem MsW.take {xs : List (List Int)} (h : MsW xs) (n : Nat) : MsW (List.take n xs) := fun m hm => h m (List.mem_of_mem_take hm)
def gX (xs : List (List Int)) (m : List Int) : Bool := decide (m ∈ xs)
theorem v5s {xs : List (List Int)} {m : List Int} {k : Nat} (hk : k < xs.length) (h : aJ (List.getD xs k []) m = true) : gX xs m = true := by
 have e : List.getD xs k [] = xs[k] := by rw [List.getD_eq_getElem?_getD, List.getElem?_eq_getElem hk]; rfl
 have h1 := k5f h
 rw [e] at h1
 exact decide_eq_true (h1 ▸ List.getElem_mem hk)
theorem v5t {xs : List (List Int)} {m : List Int} (h : ∀ j, j < xs.length → aJ (List.getD xs j []) m = false) : gX xs m = false := by
 refine decide_eq_false fun hm => ?_
 obtain ⟨j, hj, e⟩ := List.mem_iff_getElem.1 hm
 have h1 := k5e (h j hj)
 have e1 : List.getD xs j [] = xs[j] := by rw [List.getD_eq_getElem?_getD, List.getElem?_eq_getElem hj]; rfl
 exact h1 (by rw [e1, e])
def vmE (xs : List (List Int)) (i : Nat) : Bool := t4 (List.getD xs i []) (List.getD xs i []).length && !(gX (List.take i xs) (List.getD xs i []))
def mM (xs : List (List Int)) : Bool := decide (1 ≤ xs.length ∧ xs.length ≤ 16 ∧ ∀ i, i < xs.length → vmE xs i = true)
theorem u9r {xs : List (List Int)} (h1 : 1 ≤ xs.length) (h2 : xs.length ≤ 16) (h : ∀ i, i < xs.length → vmE xs i = true) : mM xs = true := decide_eq_true ⟨h1, h2, h⟩
theorem u9t {xs : List (List Int)} {k : Nat} (hk : k < xs.length) (h : vmE xs k = false) : mM xs = false := decide_eq_false fun h1 => by
 have := h1.2.2 k hk; rw [h] at this; cases this
theorem u9s {xs : List (List Int)} (h : xs.length < 1 ∨ 16 < xs.length) : mM xs = false := decide_eq_false fun h1 => by omega
theorem u46 {xs : List (List Int)} {i : Nat} (h1 : t4 (List.getD xs i []) (List.getD xs i []).length = true) (h2 : gX (List.take i xs) (List.getD xs i []) = false) : vmE xs i = true := by unfold vmE; rw [h1, h2]; rfl
theorem u9v {xs : List (List Int)} {i : Nat} (h1 : t4 (List.getD xs i []) (List.getD xs i []).length = false) : vmE xs i = false := by unfold vmE; rw [h1]; rfl
theorem u9u {xs : List (List Int)} {i : Nat} (h2 : gX (List.take i xs) (List.getD xs i []) = true) : vmE xs i = false := by unfold vmE; rw [h2]; cases t4 (List.getD xs i []) (List.getD xs i []).length <;> rfl
def eG (l : List Int) (n : Nat) (lo hi : Int) : Bool := eH l n && decide (1 ≤ n ∧ lo ≤ List.getD l 0 0 ∧ List.getD l ((n - 1) * 2 + 1) 0 ≤ hi)
theorem k4z {l : List Int} {n : Nat} {lo hi : Int} (h : eH l n = true) (h2 : 1 ≤ n ∧ lo ≤ List.getD l 0 0 ∧ List.getD l ((n - 1) * 2 + 1) 0 ≤ hi) : eG l n lo hi = true := by unfold eG; rw [h, decide_eq_true h2]; rfl
theorem v43 {l : List Int} {n : Nat} {lo hi : Int} (h : eH l n = false) : eG l n lo hi = false := by unfold eG; rw [h]; rfl
theorem u6s {l : List Int} {n : Nat} {lo hi : Int} (h2 : ¬ (1 ≤ n ∧ lo ≤ List.getD l 0 0 ∧ List.getD l ((n - 1) * 2 + 1) 0 ≤ hi)) : eG l n lo hi = false := by unfold eG; rw [decide_eq_false h2]; cases eH l n <;> rfl
structure Bx where
 k : Int
 r : List Int
 rn : Nat
 m : List (List Int)
 s : List Int
 sn : Nat
def bx0 : Bx := ⟨0, [], 0, [], [], 0⟩
def bxR (b : Bx) : List D := [D.lit (.int .i64 b.k), D.sl (dI .i64 b.r) b.rn, D.sl (kI b.m) b.m.length, D.sl (dI .i64 b.s) b.sn]
def kN : List Bx → List D
 | [] => []
 | b :: r => bxR b ++ kN r
theorem qA : ∀ xs : List Bx, List.length (kN xs) = List.length xs * 4
 | [] => rfl
 | b :: r => by show List.length (bxR b ++ kN r) = (List.length r + 1) * 4; rw [List.length_append, qA r]; show 4 + _ = _; omega
theorem l6 : ∀ a b : List Bx, kN (a ++ b) = kN a ++ kN b
 | [], _ => rfl
 | l :: r, b => by show bxR l ++ kN (r ++ b) = bxR l ++ kN r ++ kN b; rw [l6 r b, List.append_assoc]
theorem xS : ∀ (i : Nat) (xs : List Bx), List.drop (i * 4) (kN xs) = kN (List.drop i xs)
 | 0, _ => rfl
 | i + 1, [] => by simp [kN]
 | i + 1, l :: r => by
  show List.drop ((i + 1) * 4) (bxR l ++ kN r) = kN (List.drop i r)
  rw [show (i + 1) * 4 = 4 + i * 4 by omega, ← List.drop_drop, ← xS i r]; rfl
def u2 (xs : List Bx) (i : Nat) : Bx := List.getD xs i bx0
def kQ (xs : List Bx) (i : Nat) : Int := (u2 xs i).k
def kY (xs : List Bx) (i : Nat) : List Int := (u2 xs i).r
def kV (xs : List Bx) (i : Nat) : Nat := (u2 xs i).rn
def kT (xs : List Bx) (i : Nat) : List (List Int) := (u2 xs i).m
def kX (xs : List Bx) (i : Nat) : List Int := (u2 xs i).s
def kU (xs : List Bx) (i : Nat) : Nat := (u2 xs i).sn
theorem u3k {xs : List Bx} {i : Nat} (h : i < List.length xs) : kN (List.drop i xs) = bxR (u2 xs i) ++ kN (List.drop (i + 1) xs) := by
 have e : u2 xs i = xs[i] := by unfold u2; rw [List.getD_eq_getElem?_getD, List.getElem?_eq_getElem h]; rfl
 rw [List.drop_eq_getElem_cons h, e]; rfl
theorem vB {xs : List Bx} {i : Nat} (h : i < List.length xs) : List.take 4 (List.drop (i * 4) (kN xs)) = [D.lit (.int .i64 (kQ xs i)), D.sl (dI .i64 (kY xs i)) (kV xs i), D.sl (kI (kT xs i)) (List.length (kT xs i)), D.sl (dI .i64 (kX xs i)) (kU xs i)] := by
 rw [xS, u3k h]; rfl
def zS (b : Bx) : Prop := List.length b.r = b.rn * 2 ∧ List.length b.s = b.sn * 2 ∧ b.rn ≤ 1000000 ∧ b.sn ≤ 1000000 ∧ List.length b.m ≤ 1000000 ∧ MsW b.m
def BsW (xs : List Bx) : Prop := ∀ b ∈ xs, zS b
theorem v2w : zS bx0 := ⟨rfl, rfl, Nat.zero_le _, Nat.zero_le _, Nat.zero_le _, MsW.nil⟩
theorem BsW.get {xs : List Bx} (h : BsW xs) (i : Nat) : zS (u2 xs i) := by
 unfold u2
 rw [List.getD_eq_getElem?_getD]
 cases e : xs[i]? with
 | none => exact v2w
 | some l => exact h l (List.mem_of_getElem? e)
theorem BsW.at {xs : List Bx} (h : BsW xs) (i : Nat) : List.length (kY xs i) = kV xs i * 2 ∧ List.length (kX xs i) = kU xs i * 2 ∧ kV xs i ≤ 1000000 ∧ kU xs i ≤ 1000000 ∧ List.length (kT xs i) ≤ 1000000 := by
 have h1 := h.get i
 exact ⟨h1.1, h1.2.1, h1.2.2.1, h1.2.2.2.1, h1.2.2.2.2.1⟩
theorem BsW.ms {xs : List Bx} (h : BsW xs) (i : Nat) : MsW (kT xs i) := (h.get i).2.2.2.2.2
theorem BsW.take {xs : List Bx} (h : BsW xs) (n : Nat) : BsW (List.take n xs) := fun m hm => h m (List.mem_of_mem_take hm)
theorem BsW.drop {xs : List Bx} (h : BsW xs) (n : Nat) : BsW (List.drop n xs) := fun m hm => h m (List.mem_of_mem_drop hm)
theorem BsW.app {xs ys : List Bx} (h : BsW xs) (h2 : BsW ys) : BsW (xs ++ ys) := fun m hm => (List.mem_append.1 hm).elim (h m) (h2 m)
theorem BsW.nil : BsW [] := fun l h => by cases h
theorem BsW.one {b : Bx} (h : zS b) : BsW [b] := fun m hm => by rw [List.mem_singleton.1 hm]; exact h
def jE (k : Int) : Int := qF .andNot .i64 k 254
def eI (k : Int) : Int := qF .and .i64 k 1
def gQ (k : Int) (q : Nat) : Bool := decide (1 ≤ q ∧ q ≤ 7 ∧ eI (k / ((2 ^ q : Nat) : Int)) = 1)
def fF (k : Int) (r : List Int) (rn : Nat) (m : List (List Int)) (s : List Int) (sn : Nat) : Bool := decide (¬ k = 0 ∧ jE k = 0) && (eG r rn 1000 768000 && (mM m && eG s sn 1 65536))
def vbE (xs : List Bx) (i : Nat) : Bool := fF (kQ xs i) (kY xs i) (kV xs i) (kT xs i) (kX xs i) (kU xs i)
def cF (xs : List Bx) : Bool := decide (xs.length ≤ 64 ∧ ∀ i, i < xs.length → vbE xs i = true)
theorem u6u {xs : List Bx} (h2 : xs.length ≤ 64) (h : ∀ i, i < xs.length → vbE xs i = true) : cF xs = true := decide_eq_true ⟨h2, h⟩
theorem v48 {xs : List Bx} {k : Nat} (hk : k < xs.length) (h : vbE xs k = false) : cF xs = false := decide_eq_false fun h1 => by
 have := h1.2 k hk; rw [h] at this; cases this
theorem v47 {xs : List Bx} (h : 64 < xs.length) : cF xs = false := decide_eq_false fun h1 => by omega
theorem k4g {k : Int} {r : List Int} {rn : Nat} {m : List (List Int)} {s : List Int} {sn : Nat} (h1 : ¬ k = 0 ∧ jE k = 0) (h2 : eG r rn 1000 768000 = true) (h3 : mM m = true) (h4 : eG s sn 1 65536 = true) : fF k r rn m s sn = true := by
 unfold fF; rw [h2, h3, h4, decide_eq_true h1]; rfl
theorem v2u {k : Int} {r : List Int} {rn : Nat} {m : List (List Int)} {s : List Int} {sn : Nat} (h1 : ¬ (¬ k = 0 ∧ jE k = 0)) : fF k r rn m s sn = false := by
 unfold fF; rw [decide_eq_false h1]; rfl
theorem v65 {k : Int} {r : List Int} {rn : Nat} {m : List (List Int)} {s : List Int} {sn : Nat} (h2 : eG r rn 1000 768000 = false) : fF k r rn m s sn = false := by
 unfold fF; rw [h2, Bool.false_and, Bool.and_false]
theorem v66 {k : Int} {r : List Int} {rn : Nat} {m : List (List Int)} {s : List Int} {sn : Nat} (h3 : mM m = false) : fF k r rn m s sn = false := by
 unfold fF; rw [h3, Bool.false_and, Bool.and_false, Bool.and_false]
theorem v64 {k : Int} {r : List Int} {rn : Nat} {m : List (List Int)} {s : List Int} {sn : Nat} (h4 : eG s sn 1 65536 = false) : fF k r rn m s sn = false := by
 unfold fF; rw [h4, Bool.and_false, Bool.and_false, Bool.and_false]
def kK (xs : List Bx) : List Bx := if cF xs = true then xs else []
theorem k30 {xs : List Bx} (h : cF xs = true) : kK xs = xs := if_pos h
theorem u5x {xs : List Bx} (h : cF xs = false) : kK xs = [] := if_neg (by rw [h]; decide)
theorem dP {xs : List Bx} (h : BsW xs) : BsW (kK xs) := by unfold kK; split; exact h; exact BsW.nil
theorem j0 (xs : List Bx) : List.length (kK xs) ≤ List.length xs := by unfold kK; split; exact Nat.le_refl _; exact Nat.zero_le _
theorem mE {p : Prop} (h : p := by (rw [List.drop_drop]; exact yF _ _ _ (by omega))) : p := h
theorem j3 (l : List Int) (n : Nat) (lo hi : Int) (hl : List.length l = n * 2) (hb : n ≤ 1000000) : Fun 128 [.agg [.d (D.sl (dI .i64 l) n)], iE lo, iE hi] (kF []) 0 (uW (D.lit (.bool (eG l n lo hi)))) (kF []) 0 := by
 refine Fun.mk (n := 37) Tryz.func128 rfl rfl (Nat.le_of_ble_eq_true rfl) ?_
 intro cx hcx
 refine kH [.no, .no] True [(1, iV lo), (2, iV hi), (3, rV 0 0)] [(0, some (60, .ds [dl l n]))] 1 trivial ?_
 refine kS [.no, .no, .no, .w, .no] (u3 ((n : Int) - 1)) [(1, iV lo), (2, iV hi), (3, rV 0 0), (7, iV (↑n - 1))] ⟨by omega, by omega⟩ ?_
 by_cases hx1 : ((0 : Int) ≤ (((n : Nat) : Int) - 1))
 ·rcases Bool.eq_false_or_eq_true (eH l n) with hx2 | hx2
  ·by_cases hx3 : (lo ≤ (List.getD l 0 0))
   ·by_cases hx4 : ((List.getD l (((n - 1) * 2) + 1) 0) ≤ hi)
    ·refine kH (.no :: .b true :: .no :: .no :: .call [] (bV true) [] 0 [] none :: qE 4 (.n 0 :: .no :: .d (D.lit (.int .i64 (List.getD l 0 0))) :: .no :: .b true :: qE 5 [.n (n - 1), .no, .d (D.lit (.int .i64 (List.getD l (((n - 1) * 2) + 1) 0))), .no, .b true, .no, .no])) ((((0 : Int) ≤ ((n : Int) - 1))) ∧ (Fun 155 [.agg [.d (dl l n)]] (kF []) 0 (bV true) (kF []) 0) ∧ (kM 0) ∧ ((0 : Nat) < n) ∧ ((List.drop 0 (List.drop 0 (dI .i64 l)))[0]? = some (D.lit (.int .i64 (List.getD l 0 0)))) ∧ ((lo ≤ (List.getD l 0 0))) ∧ ((((n : Int) - 1) : Int) = (((n - 1) : Nat) : Int)) ∧ ((n - 1) < n) ∧ ((List.drop 1 (List.drop ((n - 1) * 2) (dI .i64 l)))[0]? = some (D.lit (.int .i64 (List.getD l (((n - 1) * 2) + 1) 0)))) ∧ (((List.getD l (((n - 1) * 2) + 1) 0) ≤ hi))) [(6, bV true)] [] 1 ⟨zo, (by have h0 := (fZ l n zo zo); rw [hx2] at h0; exact h0), rfl, zo, mE, zo, zo, zo, mE, zo⟩ ?_
     refine AW.ret ?_
     exact kA (.inr rfl) [] (P := ((eG l n lo hi) = true)) zk (by exact k4z (by assumption) zo)
    ·refine kH (.no :: .b true :: .no :: .no :: .call [] (bV true) [] 0 [] none :: qE 4 (.n 0 :: .no :: .d (D.lit (.int .i64 (List.getD l 0 0))) :: .no :: .b true :: qE 5 [.n (n - 1), .no, .d (D.lit (.int .i64 (List.getD l (((n - 1) * 2) + 1) 0))), .no, .b false, .no, .no])) ((((0 : Int) ≤ ((n : Int) - 1))) ∧ (Fun 155 [.agg [.d (dl l n)]] (kF []) 0 (bV true) (kF []) 0) ∧ (kM 0) ∧ ((0 : Nat) < n) ∧ ((List.drop 0 (List.drop 0 (dI .i64 l)))[0]? = some (D.lit (.int .i64 (List.getD l 0 0)))) ∧ ((lo ≤ (List.getD l 0 0))) ∧ ((((n : Int) - 1) : Int) = (((n - 1) : Nat) : Int)) ∧ ((n - 1) < n) ∧ ((List.drop 1 (List.drop ((n - 1) * 2) (dI .i64 l)))[0]? = some (D.lit (.int .i64 (List.getD l (((n - 1) * 2) + 1) 0)))) ∧ (¬ ((List.getD l (((n - 1) * 2) + 1) 0) ≤ hi))) [(6, bV false)] [] 1 ⟨zo, (by have h0 := (fZ l n zo zo); rw [hx2] at h0; exact h0), rfl, zo, mE, zo, zo, zo, mE, zo⟩ ?_
     refine AW.ret ?_
     exact kA (.inr rfl) [] (P := ((eG l n lo hi) = false)) zk (by exact u6s zo)
   ·refine kH (.no :: .b true :: .no :: .no :: .call [] (bV true) [] 0 [] none :: qE 4 (.n 0 :: .no :: .d (D.lit (.int .i64 (List.getD l 0 0))) :: .no :: .b false :: qE 4 [])) ((((0 : Int) ≤ ((n : Int) - 1))) ∧ (Fun 155 [.agg [.d (dl l n)]] (kF []) 0 (bV true) (kF []) 0) ∧ (kM 0) ∧ ((0 : Nat) < n) ∧ ((List.drop 0 (List.drop 0 (dI .i64 l)))[0]? = some (D.lit (.int .i64 (List.getD l 0 0)))) ∧ (¬ (lo ≤ (List.getD l 0 0)))) [(6, bV false)] [] 1 ⟨zo, (by have h0 := (fZ l n zo zo); rw [hx2] at h0; exact h0), rfl, zo, mE, zo⟩ ?_
    refine AW.ret ?_
    exact kA (.inr rfl) [] (P := ((eG l n lo hi) = false)) zk (by exact u6s zo)
  ·refine kH (.no :: .b true :: .no :: .no :: .call [] (bV false) [] 0 [] none :: qE 6 []) ((((0 : Int) ≤ ((n : Int) - 1))) ∧ (Fun 155 [.agg [.d (dl l n)]] (kF []) 0 (bV false) (kF []) 0)) [(6, bV false)] [] 1 ⟨zo, (by have h0 := (fZ l n zo zo); rw [hx2] at h0; exact h0)⟩ ?_
   refine AW.ret ?_
   exact kA (.inr rfl) [] (P := ((eG l n lo hi) = false)) zk (by exact v43 (by assumption))
 ·refine kH (.no :: .b false :: qE 7 []) (¬ ((0 : Int) ≤ ((n : Int) - 1))) [(6, bV false)] [] 1 zo ?_
  refine AW.ret ?_
  exact kA (.inr rfl) [] (P := ((eG l n lo hi) = false)) zk (by exact u6s zo)
end Go.Proofs.YtbicifcgghmhaaaGreat
namespace Go.Proofs.YtbicifcgghmhaaaGreat
open Go.ChangeShapes Go.WideShapes Go.ChangeAt Go.RowKit
set_option linter.unusedVariables false
set_option linter.unusedSimpArgs false
/-! chapter 10: the best choice -/
theorem k23 (n : Int) : ∀ (s : List Sp) (o : Option Int), (∀ p ∈ s, dD p) → (∀ v, o = some v → 0 ≤ v ∧ v ≤ 2147483647) → ∀ v, nrP n s o = some v → 0 ≤ v ∧ v ≤ 2147483647
 | [], o, _, h => h
 | p :: s, o, hs, h => by
  have hp := hs p (List.mem_cons_self ..)
  have hc : 0 ≤ gV n p ∧ gV n p ≤ 2147483647 := by
   unfold dD at hp
   show 0 ≤ max p.1 (min p.2 n) ∧ max p.1 (min p.2 n) ≤ 2147483647
   omega
  refine k23 n s _ (fun q hq => hs q (List.mem_cons_of_mem _ hq)) ?_
  intro v hv
  cases o with
  | none => cases hv; exact hc
  | some u =>
   have hu := h u rfl
   dsimp only at hv
   split at hv
   ·cases hv; exact hc
   ·cases hv; exact hu
theorem jR {z : Int} {l : List Int} {n : Nat} (hl : l.length = n * 2) : 0 ≤ vA z (kB l n) ∧ vA z (kB l n) ≤ 2147483647 := by
 unfold vA
 cases e : nrP z (qO (kB l n)) none with
 | none => exact ⟨Int.le_refl _, by decide⟩
 | some v => exact k23 z _ none (cW (bC hl)) (fun v h => by cases h) v e
def cA (b w : Int) : Nat → Int
 | 0 => 0
 | j + 1 => if gQ b (j + 1) = true ∧ (cA b w j = 0 ∨ b7 w ((j : Int) + 1) (cA b w j) < 0) then (j : Int) + 1 else cA b w j
theorem u3p {b w : Int} {j : Nat} {y x : Int} (h : cA b w j = y) (h1 : gQ b (j + 1) = true) (h2 : y = 0 ∨ b7 w ((j : Int) + 1) y < 0) (hx : x = (j : Int) + 1) : cA b w (j + 1) = x := by
 subst h; rw [hx]; exact if_pos ⟨h1, h2⟩
theorem v34 {b w : Int} {j : Nat} {y : Int} (h : cA b w j = y) (h1 : gQ b (j + 1) = false) : cA b w (j + 1) = y := by
 rw [← h]; exact if_neg fun e => by rw [h1] at e; cases e.1
theorem v33 {b w : Int} {j : Nat} {y : Int} (h : cA b w j = y) (h2 : ¬ y = 0) (h3 : ¬ b7 w ((j : Int) + 1) y < 0) : cA b w (j + 1) = y := by
 subst h; exact if_neg fun e => e.2.elim h2 h3
theorem tD (b w : Int) : ∀ j, 0 ≤ cA b w j ∧ cA b w j ≤ j
 | 0 => ⟨Int.le_refl _, Int.le_refl _⟩
 | j + 1 => by
  have := tD b w j
  rw [cA]; split <;> omega
def eM (w : List Int) (ms : List (List Int)) : Nat → List Int
 | 0 => []
 | j + 1 => if j = 0 ∨ bX w (List.getD ms j []) (eM w ms j) < 0 then List.getD ms j [] else eM w ms j
theorem v32 {w : List Int} {ms : List (List Int)} {x : List Int} (hx : x = List.getD ms 0 []) : eM w ms 1 = x := by
 rw [hx]; exact if_pos (.inl rfl)
theorem v30 {w : List Int} {ms : List (List Int)} {j : Nat} {u x : List Int} (h : eM w ms j = u) (h2 : bX w (List.getD ms j []) u < 0) (hx : x = List.getD ms j []) : eM w ms (j + 1) = x := by
 subst h; rw [hx]; exact if_pos (.inr h2)
theorem v31 {w : List Int} {ms : List (List Int)} {j : Nat} {u : List Int} (h : eM w ms j = u) (h1 : ¬ j = 0) (h2 : ¬ bX w (List.getD ms j []) u < 0) : eM w ms (j + 1) = u := by
 subst h; exact if_neg fun e => e.elim h1 h2
theorem u0b {w : List Int} {ms : List (List Int)} (h : MsW ms) : ∀ j, List.length (eM w ms j) ≤ 1000000
 | 0 => Nat.zero_le _
 | j + 1 => by
  rw [eM]; split
  ·exact h.at j
  ·exact u0b h j
theorem s9 {xs : List Bx} {i : Nat} (h : i < List.length (kK xs)) : 1 ≤ List.length (kT (kK xs) i) := by
 cases e : cF xs with
 | false => rw [u5x e] at h; exact absurd h (Nat.not_lt_zero _)
 | true =>
  rw [k30 e] at h ⊢
  have h1 := (of_decide_eq_true e).2 i h
  unfold vbE fF at h1
  rw [Bool.and_eq_true, Bool.and_eq_true, Bool.and_eq_true] at h1
  exact (of_decide_eq_true h1.2.2.1).1
end Go.Proofs.YtbicifcgghmhaaaGreat
namespace Go.Proofs.YtbicifcgghmhaaaGreat
open Go.ChangeShapes Go.WideShapes Go.ChangeAt Go.RowKit
set_option linter.unusedVariables false
set_option linter.unusedSimpArgs false
def bxC (b : Bx) (w : Co) : Co := ⟨cA b.k w.k 7, vA w.r (kB b.r b.rn), eM w.m b.m b.m.length, vA w.s (kB b.s b.sn)⟩
def pR (bs : List Bx) (w : Co) : Nat → Co
 | 0 => ⟨0, 0, [], 0⟩
 | j + 1 => if j = 0 ∨ n4 w (bxC (u2 bs j) w) (pR bs w j) < 0 then bxC (u2 bs j) w else pR bs w j
def BE (bs : List Bx) (wk wr : Int) (w : List Int) (wz : Int) (i : Nat) (yk yr : Int) (u : List Int) (yz : Int) : Prop := pR bs ⟨wk, wr, w, wz⟩ i = ⟨yk, yr, u, yz⟩
theorem BE.first {bs : List Bx} {wk wr : Int} {w : List Int} {wz : Int} {yk yr : Int} {u : List Int} {yz : Int} (h1 : yk = cA (kQ bs 0) wk 7) (h2 : yr = vA wr (kB (kY bs 0) (kV bs 0))) (h3 : u = eM w (kT bs 0) (List.length (kT bs 0))) (h4 : yz = vA wz (kB (kX bs 0) (kU bs 0))) : BE bs wk wr w wz 1 yk yr u yz := by
 subst h1; subst h2; subst h3; subst h4
 exact if_pos (.inl rfl)
theorem BE.y {bs : List Bx} {wk wr : Int} {w : List Int} {wz : Int} {j : Nat} {yk yr : Int} {u : List Int} {yz xk xr : Int} {x : List Int} {xz : Int} (h : BE bs wk wr w wz j yk yr u yz) (h1 : xk = cA (kQ bs j) wk 7) (h2 : xr = vA wr (kB (kY bs j) (kV bs j))) (h3 : x = eM w (kT bs j) (List.length (kT bs j))) (h4 : xz = vA wz (kB (kX bs j) (kU bs j))) (hc : pO wk wr wz xk xr xz yk yr yz w x u < 0) : BE bs wk wr w wz (j + 1) xk xr x xz := by
 subst h1; subst h2; subst h3; subst h4
 have h : pR bs ⟨wk, wr, w, wz⟩ j = ⟨yk, yr, u, yz⟩ := h
 exact if_pos (.inr (by rw [h]; exact hc))
theorem BE.n {bs : List Bx} {wk wr : Int} {w : List Int} {wz : Int} {j : Nat} {yk yr : Int} {u : List Int} {yz : Int} (h : BE bs wk wr w wz j yk yr u yz) (h0 : ¬ j = 0) (hc : ¬ pO wk wr wz (cA (kQ bs j) wk 7) (vA wr (kB (kY bs j) (kV bs j))) (vA wz (kB (kX bs j) (kU bs j))) yk yr yz w (eM w (kT bs j) (List.length (kT bs j))) u < 0) : BE bs wk wr w wz (j + 1) yk yr u yz := by
 have h' : pR bs ⟨wk, wr, w, wz⟩ j = ⟨yk, yr, u, yz⟩ := h
 show pR bs ⟨wk, wr, w, wz⟩ (j + 1) = _
 rw [pR, if_neg fun e => e.elim h0 fun e1 => hc (by rw [h'] at e1; exact e1)]
 exact h'
def xU (bs : List Bx) (wk wr : Int) (w : List Int) (wz : Int) : Co := pR (kK bs) ⟨wk, wr, w, wz⟩ (List.length (kK bs))
def oL (bs : List Bx) (wk wr : Int) (w : List Int) (wz : Int) : Int := (xU bs wk wr w wz).k
def oK (bs : List Bx) (wk wr : Int) (w : List Int) (wz : Int) : Int := (xU bs wk wr w wz).r
def beM (bs : List Bx) (wk wr : Int) (w : List Int) (wz : Int) : List Int := (xU bs wk wr w wz).m
def oJ (bs : List Bx) (wk wr : Int) (w : List Int) (wz : Int) : Int := (xU bs wk wr w wz).s
theorem BE.fin {bs : List Bx} {wk wr : Int} {w : List Int} {wz : Int} {j : Nat} {yk yr : Int} {u : List Int} {yz : Int} (h : BE (kK bs) wk wr w wz j yk yr u yz) (hj : j = List.length (kK bs)) : oL bs wk wr w wz = yk ∧ oK bs wk wr w wz = yr ∧ beM bs wk wr w wz = u ∧ oJ bs wk wr w wz = yz := by
 subst hj
 have h' : xU bs wk wr w wz = ⟨yk, yr, u, yz⟩ := h
 unfold oL oK beM oJ; rw [h']; exact ⟨rfl, rfl, rfl, rfl⟩
def CoW (c : Co) : Prop := (0 ≤ c.k ∧ c.k ≤ 7) ∧ (0 ≤ c.r ∧ c.r ≤ 2147483647) ∧ (0 ≤ c.s ∧ c.s ≤ 2147483647) ∧ List.length c.m ≤ 1000000
theorem v2v {b : Bx} (h : zS b) (w : Co) : CoW (bxC b w) := ⟨tD _ _ _, jR h.1, jR h.2.1, u0b h.2.2.2.2.2 _⟩
theorem u60 {bs : List Bx} (h : BsW bs) (w : Co) : ∀ j, CoW (pR bs w j)
 | 0 => ⟨⟨Int.le_refl 0, (by decide : (0 : Int) ≤ 7)⟩, ⟨Int.le_refl 0, (by decide : (0 : Int) ≤ 2147483647)⟩, ⟨Int.le_refl 0, (by decide : (0 : Int) ≤ 2147483647)⟩, Nat.zero_le _⟩
 | j + 1 => by
  rw [pR]; split
  ·exact v2v (h.get j) w
  ·exact u60 h w j
theorem k4i {bs : List Bx} (h : BsW bs) (wk wr : Int) (w : List Int) (wz : Int) : (0 ≤ oL bs wk wr w wz ∧ oL bs wk wr w wz ≤ 7) ∧ (0 ≤ oK bs wk wr w wz ∧ oK bs wk wr w wz ≤ 2147483647) ∧ (0 ≤ oJ bs wk wr w wz ∧ oJ bs wk wr w wz ≤ 2147483647) ∧ List.length (beM bs wk wr w wz) ≤ 1000000 := u60 (dP h) _ _
end Go.Proofs.YtbicifcgghmhaaaGreat
