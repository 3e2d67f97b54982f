/- Merged texts. -/
import Derived.Test.YtalbpleglapihaaZL06
import Derived.Test.YtalbpleglapihaaZL09B
namespace Go.Proofs.Ytalbpleglapihaa
open Go.ChangeShapes Go.WideShapes Go.ChangeAt Go.RowKit
set_option linter.unusedVariables false
set_option linter.unusedSimpArgs false
/-! chapter 10: how choices are compared -/
structure Cmp {α : Type} (f : α → α → Int) : Prop where
 anti : ∀ a b, f a b = - f b a
 tr : ∀ a b c, f a b ≤ 0 → f b c ≤ 0 → f a c ≤ 0
theorem Cmp.zero {α : Type} {f : α → α → Int} (h : Cmp f) (a : α) : f a a = 0 := by
 have := h.anti a a; omega
def zO (a b : Int) : Int := if a = 0 then b else a
def cmV (a b : Int) : Int := if a < b then -1 else if a = b then 0 else 1
def fsV (p q : Bool) : Int := if p = q then 0 else if p = true then -1 else 1
def lxV : List Int → List Int → Int
 | [], [] => 0
 | [], _ :: _ => -1
 | _ :: _, [] => 1
 | a :: r, b :: s => zO (cmV a b) (lxV r s)
def awV (a b : Int) : Int := if a > b then a - b else b - a
def nrV (w a b : Int) : Int := zO (cmV (awV w a) (awV w b)) (cmV a b)
def kdV (w a b : Int) : Int := zO (fsV (decide (a = w)) (decide (b = w))) (cmV b a)
def cnC (w m : List Int) : Int := ((coL w m (List.length m)).length : Int)
def mpV (w a b : List Int) : Int := zO (fsV (eJ a w) (eJ b w)) (zO (cmV (cnC w b) (cnC w a)) (zO (cmV (a.length : Int) (b.length : Int)) (lxV a b)))
structure Co where
 k : Int
 r : Int
 m : List Int
 s : Int
def coV (w a b : Co) : Int := zO (kdV w.k a.k b.k) (zO (nrV w.r a.r b.r) (zO (mpV w.m a.m b.m) (nrV w.s a.s b.s)))
def coK (wk wr wz ak ar az bk br bz : Int) (w a b : List Int) : Int := zO (kdV wk ak bk) (zO (nrV wr ar br) (zO (mpV w a b) (nrV wz az bz)))
end Go.Proofs.Ytalbpleglapihaa
namespace Go.Proofs.Ytalbpleglapihaa
open Go.ChangeShapes Go.WideShapes Go.ChangeAt Go.RowKit
set_option linter.unusedVariables false
set_option linter.unusedSimpArgs false
/-! chapter 10: maps and boxes as data -/
set_option maxHeartbeats 4000000
set_option maxRecDepth 100000
def qA (xs : List (List Int)) : List D := xs.map fun l => D.sl (dI .i64 l) l.length
theorem kR (xs : List (List Int)) : List.length (qA xs) = List.length xs := by unfold qA; simp
theorem wJ (xs : List (List Int)) (l : List Int) (n : Nat) (h : l.length = n) : qA xs ++ [D.sl (dI .i64 l) n] = qA (xs ++ [l]) := by subst h; unfold qA; simp
theorem eY (xs : List (List Int)) (i : Nat) (h : i < xs.length) : (List.drop i (qA xs))[0]? = some (D.sl (dI .i64 (List.getD xs i [])) (List.getD xs i []).length) := by
 unfold qA
 rw [List.getElem?_drop, Nat.add_zero, List.getElem?_map, List.getElem?_eq_getElem h, List.getD_eq_getElem?_getD, List.getElem?_eq_getElem h]; rfl
theorem oU (xs : List (List Int)) (n : Nat) : List.take (n * 1) (List.drop (0 * 1) (qA xs)) = qA (List.take n xs) := by unfold qA; simp [List.map_take]
def MsW (xs : List (List Int)) : Prop := ∀ l ∈ xs, List.length l ≤ 1000000
theorem MsW.at {xs : List (List Int)} (h : MsW xs) (i : Nat) : List.length (List.getD xs i []) ≤ 1000000 := by
 rw [List.getD_eq_getElem?_getD]
 cases e : xs[i]? with
 | none => exact Nat.zero_le _
 | some l => exact h l (List.mem_of_getElem? e)
theorem MsW.nil : MsW [] := fun l h => by cases h
theorem MsW.snoc {xs : List (List Int)} {l : List Int} (h : MsW xs) (hl : List.length l ≤ 1000000) : MsW (xs ++ [l]) := fun m hm => (List.mem_append.1 hm).elim (h m) fun hm => by
 rw [List.mem_singleton.1 hm]; exact hl
theorem MsW.take {xs : List (List Int)} (h : MsW xs) (n : Nat) : MsW (List.take n xs) := fun m hm => h m (List.mem_of_mem_take hm)
def rI (xs : List (List Int)) (m : List Int) : Bool := decide (m ∈ xs)
theorem u47 {xs : List (List Int)} {m : List Int} {k : Nat} (hk : k < xs.length) (h : eJ (List.getD xs k []) m = true) : rI xs m = true := by
 have e : List.getD xs k [] = xs[k] := by rw [List.getD_eq_getElem?_getD, List.getElem?_eq_getElem hk]; rfl
 have h1 := k7t h
 rw [e] at h1
 exact decide_eq_true (h1 ▸ List.getElem_mem hk)
theorem u48 {xs : List (List Int)} {m : List Int} (h : ∀ j, j < xs.length → eJ (List.getD xs j []) m = false) : rI xs m = false := by
 refine decide_eq_false fun hm => ?_
 obtain ⟨j, hj, e⟩ := List.mem_iff_getElem.1 hm
 have h1 := k7s (h j hj)
 have e1 : List.getD xs j [] = xs[j] := by rw [List.getD_eq_getElem?_getD, List.getElem?_eq_getElem hj]; rfl
 exact h1 (by rw [e1, e])
def zN (xs : List (List Int)) (i : Nat) : Bool := i4 (List.getD xs i []) (List.getD xs i []).length && !(rI (List.take i xs) (List.getD xs i []))
def nR (xs : List (List Int)) : Bool := decide (1 ≤ xs.length ∧ xs.length ≤ 16 ∧ ∀ i, i < xs.length → zN xs i = true)
theorem xB {xs : List (List Int)} (h1 : 1 ≤ xs.length) (h2 : xs.length ≤ 16) (h : ∀ i, i < xs.length → zN xs i = true) : nR xs = true := decide_eq_true ⟨h1, h2, h⟩
theorem zW {xs : List (List Int)} {k : Nat} (hk : k < xs.length) (h : zN xs k = false) : nR xs = false := decide_eq_false fun h1 => by
 have := h1.2.2 k hk; rw [h] at this; cases this
theorem zV {xs : List (List Int)} (h : xs.length < 1 ∨ 16 < xs.length) : nR xs = false := decide_eq_false fun h1 => by omega
theorem k6c {xs : List (List Int)} {i : Nat} (h1 : i4 (List.getD xs i []) (List.getD xs i []).length = true) (h2 : rI (List.take i xs) (List.getD xs i []) = false) : zN xs i = true := by unfold zN; rw [h1, h2]; rfl
theorem u00 {xs : List (List Int)} {i : Nat} (h1 : i4 (List.getD xs i []) (List.getD xs i []).length = false) : zN xs i = false := by unfold zN; rw [h1]; rfl
theorem k9z {xs : List (List Int)} {i : Nat} (h2 : rI (List.take i xs) (List.getD xs i []) = true) : zN xs i = false := by unfold zN; rw [h2]; cases i4 (List.getD xs i []) (List.getD xs i []).length <;> rfl
def fJ (l : List Int) (n : Nat) (lo hi : Int) : Bool := iU l n && decide (1 ≤ n ∧ lo ≤ List.getD l 0 0 ∧ List.getD l ((n - 1) * 2 + 1) 0 ≤ hi)
theorem k9v {l : List Int} {n : Nat} {lo hi : Int} (h : iU l n = true) (h2 : 1 ≤ n ∧ lo ≤ List.getD l 0 0 ∧ List.getD l ((n - 1) * 2 + 1) 0 ≤ hi) : fJ l n lo hi = true := by unfold fJ; rw [h, decide_eq_true h2]; rfl
theorem u39 {l : List Int} {n : Nat} {lo hi : Int} (h : iU l n = false) : fJ l n lo hi = false := by unfold fJ; rw [h]; rfl
theorem u3a {l : List Int} {n : Nat} {lo hi : Int} (h2 : ¬ (1 ≤ n ∧ lo ≤ List.getD l 0 0 ∧ List.getD l ((n - 1) * 2 + 1) 0 ≤ hi)) : fJ l n lo hi = false := by unfold fJ; rw [decide_eq_false h2]; cases iU l n <;> rfl
structure Bx where
 k : Int
 r : List Int
 rn : Nat
 m : List (List Int)
 s : List Int
 sn : Nat
def bx0 : Bx := ⟨0, [], 0, [], [], 0⟩
def bxR (b : Bx) : List D := [D.lit (.int .i64 b.k), D.sl (dI .i64 b.r) b.rn, D.sl (qA b.m) b.m.length, D.sl (dI .i64 b.s) b.sn]
def qI : List Bx → List D
 | [] => []
 | b :: r => bxR b ++ qI r
theorem kQ : ∀ xs : List Bx, List.length (qI xs) = List.length xs * 4
 | [] => rfl
 | b :: r => by show List.length (bxR b ++ qI r) = (List.length r + 1) * 4; rw [List.length_append, kQ r]; show 4 + _ = _; omega
theorem wY : ∀ a b : List Bx, qI (a ++ b) = qI a ++ qI b
 | [], _ => rfl
 | l :: r, b => by show bxR l ++ qI (r ++ b) = bxR l ++ qI r ++ qI b; rw [wY r b, List.append_assoc]
theorem pR : ∀ (i : Nat) (xs : List Bx), List.drop (i * 4) (qI xs) = qI (List.drop i xs)
 | 0, _ => rfl
 | i + 1, [] => by simp [qI]
 | i + 1, l :: r => by
  show List.drop ((i + 1) * 4) (bxR l ++ qI r) = qI (List.drop i r)
  rw [show (i + 1) * 4 = 4 + i * 4 by omega, ← List.drop_drop, ← pR i r]; rfl
def fF (xs : List Bx) (i : Nat) : Bx := List.getD xs i bx0
def cL (xs : List Bx) (i : Nat) : Int := (fF xs i).k
def dF (xs : List Bx) (i : Nat) : List Int := (fF xs i).r
def vZ (xs : List Bx) (i : Nat) : Nat := (fF xs i).rn
def vI (xs : List Bx) (i : Nat) : List (List Int) := (fF xs i).m
def fW (xs : List Bx) (i : Nat) : List Int := (fF xs i).s
def cK (xs : List Bx) (i : Nat) : Nat := (fF xs i).sn
theorem k5w {xs : List Bx} {i : Nat} (h : i < List.length xs) : qI (List.drop i xs) = bxR (fF xs i) ++ qI (List.drop (i + 1) xs) := by
 have e : fF xs i = xs[i] := by unfold fF; rw [List.getD_eq_getElem?_getD, List.getElem?_eq_getElem h]; rfl
 rw [List.drop_eq_getElem_cons h, e]; rfl
theorem k3g {xs : List Bx} {i : Nat} (h : i < List.length xs) : List.take 4 (List.drop (i * 4) (qI xs)) = [D.lit (.int .i64 (cL xs i)), D.sl (dI .i64 (dF xs i)) (vZ xs i), D.sl (qA (vI xs i)) (List.length (vI xs i)), D.sl (dI .i64 (fW xs i)) (cK xs i)] := by
 rw [pR, k5w h]; rfl
def BxW (b : Bx) : Prop := List.length b.r = b.rn * 2 ∧ List.length b.s = b.sn * 2 ∧ b.rn ≤ 1000000 ∧ b.sn ≤ 1000000 ∧ List.length b.m ≤ 1000000 ∧ MsW b.m
def BsW (xs : List Bx) : Prop := ∀ b ∈ xs, BxW b
theorem u2e : BxW bx0 := ⟨rfl, rfl, Nat.zero_le _, Nat.zero_le _, Nat.zero_le _, MsW.nil⟩
theorem BsW.get {xs : List Bx} (h : BsW xs) (i : Nat) : BxW (fF xs i) := by
 unfold fF
 rw [List.getD_eq_getElem?_getD]
 cases e : xs[i]? with
 | none => exact u2e
 | some l => exact h l (List.mem_of_getElem? e)
theorem BsW.at {xs : List Bx} (h : BsW xs) (i : Nat) : List.length (dF xs i) = vZ xs i * 2 ∧ List.length (fW xs i) = cK xs i * 2 ∧ vZ xs i ≤ 1000000 ∧ cK xs i ≤ 1000000 ∧ List.length (vI xs i) ≤ 1000000 := by
 have h1 := h.get i
 exact ⟨h1.1, h1.2.1, h1.2.2.1, h1.2.2.2.1, h1.2.2.2.2.1⟩
theorem tH {xs : List Bx} (h : BsW xs) (i : Nat) : MsW (vI xs i) := (h.get i).2.2.2.2.2
theorem BsW.take {xs : List Bx} (h : BsW xs) (n : Nat) : BsW (List.take n xs) := fun m hm => h m (List.mem_of_mem_take hm)
theorem BsW.drop {xs : List Bx} (h : BsW xs) (n : Nat) : BsW (List.drop n xs) := fun m hm => h m (List.mem_of_mem_drop hm)
theorem BsW.app {xs ys : List Bx} (h : BsW xs) (h2 : BsW ys) : BsW (xs ++ ys) := fun m hm => (List.mem_append.1 hm).elim (h m) (h2 m)
theorem BsW.nil : BsW [] := fun l h => by cases h
theorem BsW.one {b : Bx} (h : BxW b) : BsW [b] := fun m hm => by rw [List.mem_singleton.1 hm]; exact h
def i5 (k : Int) : Int := qK .andNot .i64 k 254
def odV (k : Int) : Int := qK .and .i64 k 1
def kiB (k : Int) (q : Nat) : Bool := decide (1 ≤ q ∧ q ≤ 7 ∧ odV (k / ((2 ^ q : Nat) : Int)) = 1)
def fG (k : Int) (r : List Int) (rn : Nat) (m : List (List Int)) (s : List Int) (sn : Nat) : Bool := decide (¬ k = 0 ∧ i5 k = 0) && (fJ r rn 1000 768000 && (nR m && fJ s sn 1 65536))
def vbE (xs : List Bx) (i : Nat) : Bool := fG (cL xs i) (dF xs i) (vZ xs i) (vI xs i) (fW xs i) (cK xs i)
def lR (xs : List Bx) : Bool := decide (xs.length ≤ 64 ∧ ∀ i, i < xs.length → vbE xs i = true)
theorem u02 {xs : List Bx} (h2 : xs.length ≤ 64) (h : ∀ i, i < xs.length → vbE xs i = true) : lR xs = true := decide_eq_true ⟨h2, h⟩
theorem u3l {xs : List Bx} {k : Nat} (hk : k < xs.length) (h : vbE xs k = false) : lR xs = false := decide_eq_false fun h1 => by
 have := h1.2 k hk; rw [h] at this; cases this
theorem k7n {xs : List Bx} (h : 64 < xs.length) : lR xs = false := decide_eq_false fun h1 => by omega
theorem u2c {k : Int} {r : List Int} {rn : Nat} {m : List (List Int)} {s : List Int} {sn : Nat} (h1 : ¬ k = 0 ∧ i5 k = 0) (h2 : fJ r rn 1000 768000 = true) (h3 : nR m = true) (h4 : fJ s sn 1 65536 = true) : fG k r rn m s sn = true := by
 unfold fG; rw [h2, h3, h4, decide_eq_true h1]; rfl
theorem u4k {k : Int} {r : List Int} {rn : Nat} {m : List (List Int)} {s : List Int} {sn : Nat} (h1 : ¬ (¬ k = 0 ∧ i5 k = 0)) : fG k r rn m s sn = false := by
 unfold fG; rw [decide_eq_false h1]; rfl
theorem u4i {k : Int} {r : List Int} {rn : Nat} {m : List (List Int)} {s : List Int} {sn : Nat} (h2 : fJ r rn 1000 768000 = false) : fG k r rn m s sn = false := by
 unfold fG; rw [h2, Bool.false_and, Bool.and_false]
theorem u4j {k : Int} {r : List Int} {rn : Nat} {m : List (List Int)} {s : List Int} {sn : Nat} (h3 : nR m = false) : fG k r rn m s sn = false := by
 unfold fG; rw [h3, Bool.false_and, Bool.and_false, Bool.and_false]
theorem u4h {k : Int} {r : List Int} {rn : Nat} {m : List (List Int)} {s : List Int} {sn : Nat} (h4 : fJ s sn 1 65536 = false) : fG k r rn m s sn = false := by
 unfold fG; rw [h4, Bool.and_false, Bool.and_false, Bool.and_false]
def bxL (xs : List Bx) : List Bx := if lR xs = true then xs else []
theorem u2d {xs : List Bx} (h : lR xs = true) : bxL xs = xs := if_pos h
theorem gE {p : Prop} (h : p := by first | (rw [List.drop_drop]; exact qT _ _ _ (by first | omega | (simp only [kR, kQ, qJ, List.length_append, List.length_cons, List.length_nil, List.length_take, List.length_drop, List.length_replicate, List.length_set, List.length_map, List.length_reverse, Nat.mul_one] <;> omega) | rfl)) | (rw [List.drop_drop, Nat.add_comm]; exact qT _ _ _ (by first | omega | (simp only [kR, kQ, qJ, List.length_append, List.length_cons, List.length_nil, List.length_take, List.length_drop, List.length_replicate, List.length_set, List.length_map, List.length_reverse, Nat.mul_one] <;> omega) | rfl))) : p := h
theorem gD {p : Prop} (h : p := by first | exact k9v (by assumption) (by omega) | exact u39 (by assumption) | exact u3a (by omega)) : p := h
theorem fH (l : List Int) (n : Nat) (lo hi : Int) (hl : List.length l = n * 2) (hb : n ≤ 1000000) : Fun 65 [.agg [.d (D.sl (dI .i64 l) n)], iE lo, iE hi] (kG []) 0 (kS (D.lit (.bool (fJ l n lo hi)))) (kG []) 0 := by
 refine Fun.mk (n := 37) Try.func65 rfl rfl (Nat.le_of_ble_eq_true rfl) ?_
 intro cx hcx
 refine kK [.no, .no] True [(1, iV lo), (2, iV hi), (3, rV 0 0)] [(0, some (75, .ds [dl l n]))] 1 trivial ?_
 refine kX [.no, .no, .no, .w, .no] (qL ((n : Int) - 1)) [(1, iV lo), (2, iV hi), (3, rV 0 0), (7, iV (↑n - 1))] ⟨by omega, by omega⟩ ?_
 by_cases hx1 : ((0 : Int) ≤ (((n : Nat) : Int) - 1))
 ·rcases Bool.eq_false_or_eq_true (iU l n) with hx2 | hx2
  ·by_cases hx3 : (lo ≤ (List.getD l 0 0))
   ·by_cases hx4 : ((List.getD l (((n - 1) * 2) + 1) 0) ≤ hi)
    ·refine kK (.no :: .b true :: .no :: .no :: .call [] (bV true) [] 0 [] none :: kU 4 (.n 0 :: .no :: .d (D.lit (.int .i64 (List.getD l 0 0))) :: .no :: .b true :: kU 5 [.n (n - 1), .no, .d (D.lit (.int .i64 (List.getD l (((n - 1) * 2) + 1) 0))), .no, .b true, .no, .no])) ((((0 : Int) ≤ ((n : Int) - 1))) ∧ (Fun 73 [.agg [.d (dl l n)]] (kG []) 0 (bV true) (kG []) 0) ∧ (kN 0) ∧ ((0 : Nat) < n) ∧ ((List.drop 0 (List.drop 0 (dI .i64 l)))[0]? = some (D.lit (.int .i64 (List.getD l 0 0)))) ∧ ((lo ≤ (List.getD l 0 0))) ∧ ((((n : Int) - 1) : Int) = (((n - 1) : Nat) : Int)) ∧ ((n - 1) < n) ∧ ((List.drop 1 (List.drop ((n - 1) * 2) (dI .i64 l)))[0]? = some (D.lit (.int .i64 (List.getD l (((n - 1) * 2) + 1) 0)))) ∧ (((List.getD l (((n - 1) * 2) + 1) 0) ≤ hi))) [(6, bV true)] [] 1 ⟨zo, (by have h0 := (f6 l n zo zo); rw [hx2] at h0; exact h0), rfl, zo, gE, zo, (by first | rfl | omega), zo, gE, zo⟩ ?_
     refine AW.ret ?_
     exact kC (.inr rfl) [] (P := ((fJ l n lo hi) = true)) zk gD
    ·refine kK (.no :: .b true :: .no :: .no :: .call [] (bV true) [] 0 [] none :: kU 4 (.n 0 :: .no :: .d (D.lit (.int .i64 (List.getD l 0 0))) :: .no :: .b true :: kU 5 [.n (n - 1), .no, .d (D.lit (.int .i64 (List.getD l (((n - 1) * 2) + 1) 0))), .no, .b false, .no, .no])) ((((0 : Int) ≤ ((n : Int) - 1))) ∧ (Fun 73 [.agg [.d (dl l n)]] (kG []) 0 (bV true) (kG []) 0) ∧ (kN 0) ∧ ((0 : Nat) < n) ∧ ((List.drop 0 (List.drop 0 (dI .i64 l)))[0]? = some (D.lit (.int .i64 (List.getD l 0 0)))) ∧ ((lo ≤ (List.getD l 0 0))) ∧ ((((n : Int) - 1) : Int) = (((n - 1) : Nat) : Int)) ∧ ((n - 1) < n) ∧ ((List.drop 1 (List.drop ((n - 1) * 2) (dI .i64 l)))[0]? = some (D.lit (.int .i64 (List.getD l (((n - 1) * 2) + 1) 0)))) ∧ (¬ ((List.getD l (((n - 1) * 2) + 1) 0) ≤ hi))) [(6, bV false)] [] 1 ⟨zo, (by have h0 := (f6 l n zo zo); rw [hx2] at h0; exact h0), rfl, zo, gE, zo, (by first | rfl | omega), zo, gE, zo⟩ ?_
     refine AW.ret ?_
     exact kC (.inr rfl) [] (P := ((fJ l n lo hi) = false)) zk gD
   ·refine kK (.no :: .b true :: .no :: .no :: .call [] (bV true) [] 0 [] none :: kU 4 (.n 0 :: .no :: .d (D.lit (.int .i64 (List.getD l 0 0))) :: .no :: .b false :: kU 4 [])) ((((0 : Int) ≤ ((n : Int) - 1))) ∧ (Fun 73 [.agg [.d (dl l n)]] (kG []) 0 (bV true) (kG []) 0) ∧ (kN 0) ∧ ((0 : Nat) < n) ∧ ((List.drop 0 (List.drop 0 (dI .i64 l)))[0]? = some (D.lit (.int .i64 (List.getD l 0 0)))) ∧ (¬ (lo ≤ (List.getD l 0 0)))) [(6, bV false)] [] 1 ⟨zo, (by have h0 := (f6 l n zo zo); rw [hx2] at h0; exact h0), rfl, zo, gE, zo⟩ ?_
    refine AW.ret ?_
    exact kC (.inr rfl) [] (P := ((fJ l n lo hi) = false)) zk gD
  ·refine kK (.no :: .b true :: .no :: .no :: .call [] (bV false) [] 0 [] none :: kU 6 []) ((((0 : Int) ≤ ((n : Int) - 1))) ∧ (Fun 73 [.agg [.d (dl l n)]] (kG []) 0 (bV false) (kG []) 0)) [(6, bV false)] [] 1 ⟨zo, (by have h0 := (f6 l n zo zo); rw [hx2] at h0; exact h0)⟩ ?_
   refine AW.ret ?_
   exact kC (.inr rfl) [] (P := ((fJ l n lo hi) = false)) zk gD
 ·refine kK (.no :: .b false :: kU 7 []) (¬ ((0 : Int) ≤ ((n : Int) - 1))) [(6, bV false)] [] 1 zo ?_
  refine AW.ret ?_
  exact kC (.inr rfl) [] (P := ((fJ l n lo hi) = false)) zk gD
end Go.Proofs.Ytalbpleglapihaa
