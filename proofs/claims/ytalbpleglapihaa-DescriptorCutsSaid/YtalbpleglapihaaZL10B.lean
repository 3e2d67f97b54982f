/- Merged texts. -/
import Derived.Test.YtalbpleglapihaaZL06
import Derived.Test.YtalbpleglapihaaZL09B
namespace Go.Proofs.Ytalbpleglapihaa
open Go.ChangeShapes Go.WideShapes Go.ChangeAt Go.RowKit
set_option linter.unusedVariables false
set_option linter.unusedSimpArgs false
/-! chapter 10: how choices are compared -/
structure Cmp {α : Type} (f : α → α → Int) : Prop where
 anti : ∀ a b, f a b = - f b a
 tr : ∀ a b c, f a b ≤ 0 → f b c ≤ 0 → f a c ≤ 0
theorem Cmp.zero {α : Type} {f : α → α → Int} (h : Cmp f) (a : α) : f a a = 0 := by
 have := h.anti a a; omega
def zI (a b : Int) : Int := if a = 0 then b else a
def cmV (a b : Int) : Int := if a < b then -1 else if a = b then 0 else 1
def fsV (p q : Bool) : Int := if p = q then 0 else if p = true then -1 else 1
def lxV : List Int → List Int → Int
 | [], [] => 0
 | [], _ :: _ => -1
 | _ :: _, [] => 1
 | a :: r, b :: s => zI (cmV a b) (lxV r s)
def awV (a b : Int) : Int := if a > b then a - b else b - a
def nrV (w a b : Int) : Int := zI (cmV (awV w a) (awV w b)) (cmV a b)
def kdV (w a b : Int) : Int := zI (fsV (decide (a = w)) (decide (b = w))) (cmV b a)
def cnC (w m : List Int) : Int := ((coL w m (List.length m)).length : Int)
def mpV (w a b : List Int) : Int := zI (fsV (eF a w) (eF b w)) (zI (cmV (cnC w b) (cnC w a)) (zI (cmV (a.length : Int) (b.length : Int)) (lxV a b)))
structure Co where
 k : Int
 r : Int
 m : List Int
 s : Int
def coV (w a b : Co) : Int := zI (kdV w.k a.k b.k) (zI (nrV w.r a.r b.r) (zI (mpV w.m a.m b.m) (nrV w.s a.s b.s)))
def coK (wk wr wz ak ar az bk br bz : Int) (w a b : List Int) : Int := zI (kdV wk ak bk) (zI (nrV wr ar br) (zI (mpV w a b) (nrV wz az bz)))
end Go.Proofs.Ytalbpleglapihaa
namespace Go.Proofs.Ytalbpleglapihaa
open Go.ChangeShapes Go.WideShapes Go.ChangeAt Go.RowKit
set_option linter.unusedVariables false
set_option linter.unusedSimpArgs false
/-! chapter 10: maps and boxes as data -/
set_option maxHeartbeats 4000000
set_option maxRecDepth 100000
def qA (xs : List (List Int)) : List D := xs.map fun l => D.sl (dI .i64 l) l.length
theorem kR (xs : List (List Int)) : List.length (qA xs) = List.length xs := by unfold qA; simp
theorem wD (xs : List (List Int)) (l : List Int) (n : Nat) (h : l.length = n) : qA xs ++ [D.sl (dI .i64 l) n] = qA (xs ++ [l]) := by subst h; unfold qA; simp
theorem eT (xs : List (List Int)) (i : Nat) (h : i < xs.length) : (List.drop i (qA xs))[0]? = some (D.sl (dI .i64 (List.getD xs i [])) (List.getD xs i []).length) := by
 unfold qA
 rw [List.getElem?_drop, Nat.add_zero, List.getElem?_map, List.getElem?_eq_getElem h, List.getD_eq_getElem?_getD, List.getElem?_eq_getElem h]; rfl
theorem oW (xs : List (List Int)) (n : Nat) : List.take (n * 1) (List.drop (0 * 1) (qA xs)) = qA (List.take n xs) := by unfold qA; simp [List.map_take]
def MsW (xs : List (List Int)) : Prop := ∀ l ∈ xs, List.length l ≤ 1000000
theorem MsW.at {xs : List (List Int)} (h : MsW xs) (i : Nat) : List.length (List.getD xs i []) ≤ 1000000 := by
 rw [List.getD_eq_getElem?_getD]
 cases e : xs[i]? with
 | none => exact Nat.zero_le _
 | some l => exact h l (List.mem_of_getElem? e)
theorem MsW.nil : MsW [] := fun l h => by cases h
theorem MsW.snoc {xs : List (List Int)} {l : List Int} (h : MsW xs) (hl : List.length l ≤ 1000000) : MsW (xs ++ [l]) := fun m hm => (List.mem_append.1 hm).elim (h m) fun hm => by
 rw [List.mem_singleton.1 hm]; exact hl
theorem MsW.take {xs : List (List Int)} (h : MsW xs) (n : Nat) : MsW (List.take n xs) := fun m hm => h m (List.mem_of_mem_take hm)
def rI (xs : List (List Int)) (m : List Int) : Bool := decide (m ∈ xs)
theorem u41 {xs : List (List Int)} {m : List Int} {k : Nat} (hk : k < xs.length) (h : eF (List.getD xs k []) m = true) : rI xs m = true := by
 have e : List.getD xs k [] = xs[k] := by rw [List.getD_eq_getElem?_getD, List.getElem?_eq_getElem hk]; rfl
 have h1 := k7o h
 rw [e] at h1
 exact decide_eq_true (h1 ▸ List.getElem_mem hk)
theorem u42 {xs : List (List Int)} {m : List Int} (h : ∀ j, j < xs.length → eF (List.getD xs j []) m = false) : rI xs m = false := by
 refine decide_eq_false fun hm => ?_
 obtain ⟨j, hj, e⟩ := List.mem_iff_getElem.1 hm
 have h1 := k7n (h j hj)
 have e1 : List.getD xs j [] = xs[j] := by rw [List.getD_eq_getElem?_getD, List.getElem?_eq_getElem hj]; rfl
 exact h1 (by rw [e1, e])
def zH (xs : List (List Int)) (i : Nat) : Bool := iX (List.getD xs i []) (List.getD xs i []).length && !(rI (List.take i xs) (List.getD xs i []))
def nM (xs : List (List Int)) : Bool := decide (1 ≤ xs.length ∧ xs.length ≤ 16 ∧ ∀ i, i < xs.length → zH xs i = true)
theorem w5 {xs : List (List Int)} (h1 : 1 ≤ xs.length) (h2 : xs.length ≤ 16) (h : ∀ i, i < xs.length → zH xs i = true) : nM xs = true := decide_eq_true ⟨h1, h2, h⟩
theorem zQ {xs : List (List Int)} {k : Nat} (hk : k < xs.length) (h : zH xs k = false) : nM xs = false := decide_eq_false fun h1 => by
 have := h1.2.2 k hk; rw [h] at this; cases this
theorem zP {xs : List (List Int)} (h : xs.length < 1 ∨ 16 < xs.length) : nM xs = false := decide_eq_false fun h1 => by omega
theorem k69 {xs : List (List Int)} {i : Nat} (h1 : iX (List.getD xs i []) (List.getD xs i []).length = true) (h2 : rI (List.take i xs) (List.getD xs i []) = false) : zH xs i = true := by unfold zH; rw [h1, h2]; rfl
theorem k9x {xs : List (List Int)} {i : Nat} (h1 : iX (List.getD xs i []) (List.getD xs i []).length = false) : zH xs i = false := by unfold zH; rw [h1]; rfl
theorem k9w {xs : List (List Int)} {i : Nat} (h2 : rI (List.take i xs) (List.getD xs i []) = true) : zH xs i = false := by unfold zH; rw [h2]; cases iX (List.getD xs i []) (List.getD xs i []).length <;> rfl
def fE (l : List Int) (n : Nat) (lo hi : Int) : Bool := iP l n && decide (1 ≤ n ∧ lo ≤ List.getD l 0 0 ∧ List.getD l ((n - 1) * 2 + 1) 0 ≤ hi)
theorem k9s {l : List Int} {n : Nat} {lo hi : Int} (h : iP l n = true) (h2 : 1 ≤ n ∧ lo ≤ List.getD l 0 0 ∧ List.getD l ((n - 1) * 2 + 1) 0 ≤ hi) : fE l n lo hi = true := by unfold fE; rw [h, decide_eq_true h2]; rfl
theorem u37 {l : List Int} {n : Nat} {lo hi : Int} (h : iP l n = false) : fE l n lo hi = false := by unfold fE; rw [h]; rfl
theorem u38 {l : List Int} {n : Nat} {lo hi : Int} (h2 : ¬ (1 ≤ n ∧ lo ≤ List.getD l 0 0 ∧ List.getD l ((n - 1) * 2 + 1) 0 ≤ hi)) : fE l n lo hi = false := by unfold fE; rw [decide_eq_false h2]; cases iP l n <;> rfl
structure Bx where
 k : Int
 r : List Int
 rn : Nat
 m : List (List Int)
 s : List Int
 sn : Nat
def bx0 : Bx := ⟨0, [], 0, [], [], 0⟩
def bxR (b : Bx) : List D := [D.lit (.int .i64 b.k), D.sl (dI .i64 b.r) b.rn, D.sl (qA b.m) b.m.length, D.sl (dI .i64 b.s) b.sn]
def qH : List Bx → List D
 | [] => []
 | b :: r => bxR b ++ qH r
theorem kQ : ∀ xs : List Bx, List.length (qH xs) = List.length xs * 4
 | [] => rfl
 | b :: r => by show List.length (bxR b ++ qH r) = (List.length r + 1) * 4; rw [List.length_append, kQ r]; show 4 + _ = _; omega
theorem wS : ∀ a b : List Bx, qH (a ++ b) = qH a ++ qH b
 | [], _ => rfl
 | l :: r, b => by show bxR l ++ qH (r ++ b) = bxR l ++ qH r ++ qH b; rw [wS r b, List.append_assoc]
theorem pR : ∀ (i : Nat) (xs : List Bx), List.drop (i * 4) (qH xs) = qH (List.drop i xs)
 | 0, _ => rfl
 | i + 1, [] => by simp [qH]
 | i + 1, l :: r => by
  show List.drop ((i + 1) * 4) (bxR l ++ qH r) = qH (List.drop i r)
  rw [show (i + 1) * 4 = 4 + i * 4 by omega, ← List.drop_drop, ← pR i r]; rfl
def fA (xs : List Bx) (i : Nat) : Bx := List.getD xs i bx0
def cJ (xs : List Bx) (i : Nat) : Int := (fA xs i).k
def dE (xs : List Bx) (i : Nat) : List Int := (fA xs i).r
def v3 (xs : List Bx) (i : Nat) : Nat := (fA xs i).rn
def vI (xs : List Bx) (i : Nat) : List (List Int) := (fA xs i).m
def fS (xs : List Bx) (i : Nat) : List Int := (fA xs i).s
def cI (xs : List Bx) (i : Nat) : Nat := (fA xs i).sn
theorem k5t {xs : List Bx} {i : Nat} (h : i < List.length xs) : qH (List.drop i xs) = bxR (fA xs i) ++ qH (List.drop (i + 1) xs) := by
 have e : fA xs i = xs[i] := by unfold fA; rw [List.getD_eq_getElem?_getD, List.getElem?_eq_getElem h]; rfl
 rw [List.drop_eq_getElem_cons h, e]; rfl
theorem k3a {xs : List Bx} {i : Nat} (h : i < List.length xs) : List.take 4 (List.drop (i * 4) (qH xs)) = [D.lit (.int .i64 (cJ xs i)), D.sl (dI .i64 (dE xs i)) (v3 xs i), D.sl (qA (vI xs i)) (List.length (vI xs i)), D.sl (dI .i64 (fS xs i)) (cI xs i)] := by
 rw [pR, k5t h]; rfl
def BxW (b : Bx) : Prop := List.length b.r = b.rn * 2 ∧ List.length b.s = b.sn * 2 ∧ b.rn ≤ 1000000 ∧ b.sn ≤ 1000000 ∧ List.length b.m ≤ 1000000 ∧ MsW b.m
def BsW (xs : List Bx) : Prop := ∀ b ∈ xs, BxW b
theorem u2c : BxW bx0 := ⟨rfl, rfl, Nat.zero_le _, Nat.zero_le _, Nat.zero_le _, MsW.nil⟩
theorem BsW.get {xs : List Bx} (h : BsW xs) (i : Nat) : BxW (fA xs i) := by
 unfold fA
 rw [List.getD_eq_getElem?_getD]
 cases e : xs[i]? with
 | none => exact u2c
 | some l => exact h l (List.mem_of_getElem? e)
theorem BsW.at {xs : List Bx} (h : BsW xs) (i : Nat) : List.length (dE xs i) = v3 xs i * 2 ∧ List.length (fS xs i) = cI xs i * 2 ∧ v3 xs i ≤ 1000000 ∧ cI xs i ≤ 1000000 ∧ List.length (vI xs i) ≤ 1000000 := by
 have h1 := h.get i
 exact ⟨h1.1, h1.2.1, h1.2.2.1, h1.2.2.2.1, h1.2.2.2.2.1⟩
theorem tA {xs : List Bx} (h : BsW xs) (i : Nat) : MsW (vI xs i) := (h.get i).2.2.2.2.2
theorem BsW.take {xs : List Bx} (h : BsW xs) (n : Nat) : BsW (List.take n xs) := fun m hm => h m (List.mem_of_mem_take hm)
theorem BsW.drop {xs : List Bx} (h : BsW xs) (n : Nat) : BsW (List.drop n xs) := fun m hm => h m (List.mem_of_mem_drop hm)
theorem BsW.app {xs ys : List Bx} (h : BsW xs) (h2 : BsW ys) : BsW (xs ++ ys) := fun m hm => (List.mem_append.1 hm).elim (h m) (h2 m)
theorem BsW.nil : BsW [] := fun l h => by cases h
theorem BsW.one {b : Bx} (h : BxW b) : BsW [b] := fun m hm => by rw [List.mem_singleton.1 hm]; exact h
def iY (k : Int) : Int := qN .andNot .i64 k 254
def odV (k : Int) : Int := qN .and .i64 k 1
def kiB (k : Int) (q : Nat) : Bool := decide (1 ≤ q ∧ q ≤ 7 ∧ odV (k / ((2 ^ q : Nat) : Int)) = 1)
def fB (k : Int) (r : List Int) (rn : Nat) (m : List (List Int)) (s : List Int) (sn : Nat) : Bool := decide (¬ k = 0 ∧ iY k = 0) && (fE r rn 1000 768000 && (nM m && fE s sn 1 65536))
def vbE (xs : List Bx) (i : Nat) : Bool := fB (cJ xs i) (dE xs i) (v3 xs i) (vI xs i) (fS xs i) (cI xs i)
def lM (xs : List Bx) : Bool := decide (xs.length ≤ 64 ∧ ∀ i, i < xs.length → vbE xs i = true)
theorem k9z {xs : List Bx} (h2 : xs.length ≤ 64) (h : ∀ i, i < xs.length → vbE xs i = true) : lM xs = true := decide_eq_true ⟨h2, h⟩
theorem u3j {xs : List Bx} {k : Nat} (hk : k < xs.length) (h : vbE xs k = false) : lM xs = false := decide_eq_false fun h1 => by
 have := h1.2 k hk; rw [h] at this; cases this
theorem k7j {xs : List Bx} (h : 64 < xs.length) : lM xs = false := decide_eq_false fun h1 => by omega
theorem u2a {k : Int} {r : List Int} {rn : Nat} {m : List (List Int)} {s : List Int} {sn : Nat} (h1 : ¬ k = 0 ∧ iY k = 0) (h2 : fE r rn 1000 768000 = true) (h3 : nM m = true) (h4 : fE s sn 1 65536 = true) : fB k r rn m s sn = true := by
 unfold fB; rw [h2, h3, h4, decide_eq_true h1]; rfl
theorem u4f {k : Int} {r : List Int} {rn : Nat} {m : List (List Int)} {s : List Int} {sn : Nat} (h1 : ¬ (¬ k = 0 ∧ iY k = 0)) : fB k r rn m s sn = false := by
 unfold fB; rw [decide_eq_false h1]; rfl
theorem u4d {k : Int} {r : List Int} {rn : Nat} {m : List (List Int)} {s : List Int} {sn : Nat} (h2 : fE r rn 1000 768000 = false) : fB k r rn m s sn = false := by
 unfold fB; rw [h2, Bool.false_and, Bool.and_false]
theorem u4e {k : Int} {r : List Int} {rn : Nat} {m : List (List Int)} {s : List Int} {sn : Nat} (h3 : nM m = false) : fB k r rn m s sn = false := by
 unfold fB; rw [h3, Bool.false_and, Bool.and_false, Bool.and_false]
theorem u4c {k : Int} {r : List Int} {rn : Nat} {m : List (List Int)} {s : List Int} {sn : Nat} (h4 : fE s sn 1 65536 = false) : fB k r rn m s sn = false := by
 unfold fB; rw [h4, Bool.and_false, Bool.and_false, Bool.and_false]
def bxL (xs : List Bx) : List Bx := if lM xs = true then xs else []
theorem u2b {xs : List Bx} (h : lM xs = true) : bxL xs = xs := if_pos h
theorem gB {p : Prop} (h : p := by first | (rw [List.drop_drop]; exact qU _ _ _ (by first | omega | (simp only [kR, kQ, qL, List.length_append, List.length_cons, List.length_nil, List.length_take, List.length_drop, List.length_replicate, List.length_set, List.length_map, List.length_reverse, Nat.mul_one] <;> omega) | rfl)) | (rw [List.drop_drop, Nat.add_comm]; exact qU _ _ _ (by first | omega | (simp only [kR, kQ, qL, List.length_append, List.length_cons, List.length_nil, List.length_take, List.length_drop, List.length_replicate, List.length_set, List.length_map, List.length_reverse, Nat.mul_one] <;> omega) | rfl))) : p := h
theorem gA {p : Prop} (h : p := by first | exact k9s (by assumption) (by omega) | exact u37 (by assumption) | exact u38 (by omega)) : p := h
theorem fC (l : List Int) (n : Nat) (lo hi : Int) (hl : List.length l = n * 2) (hb : n ≤ 1000000) : Fun 65 [.agg [.d (D.sl (dI .i64 l) n)], iE lo, iE hi] (kG []) 0 (kP (D.lit (.bool (fE l n lo hi)))) (kG []) 0 := by
 refine Fun.mk (n := 37) Try.func65 rfl rfl (Nat.le_of_ble_eq_true rfl) ?_
 intro cx hcx
 refine kK [.no, .no] True [(1, iV lo), (2, iV hi), (3, rV 0 0)] [(0, some (75, .ds [dl l n]))] 1 trivial ?_
 refine kX [.no, .no, .no, .w, .no] (qM ((n : Int) - 1)) [(1, iV lo), (2, iV hi), (3, rV 0 0), (7, iV (↑n - 1))] ⟨by omega, by omega⟩ ?_
 by_cases hx1 : ((0 : Int) ≤ (((n : Nat) : Int) - 1))
 ·rcases Bool.eq_false_or_eq_true (iP l n) with hx2 | hx2
  ·by_cases hx3 : (lo ≤ (List.getD l 0 0))
   ·by_cases hx4 : ((List.getD l (((n - 1) * 2) + 1) 0) ≤ hi)
    ·refine kK (.no :: .b true :: .no :: .no :: .call [] (bV true) [] 0 [] none :: kU 4 (.n 0 :: .no :: .d (D.lit (.int .i64 (List.getD l 0 0))) :: .no :: .b true :: kU 5 [.n (n - 1), .no, .d (D.lit (.int .i64 (List.getD l (((n - 1) * 2) + 1) 0))), .no, .b true, .no, .no])) ((((0 : Int) ≤ ((n : Int) - 1))) ∧ (Fun 73 [.agg [.d (dl l n)]] (kG []) 0 (bV true) (kG []) 0) ∧ (kN 0) ∧ ((0 : Nat) < n) ∧ ((List.drop 0 (List.drop 0 (dI .i64 l)))[0]? = some (D.lit (.int .i64 (List.getD l 0 0)))) ∧ ((lo ≤ (List.getD l 0 0))) ∧ ((((n : Int) - 1) : Int) = (((n - 1) : Nat) : Int)) ∧ ((n - 1) < n) ∧ ((List.drop 1 (List.drop ((n - 1) * 2) (dI .i64 l)))[0]? = some (D.lit (.int .i64 (List.getD l (((n - 1) * 2) + 1) 0)))) ∧ (((List.getD l (((n - 1) * 2) + 1) 0) ≤ hi))) [(6, bV true)] [] 1 ⟨zo, (by have h0 := (f4 l n zo zo); rw [hx2] at h0; exact h0), rfl, zo, gB, zo, (by first | rfl | omega), zo, gB, zo⟩ ?_
     refine AW.ret ?_
     exact kC (.inr rfl) [] (P := ((fE l n lo hi) = true)) zk gA
    ·refine kK (.no :: .b true :: .no :: .no :: .call [] (bV true) [] 0 [] none :: kU 4 (.n 0 :: .no :: .d (D.lit (.int .i64 (List.getD l 0 0))) :: .no :: .b true :: kU 5 [.n (n - 1), .no, .d (D.lit (.int .i64 (List.getD l (((n - 1) * 2) + 1) 0))), .no, .b false, .no, .no])) ((((0 : Int) ≤ ((n : Int) - 1))) ∧ (Fun 73 [.agg [.d (dl l n)]] (kG []) 0 (bV true) (kG []) 0) ∧ (kN 0) ∧ ((0 : Nat) < n) ∧ ((List.drop 0 (List.drop 0 (dI .i64 l)))[0]? = some (D.lit (.int .i64 (List.getD l 0 0)))) ∧ ((lo ≤ (List.getD l 0 0))) ∧ ((((n : Int) - 1) : Int) = (((n - 1) : Nat) : Int)) ∧ ((n - 1) < n) ∧ ((List.drop 1 (List.drop ((n - 1) * 2) (dI .i64 l)))[0]? = some (D.lit (.int .i64 (List.getD l (((n - 1) * 2) + 1) 0)))) ∧ (¬ ((List.getD l (((n - 1) * 2) + 1) 0) ≤ hi))) [(6, bV false)] [] 1 ⟨zo, (by have h0 := (f4 l n zo zo); rw [hx2] at h0; exact h0), rfl, zo, gB, zo, (by first | rfl | omega), zo, gB, zo⟩ ?_
     refine AW.ret ?_
     exact kC (.inr rfl) [] (P := ((fE l n lo hi) = false)) zk gA
   ·refine kK (.no :: .b true :: .no :: .no :: .call [] (bV true) [] 0 [] none :: kU 4 (.n 0 :: .no :: .d (D.lit (.int .i64 (List.getD l 0 0))) :: .no :: .b false :: kU 4 [])) ((((0 : Int) ≤ ((n : Int) - 1))) ∧ (Fun 73 [.agg [.d (dl l n)]] (kG []) 0 (bV true) (kG []) 0) ∧ (kN 0) ∧ ((0 : Nat) < n) ∧ ((List.drop 0 (List.drop 0 (dI .i64 l)))[0]? = some (D.lit (.int .i64 (List.getD l 0 0)))) ∧ (¬ (lo ≤ (List.getD l 0 0)))) [(6, bV false)] [] 1 ⟨zo, (by have h0 := (f4 l n zo zo); rw [hx2] at h0; exact h0), rfl, zo, gB, zo⟩ ?_
    refine AW.ret ?_
    exact kC (.inr rfl) [] (P := ((fE l n lo hi) = false)) zk gA
  ·refine kK (.no :: .b true :: .no :: .no :: .call [] (bV false) [] 0 [] none :: kU 6 []) ((((0 : Int) ≤ ((n : Int) - 1))) ∧ (Fun 73 [.agg [.d (dl l n)]] (kG []) 0 (bV false) (kG []) 0)) [(6, bV false)] [] 1 ⟨zo, (by have h0 := (f4 l n zo zo); rw [hx2] at h0; exact h0)⟩ ?_
   refine AW.ret ?_
   exact kC (.inr rfl) [] (P := ((fE l n lo hi) = false)) zk gA
 ·refine kK (.no :: .b false :: kU 7 []) (¬ ((0 : Int) ≤ ((n : Int) - 1))) [(6, bV false)] [] 1 zo ?_
  refine AW.ret ?_
  exact kC (.inr rfl) [] (P := ((fE l n lo hi) = false)) zk gA
end Go.Proofs.Ytalbpleglapihaa
